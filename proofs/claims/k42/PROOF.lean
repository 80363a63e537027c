import PyProof.Rows.All
import Wide.All
import OpenK.AllK
import Wide.FinOn
import HandS.HeadHook2
import HandS.ExcField
import HandS.HeadHook3
import HandS.HeadHook4
import HandS.SortOrd
import HandS.ForMost
import HandS.ForExc
import HandS.ExcInit
import HandS.Conv
import HandS.More
import PyProof.StrWalks
import HandS.AnyAll
import HandS.GenOver
import HandS.IsInst
import HandS.Strs
import KE.KStateDown
import Wide.Once
import HandS.Head0
import HandS.Head1
import HandS.Head2
import HandS.Head3
import HandS.HeadEnd
import HandS.HeadWalk
import KE.GoesEnum
import HandS.Iter
import HandS.Walk
import KE.KDictKeyed
import HandS.Dict
import PyProof.Rows.SortKeyStr
import HandS.DictComp
import KE.LtSeq
import HandS.Lambda
import HandS.SortKw
import KE.KMinKey
import HandS.TupAny
import HandS.RevRange
import HandS.Deep
import KE.DataMinMax
import KE.SortData
import HandS.SetFor
import HandS.ExcIs
import HandS.Small
import KE.KExcIs
import HandS.Codes
import HandS.StrMore
import KE.IntTextLaws
import HandS.RaiseMore
import HandS.Style
import KE.KDictDisplayH
import PyProof.NeKinds
import KE.KIntText
import HandS.Rev
import KE.KDflt
import HandS.TryOnly
import KE.KSortKey
import KE.SortKeyHeap
import HandS.RepeatKit
import HandS.Star
import PyProof.StrOps2
import PyProof.Rows.StrMeet
import PySem.Challenge.RW_flagclause_k42_shortest_quoting
/-! ## HD -/
set_option Elab.async false
set_option linter.all false
set_option maxRecDepth 100000
set_option maxHeartbeats 4000000
/-! what the head asks: defs only, so that the head's check can stand first -/
namespace FL
open PySem L2
def top (i : Nat) : Stmt := PySem.Challenge.pw_flagclause_k42_shortest_quoting.main.body.getD i (.Pass ⟨0, 0, 0, 0⟩)
def rtAt (K : PySem.W.Frag) (z : Str) : Addr := match PySem.W.nsIn K (He.ga K "REQUIRED_TRUTHS") z with
  | some (some (.ref a)) => a
  | _ => 0
def tupA (K : PySem.W.Frag) (a : Addr) (vs : List V) : Bool := match K.lookup a with
  | some ⟨.type c, _, .seq its _, _⟩ => decide (c = "tuple") && (decide (its.size ≤ sizeLine) && He.relAll vs its.toList)
  | _ => false
def rtOne (K : PySem.W.Frag) (z : Str) (a b : Bool) : Bool := He.eqO (PySem.W.nsIn K (He.ga K "REQUIRED_TRUTHS") z) (some (some (.ref (rtAt K z)))) && tupA K (rtAt K z) [.bl a, .bl b]
def rtB (K : PySem.W.Frag) : Bool := rtOne K "needs" false true && (rtOne K "excludes" false false && rtOne K "either" true true)
def clsBody : Stmt → List Stmt
  | .ClassDef _ _ _ body _ _ _ _ _ _ _ => body
  | _ => []
def meth (i j : Nat) : Stmt := (clsBody (top i)).getD j (.Pass ⟨0, 0, 0, 0⟩)
def excCB (K : PySem.W.Frag) (D : Addr) : Bool := decide (PySem.W.findIn K (.ref D) "__getattribute__" = some (some (.builtin "BaseException.__getattribute__"))) && (decide (PySem.W.findIn K (.ref D) "__getattr__" = some none) && (decide (PySem.W.subIn K (.ref D) (.type "BaseException") = some true) &&
  (PySem.W.hasDictIn K D && (decide (PySem.W.findIn K (.ref D) "__class__" = some (some (.builtin "object.__class__"))) && (decide (PySem.W.specialIn K (.builtin "object.__class__") "__get__" = some (some (.builtin "getset_descriptor.__get__"))) &&
  (decide (PySem.W.takesIn K (.builtin "object.__class__") = some true) && decide (PySem.W.mroIn K D (.type "object") = some true)))))))
def isVeN (o : Option Value) : Bool := match o with
  | some (.builtin n) => decide (n = "ValueError.__new__")
  | _ => false
def clsOB (K : PySem.W.Frag) (C : Addr) : Bool := match K.lookup C with
  | some ⟨.type t, _, .cls cd, sl⟩ => decide (t = "type") && (cd.hasDict && (!cd.hasDel && ((match cd.mro with
    | .ref c :: bm => decide (c = C) && PySem.HandSPX.refsVE bm
    | _ => false) && (match sl.toList with
    | [_, _, _, _, n, _] => isVeN n
    | _ => false))))
  | _ => false
def erNB (K : PySem.W.Frag) (x : Str) : Bool := He.eqO (PySem.W.nsIn K mainGlobals x) (some (some (.ref (He.ga K x)))) && ((He.Fa.exc x).ok K && excCB K (He.ga K x))
def erIB (K : PySem.W.Frag) (x : Str) (fs : List Str) : Bool := He.eqO (PySem.W.nsIn K mainGlobals x) (some (some (.ref (He.ga K x)))) && (clsOB K (He.ga K x) && (decide (PySem.W.findIn K (.ref (He.ga K x)) "__setattr__" = some (some (.builtin "object.__setattr__"))) &&
  (decide (PySem.W.subIn K (.ref (He.ga K x)) (.type "BaseException") = some true) && (decide (PySem.W.typeIn K (.ref (He.ga K x)) = some (.type "type")) && (PySem.W.keepIn K (.ref (He.ga K x)) && (excCB K (He.ga K x) && (xfB K (He.ga K x) &&
  ((fs.all fun f => He.eqO (PySem.W.findIn K (.ref (He.ga K x)) f) (some none)) && (He.eqO (PySem.W.findIn K (.ref (He.ga K x)) "__init__") (some (some (.ref (He.fAd K (x, some "__init__"))))) && decide (PySem.W.typeIn K (.ref (He.fAd K (x, some "__init__"))) = some (.type "function")))))))))))
def errN : List Str := ["InvalidGrammar", "UnknownOption", "InvalidClause", "InvalidChain", "Unsatisfiable", "Conflict", "DifferentOptions"]
def errC (K : PySem.W.Frag) (i : Nat) : Addr := He.ga K (errN.getD i "")
def errF (K : PySem.W.Frag) (i : Nat) : Addr := He.fAd K (errN.getD i "", some "__init__")
def errsB (K : PySem.W.Frag) : Bool :=
  erIB K "InvalidGrammar" ["part", "index"] && (erIB K "UnknownOption" ["name"] && (erNB K "InvalidClause" && (erIB K "InvalidChain" ["index"] && (erNB K "Unsatisfiable" && (erIB K "Conflict" ["chain"] && (erNB K "DifferentOptions" &&
  (He.eqO (PySem.W.nsIn K mainGlobals "FlagclauseError") (some (some (.ref (He.ga K "FlagclauseError")))) && (((List.range 7).all fun i => (List.range 7).all fun j => decide (PySem.W.kitOne K (.ref (errC K i)) (.ref (errC K j)) = some (decide (i = j)))) &&
  (((List.range 7).all fun i => decide (PySem.W.kitOne K (.ref (errC K i)) (.type "ValueError") = some true)) && ((List.range 7).all fun i => decide (PySem.W.exmOne K (.ref (errC K i)) (.ref (He.ga K "FlagclauseError")) = some true)))))))))))
def rseN : List Str := ["Conflict", "Unsatisfiable", "ParseError", "UnmetClause", "InvalidOperation", "LineError"]
def rseC (K : PySem.W.Frag) (i : Nat) : Addr := He.ga K (rseN.getD i "")
def rseB (K : PySem.W.Frag) : Bool :=
  erIB K "Conflict" ["chain"] && (erNB K "Unsatisfiable" && (erIB K "ParseError" ["index", "reason"] &&
  (He.eqO (PySem.W.nsIn K mainGlobals "FlagclauseError") (some (some (.ref (He.ga K "FlagclauseError")))) && (((List.range 6).all fun i => He.eqO (PySem.W.nsIn K mainGlobals (rseN.getD i "")) (some (some (.ref (rseC K i)))) && excCB K (rseC K i)) &&
  (((List.range 6).all fun i => (List.range 6).all fun j => decide (PySem.W.kitOne K (.ref (rseC K i)) (.ref (rseC K j)) = some (decide (i = j)))) &&
  (((List.range 6).all fun i => decide (PySem.W.kitOne K (.ref (rseC K i)) (.type "ValueError") = some true)) && ((List.range 6).all fun i => decide (PySem.W.exmOne K (.ref (rseC K i)) (.ref (He.ga K "FlagclauseError")) = some true))))))))
def rswN : List Str := ["LineError", "InvalidToken", "UnmetClause", "InvalidLayer", "InvalidOperation", "ParseError", "NotationError", "DecodeError", "InvalidArguments", "InvalidGrammar", "InvalidValue", "InvalidName", "UnknownCheckpoint", "InvalidCount", "Conflict", "Unsatisfiable"]
def rswC (K : PySem.W.Frag) (i : Nat) : Addr := He.ga K (rswN.getD i "")
def rswF (i : Nat) : List Str := ([["index"], ["index"], ["index"], ["index"], ["index"], ["index", "reason"], ["row", "column"], ["offset"], ["name"], ["part", "index"]] : List (List Str)).getD i []
def rswB (K : PySem.W.Frag) : Bool :=
  He.eqO (PySem.W.nsIn K mainGlobals "FlagclauseError") (some (some (.ref (He.ga K "FlagclauseError")))) && (((List.range 16).all fun i => He.eqO (PySem.W.nsIn K mainGlobals (rswN.getD i "")) (some (some (.ref (rswC K i)))) && (excCB K (rswC K i) && (xfB K (rswC K i) && (rswF i).all fun f => He.eqO (PySem.W.findIn K (.ref (rswC K i)) f) (some none)))) &&
  (((List.range 16).all fun i => (List.range 16).all fun j => decide (PySem.W.kitOne K (.ref (rswC K i)) (.ref (rswC K j)) = some (decide (i = j)))) &&
  (((List.range 16).all fun i => decide (PySem.W.kitOne K (.ref (rswC K i)) (.type "ValueError") = some true)) && ((List.range 16).all fun i => decide (PySem.W.exmOne K (.ref (rswC K i)) (.ref (He.ga K "FlagclauseError")) = some true)))))
end FL
/-! ## L0 -/
set_option Elab.async false
set_option linter.all false
set_option maxRecDepth 100000
set_option maxHeartbeats 4000000
namespace FL
open PySem L2
/-! ### defs as they stand, and what they promise -/
/-- the def x of the top: where it stands, how it binds -/
def Dn (K : PySem.W.Frag) (mg : Str → Option Value) (x : Str) (st : Stmt) (ps : List Str) : Prop :=
  ∃ f fd, Fun K x x st f fd ∧ mg x = some (.ref f) ∧ Binds K fd ps []
/-- the def x keeps sp, and how it is called -/
def Ok (P : Program) (w : World) (K : PySem.W.Frag) (mg : Str → Option Value) (base : Heap) (CX : CXT) (k : Nat) (x : Str) (ps : List Str) (sp : Sp) : Prop :=
  ∃ f fd, FnOk P w K mg base CX k f fd ps sp ∧ mg x = some (.ref f) ∧ PySem.W.keepIn K (.ref f) = true ∧ Binds K fd ps []
section
variable {P : Program} {w : World} {K : PySem.W.Frag} {mg : Str → Option Value} {base : Heap}
theorem Dn.ok {x : Str} {st : Stmt} {N ps : List Str} {k : Nat} {sp : Sp} (D : Dn K mg x st ps) (S : FnScope N ps (defScope st)) (len : ∀ vs H Q E, sp vs H Q E → vs.length = ps.length)
    (hbody : ∀ (f : Addr) (cdv : Value) (A : Around) (outer : List Env) (s : Shared) (H : Hp) (vs : List V) (Q : VK) (E : XK), Room k (A.deeper (PyProof.Rows.envOfC x (defScope st) s.heap.objs.size f cdv)) → sp vs H Q E →
      ∃ t, PSs (cxOf CX0 P w K mg base N x (defScope st) f cdv A outer s H E).nox (defBody st) t ∧ t { nx := fun _ H' => Q .non H', rt := Q } (start N vs) H) : Ok P w K mg base CX0 (k + 1) x ps sp := by
  obtain ⟨f, fd, F, g, b⟩ := D
  exact ⟨f, fd, F.ok S len (hbody f), g, F.kp, b⟩
theorem Dn.okX {x : Str} {st : Stmt} {N ps : List Str} {k : Nat} {sp : Sp} (D : Dn K mg x st ps) (S : FnScope N ps (defScope st)) (len : ∀ vs H Q E, sp vs H Q E → vs.length = ps.length)
    (hbody : ∀ (f : Addr) (cdv : Value) (A : Around) (outer : List Env) (s : Shared) (H : Hp) (vs : List V) (Q : VK) (E : XK), Room k (A.deeper (PyProof.Rows.envOfC x (defScope st) s.heap.objs.size f cdv)) → sp vs H Q E →
      ∃ t, PSs (cxOf (L2.CX P w) P w K mg base N x (defScope st) f cdv A outer s H E) (defBody st) t ∧ t { nx := fun _ H' => Q .non H', rt := Q } (start N vs) H) : Ok P w K mg base (L2.CX P w) (k + 1) x ps sp := by
  obtain ⟨f, fd, F, g, b⟩ := D
  exact ⟨f, fd, F.okX S len (hbody f), g, F.kp, b⟩
end
/-! ### what stands -/
/-- every tuple that was to be read is to be read -/
def TS (K : PySem.W.Frag) (H H' : Hp) : Prop := ∀ a xs, SqT K H a xs → SqT K H' a xs
theorem TS.refl (K : PySem.W.Frag) (H : Hp) : TS K H H := fun _ _ h => h
theorem TS.trans {K : PySem.W.Frag} {H H1 H2 : Hp} (a : TS K H H1) (b : TS K H1 H2) : TS K H H2 := fun c x h => b c x (a c x h)
/-- what is no tuple and not locked -/
def Loose (H : Hp) (p : Addr) : Prop := ∀ u, H p = some u → (∀ xs, u ≠ .tup xs) ∧ ∀ o v, u ≠ .frz o v
theorem Loose.free {H : Hp} {p : Addr} (h : H p = none) : Loose H p := fun u e => by rw [h] at e; cases e
theorem Loose.lst {H : Hp} {p : Addr} {xs : List V} (h : H p = some (.lst xs)) : Loose H p := fun u e => by
  rw [h] at e
  cases e
  exact ⟨fun _ z => (by cases z), fun _ _ z => (by cases z)⟩
theorem TS.upd {K : PySem.W.Frag} {H : Hp} {p : Addr} {o : HO} (h : Loose H p) : TS K H (upd H p o) := fun a xs q => by
  rcases q with q | q
  · have n : a ≠ p := fun e => by
      subst e
      rcases q with q | ⟨o', q⟩
      · exact (h _ q).1 _ rfl
      · exact (h _ q).2 _ _ rfl
    refine .inl ?_
    rcases q with q | ⟨o', q⟩
    · exact .inl (by rw [upd_ne n]; exact q)
    · exact .inr ⟨o', by rw [upd_ne n]; exact q⟩
  · exact .inr q
theorem TS.same {K : PySem.W.Frag} {H H' : Hp} (h : Same H H') : TS K H H' := fun a xs q => by
  rcases q with (q | ⟨o, q⟩) | q
  · exact .inl (.inl (h _ _ q))
  · exact .inl (.inr ⟨o, h _ _ q⟩)
  · exact .inr q
theorem TS.new {K : PySem.W.Frag} {H : Hp} {p : Addr} {o : HO} (h : H p = none) : TS K H (L2.upd H p o) := TS.upd (Loose.free h)
theorem TS.put {K : PySem.W.Frag} {H : Hp} {p : Addr} {o : HO} {xs : List V} (h : H p = some (.lst xs)) : TS K H (L2.upd H p o) := TS.upd (Loose.lst h)
/-- data of tuples alone -/
inductive Dt (K : PySem.W.Frag) (H : Hp) : V → PyData → Prop
  | non : Dt K H .non .none
  | bl (b : Bool) : Dt K H (.bl b) (.bool b)
  | int (i : Int) : Dt K H (.int i) (.int i)
  | str (x : Str) : Dt K H (.str x) (.str x)
  | tup {a : Addr} {xs : List V} {ds : List PyData} : SqT K H a xs → Paired (Dt K H) xs ds → Dt K H (.ref a) (.tuple ds)
theorem Dt.mono {K : PySem.W.Frag} {H H' : Hp} (h : TS K H H') : ∀ {d : PyData} {v : V}, Dt K H v d → Dt K H' v d
  | _, _, .non => .non
  | _, _, .bl b => .bl b
  | _, _, .int i => .int i
  | _, _, .str x => .str x
  | _, _, .tup s p => .tup (h _ _ s) (go p)
where go : ∀ {ds : List PyData} {vs : List V}, Paired (Dt K H) vs ds → Paired (Dt K H') vs ds
  | _, _, .nil => .nil
  | _, _, .cons a b => .cons (a.mono h) (go b)
abbrev Dts (K : PySem.W.Frag) (H : Hp) : List V → List PyData → Prop := Paired (Dt K H)
theorem Dts.mono {K : PySem.W.Frag} {H H' : Hp} (h : TS K H H') {ds : List PyData} {vs : List V} (p : Dts K H vs ds) : Dts K H' vs ds := Dt.mono.go h p
/-- all but what stands at d -/
def SameD (d : Addr) (H H' : Hp) : Prop := ∀ b o, b ≠ d → H b = some o → H' b = some o
theorem SameD.refl (d : Addr) (H : Hp) : SameD d H H := fun _ _ _ h => h
theorem SameD.trans {d : Addr} {H H1 H2 : Hp} (a : SameD d H H1) (b : SameD d H1 H2) : SameD d H H2 := fun c o n h => b c o n (a c o n h)
theorem SameD.of {d : Addr} {H H' : Hp} (a : Same H H') : SameD d H H' := fun c o _ h => a c o h
theorem sameD_upd {d : Addr} {H : Hp} {o : HO} : SameD d H (upd H d o) := fun b o hb e => by rw [upd_ne hb]; exact e
theorem SameD.ts {K : PySem.W.Frag} {d : Addr} {H H' : Hp} (e : SameD d H H') (l : Loose H d) : TS K H H' := fun a xs q => by
  rcases q with q | q
  · have n : a ≠ d := fun z => by
      subst z
      rcases q with q | ⟨o', q⟩
      · exact (l _ q).1 _ rfl
      · exact (l _ q).2 _ _ rfl
    refine .inl ?_
    rcases q with q | ⟨o', q⟩
    · exact .inl (e _ _ n q)
    · exact .inr ⟨o', e _ _ n q⟩
  · exact .inr q
theorem Same.new {H : Hp} {p : Addr} {o : HO} (h : H p = none) : Same H (upd H p o) := fun b u e => by rw [upd_ne (ne_of_none e h)]; exact e
theorem SameD.new {d : Addr} {H : Hp} {p : Addr} {o : HO} (h : H p = none) : SameD d H (upd H p o) := SameD.of (Same.new h)
theorem SameD.free {d : Addr} {H H' : Hp} (e : SameD d H H') {p : Addr} (n : p ≠ d) (h : H' p = none) : H p = none := by
  cases q : H p with
  | none => rfl
  | some o => rw [e p o n q] at h; cases h
theorem getV {α : Type} {f : α → V} {ns : List α} {i : Nat} {y : V} (hi : (ns.map f)[i]? = some y) : ∃ z, ns[i]? = some z ∧ y = f z ∧ i < ns.length := by
  have hil := (List.getElem?_eq_some_iff.mp hi).1
  rw [List.length_map] at hil
  rw [List.getElem?_map, List.getElem?_eq_getElem hil] at hi
  exact ⟨_, List.getElem?_eq_getElem hil, (Option.some.inj hi).symm, hil⟩
theorem SqT.new {K : PySem.W.Frag} {H : Hp} {p : Addr} {xs : List V} : SqT K (upd H p (.tup xs)) p xs := SqT.of upd_same
/-! ### the rules that read the written part, with that part by name (within a comprehension) -/
section
variable {X : Cx} {K : PySem.W.Frag} {o e : Expr} {es : List Expr} {to : TE} {t : TA} {name : Str} {apos cpos : Pos} {U id : String} {r : V → List V → Hp → VK → Prop}
theorem pe_bm0K (eK : X.K = K) (pa : PlainAttrs U) (slot : Slot U name id) (hty : typeOf (.builtin id) = pure (.type "method_descriptor")) (hm : MtR X id r) (ho : PE X o to)
    (hbase : attributeBase o name X.env (eval o X.env) = eval o X.env := by rfl) (hline : (apos.endLine == cpos.line) = true := by rfl) : PE X (.Call (.Attribute o name apos) [] [] cpos) (tBM0 K U r to) := by
  subst eK
  exact pe_bm0 pa slot hty hm ho hbase hline
theorem pe_bmK (eK : X.K = K) (pa : PlainAttrs U) (slot : Slot U name id) (hty : typeOf (.builtin id) = pure (.type "method_descriptor")) (hm : MtR X id r) (ho : PE X o to) (ha : PA X (e :: es) t)
    (hbase : attributeBase o name X.env (eval o X.env) = eval o X.env := by rfl)
    (hfew : ((backTo cpos (starEach (e :: es) X.env)).all (fun x => !x.1) && (backToKw cpos (keywordEach [] X.env)).all (fun x => x.1.isSome)
      && decide ((e :: es).length + ([] : List Keyword).length + (if ([] : List Keyword).isEmpty then 0 else 1) < 30)) = true := by rfl)
    (hline : (apos.endLine == cpos.line) = true := by rfl) (hs : starEach (e :: es) X.env = (false, eval e X.env) :: starEach es X.env := by rfl) (hplain : (backTo cpos (starEach es X.env)).any (·.1) = false := by rfl) :
    PE X (.Call (.Attribute o name apos) (e :: es) [] cpos) (tBM K U r to t) := by
  subst eK
  exact pe_bm pa slot hty hm ho ha hbase hfew hline hs hplain
theorem ix_listK (eK : X.K = K) : IxR X (rIxL K) := by
  subst eK
  exact ix_list
theorem ix_tupK (eK : X.K = K) : IxR X (rIxT K) := by
  subst eK
  exact ix_tup
def rLenQ (K : PySem.W.Frag) : List V → Hp → VK → Prop := fun xs H Q => ∃ p ys, xs = [.ref p] ∧ (SqL K H p ys ∨ SqT K H p ys) ∧ Q (.int ys.length) H
theorem call_lenK (eK : X.K = K) : CallR X (.builtin "len") (rLenQ K) := by
  subst eK
  exact call_len_seq
end
end FL
/-! ## L1 -/
set_option Elab.async false
set_option linter.all false
set_option maxRecDepth 100000
set_option maxHeartbeats 4000000
/-! list(text): a new list of its signs, each a text of its own -/
namespace FL
open PySem L2 PySem.Spec PyProof.Rows
section
variable {prog : Program} {w : World} {A : Around} {E : Value → Shared → Prop} {s : Shared}
theorem hintStr {x : Str} {t : Tok} {Q : Bool → Shared → Prop} (h : Q false s) : wpAny (model prog w) A (Builtin.List.listLengthHint (.str x t)) Q E s := by
  have ty : s.TypeIs (.str x t) "str" := rfl
  unfold Builtin.List.listLengthHint
  refine wpAny_bind (wpAny_specialOf ty PySem.F.slot_str_len.lookup ?_)
  generalize nm : ("str.__len__" : String) = n0
  wp_delta
  rw [show splitId n0 = some ("str", "__len__") from by subst nm; decide +kernel]
  subst nm
  refine wpAny_bind (wpAny_isInstance (T := "str") (b := true) ty (by rw [isSubtype_type]; kernel_rfl) ?_)
  refine wpAny_ite_split (fun z => absurd z (by decide)) (fun _ => ?_)
  refine wpAny_ite_split (fun _ => ?_) (fun z => absurd (by decide +kernel) z)
  exact wpAny_bind (wpAny_typeOf ty (wpAny_pure h))
abbrev LstO (acc : Array Value) (c : Nat) : Obj := { cls := .type "list", dict := none, data := .seq acc c, slots := #[] }
theorem extStr {R : Result → Shared → Prop} (hh : A.handled = none) (x : Str) (t : Tok) (S : Addr) (res : Value) (c0 : Nat) (hS : s.heap.get? S = some (LstO #[] c0)) (hn : x.cps.size ≤ sizeLine)
    (hR : ∀ h' tk acc c, (∀ b o, b ≠ S → s.heap.get? b = some o → h'.get? b = some o) → h'.get? S = some (LstO acc c) → ItemsOf (SignAt x) acc x.cps.size → R (.ok (.ret res)) { s with heap := h', toks := tk }) :
    wpAny (model prog w) A.in1 (Builtin.List.listExtendWith (.ref S) (.str x t) res)
      (fun fin s' => match fin with | .done f => R (.ok f) s' | .again c' => c'.quiet = true ∧ codeAny (model prog w) A c' R s') (fun e s' => R (.error e) s') s := by
  have nSI : S ≠ s.heap.objs.size := Nat.ne_of_lt (Heap.lt_size hS)
  have nS : S ∉ [s.heap.objs.size] := fun z => nSI (List.mem_singleton.mp z)
  unfold Builtin.List.listExtendWith
  refine wpAny_bind (wpAny_typeOf (T := "str") (v := .str x t) rfl ?_)
  have e1 : Builtin.List.listSameRef (.ref S) (.str x t) = false := rfl
  have e2 : (Value.type "str" == Value.type "list") = false := by decide
  have e3 : (Value.type "str" == Value.type "tuple") = false := by decide
  simp only [e1, e2, e3, Bool.or_false, Bool.false_eq_true, if_false]
  refine wpAny_bind (wpAny_pyIter_str fun o St W st => ?_)
  refine wpAny_bind (wpAny_holding (hintStr ?_))
  rw [if_neg (by first | decide | decide +kernel)]
  refine wpAny_pure ⟨plainId_quiet PySem.F.plain_extend_loop _, codeAny_extend_loopS (W A.in1 hh).toS hn _ nS _ x.cps.size 0 _ _ _ rfl (Nat.zero_le _) st (Heap.get?_push_of_some _ hS) (ItemsOf.nil _) fun s' acc c hm hS' ha => ?_⟩
  rw [Moved.eq_with hm]
  refine hR s'.heap s'.toks acc c (fun b u hb e => hm.heap b u (fun z => ?_) (Heap.get?_push_of_some _ e)) hS' ha
  rcases List.mem_cons.mp z with z | z
  · exact hb z
  · exact absurd (Heap.lt_size e) (by rw [List.mem_singleton.mp z]; exact Nat.lt_irrefl _)
theorem initStr {R : Result → Shared → Prop} (hh : A.handled = none) (x : Str) (t : Tok) (S : Addr) (hS : s.heap.get? S = some (LstO #[] 0)) (hn : x.cps.size ≤ sizeLine)
    (hR : ∀ h' tk acc c, (∀ b o, b ≠ S → s.heap.get? b = some o → h'.get? b = some o) → h'.get? S = some (LstO acc c) → ItemsOf (SignAt x) acc x.cps.size → R (.ok (.ret .none)) { s with heap := h', toks := tk }) :
    wpAny (model prog w) A.in1 (Builtin.«list.__init__» ⟨[.ref S, .str x t], []⟩)
      (fun fin s' => match fin with | .done f => R (.ok f) s' | .again c' => c'.quiet = true ∧ codeAny (model prog w) A c' R s') (fun e s' => R (.error e) s') s := by
  show wpAny _ _ (do let was ← Builtin.List.listItems (.ref S); Builtin.List.listUpdate (.ref S) (fun _ => #[]); letGo was.toList.reverse; Builtin.List.listExtendWith (.ref S) (.str x t) .none) _ _ s
  refine wpAny_bind ?_
  unfold Builtin.List.listItems
  refine wpAny_bind (wpAny_seqItems hS rfl (wpAny_pure ?_))
  show wpAny _ _ (updateSeq S (fun _ => #[]) >>= fun _ => letGo (#[] : Array Value).toList.reverse >>= fun _ => Builtin.List.listExtendWith (.ref S) (.str x t) .none) _ _ s
  refine wpAny_bind (wpAny_updateSeq hS rfl ?_)
  have h2 := Heap.get?_update_self (Obj.mapSeq (fun _ => (#[] : Array Value))) hS rfl
  have keep : ∀ b o, b ≠ S → s.heap.get? b = some o → (s.heap.update S (Obj.mapSeq (fun _ => (#[] : Array Value)))).get? b = some o :=
    fun b o n e => (Heap.get?_update_other _ _ (Ne.symm n)).trans e
  refine wpAny_bind (wpAny_letGo ?_)
  exact extStr hh x t S .none _ h2 hn fun h' tk acc c k' e ha => hR h' tk acc c (fun b o n z => k' b o n (keep b o n z)) e ha
theorem listStr {x : Str} {t : Tok} {Q : Value → Shared → Prop} (hh : A.handled = none) (hn : x.cps.size ≤ sizeLine)
    (hQ : ∀ h' tk acc c, (∀ b o, s.heap.get? b = some o → h'.get? b = some o) → h'.get? s.heap.objs.size = some (LstO acc c) → ItemsOf (SignAt x) acc x.cps.size → Q (.ref s.heap.objs.size) { s with heap := h', toks := tk }) :
    wpAny (model prog w) A (call (.type "list") [.str x t]) Q E s := by
  refine callType_codes (Q₁ := fun obj s1 => obj = .ref s.heap.objs.size ∧ s1 = { s with heap := s.heap.push (LstO #[] 0) }) PySem.F.called_list (PySem.F.typeCall_list_1 _) PySem.F.entry_list_init
    (code_list_new _ ⟨rfl, rfl⟩) fun obj s1 z => ?_
  obtain ⟨rfl, rfl⟩ := z
  have hS : (s.heap.push (LstO #[] 0)).get? s.heap.objs.size = some (LstO #[] 0) := Heap.get?_push_size _ rfl
  refine ⟨⟨_, hS, rfl⟩, PySem.F.args_list_init_2 _ _, initStr (A := A.in1) hh x t _ hS hn fun h' tk acc c k e ha => ?_⟩
  exact ⟨rfl, hQ h' tk acc c (fun b o z => k b o (Nat.ne_of_lt (Heap.lt_size z)) (Heap.get?_push_of_some _ z)) e ha⟩
end
/-- the signs of a text, each a text -/
def signs (z : Str) : List Str := z.cps.toList.map fun c => ⟨#[c]⟩
theorem call_listStr {X : Cx} (hc : X.calm = true) : CallR X (.type "list") (fun xs H Q => ∃ z, xs = [.str z] ∧ z.length ≤ sizeLine ∧ ∀ p, H p = none → Q (.ref p) (upd H p (.lst ((signs z).map V.str)))) := by
  intro pins s σ H xs us Q I r h
  obtain ⟨z, rfl, hz, q⟩ := h
  obtain ⟨u, rfl, ru⟩ := vals1 r
  obtain ⟨t, rfl⟩ := ru
  refine listStr (I.ok.hd hc) hz fun h' tk acc c k e ha => ?_
  refine ⟨.ref s.heap.objs.size, _, I.laid (t' := tk) k (Nat.le_refl _) (o := .lst ((signs z).map V.str)) ?_, rfl, q _ (I.hok.fresh (Nat.le_refl _))⟩
  have hl : acc.toList.length = z.cps.size := by rw [Array.length_toList]; exact ha.1
  refine ⟨by unfold signs; rw [List.length_map, List.length_map, Array.length_toList]; exact hz, acc.toList, c, ?_, by simpa using e⟩
  refine vals_of_idx _ _ (by unfold signs; rw [List.length_map, List.length_map, hl, Array.length_toList]) fun j u hj => ?_
  obtain ⟨cc, t, h1, rfl⟩ := ha.2 j u (by rw [← Array.getElem?_toList]; exact hj)
  refine ⟨.str ⟨#[cc]⟩, ?_, _, rfl⟩
  unfold signs
  rw [List.getElem?_map, List.getElem?_map, Array.getElem?_toList, h1]
  rfl
end FL
/-! ## L2x -/
set_option Elab.async false
set_option linter.all false
set_option maxRecDepth 100000
set_option maxHeartbeats 4000000
/-! all(e for x in it), e any expression of the layer: the generator's frame as a context of its own -/
namespace FL
open PySem PySem.Spec PyProof.Rows L2 GxR
abbrev gx (X : Cx) (A : Around) (s : Shared) (H : Hp) (cenv : Env) (fp : List Addr) : Cx :=
  { X with A := A, s_0 := s, H_0 := H, env := cenv, outer := X.stack, stack := cenv :: X.stack, ex := fp, fn := fun _ => false, pn := [], xe := fun _ _ => False }
section
variable {X : Cx} {pins : List (Addr × Obj)} {σ : L2.St} {H : Hp} {s : Shared}
theorem gx_start {A : Around} {scope : Scope} {own : List (Str × Nat)} {fp : List Addr} {code : Value} {h' : Heap} {g' : Array GenState} {t' : Nat} {m0 : Str → Option Value} (I : Inv X pins σ H s) (ok : BlkOk X.N X.env.scope scope own) (hN : X.N.Nodup)
    (nocell : ∀ y ∈ scope.names, y.2 ≠ .cell) (hfp : ∀ b ∈ fp, FpOk X pins H b ∧ b < s.heap.objs.size) (kp : ∀ b o, s.heap.get? b = some o → h'.get? b = some o)
    (hns : h'.Ns s.heap.objs.size m0) (hd : X.calm = true → A.handled = none) (hfr : A.frames = some (genEnv scope (cloFrom X.env.cells scope.names []) s.heap.objs.size code builtinsNs X.env :: X.stack)) (hg : AllBare g') :
    Inv (gx X A s H (genEnv scope (cloFrom X.env.cells scope.names []) s.heap.objs.size code builtinsNs X.env) fp) [] (wipe σ (own.map (·.2))) H { s with heap := h', gens := g', toks := t' } := by
  have hfree : ∀ y ∈ scope.names, y.2 = .free → ∃ c, X.env.cells.lookup y.1 = some c := fun y hy e => by
    rcases ok.free y hy e with k | k
    · exact I.ok.has _ (.inl k)
    · exact I.ok.has _ (.inr k)
  have cm : ∀ {y c}, (y, c) ∈ cloFrom X.env.cells scope.names [] → X.env.cells.lookup y = some c ∧ c < s.heap.objs.size := fun {y c} hm => by
    rcases cloFrom_mem hm with hm | ⟨h1, rfl⟩
    · cases hm
    · obtain ⟨c, hc⟩ := hfree _ h1 rfl
      rw [hc]
      obtain ⟨w, z⟩ := I.cell _ _ hc
      exact ⟨rfl, z.lt⟩
  have lk : ∀ {y c}, (cloFrom X.env.cells scope.names []).lookup y = some c → X.env.cells.lookup y = some c ∧ c < s.heap.objs.size := fun e => cm (PySem.mem_of_lookup e)
  have look : ∀ {y}, scope.names.lookup y = some .free → ∃ c, (cloFrom X.env.cells scope.names []).lookup y = some c ∧ X.env.cells.lookup y = some c := fun {y} hl => by
    obtain ⟨c, e⟩ := mem_lookup (cloFrom_has (cells := X.env.cells) (acc := []) (PySem.mem_of_lookup hl))
    exact ⟨c, e, (lk e).1⟩
  have okB : (gx X A s H (genEnv scope (cloFrom X.env.cells scope.names []) s.heap.objs.size code builtinsNs X.env) fp).Ok := by
    refine ⟨I.ok.mod, ok.kind, I.ok.glob, rfl, Nat.le_refl _, fun y z c e1 e2 => I.ok.inj y z c (lk e1).1 (lk e2).1, fun y hy => ?_, fun y c z e => (by cases z), hd, hfr, .inr ⟨rfl, rfl⟩,
      fun b hb => ⟨Nat.ne_of_lt (hfp b hb).2, fun y c e z => (hfp b hb).1.2.2.2.2.1 y c (lk e).1 z⟩, I.bs, Nat.le_trans I.ok.bsz I.sz, fun b o e hb => ?_, fun b hb z => ?_, I.stack, I.stkFree⟩
    · have hy : scope.names.lookup y = some .cell ∨ scope.names.lookup y = some .free := hy
      rcases hy with hy | hy
      · exact absurd rfl (nocell _ (PySem.mem_of_lookup hy))
      · obtain ⟨c, e, _⟩ := look hy
        exact ⟨c, e⟩
    · rcases (hfp b hb).1.2.2.2.1 with z | z
      · exact I.ok.noex b o e z
      · exact absurd (Nat.lt_of_lt_of_le (Heap.lt_size e) (Nat.le_trans I.ok.bsz z)) (Nat.lt_irrefl _)
    · rcases List.mem_cons.mp (I.stkSub b z) with z | z
      · exact (hfp b hb).1.2.1 z
      · exact (hfp b hb).1.2.2.1 z
  refine ⟨okB, rfl, hg, Un.kept kp, ⟨m0, hns, fun i y av e1 e2 e3 => ?_⟩, fun y c e => ?_, I.hok.fresh (Nat.le_refl _), fun y c e => I.freeC y c (lk e).1, fun p hp => absurd (show p ∈ ([] : List (Addr × Obj)) ++ [] from hp) (by simp), I.hok.kept kp, by rw [wipe_length]; exact I.len⟩
  · obtain ⟨e2, hne⟩ := wipe_some e2
    have e3 : scope.names.lookup y = some .local ∨ scope.names.lookup y = some .cell ∨ scope.names.lookup y = some .free := e3
    have no : ∀ k, scope.names.lookup y = some k → k = .local ∨ k = .cell → False := fun k e hh => by
      rcases ok.own _ (PySem.mem_of_lookup e) hh with e' | e'
      · obtain ⟨p, hp, hpy⟩ := List.mem_map.mp e'
        have e4 := ok.ix p hp
        have : p.1 = y := hpy
        rw [this] at e4
        exact hne (List.mem_map.mpr ⟨p, hp, nodup_ix hN e4 e1⟩)
      · exact e' (List.mem_of_getElem? e1)
    rcases e3 with e3 | e3 | e3
    · exact (no _ e3 (.inl rfl)).elim
    · exact (no _ e3 (.inr rfl)).elim
    · obtain ⟨m, hn, hl⟩ := I.loc
      have hvis : Vis X.env.scope y := (ok.free _ (PySem.mem_of_lookup e3) rfl).elim (fun k => .inr (.inl k)) (fun k => .inr (.inr k))
      obtain ⟨w, r, q⟩ := hl i y av e1 e2 hvis
      refine ⟨w, r, .inr ⟨.inr e3, ?_⟩⟩
      obtain ⟨c, h1, h2⟩ := look e3
      rcases q with ⟨k, _⟩ | ⟨_, c', e', z⟩
      · have k : X.env.scope.names.lookup y = some .local := k
        rcases ok.free _ (PySem.mem_of_lookup e3) rfl with k' | k' <;> rw [show X.env.scope.names.lookup y = _ from k'] at k <;> cases k
      · rw [h2] at e'
        cases e'
        exact ⟨c, h1, z.keeps kp⟩
  · obtain ⟨w, z⟩ := I.cell y c (lk e).1
    exact ⟨w, z.keeps kp⟩
end
/-- what the generator hands out: a truth; where it is true, it goes on from the same heap -/
def yG (Y : Cx) (a : Addr) (go : Obj) (q : Hp → Prop) : Protocol := fun _ _ v s kap =>
  ∃ b H σ', v = .bool b ∧ Inv Y [(a, go)] σ' H s ∧ (b = false → q H) ∧ (b = true → ∀ s'' : Shared, s''.heap = s.heap → s''.os = s.os → AllBare s''.gens → kap (.send .none) s'')
def rG (Y : Cx) (a : Addr) (go : Obj) (q : Hp → Prop) : Nat → Shared → Shared → Prop := fun _ _ s => ∃ H σ', Inv Y [(a, go)] σ' H s ∧ q H
theorem inv_same {Y : Cx} {pins : List (Addr × Obj)} {σ : L2.St} {H : Hp} {s s' : Shared} (I : Inv Y pins σ H s) (hh : s'.heap = s.heap) (ho : s'.os = s.os) (hg : AllBare s'.gens) : Inv Y pins σ H s' := by
  obtain ⟨h, g, d, t, o⟩ := s'
  have e1 : h = s.heap := hh
  have e2 : o = s.os := ho
  subst e1 e2
  exact ⟨I.ok, I.os, hg, I.base, I.loc, I.cell, I.free, I.freeC, I.pin, I.hok, I.len⟩
section
variable {Y : Cx} {A0 : Around} {ce : Env} {a it : Addr} {go : Obj} {x : Str} {px : Pos} {elt iter : Expr} {scope : Scope} {pos : Pos} {fp : List Addr} {tn : Nat → Heap → Prop} {J : It} {g : TG} {te : TE} {σ0 : L2.St} {vs : List Nat} {qt qf : Hp → Prop} {W : Nat → Nat → Hp → Prop}
theorem seg_gx (hA : Y.A = A0.over (.compLoop (.GeneratorExp elt [⟨.Name x px, iter, [], 0⟩] scope pos) 0 (.ref it) .none ce) []) (henv : Y.env = ce) (hx : Y.xe = fun _ _ => False) (hc : Y.calm = true) (hco : ce.scope.isCoroutine = false)
    (T : Turn Y.prog Y.w Y.K (.Name x px) J fp it tn) (fpk : ∀ {pins : List (Addr × Obj)} {σ' : L2.St} {H' : Hp} {s' : Shared}, Inv Y pins σ' H' s' → pins = [(a, go)] → (∀ b ∈ fp, H' b = none) → ∀ b ∈ fp, FpOk Y pins H' b)
    (pg : PG Y (.Name x px) g) (pe : PE Y elt te)
    (turn : ∀ i m H, W i m H → (J.stop i H ∧ qt H) ∨ (J.go i H ∧ ∃ Nx : Hp → Prop, (∀ H', Nx H' → ∃ m', m' < m ∧ W (i + 1) m' H') ∧ ∀ v H', J.yld i H v H' → g v σ0 H' fun σ2 H2 => wipe σ2 vs = σ0 ∧ te σ2 H2 fun y H4 => ∃ b, y = .bl b ∧ if b = true then Nx H4 else qf H4))
    (hwl : ∀ σ2 : L2.St, wipe σ2 vs = σ0 → σ0.length = σ2.length ∧ ∀ (i : Nat) (v : V), σ0[i]? = some (some v) → σ2[i]? = some (some v)) :
    ∀ (fuel i m : Nat) (H : Hp) (s₀ s : Shared), m < fuel → Inv Y [(a, go)] σ0 H s → tn i s.heap → (∀ b ∈ fp, H b = none) → W i m H →
      Seg (model Y.prog Y.w) A0 (fun n s₀ r s₁ => r = .ok .next ∧ rG Y a go qt n s₀ s₁) (yG Y a go qf) fuel s₀
        (.compLoop (.GeneratorExp elt [⟨.Name x px, iter, [], 0⟩] scope pos) 0 (.ref it) .none ce)
        ((model Y.prog Y.w).den (.compLoop (.GeneratorExp elt [⟨.Name x px, iter, [], 0⟩] scope pos) 0 (.ref it) .none ce)) [] s := by
  intro fuel
  induction fuel with
  | zero => intro i m H s₀ s hm; exact absurd hm (Nat.not_lt_zero _)
  | succ fuel ih =>
    intro i m H s₀ s hm I st nf w
    show Seg _ A0 _ _ _ s₀ _ ((compTurn (.GeneratorExp elt [⟨.Name x px, iter, [], 0⟩] scope pos) 0 (.ref it) .none ce).onRaise (leaving ce)) [] s
    rw [compTurn_gen, Sem.onRaise_eq_wrap]
    refine seg_bind_wrap (wpAny_standAt ?_)
    refine seg_bind_wrap ?_
    rw [← hA]
    rcases turn i m H w with ⟨stop, q⟩ | ⟨go', Nx, hNx, step⟩
    · refine thnF (T.done Y rfl rfl rfl hc i _ s _ H (fun _ _ => False) I (fpk I rfl nf) st stop) fun r s1 ⟨hr, I1⟩ => ?_
      subst hr
      exact seg_end (.ok .next) ⟨rfl, H, σ0, I1, q⟩
    · refine thnF (T.item Y rfl rfl rfl hc i _ s _ H (fun _ _ => False) I (fpk I rfl nf) st go') fun r s1 ⟨u, hr, h1⟩ => ?_
      subst hr
      refine seg_bind_wrap ?_
      rw [← hA]
      refine thnF h1 fun _ s2 ⟨v, H2, I2, r2, y2, st2, n2⟩ => ?_
      have I2' := I2.pinned (fpk I2 rfl n2) (T.obj _ _ st2)
      refine seg_bind_wrap ?_
      rw [← hA, ← henv]
      have pgr := pg.run _ s2 _ H2 v u _ I2' r2 (step v H2 y2)
      rw [hx] at pgr
      refine thnF pgr fun _ s3 ⟨σ3, H3, I3, hw3, q3⟩ => ?_
      refine seg_bind_wrap ?_
      simp only [List.forIn_nil]
      refine wpAny_pure ?_
      simp only [if_true]
      have hyo : ∀ v, yieldOut Y.env v = yieldValue v := fun v => by
        unfold yieldOut
        rw [henv, hco]
        rfl
      simp only [hyo]
      rw [Sem.bind_eq_wrap', Sem.bind_eq_wrap', Sem.wrap_wrap, Sem.wrap_wrap]
      refine seg_wrap ?_
      rw [← henv] at hA
      rw [← hA]
      have per := pe.run _ s3 σ3 H3 _ I3 q3
      rw [hx] at per
      refine thnF per fun z s4 ⟨yv, H4, I4, r4, b, eb, q4⟩ => ?_
      subst eb
      obtain rfl : z = .bool b := r4
      have pin' : ∀ c ∈ fp, ∀ o, s2.heap.get? c = some o → s4.heap.get? c = some o ∧ H4 c = none := fun c hb o e =>
        let z := I4.pin (c, o) (List.mem_append_right _ (List.mem_append_right _ (mem_pinsAt hb e)))
        ⟨z.1, z.2.1⟩
      have I5 : Inv Y [(a, go)] σ3 H4 s4 := I4.unpinned
      refine seg_at (seg_yield rfl rfl rfl ⟨b, H4, σ3, rfl, I5, fun e => ?_, fun e s'' eh eo eg => ?_⟩)
      · subst e
        exact q4
      · subst e
        obtain ⟨m', hm', w'⟩ := hNx H4 q4
        obtain ⟨l1, l2⟩ := hwl σ3 hw3
        refine seg_again rfl ?_
        rw [henv]
        refine ih (i + 1) m' H4 s'' s'' (by omega) (inv_same (I5.weak l1 l2) eh eo eg) ?_ (fun c hb => ?_) w'
        · rw [eh]
          exact T.keep _ _ _ st2 fun c hb o e => (pin' c hb o e).1
        · obtain ⟨o, e, _⟩ := T.obj _ _ st2 c hb
          exact (pin' c hb o e).2
end
theorem setGen_size' (s : Shared) (g : Nat) (x : GenState) : (s.setGen g x).gens.size = s.gens.size := by simp [Shared.setGen]
theorem setGen_at {s : Shared} {g : Nat} {x : GenState} (h : g < s.gens.size) : (s.setGen g x).gens[g]? = some x := by simp [Shared.setGen, h]
theorem bare_setGen {s : Shared} {g : Nat} {x : GenState} (h : AllBare s.gens) (hx : x.bare = true) : AllBare (s.setGen g x).gens := fun y hy => by
  rcases Array.mem_or_eq_of_mem_setIfInBounds hy with q | q
  · exact h _ q
  · rw [q]
    exact hx
section
variable {Y : Cx} {A : Around} {a : Addr} {g : Nat} {go : Obj} {qt qf : Hp → Prop} {R : Result → Shared → Prop}
theorem all_loop (hgo : ∀ h : Heap, h.get? a = some go → h.IsGen a g) (hh : A.handled = none) (hroom : A.depth + 10 < recursionLimit)
    (hR : ∀ (b : Bool) (H : Hp) (σ' : L2.St) (s' : Shared), Inv Y [(a, go)] σ' H s' → (if b = true then qt H else qf H) → R (.ok (.ret (.bool b))) s') :
    ∀ (n : Nat) (s : Shared) (gs : GenState), s.gens[g]? = some gs → s.heap.IsGen a g → s.heap.NoLimit →
      gs.Goes (model Y.prog Y.w) A.in1.in1 (fun n s₀ r s₁ => r = .ok .next ∧ rG Y a go qt n s₀ s₁) (yG Y a go qf) n (.send .none) (s.setGen g .running) →
      codeAny (model Y.prog Y.w) A (.builtin "all.loop" ⟨[.ref a], []⟩) R s := by
  intro n
  induction n with
  | zero =>
    intro s gs hgs hg hl hg2
    have hlt : g < s.gens.size := by
      obtain ⟨h, _⟩ := Array.getElem?_eq_some_iff.mp hgs
      exact h
    refine codeAny_builtin F.entry_all_loop ?_
    rw [Around.under_plainId F.plain_all_loop _]
    show wpAny _ A.in1 (pyNext (.ref a) >>= _) _ _ s
    refine wpAny_bind (GenW.wpAny_gsz (n := s.gens.size) (Nat.le_refl _) (wpAny_pyNext_genexpQ (P := rG Y a go qt) hh hl (Nat.lt_of_le_of_lt (Nat.le_add_right _ _) hroom) hg hgs hg2 (fun v s1 gs' hb hv => ?_) (fun s1 hp h' hk => ?_)))
    · intro _
      obtain ⟨b, H, σ', rfl, I, q, kap⟩ := hv
      have I2 : Inv Y [(a, go)] σ' H (s1.setGen g gs') := inv_same I rfl rfl (bare_setGen I.bare hb)
      refine wpAny_bind (wpAny_holding (wpAny_truthy_bool ?_))
      refine wpAny_bind (wpAny_letGo ?_)
      cases b with
      | true => exact (kap rfl s1 rfl rfl I.bare).elim
      | false =>
        simp only [Bool.false_eq_true, if_false]
        exact wpAny_bind (wpAny_rule (wpAny_pure (hR false H σ' _ I2 (by simpa using q rfl))))
    · intro _
      obtain ⟨H, σ', I, q⟩ := hp
      have I2 : Inv Y [(a, go)] σ' H (s1.setGen g .finished) := inv_same I rfl rfl (bare_setGen I.bare rfl)
      refine wpAny_bind (wpAny_rule (wpAny_pure ?_))
      exact hR true H σ' _ (I2.kept (t' := s1.toks) hk) (by simpa using q)
  | succ n ih =>
    intro s gs hgs hg hl hg2
    have hlt : g < s.gens.size := by
      obtain ⟨h, _⟩ := Array.getElem?_eq_some_iff.mp hgs
      exact h
    refine codeAny_builtin F.entry_all_loop ?_
    rw [Around.under_plainId F.plain_all_loop _]
    show wpAny _ A.in1 (pyNext (.ref a) >>= _) _ _ s
    refine wpAny_bind (GenW.wpAny_gsz (n := s.gens.size) (Nat.le_refl _) (wpAny_pyNext_genexpQ (P := rG Y a go qt) hh hl (Nat.lt_of_le_of_lt (Nat.le_add_right _ _) hroom) hg hgs hg2 (fun v s1 gs' hb hv => ?_) (fun s1 hp h' hk => ?_)))
    · intro hsz
      rw [setGen_size'] at hsz
      obtain ⟨b, H, σ', rfl, I, q, kap⟩ := hv
      have I2 : Inv Y [(a, go)] σ' H (s1.setGen g gs') := inv_same I rfl rfl (bare_setGen I.bare hb)
      refine wpAny_bind (wpAny_holding (wpAny_truthy_bool ?_))
      refine wpAny_bind (wpAny_letGo ?_)
      cases b with
      | true =>
        simp only [if_true]
        refine wpAny_pure ⟨plainId_quiet F.plain_all_loop _, ih _ gs' (setGen_at (Nat.lt_of_lt_of_le hlt hsz)) (hgo _ (I2.pin (a, go) (List.mem_append_right _ (List.mem_singleton.mpr rfl))).1) I2.nolimit ?_⟩
        exact kap rfl _ rfl rfl (bare_setGen I2.bare rfl)
      | false =>
        simp only [Bool.false_eq_true, if_false]
        exact wpAny_bind (wpAny_rule (wpAny_pure (hR false H σ' _ I2 (by simpa using q rfl))))
    · intro _
      obtain ⟨H, σ', I, q⟩ := hp
      have I2 : Inv Y [(a, go)] σ' H (s1.setGen g .finished) := inv_same I rfl rfl (bare_setGen I.bare rfl)
      refine wpAny_bind (wpAny_rule (wpAny_pure ?_))
      exact hR true H σ' _ (I2.kept (t' := s1.toks) hk) (by simpa using q)
end
theorem over_comp {A : Around} {elt iter : Expr} {x : Str} {px : Pos} {scope : Scope} {pos : Pos} {it : Addr} {ce : Env} :
    A.over (.compLoop (.GeneratorExp elt [⟨.Name x px, iter, [], 0⟩] scope pos) 0 (.ref it) .none ce) [] = A.deeper ce := by
  first
    | rfl
    | (obtain ⟨hd, d, fr, gs, u⟩ := A; simp [Around.over, Around.deeper, marksOver, frameCount, unitsOf, envsOf, guardsOf, pushEnvs, pushGuards, Code.envs, Code.env?, Code.isFrame, Code.guards, Code.isGuard, Code.weight, Code.frames, Code.isCreation, Code.isCaller, Code.cUnits])
def tAllG (P : Addr) (wi : TI) (g : TG) (te : TE) (vs : List Nat) : TE := fun σ H Q => wi σ H fun J H1 => TabG H1 P ∧ ∀ H2, Tabbed P H1 H2 → ∃ W : Nat → Nat → Hp → Prop, (∃ m, W 0 m H2) ∧ ∀ i m H, W i m H →
  (J.stop i H ∧ Q (.bl true) H) ∨ (J.go i H ∧ ∃ Nx : Hp → Prop, (∀ H', Nx H' → ∃ m', m' < m ∧ W (i + 1) m' H') ∧ ∀ v H', J.yld i H v H' → g v (wipe σ vs) H' fun σ2 H2 => wipe σ2 vs = wipe σ vs ∧ te σ2 H2 fun y H4 => ∃ b, y = .bl b ∧ if b = true then Nx H4 else Q (.bl false) H4)
/-- the generator expression's own names: x alone, the walked thing at «.0», captured ones -/
structure GenT (scope : Scope) (x : Str) : Prop where
  kind : scope.kind = .function
  co : scope.isCoroutine = false
  cell : ∀ y ∈ scope.names, y.2 ≠ .cell
  dot : scope.names.lookup (".0" : Str) = some NameKind.local
  loc : scope.names.lookup x = some .local
section
variable {X : Cx} {c P : Addr} {elt iter : Expr} {x : Str} {px p pos gpos : Pos} {scope : Scope} {own : List (Str × Nat)} {wi : TI} {g : TG} {te : TE} {k : Nat}
theorem pe_allG (hr : Room (k + 6) X.A) (hc : X.calm = true) (hN : X.N.Nodup) (hgl : Gl X "all") (hm : X.mg "all" = none) (hb : bootBuiltins "all" = some (.builtin "all")) (TB : GxR.TabB X.base X.mg c P) (hcode : X.env.code = .ref c) (S : GenT scope x)
    (ok : BlkOk X.N X.env.scope scope own) (hi : PI X (.Name x px) iter wi)
    (hpg : ∀ (A' : Around) (s : Shared) (H : Hp) (code : Value) (fp : List Addr), PG (gx X A' s H (genEnv scope (cloFrom X.env.cells scope.names []) s.heap.objs.size code builtinsNs X.env) fp) (.Name x px) g)
    (hpe : ∀ (A' : Around) (s : Shared) (H : Hp) (code : Value) (fp : List Addr), Room k A' → PE (gx X A' s H (genEnv scope (cloFrom X.env.cells scope.names []) s.heap.objs.size code builtinsNs X.env) fp) elt te)
    (hs : ∀ v, genFold iter X.env v = pure v := by intro _; rfl)
    (he : starEach [.GeneratorExp elt [⟨.Name x px, iter, [], 0⟩] scope gpos] X.env = (false, eval (.GeneratorExp elt [⟨.Name x px, iter, [], 0⟩] scope gpos) X.env) :: starEach [] X.env := by rfl) :
    PE X (.Call (.Name "all" p) [.GeneratorExp elt [⟨.Name x px, iter, [], 0⟩] scope gpos] [] pos) (tAllG P wi g te (own.map (·.2))) := by
  refine ⟨fun pins s σ H Q I h => ?_⟩
  refine wpAny_Call_Name_kw (ld_blt I hgl hm hb ?_)
  refine PyProof.Rows.callWith_builtin1 ?_ he (by rfl)
  rw [he]
  show wpAny _ _ (spliced ((false, eval (.GeneratorExp elt [⟨.Name x px, iter, [], 0⟩] scope gpos) X.env) :: backTo pos (starEach [] X.env))) _ _ s
  refine Calls.spliced_cons ?_
  have hfree : ∀ y ∈ scope.names, y.2 = .free → ∃ c, X.env.cells.lookup y.1 = some c := fun y hy e => by
    rcases ok.free y hy e with z | z
    · exact I.ok.has _ (.inl z)
    · exact I.ok.has _ (.inr z)
  refine wpAny_GeneratorExp_make S.co (closure_ok hfree) S.cell S.dot S.kind (by have := hr.dp; omega) ?_ hs
  refine thn (hi.run pins s σ H _ I h) fun xv s1 hx => thn hx fun itv s2 h2 => ?_
  obtain ⟨it, fp, tn, J, H2, rfl, I2, T, st2, f2, ⟨ps, hP, htr⟩, q⟩ := h2
  refine ⟨I2.nolimit, ?_⟩
  have hPs : s2.heap.get? P = some { cls := .none, data := .fields ps } := I2.hok P _ hP
  have cd : PySem.W.CodeHd s2.heap c P := TB.code.keeps I2.bk
  have fpP : ∀ b ∈ fp, b ≠ P := fun b hb e => by
    have z := (f2 b hb).1
    rw [e, hP] at z
    cases z
  have cont : ∀ (code : Value) (h3 : Heap) (tk : Nat) (more : Array Value), Heap.ExtBut P s2.heap h3 → s2.heap.objs.size ≤ h3.objs.size → h3.get? P = some { cls := .none, data := .fields (ps ++ more) } → TriplesOk (ps ++ more).toList →
      wpAny (model X.prog X.w) X.A (builtinsFor X.env.globals X.env.builtins) (fun bi s4 => ∀ h', h'.Ns s4.heap.objs.size (fun y => if y = ".0" then some (.ref it) else none) → Heap.SameBut s4.heap.objs.size (s4.heap.push { cls := .type "frame", data := .dict #[] }) h' →
        wpAny (model X.prog X.w) X.A (spliced (backTo pos (starEach [] X.env))) (fun vs s' => wpAny (model X.prog X.w) X.A (call (.builtin "all") ((.ref h'.objs.size) :: vs)) (EP X pins σ Q) X.xe s') X.xe { s4 with
            gens := s4.gens.push (.fresh (.compStart (.GeneratorExp elt [⟨.Name x px, iter, [], 0⟩] scope gpos) 0 (.ref it) .none (genEnv scope (cloFrom X.env.cells scope.names []) s4.heap.objs.size code bi X.env))),
            toks := s4.toks + 1 + 1 + 1,
            heap := h'.push { cls := .type "generator", data := .fields #[.int s4.gens.size 0, .str "<genexpr>" (s4.toks + 1), .str (X.env.qual ++ "<genexpr>") (s4.toks + 1 + 1)] } }) X.xe { s2 with heap := h3, toks := tk } := by
    intro code h3 tk more hx3 hsz hP3 ht3
    obtain ⟨bm, ob, e1, e2, e3, e4, e5, e6, e7, e8⟩ := TB.bm
    have keep3 : ∀ b u, b ≠ P → s2.heap.get? b = some u → h3.get? b = some u := fun b u hb e => hx3 b u hb e
    refine wpAny_builtinsFor (m := X.mg) (by rw [I2.ok.glob]; exact (I2.mod.glob.keeps I2.bk).extBut hx3 TB.gP) e1 e2 (keep3 _ _ e4 (I2.bk _ _ e5)) e6 e7 e8 ?_
    have I3 := inv_tab (more := more) (h' := h3) (g' := s2.gens) (d' := s2.drawn) (t' := tk) I2 hP keep3 hP3 I2.bare
    generalize hH3 : upd H2 P (.tbl (ps ++ more)) = H3 at I3
    have tb : Tabbed P H2 H3 := by
      rw [← hH3]
      exact ⟨⟨_, upd_same, ht3⟩, fun b hb => upd_ne hb⟩
    obtain ⟨W, ⟨m0, w0⟩, turn⟩ := q H3 tb
    generalize hs4 : ({ s2 with heap := h3, gens := s2.gens, drawn := s2.drawn, toks := tk } : Shared) = s4 at I3
    have sz : ∀ b ∈ fp, b < s4.heap.objs.size := fun b hb => by
      obtain ⟨o, e, _⟩ := T.obj _ _ st2 b hb
      have := Heap.lt_size e
      rw [← hs4]
      exact Nat.lt_of_lt_of_le this hsz
    have f4 : ∀ b ∈ fp, FpOk X pins H3 b ∧ b < s4.heap.objs.size := fun b hb => by
      refine ⟨⟨?_, (f2 b hb).2⟩, sz b hb⟩
      rw [tb.2 b (fpP b hb)]
      exact (f2 b hb).1
    have st4 : tn 0 s4.heap := by
      rw [← hs4]
      exact T.keep _ _ _ st2 fun b hb o e => keep3 b o (fpP b hb) e
    intro h' hns hsb
    have hsz' : h'.objs.size = s4.heap.objs.size + 1 := by rw [hsb.1, Heap.size_push]
    generalize hgo : ({ cls := .type "generator", data := .fields #[.int s4.gens.size 0, .str "<genexpr>" (s4.toks + 1), .str (X.env.qual ++ "<genexpr>") (s4.toks + 1 + 1)] } : Obj) = go
    have kp : ∀ b o, s4.heap.get? b = some o → (h'.push go).get? b = some o := fun b o e => Heap.get?_push_of_some _ (hsb.extBut b o (Nat.ne_of_lt (Heap.lt_size e)) (Heap.get?_push_of_some _ e))
    have hgoat : (h'.push go).get? h'.objs.size = some go := by
      rw [← hgo]
      exact Heap.get?_push_size _ rfl
    have hgen : ∀ h : Heap, h.get? h'.objs.size = some go → h.IsGen h'.objs.size s4.gens.size := fun h e => by
      rw [← hgo] at e
      exact ⟨_, _, _, e, rfl, rfl, rfl⟩
    refine Calls.spliced_nil ?_
    generalize hce : genEnv scope (cloFrom X.env.cells scope.names []) s4.heap.objs.size code builtinsNs X.env = ce
    have ceL : ce.locals = s4.heap.objs.size := by rw [← hce]; rfl
    generalize hA0 : X.A.in1.in1 = A0
    have hroom : Room k (A0.deeper ce) := by
      rw [← hA0]
      exact (((hr.mono (by omega : k + 3 ≤ k + 6)).in1).in1).deeper ce
    have hfr : (A0.deeper ce).frames = some (ce :: X.stack) := by
      rw [← hA0]
      exact Around.frames_deeper I3.ok.frames
    have I5 : Inv (gx X (A0.deeper ce) s4 H3 ce fp) [] (wipe σ (own.map (·.2))) H3 { s4 with heap := h'.push go, gens := s4.gens.push (.fresh (.compStart (.GeneratorExp elt [⟨.Name x px, iter, [], 0⟩] scope gpos) 0 (.ref it) .none ce)), toks := s4.toks + 1 + 1 + 1 } := by
      have z := gx_start (A := A0.deeper ce) (scope := scope) (own := own) (fp := fp) (code := code) (h' := h'.push go) (g' := s4.gens.push (.fresh (.compStart (.GeneratorExp elt [⟨.Name x px, iter, [], 0⟩] scope gpos) 0 (.ref it) .none ce))) (t' := s4.toks + 1 + 1 + 1)
        I3 ok hN S.cell f4 kp (hns.push _) (fun z => hroom.hd) (by rw [hce]; exact hfr) (I3.bare.push rfl)
      rw [hce] at z
      exact z
    have ha : s4.heap.objs.size ≤ h'.objs.size := by omega
    have I6 := I5.pins_of (pins' := [(h'.objs.size, go)]) fun p hp => by
      rw [List.mem_singleton.mp hp]
      refine ⟨hgoat, I3.hok.fresh ha, by show h'.objs.size ≠ ce.locals; rw [ceL]; omega, fun z => ?_, fun v z => by rw [← hgo] at z; cases z⟩
      rcases List.mem_cons.mp (I3.stkSub _ z) with z | z
      · have := I3.lt
        rw [← z] at this
        exact absurd (Nat.lt_of_lt_of_le this ha) (Nat.lt_irrefl _)
      · exact I3.nofs ha z
    have nfp : ∀ b ∈ fp, H3 b = none := fun b hb => (f4 b hb).1.1
    have pg := hpg (A0.deeper ce) s4 H3 code fp
    have pe := hpe (A0.deeper ce) s4 H3 code fp hroom
    rw [hce] at pg pe
    have fpk : ∀ {pins' : List (Addr × Obj)} {σ' : L2.St} {H' : Hp} {s' : Shared}, Inv (gx X (A0.deeper ce) s4 H3 ce fp) pins' σ' H' s' → pins' = [(h'.objs.size, go)] → (∀ b ∈ fp, H' b = none) → ∀ b ∈ fp, FpOk (gx X (A0.deeper ce) s4 H3 ce fp) pins' H' b := fun {pins' σ' H' s'} I' ep hn b hb =>
      ⟨hn b hb, (I'.ok.exf b hb).1, I'.ok.exfs b hb, .inl hb, fun x c e => (I'.ok.exf b hb).2 x c e, fun p hp z => by
        rw [ep] at hp
        have hp : p ∈ ([] : List (Addr × Obj)) ++ [(h'.objs.size, go)] := hp
        rw [List.nil_append] at hp
        rw [List.mem_singleton.mp hp] at z
        have z : h'.objs.size = b := z
        exact absurd (Nat.lt_of_lt_of_le (sz b hb) (by rw [← z]; exact ha)) (Nat.lt_irrefl _)⟩
    have loop := seg_gx (Y := gx X (A0.deeper ce) s4 H3 ce fp) (A0 := A0) (ce := ce) (a := h'.objs.size) (it := it) (go := go) (elt := elt) (iter := iter) (px := px) (scope := scope) (pos := gpos) (qt := fun H => Q (.bl true) H) (qf := fun H => Q (.bl false) H) (vs := own.map (·.2)) (σ0 := wipe σ (own.map (·.2)))
      over_comp.symm rfl rfl hc (by rw [← hce]; exact S.co) T fpk pg pe turn (fun σ2 e => ⟨by rw [← e, wipe_length], fun i v e2 => by rw [← e] at e2; exact (wipe_some e2).1⟩) (m0 + 1) 0 m0 H3
    refine call_function_tree F.kind_all F.plain_all F.entry_all (F.args_all1 _) ?_
    unfold Builtin.«all»
    refine wpAny_bind (m := oneArg "all" _) (wpAny_pure ?_)
    refine wpAny_bind (wpAny_pyIter_gen (hgen _ hgoat) ?_)
    refine wpAny_pure ⟨plainId_quiet F.plain_all_loop _, ?_⟩
    refine all_loop (Y := gx X (A0.deeper ce) s4 H3 ce fp) (A := X.A) (g := s4.gens.size) hgen (hr.hd) (by have := hr.dp; omega) (qt := fun H => Q (.bl true) H) (qf := fun H => Q (.bl false) H) (fun b H' σ' s' I' q' => ?_) (m0 + 1) _ _ (Array.getElem?_push_size ..) (hgen _ hgoat) I6.nolimit ?_
    · -- back in the def's frame
      have I7 : Inv X pins σ H' s' := I3.call' (ch := fp) I'.os I'.base I'.hok I'.bare fun b hb => ⟨(f4 b hb).1.2.2.2.1, (f4 b hb).1.2.1, (f4 b hb).1.2.2.2.2.1, (f4 b hb).1.2.2.2.2.2⟩
      refine ⟨.bl b, H', I7, rfl, ?_⟩
      cases b
      · exact q'
      · exact q'
    · refine ⟨rfl, ?_⟩
      rw [hA0]
      generalize hs6 : Shared.setGen _ s4.gens.size GenState.running = s6
      have I8 : Inv (gx X (A0.deeper ce) s4 H3 ce fp) [(h'.objs.size, go)] (wipe σ (own.map (·.2))) H3 s6 := by
        rw [← hs6]
        exact inv_same I6 rfl rfl (bare_setGen I6.bare rfl)
      have st6 : tn 0 s6.heap := by
        rw [← hs6]
        exact T.keep _ _ _ st4 fun b _ o e => kp b o e
      have lp := loop s6 s6 (Nat.lt_succ_self _) I8 st6 nfp w0
      show Seg _ A0 _ _ _ s6 _ ((compStart (.GeneratorExp elt [⟨.Name x px, iter, [], 0⟩] scope gpos) 0 (.ref it) .none ce).onRaise (leaving ce)) [] s6
      unfold compStart
      rw [Sem.onRaise_eq_wrap]
      show Seg _ A0 _ _ _ s6 _ ((ask >>= _).wrap _ _ _ _) [] s6
      refine seg_bind_wrap (wpAny_askSetting ?_)
      split
      · exact seg_again rfl lp
      · first
          | exact seg_bind_wrap (wpAny_rule (seg_bind_wrap (wpAny_standAt (seg_bind_wrap (T.self _ 0 s6 _ _ st6 (seg_again rfl lp))))))
          | (refine seg_bind_wrap (wpAny_rule ?_); show Seg _ A0 _ _ _ s6 _ ((standAt iter.pos >>= _).wrap _ _ _ _) [] s6; exact seg_bind_wrap (wpAny_standAt (seg_bind_wrap (T.self _ 0 s6 _ _ st6 (seg_again rfl lp)))))
  cases hf : codeAmong gpos ps.toList with
  | none =>
    refine wpAny_genexprCodeX hcode (cd.code hPs htr) (cd.tab hPs) hf fun c' h3 tk hx3 hge hlt hco' _ htab' _ => ?_
    obtain ⟨o1, vs, f1, tf, fl, tg, inF, tx, tt, op, _, _, _, _, _, _, _, _, _, htr3, _⟩ := hco'
    exact cont _ h3 tk _ hx3 (Nat.le_trans hge (Nat.le_of_lt hlt)) htab'.2 htr3
  | some cv =>
    refine wpAny_genexprCode_hit hcode (cd.code hPs htr) hf ?_
    exact cont cv s2.heap s2.toks #[] (Heap.ExtBut.refl _ _) (Nat.le_refl _) (by simpa using hPs) (by simpa using htr)
end
section
variable {K : PySem.W.Frag} {g : TG} {te : TE} {σ : L2.St} {vs : List Nat} {H2 : Hp} {qt qf : Hp → Prop}
/-- the walk of all(..) over a text | a tuple, by what holds ahead of each item -/
theorem gAll_str {z : Str} (Pv : Nat → Hp → Prop) (h0 : Pv 0 H2)
    (hs : ∀ (i : Nat) (c : Nat) (H : Hp), z.cps[i]? = some c → Pv i H → g (.str ⟨#[c]⟩) (wipe σ vs) H fun σ2 H3 => wipe σ2 vs = wipe σ vs ∧ te σ2 H3 fun y H4 => ∃ b, y = .bl b ∧ if b = true then Pv (i + 1) H4 else qf H4) (hd : ∀ H, Pv z.cps.size H → qt H) :
    ∃ W : Nat → Nat → Hp → Prop, (∃ m, W 0 m H2) ∧ ∀ i m H, W i m H → ((Its z).stop i H ∧ qt H) ∨ ((Its z).go i H ∧ ∃ Nx : Hp → Prop, (∀ H', Nx H' → ∃ m', m' < m ∧ W (i + 1) m' H') ∧
      ∀ v H', (Its z).yld i H v H' → g v (wipe σ vs) H' fun σ2 H2 => wipe σ2 vs = wipe σ vs ∧ te σ2 H2 fun y H4 => ∃ b, y = .bl b ∧ if b = true then Nx H4 else qf H4) := by
  refine ⟨fun i m H => m = z.cps.size - i ∧ i ≤ z.cps.size ∧ Pv i H, ⟨z.cps.size, by simp, Nat.zero_le _, h0⟩, ?_⟩
  rintro i m H ⟨rfl, hi, p⟩
  by_cases hlt : i < z.cps.size
  · refine .inr ⟨hlt, Pv (i + 1), fun H' p' => ⟨z.cps.size - (i + 1), by omega, rfl, hlt, p'⟩, fun v H' y => ?_⟩
    obtain ⟨e, c, hc, ev⟩ := y
    subst e ev
    exact hs i c _ hc p
  · have e : i = z.cps.size := by omega
    subst e
    exact .inl ⟨Nat.le_refl _, hd H p⟩
theorem gAll_tup {a : Addr} {xs : List V} (Pv : Nat → Hp → Prop) (h0 : Pv 0 H2) (hl : ∀ i H, i ≤ xs.length → Pv i H → SqT K H a xs)
    (hs : ∀ (i : Nat) (v : V) (H : Hp), xs[i]? = some v → Pv i H → g v (wipe σ vs) H fun σ2 H3 => wipe σ2 vs = wipe σ vs ∧ te σ2 H3 fun y H4 => ∃ b, y = .bl b ∧ if b = true then Pv (i + 1) H4 else qf H4) (hd : ∀ H, Pv xs.length H → qt H) :
    ∃ W : Nat → Nat → Hp → Prop, (∃ m, W 0 m H2) ∧ ∀ i m H, W i m H → ((Itt K a).stop i H ∧ qt H) ∨ ((Itt K a).go i H ∧ ∃ Nx : Hp → Prop, (∀ H', Nx H' → ∃ m', m' < m ∧ W (i + 1) m' H') ∧
      ∀ v H', (Itt K a).yld i H v H' → g v (wipe σ vs) H' fun σ2 H2 => wipe σ2 vs = wipe σ vs ∧ te σ2 H2 fun y H4 => ∃ b, y = .bl b ∧ if b = true then Nx H4 else qf H4) := by
  refine ⟨fun i m H => m = xs.length - i ∧ i ≤ xs.length ∧ Pv i H, ⟨xs.length, by simp, Nat.zero_le _, h0⟩, ?_⟩
  rintro i m H ⟨rfl, hi, p⟩
  have q := hl i H hi p
  by_cases hlt : i < xs.length
  · refine .inr ⟨⟨xs, xs[i], q, by simp [hlt]⟩, Pv (i + 1), fun H' p' => ⟨xs.length - (i + 1), by omega, rfl, hlt, p'⟩, fun v H' y => ?_⟩
    obtain ⟨e, y⟩ := y
    subst e
    exact hs i v _ (y xs q) p
  · have e : i = xs.length := by omega
    subst e
    exact .inl ⟨⟨xs, q, Nat.le_refl _⟩, hd H p⟩
end
/-! ### tables of code objects -/
def Tb (Ps : List Addr) (H : Hp) : Prop := ∀ P ∈ Ps, TabG H P
structure Ex (Ps : List Addr) (H H' : Hp) : Prop where
  same : ∀ b o, b ∉ Ps → H b = some o → H' b = some o
  tb : Tb Ps H'
section
variable {K : PySem.W.Frag} {Ps : List Addr} {H H1 H' : Hp}
theorem Ex.refl (t : Tb Ps H) : Ex Ps H H := ⟨fun _ _ _ h => h, t⟩
theorem Ex.trans (a : Ex Ps H H1) (b : Ex Ps H1 H') : Ex Ps H H' := ⟨fun c o n h => b.same c o n (a.same c o n h), b.tb⟩
theorem Tb.no {p : Addr} {u : HO} (t : Tb Ps H) (h : H p = some u) (n : ∀ ps, u ≠ .tbl ps) : p ∉ Ps := fun z => by
  obtain ⟨ps, e, _⟩ := t p z
  rw [h] at e
  exact n ps (Option.some.inj e)
theorem Tb.nf {p : Addr} (t : Tb Ps H) (h : H p = none) : p ∉ Ps := fun z => by
  obtain ⟨ps, e, _⟩ := t p z
  rw [h] at e
  cases e
theorem Tb.upd {p : Addr} {o : HO} (t : Tb Ps H) (n : p ∉ Ps) : Tb Ps (L2.upd H p o) := fun P hP => by
  obtain ⟨ps, e, r⟩ := t P hP
  have ne : P ≠ p := fun z => n (by rw [← z]; exact hP)
  exact ⟨ps, by rw [upd_ne ne]; exact e, r⟩
theorem Ex.new {p : Addr} {o : HO} (t : Tb Ps H) (h : H p = none) : Ex Ps H (L2.upd H p o) := ⟨fun b u _ e => by rw [upd_ne (ne_of_none e h)]; exact e, t.upd (t.nf h)⟩
/-- one of its own is written -/
theorem Ex.wr {p : Addr} {o : HO} (a : Ex Ps H H1) (h : H p = none) (n : p ∉ Ps) : Ex Ps H (L2.upd H1 p o) := ⟨fun b u nb e => by rw [upd_ne (ne_of_none e h)]; exact a.same b u nb e, a.tb.upd n⟩
theorem Ex.tab {P : Addr} (t : Tb Ps H) (hP : P ∈ Ps) (h : Tabbed P H H') : Ex Ps H H' := by
  refine ⟨fun b o n e => ?_, fun R hR => ?_⟩
  · have ne : b ≠ P := fun z => n (by rw [z]; exact hP)
    rw [h.2 b ne]
    exact e
  · by_cases e : R = P
    · rw [e]
      exact h.1
    · obtain ⟨ps, e1, r⟩ := t R hR
      exact ⟨ps, (h.2 R e).trans e1, r⟩
theorem Ex.ts (t : Tb Ps H) (a : Ex Ps H H') : TS K H H' := fun p xs q => by
  rcases q with q | q
  · refine .inl ?_
    rcases q with q | ⟨o, q⟩
    · exact .inl (a.same _ _ (t.no q (fun _ z => by cases z)) q)
    · exact .inr ⟨o, a.same _ _ (t.no q (fun _ z => by cases z)) q⟩
  · exact .inr q
theorem Ex.lst {p : Addr} {xs : List V} (t : Tb Ps H) (a : Ex Ps H H') (h : H p = some (.lst xs)) : H' p = some (.lst xs) := a.same _ _ (t.no h (fun _ z => by cases z)) h
theorem Ex.free (t : Tb Ps H) (a : Ex Ps H H') {p : Addr} (h : H' p = none) : H p = none := by
  cases q : H p with
  | none => rfl
  | some o =>
    have n : p ∉ Ps := a.tb.nf h
    rw [a.same p o n q] at h
    cases h
end
end FL
/-! ## G1 -/
set_option Elab.async false
set_option linter.all false
set_option maxRecDepth 100000
set_option maxHeartbeats 4000000
namespace FL
open PySem L2
/-! ### the dice: a list of the script's list and three numbers -/
/-- the script: locked, or of the written part -/
def SqF (K : PySem.W.Frag) (H : Hp) (a : Addr) (xs : List V) : Prop := (∃ o, H a = some (.frz o (.lst xs))) ∨ ∀ H', SqL K H' a xs
theorem SqF.seq {K : PySem.W.Frag} {H : Hp} {a : Addr} {xs : List V} (h : SqF K H a xs) : SqL K H a xs := by
  rcases h with ⟨o, h⟩ | h
  · exact .inl (.inr ⟨o, h⟩)
  · exact h H
theorem SqF.upd {K : PySem.W.Frag} {H : Hp} {a p : Addr} {o : HO} {xs : List V} (h : SqF K H a xs) (l : Loose H p) : SqF K (L2.upd H p o) a xs := by
  rcases h with ⟨u, h⟩ | h
  · refine .inl ⟨u, ?_⟩
    have n : a ≠ p := fun e => by
      subst e
      exact (l _ h).2 _ _ rfl
    rw [upd_ne n]
    exact h
  · exact .inr h
def DiceAt (K : PySem.W.Frag) (H : Hp) (d : Addr) : Prop :=
  ∃ (a : Addr) (ns : List Int) (p m r : Int), H d = some (.lst [.ref a, .int p, .int m, .int r]) ∧ SqF K H a (ns.map V.int) ∧ ns.length ≤ 1000 ∧ 0 ≤ p ∧ 0 ≤ m ∧ 0 ≤ r
def spDice (K : PySem.W.Frag) : Sp := fun vs H Q _ => ∃ (a : Addr) (ns : List Int), vs = [.ref a] ∧ SqF K H a (ns.map V.int) ∧ ns.length ≤ 1000 ∧
  ∀ (d : Addr) (H' : Hp), H d = none → DiceAt K H' d → Same H H' → Q (.ref d) H'
def spNext (K : PySem.W.Frag) : Sp := fun vs H Q _ => ∃ (d : Addr) (n : Int), vs = [.ref d, .int n] ∧ DiceAt K H d ∧ 0 < n ∧ n < 1000000 ∧
  ∀ (r : Int) (H' : Hp), 0 ≤ r → r < n → DiceAt K H' d → SameD d H H' → Q (.int r) H'
structure TxA (mg : Str → Option Value) : Prop where
  len : mg "len" = none
  int : mg "int" = none
section
variable {P : Program} {w : World} {K : PySem.W.Frag} {mg : Str → Option Value} {base : Heap}
theorem DiceAt.loose {d : Addr} {H : Hp} (h : DiceAt K H d) : Loose H d := by
  obtain ⟨a, ns, p, m, r, hd, _⟩ := h
  exact Loose.lst hd
theorem DiceAt.there {d : Addr} {H : Hp} (h : DiceAt K H d) : ∃ o, H d = some o := by
  obtain ⟨a, ns, p, m, r, hd, _⟩ := h
  exact ⟨_, hd⟩
theorem DiceAt.nf {d p : Addr} {H : Hp} (h : DiceAt K H d) (hp : H p = none) : p ≠ d := fun e => by
  obtain ⟨o, q⟩ := h.there
  rw [e, q] at hp
  cases hp
/-- the dice stand while another thing is written -/
theorem DiceAt.wr {d p : Addr} {H : Hp} {o : HO} (h : DiceAt K H d) (n : d ≠ p) (l : Loose H p) : DiceAt K (upd H p o) d := by
  obtain ⟨a, ns, q, m, r, hd, hS, x⟩ := h
  exact ⟨a, ns, q, m, r, by rw [upd_ne n]; exact hd, hS.upd l, x⟩
theorem DiceAt.nw {d p : Addr} {H : Hp} {o : HO} (h : DiceAt K H d) (hp : H p = none) : DiceAt K (upd H p o) d := h.wr (Ne.symm (h.nf hp)) (Loose.free hp)
def spPick (K : PySem.W.Frag) : Sp := fun vs H Q _ => ∃ (d l : Addr) (xs : List V), vs = [.ref d, .ref l] ∧ DiceAt K H d ∧ (∀ H', SameD d H H' → SqL K H' l xs) ∧ 0 < xs.length ∧ xs.length < 1000000 ∧
  ∀ (i : Nat) (x : V) (H' : Hp), xs[i]? = some x → DiceAt K H' d → SameD d H H' → Q x H'
end
end FL
/-! ## G2 -/
set_option Elab.async false
set_option linter.all false
set_option maxRecDepth 100000
set_option maxHeartbeats 4000000
namespace FL
open PySem L2
/-! ### grammars as plain data -/
inductive Kd where
  | non | word | int (lo hi : Int) | choice (ws : List Str)
def Kd.d : Kd → PyData
  | .non => .none
  | .word => .tuple [.str "word"]
  | .int lo hi => .tuple [.str "int", .int lo, .int hi]
  | .choice ws => .tuple [.str "choice", .tuple (ws.map PyData.str)]
def textB (cs s : Str) : Bool := decide (1 ≤ s.length) && (decide (s.length ≤ 12) && s.cps.toList.all fun c => decide (c ∈ cs.cps.toList))
abbrev abc : Str := "abcdefghijklmnopqrstuvwxyz"
abbrev habc : Str := "-abcdefghijklmnopqrstuvwxyz"
def KdOk : Kd → Prop
  | .non => True
  | .word => True
  | .int lo hi => -9999 ≤ lo ∧ lo ≤ hi ∧ hi ≤ 9999
  | .choice ws => 1 ≤ ws.length ∧ ws.length ≤ 8 ∧ (∀ x ∈ ws, textB abc x = true) ∧ ws.Nodup
inductive Cw where
  | needs | excludes | either
  deriving DecidableEq
def Cw.word : Cw → Str
  | .needs => "needs"
  | .excludes => "excludes"
  | .either => "either"
structure Cl where
  w : Cw
  a : Str
  b : Str
def Cl.d (c : Cl) : PyData := .tuple [.str c.w.word, .str c.a, .str c.b]
theorem Dts.strs {K : PySem.W.Frag} {H : Hp} : ∀ ws : List Str, Dts K H (ws.map V.str) (ws.map PyData.str)
  | [] => .nil
  | w :: ws => .cons (.str w) (Dts.strs ws)
theorem kind_words (j : Int) (h0 : 0 ≤ j) (h1 : j < 4) : ∃ ws : List Str, KdOk (.choice ws) ∧ cutV [.str "fast", .str "slow", .str "a", .str "abcdefghijkl"] none (some (1 + j)) = ws.map V.str := by
  have h : j = 0 ∨ j = 1 ∨ j = 2 ∨ j = 3 := by omega
  rcases h with rfl | rfl | rfl | rfl
  · exact ⟨["fast"], ⟨by decide, by decide, by decide +kernel, by decide +kernel⟩, rfl⟩
  · exact ⟨["fast", "slow"], ⟨by decide, by decide, by decide +kernel, by decide +kernel⟩, rfl⟩
  · exact ⟨["fast", "slow", "a"], ⟨by decide, by decide, by decide +kernel, by decide +kernel⟩, rfl⟩
  · exact ⟨["fast", "slow", "a", "abcdefghijkl"], ⟨by decide, by decide, by decide +kernel, by decide +kernel⟩, rfl⟩
structure TxB (mg : Str → Option Value) : Prop extends TxA mg where
  tuple : mg "tuple" = none
  list : mg "list" = none
  range : mg "range" = none
section
variable {P : Program} {w : World} {K : PySem.W.Frag} {mg : Str → Option Value} {base : Heap}
def spKind (K : PySem.W.Frag) : Sp := fun vs H Q _ => ∃ d : Addr, vs = [.ref d] ∧ DiceAt K H d ∧
  ∀ (k : Kd) (v : V) (H' : Hp), KdOk k → Dt K H' v k.d → DiceAt K H' d → SameD d H H' → Q v H'
theorem Dts.len {H : Hp} {vs : List V} {ds : List PyData} (h : Dts K H vs ds) : vs.length = ds.length := Paired.length h
theorem Dts.snoc {H : Hp} {vs : List V} {ds : List PyData} {v : V} {d : PyData} (h : Dts K H vs ds) (q : Dt K H v d) : Dts K H (vs ++ [v]) (ds ++ [d]) := Paired.snoc h q
theorem words_at (l1 l2 l3 l4 : Addr) (r : Int) (r0 : 0 ≤ r) (r1 : r < 8) {H : Hp} (h1 : H l1 = some (.lst [.str "needs"])) (h2 : H l2 = some (.lst [.str "needs", .str "excludes"])) (h3 : H l3 = some (.lst [.str "needs", .str "excludes", .str "either"])) (h4 : H l4 = some (.lst [.str "either"])) :
    ∃ (lw : Addr) (cw : List Cw), atI [V.ref l1, V.ref l2, V.ref l3, V.ref l4] (r / 2) = some (.ref lw) ∧ H lw = some (.lst (cw.map fun c => V.str c.word)) ∧ 0 < cw.length ∧ cw.length < 1000000 := by
  have h : r / 2 = 0 ∨ r / 2 = 1 ∨ r / 2 = 2 ∨ r / 2 = 3 := by omega
  rcases h with e | e | e | e <;> rw [e]
  · exact ⟨l1, [.needs], rfl, h1, by decide, by decide⟩
  · exact ⟨l2, [.needs, .excludes], rfl, h2, by decide, by decide⟩
  · exact ⟨l3, [.needs, .excludes, .either], rfl, h3, by decide, by decide⟩
  · exact ⟨l4, [.either], rfl, h4, by decide, by decide⟩
def spClauses (K : PySem.W.Frag) : Sp := fun vs H Q _ => ∃ (d ln : Addr) (names : List Str) (most : Int), vs = [.ref d, .ref ln, .int most] ∧ DiceAt K H d ∧ H ln = some (.lst (names.map V.str)) ∧ d ≠ ln ∧ 0 < names.length ∧ names.length < 1000000 ∧ 0 ≤ most ∧ most ≤ 1000 ∧
  ∀ (cs : List Cl) (v : V) (H' : Hp), (cs.length : Int) ≤ most → (∀ c ∈ cs, c.a ∈ names ∧ c.b ∈ names) → Dt K H' v (.tuple (cs.map Cl.d)) → DiceAt K H' d → SameD d H H' → Q v H'
end
end FL
/-! ## G3 -/
set_option Elab.async false
set_option linter.all false
set_option maxRecDepth 100000
set_option maxHeartbeats 4000000
namespace FL
open PySem L2
structure Opt where
  name : Str
  short : Str
  kind : Kd
def Opt.d (o : Opt) : PyData := .tuple [.str o.name, .str o.short, o.kind.d]
structure Gr where
  opts : List Opt
  lo : Int
  hi : Int
  cls : List Cl
def Gr.names (g : Gr) : List Str := g.opts.map Opt.name
def Gr.d (g : Gr) : PyData := .tuple [.tuple (g.opts.map Opt.d), .tuple [.int g.lo, .int g.hi], .tuple (g.cls.map Cl.d)]
def nameB (x : Str) : Bool := textB habc x && (!Txt.startswith x "-" && !Txt.endswith x "-")
structure GrOk (g : Gr) : Prop where
  n1 : 1 ≤ g.opts.length
  n12 : g.opts.length ≤ 12
  nm : ∀ o ∈ g.opts, nameB o.name = true
  sh : ∀ o ∈ g.opts, o.short = "" ∨ (o.short.length = 1 ∧ textB abc o.short = true)
  kd : ∀ o ∈ g.opts, KdOk o.kind
  nd : g.names.Nodup
  sd : ((g.opts.map Opt.short).filter fun x => decide (x ≠ ("" : Str))).Nodup
  p0 : 0 ≤ g.lo
  p1 : g.lo ≤ g.hi
  p9 : g.hi ≤ 9
  c60 : g.cls.length ≤ 60
  cn : ∀ c ∈ g.cls, c.a ∈ g.names ∧ c.b ∈ g.names
abbrev allNames : List Str := ["sign", "key", "raw", "a", "b-c", "quiet", "z", "longest-name", "x--y", "m", "key-file", "up"]
theorem allNames_ok : ∀ x ∈ allNames, nameB x = true := by decide +kernel
theorem allNames_nd : allNames.Nodup := by decide +kernel
abbrev twelve : Str := "abcdefghijkl"
theorem shorts_ok : ∀ x ∈ signs twelve, x ≠ "" ∧ x.length = 1 ∧ textB abc x = true := by decide +kernel
theorem shorts_nd : (signs twelve).Nodup := by decide +kernel
theorem map_eraseIdx' {α β : Type} (f : α → β) : ∀ (l : List α) (j : Nat), (l.map f).eraseIdx j = (l.eraseIdx j).map f
  | [], _ => rfl
  | _ :: _, 0 => rfl
  | a :: l, j + 1 => congrArg (f a :: ·) (map_eraseIdx' f l j)
theorem perm_eraseIdx {α : Type} : ∀ (l : List α) (j : Nat) (h : j < l.length), (l[j] :: l.eraseIdx j).Perm l
  | [], _, h => nomatch h
  | _ :: _, 0, _ => .refl _
  | a :: l, j + 1, h => (List.Perm.swap a _ _).trans ((perm_eraseIdx l j (Nat.lt_of_succ_lt_succ h)).cons a)
theorem take_more' {α : Type} : ∀ {l : List α} {i : Nat} {x : α}, l[i]? = some x → l.take (i + 1) = l.take i ++ [x]
  | [], _, _, h => nomatch h
  | a :: l, 0, x, h => by
    cases (Option.some.inj h : a = x)
    rfl
  | a :: l, i + 1, x, h => congrArg (a :: ·) (take_more' (l := l) (i := i) h)
theorem snoc_of {α : Type} : ∀ {l : List α}, 0 < l.length → ∃ a z, l = a ++ [z]
  | [], h => nomatch h
  | [z], _ => ⟨[], z, rfl⟩
  | x :: y :: l, _ => by
    obtain ⟨a, z, e⟩ := snoc_of (l := y :: l) (Nat.succ_pos _)
    exact ⟨x :: a, z, by rw [e] <;> rfl⟩
theorem seqIx {j n : Nat} (h : j < n) : seqIndex? (j : Int) n = some j := by
  have e : ixN n (j : Int) = some j := by
    unfold ixN
    rw [if_pos (Int.natCast_nonneg j), if_pos (by omega)] <;> rfl
  exact (ixN_seq e).1
section
variable {P : Program} {w : World} {K : PySem.W.Frag} {mg : Str → Option Value} {base : Heap}
def spGrammarN (K : PySem.W.Frag) : Sp := fun vs H Q _ => ∃ (d : Addr) (most mc : Int), vs = [.ref d, .int most, .int mc] ∧ DiceAt K H d ∧ 1 ≤ most ∧ most ≤ 12 ∧ 0 ≤ mc ∧ mc ≤ 60 ∧
  ∀ (g : Gr) (v : V) (H' : Hp), GrOk g → (∀ n ∈ g.names, n ∈ allNames) → (g.opts.length : Int) ≤ most → (g.cls.length : Int) ≤ mc → Dt K H' v g.d → DiceAt K H' d → SameD d H H' → Q v H'
def spGrammar (K : PySem.W.Frag) : Sp := fun vs H Q _ => ∃ (d : Addr) (most mc : Int), vs = [.ref d, .int most, .int mc] ∧ DiceAt K H d ∧ 1 ≤ most ∧ most ≤ 12 ∧ 0 ≤ mc ∧ mc ≤ 60 ∧
  ∀ (g : Gr) (v : V) (H' : Hp), GrOk g → (g.opts.length : Int) ≤ most → (g.cls.length : Int) ≤ mc → Dt K H' v g.d → DiceAt K H' d → SameD d H H' → Q v H'
end
end FL
/-! ## P1 -/
set_option Elab.async false
set_option linter.all false
set_option maxRecDepth 100000
set_option maxHeartbeats 4000000
namespace FL
open PySem L2 GxR
/-! ### the program's own constants -/
def GI (mg : Str → Option Value) (x : Str) (i : Int) : Prop := ∃ t, mg x = some (.int i t)
def GS (mg : Str → Option Value) (x : Str) (z : Str) : Prop := ∃ t, mg x = some (.str z t)
theorem pe_gi {X : Cx} {x : Str} {i : Int} {pos : Pos} (h : GI X.mg x i) (hg : Gl X x := by rfl) (hd : (x == ("__debug__" : Str)) = false := by decide) : PE X (.Name x pos) (tC (.int i)) := by
  obtain ⟨t, e⟩ := h
  exact pe_glob hg e ⟨t, rfl⟩ hd
theorem pe_gs {X : Cx} {x z : Str} {pos : Pos} (h : GS X.mg x z) (hg : Gl X x := by rfl) (hd : (x == ("__debug__" : Str)) = false := by decide) : PE X (.Name x pos) (tC (.str z)) := by
  obtain ⟨t, e⟩ := h
  exact pe_glob hg e ⟨t, rfl⟩ hd
structure TxV (mg : Str → Option Value) : Prop extends TxB mg where
  isinstance : mg "isinstance" = none
  str : mg "str" = none
  bool : mg "bool" = none
  all : mg "all" = none
  set : mg "set" = none
  enumerate : mg "enumerate" = none
/-- what the kinds of values ask -/
structure TxK (mg : Str → Option Value) : Prop extends TxV mg where
  cMOST_LETTERS : GI mg "MOST_LETTERS" 12
  cMOST_CHOICES : GI mg "MOST_CHOICES" 8
  cLOWEST_BOUND : GI mg "LOWEST_BOUND" (-9999)
  cHIGHEST_BOUND : GI mg "HIGHEST_BOUND" 9999
  cLETTERS : GS mg "LETTERS" abc
structure TxP (mg : Str → Option Value) : Prop extends TxK mg where
  cMOST_OPTIONS : GI mg "MOST_OPTIONS" 12
  cMOST_POSITIONALS : GI mg "MOST_POSITIONALS" 9
  cMOST_CLAUSES : GI mg "MOST_CLAUSES" 60
  cNAME_CHARACTERS : GS mg "NAME_CHARACTERS" habc
instance {mg : Str → Option Value} : Coe (TxP mg) (TxK mg) := ⟨TxP.toTxK⟩
instance {mg : Str → Option Value} : Coe (TxP mg) (TxV mg) := ⟨fun T => T.toTxK.toTxV⟩
instance {mg : Str → Option Value} : Coe (TxK mg) (TxV mg) := ⟨TxK.toTxV⟩
/-! ### kinds of data -/
def tyN : PyData → String
  | .none => "NoneType"
  | .bool _ => "bool"
  | .int _ => "int"
  | .str _ => "str"
  | .tuple _ => "tuple"
  | _ => "list"
theorem Dt.ty {K : PySem.W.Frag} {H : Hp} : ∀ {v : V} {d : PyData}, Dt K H v d → TyX K H v (.type (tyN d))
  | _, _, .non => .base .non
  | _, _, .bl b => .base (.bl b)
  | _, _, .int i => .base (.int i)
  | _, _, .str x => .base (.str x)
  | _, _, .tup s _ => by
    rcases s with (s | ⟨o, s⟩) | ⟨o, its, n, e, c, _⟩
    · exact .base (.tup s)
    · exact .fTuple s
    · exact .kTuple e c
def isTupB : PyData → Int → Bool
  | .tuple ds, n => decide ((ds.length : Int) = n)
  | _, _ => false
def numB : PyData → Int → Int → Bool
  | .int i, lo, hi => decide (lo ≤ i) && decide (i ≤ hi)
  | _, _, _ => false
def isTu : PyData → Bool
  | .tuple _ => true
  | _ => false
def isIn : PyData → Bool
  | .int _ => true
  | .bool _ => true
  | _ => false
def isBo : PyData → Bool
  | .bool _ => true
  | _ => false
def isSt : PyData → Bool
  | .str _ => true
  | _ => false
theorem isi_tuple {K : PySem.W.Frag} : ∀ d : PyData, PySem.W.kitOne K (.type (tyN d)) (.type "tuple") = some (isTu d)
  | .none => kit_ty (show kitB "NoneType" "tuple" = some false by decide +kernel)
  | .bool _ => kit_ty (show kitB "bool" "tuple" = some false by decide +kernel)
  | .int _ => kit_ty (show kitB "int" "tuple" = some false by decide +kernel)
  | .str _ => kit_ty (show kitB "str" "tuple" = some false by decide +kernel)
  | .list _ => kit_ty (show kitB "list" "tuple" = some false by decide +kernel)
  | .tuple _ => kit_ty (show kitB "tuple" "tuple" = some true by decide +kernel)
  | .dict _ => kit_ty (show kitB "list" "tuple" = some false by decide +kernel)
theorem isi_int {K : PySem.W.Frag} : ∀ d : PyData, PySem.W.kitOne K (.type (tyN d)) (.type "int") = some (isIn d)
  | .none => kit_ty (show kitB "NoneType" "int" = some false by decide +kernel)
  | .bool _ => kit_ty (show kitB "bool" "int" = some true by decide +kernel)
  | .int _ => kit_ty (show kitB "int" "int" = some true by decide +kernel)
  | .str _ => kit_ty (show kitB "str" "int" = some false by decide +kernel)
  | .list _ => kit_ty (show kitB "list" "int" = some false by decide +kernel)
  | .tuple _ => kit_ty (show kitB "tuple" "int" = some false by decide +kernel)
  | .dict _ => kit_ty (show kitB "list" "int" = some false by decide +kernel)
theorem isi_bool {K : PySem.W.Frag} : ∀ d : PyData, PySem.W.kitOne K (.type (tyN d)) (.type "bool") = some (isBo d)
  | .none => kit_ty (show kitB "NoneType" "bool" = some false by decide +kernel)
  | .bool _ => kit_ty (show kitB "bool" "bool" = some true by decide +kernel)
  | .int _ => kit_ty (show kitB "int" "bool" = some false by decide +kernel)
  | .str _ => kit_ty (show kitB "str" "bool" = some false by decide +kernel)
  | .list _ => kit_ty (show kitB "list" "bool" = some false by decide +kernel)
  | .tuple _ => kit_ty (show kitB "tuple" "bool" = some false by decide +kernel)
  | .dict _ => kit_ty (show kitB "list" "bool" = some false by decide +kernel)
theorem isi_str {K : PySem.W.Frag} : ∀ d : PyData, PySem.W.kitOne K (.type (tyN d)) (.type "str") = some (isSt d)
  | .none => kit_ty (show kitB "NoneType" "str" = some false by decide +kernel)
  | .bool _ => kit_ty (show kitB "bool" "str" = some false by decide +kernel)
  | .int _ => kit_ty (show kitB "int" "str" = some false by decide +kernel)
  | .str _ => kit_ty (show kitB "str" "str" = some true by decide +kernel)
  | .list _ => kit_ty (show kitB "list" "str" = some false by decide +kernel)
  | .tuple _ => kit_ty (show kitB "tuple" "str" = some false by decide +kernel)
  | .dict _ => kit_ty (show kitB "list" "str" = some false by decide +kernel)
section
variable {P : Program} {w : World} {K : PySem.W.Frag} {mg : Str → Option Value} {base : Heap}
def spIsTup (K : PySem.W.Frag) : Sp := fun vs H Q _ => ∃ (v : V) (d : PyData) (n : Int), vs = [v, .int n] ∧ Dt K H v d ∧ Q (.bl (isTupB d n)) H
def spNum (K : PySem.W.Frag) : Sp := fun vs H Q _ => ∃ (v : V) (d : PyData) (lo hi : Int), vs = [v, .int lo, .int hi] ∧ Dt K H v d ∧ Q (.bl (numB d lo hi)) H
def spBounds (K : PySem.W.Frag) : Sp := fun vs H Q _ => ∃ (a b : V) (d e : PyData), vs = [a, b] ∧ Dt K H a d ∧ Dt K H b e ∧ Q (.bl (numB d (-9999) 9999 && (match d with | .int lo => numB e lo 9999 | _ => false))) H
end
end FL
/-! ## H1 -/
set_option Elab.async false
set_option linter.all false
set_option maxRecDepth 100000
set_option maxHeartbeats 0
namespace FL
open PySem L2 GxR
def dD (x : Str) (st : Stmt) : He.DefD := ⟨(x, none), x, x, defArgs st, defBody st, defScope st, [], []⟩
def fn0 : List He.DefD := [dD "split_line" (top 8), dD "quote" (top 9), dD "join_line" (top 10), dD "check_line" (top 11), dD "check_tokens" (top 12), dD "is_token" (top 13), dD "index_behind_blanks" (top 14), dD "read_token" (top 15), dD "read_part" (top 16), dD "read_quoted" (top 17), dD "shortest_text" (top 18), dD "_law_taken" (top 20), dD "_law_alike" (top 21), dD "_law_signs" (top 22), dD "_law_word" (top 23), dD "_law_ways" (top 24), dD "law" (top 25), ⟨("LineError", some "__init__"), "__init__", "LineError.__init__", defArgs (meth 2 0), defBody (meth 2 0), defScope (meth 2 0), [], []⟩]
def fn : List He.DefD := fn0
def fa0 : List He.Fa := [.glo "split_line", .glo "quote", .glo "join_line", .glo "check_line", .glo "check_tokens", .glo "is_token", .glo "index_behind_blanks", .glo "read_token", .glo "read_part", .glo "read_quoted", .glo "shortest_text", .glo "_law_taken", .glo "_law_alike", .glo "_law_signs", .glo "_law_word", .glo "_law_ways", .glo "law", .free "len", .free "int", .free "tuple"]
def fa1 : List He.Fa := [.free "list", .free "range", .free "isinstance", .free "str", .free "bool", .free "all", .free "set", .free "enumerate", .free "sorted", .free "min", .free "reversed", .free "zip", .free "any", .int "MOST_CHARACTERS" 200, .str "LINE_CHARACTERS" (" !\"#$&'()*+,-./0123456789:;<=>?@ABCDEFGHIJKLMNOPQRSTUVWXYZ[\\]^_`abcdefghijklmnopqrstuvwxyz{|}~" : Str), .str "SPECIAL_CHARACTERS" (" \"'\\" : Str)]
def fa : List He.Fa := fa0 ++ (fa1)
def ts : List He.Tab := []
def tf : List He.Defn := [("shortest_text", none), ("is_token", none)]
def exB (K : PySem.W.Frag) : Bool := (erIB K "LineError" ["index"] && decide ((tf.map fun p => (He.cT K p).2).Nodup))
abbrev RL : PySem.W.OpenLaw := PySem.Challenge.rw_flagclause_k42_shortest_quoting
abbrev RR : PySem.W.OpenRow := PySem.W.OpenLaw.row RL
abbrev hkX : PySem.W.Hook := He.hookX 5 fa fn ts tf exB
def obX (s : PySem.W.SharedT) : He.AlX := He.obsX 5 fa fn ts tf exB (HandSHeadRun.getT s)
theorem obX_eq (s : PySem.W.SharedT) : obX s = hkX.obs s.abs := He.obsX_eq (HandSHeadRun.getT_eq s)
def loose0 : List Str := [("__name__" : Str), ("FlagclauseError" : Str), ("LineError" : Str), ("InvalidToken" : Str), ("LINE_CHARACTERS" : Str), ("SPECIAL_CHARACTERS" : Str), ("MOST_CHARACTERS" : Str), ("split_line" : Str), ("quote" : Str), ("join_line" : Str), ("check_line" : Str), ("check_tokens" : Str), ("is_token" : Str), ("index_behind_blanks" : Str), ("read_token" : Str), ("read_part" : Str), ("read_quoted" : Str), ("shortest_text" : Str), ("_law_taken" : Str), ("_law_alike" : Str)]
def loose1 : List Str := [("_law_signs" : Str), ("_law_word" : Str), ("_law_ways" : Str)]
def loose : List Str := loose0 ++ (loose1)
theorem run0 (w : World) : HandSHeadRun.RunEq RR (PySem.W.view RR.prog [25]) hkX obX 6000 loose (w.withFollow "special-get-raises" false) := by
  intro os
  kernel_rfl
theorem run1 (w : World) : HandSHeadRun.RunEq RR (PySem.W.view RR.prog [25]) hkX obX 6000 loose (w.withFollow "special-get-raises" true) := by
  intro os
  kernel_rfl
theorem runX (w : World) : HandSHeadRun.RunEq RR (PySem.W.view RR.prog [25]) hkX obX 6000 loose w :=
  PySem.W.byRow2 "special-get-raises" (P := fun w => HandSHeadRun.RunEq RR (PySem.W.view RR.prog [25]) hkX obX 6000 loose w) run0 run1 w
end FL
/-! ## P2 -/
set_option Elab.async false
set_option linter.all false
set_option maxRecDepth 100000
set_option maxHeartbeats 4000000
namespace FL
open PySem L2 GxR
/-- a def whose code object is at c -/
def DnC (K : PySem.W.Frag) (mg : Str → Option Value) (x : Str) (st : Stmt) (ps : List Str) (c : Addr) : Prop :=
  ∃ f fd, Fun K x x st f fd ∧ fd.code = .ref c ∧ mg x = some (.ref f) ∧ Binds K fd ps []
section
variable {P : Program} {w : World} {K : PySem.W.Frag} {mg : Str → Option Value} {base : Heap}
theorem DnC.ok {x : Str} {st : Stmt} {N ps : List Str} {k : Nat} {sp : Sp} {c : Addr} (D : DnC K mg x st ps c) (S : FnScope N ps (defScope st)) (len : ∀ vs H Q E, sp vs H Q E → vs.length = ps.length)
    (hbody : ∀ (f : Addr) (A : Around) (outer : List Env) (s : Shared) (H : Hp) (vs : List V) (Q : VK) (E : XK), Room k (A.deeper (PyProof.Rows.envOfC x (defScope st) s.heap.objs.size f (.ref c))) → sp vs H Q E →
      ∃ t, PSs (cxOf CX0 P w K mg base N x (defScope st) f (.ref c) A outer s H E).nox (defBody st) t ∧ t { nx := fun _ H' => Q .non H', rt := Q } (start N vs) H) : Ok P w K mg base CX0 (k + 1) x ps sp := by
  obtain ⟨f, fd, F, hc, g, b⟩ := D
  have kp := F.kp
  obtain ⟨oc, od, kV, doc, pm, an, cdv, ct, osl, rfl, lk, hcd⟩ := F.ex
  have e : cdv = .ref c := hc
  subst e
  refine ⟨f, _, fn_of lk hcd S len fun A outer s H vs Q E hr hsp => ?_, g, kp, b⟩
  obtain ⟨t, h, q⟩ := hbody f A outer s H vs Q E hr hsp
  exact ⟨t, h.nox, q⟩
/-- a text of letters; Ps: the tables of code objects that may grow -/
def txtD (cs : Str) : PyData → Bool
  | .str z => textB cs z
  | _ => false
def shortD : PyData → Prop
  | .str z => z.length ≤ 1000
  | _ => True
def spText (K : PySem.W.Frag) (Ps : List Addr) : Sp := fun vs H Q _ => ∃ (v : V) (d : PyData) (cs : Str), vs = [v, .str cs] ∧ Dt K H v d ∧ shortD d ∧ Tb Ps H ∧ ∀ H', Ex Ps H H' → Q (.bl (txtD cs d)) H'
end
end FL
/-! ## L3 -/
set_option Elab.async false
set_option linter.all false
set_option maxRecDepth 100000
set_option maxHeartbeats 4000000
/-! set(ts) of a tuple of texts, any of them twice, and its len -/
namespace FL
open PySem L2 PySem.Spec PyProof.Rows
/-- how many different texts -/
def dcnt : List Str → Nat
  | [] => 0
  | x :: r => if r.any (· == x) then dcnt r else dcnt r + 1
theorem dcnt_le : ∀ l : List Str, dcnt l ≤ l.length
  | [] => Nat.le_refl _
  | x :: r => by
    have := dcnt_le r
    unfold dcnt
    rw [List.length_cons]
    split <;> omega
theorem any_eq (l : List Str) (x : Str) : l.any (· == x) = decide (x ∈ l) := by
  rw [Bool.eq_iff_iff, List.any_eq_true, decide_eq_true_eq]
  exact ⟨fun ⟨y, h, e⟩ => eq_of_beq e ▸ h, fun h => ⟨x, h, beq_self_eq_true x⟩⟩
theorem dcnt_full : ∀ l : List Str, dcnt l = l.length ↔ l.Nodup
  | [] => by simp [dcnt]
  | x :: r => by
    have := dcnt_le r
    have ih := dcnt_full r
    unfold dcnt
    rw [List.nodup_cons, List.length_cons, any_eq]
    by_cases h : x ∈ r
    · rw [decide_eq_true h, if_pos rfl]
      exact ⟨fun e => absurd e (by omega), fun e => absurd h e.1⟩
    · rw [decide_eq_false h, if_neg (by decide), ← ih]
      exact ⟨fun e => ⟨h, by omega⟩, fun e => by rw [e.2]⟩
section
variable {prog : Program} {w : World} {A : Around} {E : Value → Shared → Prop} {s : Shared}
abbrev EmpS (led : Bool) : Obj := { cls := .type "set", dict := none, data := .set #[] 0 (.fresh 0 0 led) }
/-- the texts of ys are what the set holds -/
def Holds (prog : Program) (w : World) (h : Heap) (S : Addr) (ys : List Str) : Prop := h.SetOf (PySem.strKind prog w) S (fun k => ys.any (· == k)) (dcnt ys)
theorem Holds.keep {h h' : Heap} {S : Addr} {ys : List Str} (H : Holds prog w h S ys) (e : ∀ o, h.get? S = some o → h'.get? S = some o) : Holds prog w h' S ys := by
  obtain ⟨o, es, ep, tb, ho, r⟩ := H
  exact ⟨o, es, ep, tb, e _ ho, r⟩
theorem loopTxt {R : Result → Shared → Prop} {I S : Addr} {fp wr : List Addr} {G : Array GenState → Array GenState → Prop} {n : Nat} {P : Nat → Value → Prop} {St : Nat → Shared → Prop}
    (W : WalksS prog w A.in1 I fp wr G n P St) (out : S ∉ fp) (xs : List Str) (room : n + 1 < scanBound) (val : ∀ i v, P i v → ∃ x t, xs[i]? = some x ∧ v = .str x t) :
    ∀ (k i : Nat) (z : Shared), i + k = n → St i z → Holds prog w z.heap S (xs.take i).reverse → (∀ s1, Moved (S :: wr) G z s1 → Holds prog w s1.heap S (xs.take n).reverse → R (.ok (.ret .none)) s1) →
      codeAny (model prog w) A (.builtin "set.update.loop" ⟨[.ref S, .ref I], []⟩) R z := by
  have up : ∀ b, b ∈ wr → b ∈ S :: wr := fun b => List.mem_cons_of_mem S
  have nw : S ∉ wr := out ∘ W.sub S
  intro k
  induction k with
  | zero =>
    intro i z e st hz q
    obtain rfl : i = n := e
    refine codeAny_builtin PyProof.Rows.F.entry_set_update_loop ?_
    rw [Around.under_plainId PyProof.Rows.F.plain_set_update_loop _]
    exact wpAny_bind (m := pyNext (.ref I)) (W.done z _ _ st fun s1 m => wpAny_pure (q s1 (m.mono up) (hz.keep (m.heap S · nw))))
  | succ k ih =>
    intro i z e st hz q
    refine codeAny_builtin PyProof.Rows.F.entry_set_update_loop ?_
    rw [Around.under_plainId PyProof.Rows.F.plain_set_update_loop _]
    refine wpAny_bind (m := pyNext (.ref I)) (W.item i z _ _ (by omega) st fun v s1 hv st1 m => ?_)
    obtain ⟨x, t, hx, rfl⟩ := val i v hv
    have hz1 : Holds prog w s1.heap S (xs.take i).reverse := hz.keep (m.heap S · nw)
    refine wpAny_bind (m := holding [Value.str x t] (setAdd S (.str x t))) (wpAny_holding ?_)
    unfold setAdd
    refine wpAny_holding (wpAny_bind ((PySem.strKind prog w).pyHash (k := x) (strKind_is _ _ _ _) ?_))
    have le := dcnt_le (xs.take i).reverse
    rw [List.length_reverse, List.length_take] at le
    refine wpAny_setAddHashed_of (knd := PySem.strKind prog w) (s := { s1 with toks := s1.toks + 1 }) (strKind_is _ _ _ _) rfl hz1 (by omega) fun h2 sb hz2 => ?_
    have nx : (xs.take (i + 1)).reverse = x :: (xs.take i).reverse := by rw [take_more' hx, List.reverse_append]; rfl
    have hz3 : Holds prog w h2 S (xs.take (i + 1)).reverse := by
      rw [nx]
      refine SetOf_congr hz2 (fun y => ?_) rfl
      rw [List.any_cons, Bool.or_comm]
      congr 1
      rw [Bool.eq_iff_iff, decide_eq_true_eq, beq_iff_eq]
      exact eq_comm
    refine wpAny_pure ⟨plainId_quiet PyProof.Rows.F.plain_set_update_loop _, ih (i + 1) _ (by omega) (W.frame _ s1 _ _ st1 (Nat.le_succ _) fun b hb o e => ?_) hz3 fun s2 m2 => q s2 ?_⟩
    · exact (sb.2 b fun c : b = S => out (c ▸ hb)) ▸ e
    · refine Moved.trans W.gtrans ((m.mono up).then_heap (Nat.le_succ _) fun b o hb e => ?_) m2
      exact (sb.2 b fun c : b = S => hb (c ▸ List.mem_cons_self)) ▸ e

set_option maxHeartbeats 8000000 in
/-- set(t), t a tuple of texts -/
theorem setTxt {p : Addr} {its : Array Value} {xs : List Str} {Q : Value → Shared → Prop} (calm : A.handled = none) (tp : s.heap.IsTuple p its) (are : StrsAre its.toList xs) (room : its.size + 1 < scanBound)
    (q : ∀ h' tk, Holds prog w h' s.heap.objs.size xs.reverse → (∀ b o, s.heap.get? b = some o → h'.get? b = some o) → Q (.ref s.heap.objs.size) { s with heap := h', toks := tk }) :
    wpAny (model prog w) A (call (.type "set") [.ref p]) Q E s := by
  have len : its.size = xs.length := by rw [← StrsAre.len_eq are, Array.length_toList]
  have ⟨_, _, mro⟩ := PySem.F.called_set.mro
  have made := PySem.F.called_set.made
  have cre := PySem.F.called_set.canCreate
  have nt := PySem.F.called_set.notType
  have sub := PySem.F.called_set.sub
  have tc := PySem.F.typeCall_set_1 (.ref p)
  refine wpAny_call (codeAny_of_tree ?_)
  change wpAny _ _ (callAny (.type "set") _) _ _ _
  refine wpAny_pure ⟨Code.quiet_builtin _ (by decide +kernel), codeAny_builtin PySem.F.entry_type_call ?_⟩
  rw [Around.under_plain (weight_type_call_type "set" [.ref p] []) rfl]
  repeat (any_goals (first | assumption | wp_step))
  refine codeAny_mono (code_set_new_1 (.ref p) (E := E) (Q₁ := fun v z => ∃ led, v = .ref s.heap.objs.size ∧ z = { s with heap := s.heap.push (EmpS led) }) fun led => ⟨led, rfl, rfl⟩) fun r z hr => ?_
  match r, hr with
  | .error _, hr => exact hr
  | .ok (.ret _), ⟨led, e1, e2⟩ =>
    subst e1
    subst e2
    have at0 : (s.heap.push (EmpS led)).get? s.heap.objs.size = some (EmpS led) := Heap.get?_push_size _ rfl
    have ty : Shared.TypeIs { s with heap := s.heap.push (EmpS led) } (.ref s.heap.objs.size) "set" := ⟨_, at0, rfl⟩
    have ilk := PySem.F.called_set.init.lookup
    have ibd := PySem.F.called_set.init.bind (.ref s.heap.objs.size)
    repeat (any_goals (first | assumption | wp_step))
    refine codeAny_mono (codeAny_call_builtin (R := wants (fun v z => v = .none ∧ ∃ h' tk, z = { s with heap := h', toks := tk } ∧ Holds prog w h' s.heap.objs.size xs.reverse ∧ (∀ b o, s.heap.get? b = some o → h'.get? b = some o)) E)
      PySem.F.called_set.init.plain PySem.F.entry_set_init (check_set_init_1 ty ?_)) fun r z hr => ?_
    · have ⟨⟨cl, di, da, sl⟩, op, c, n, d⟩ := tp
      simp only at c d
      subst c
      subst d
      have lt : p < s.heap.objs.size := Heap.lt_size op
      have op1 : (s.heap.push (EmpS led)).get? p = some _ := Heap.get?_push_of_some _ op
      have tp1 : (s.heap.push (EmpS led)).IsTuple p its := ⟨_, op1, rfl, n, rfl⟩
      have n1 := PySem.F.sub_tuple_set
      have n2 := PySem.F.sub_tuple_frozenset
      have n3 : (Value.type "tuple" == Value.type "dict") = false := by decide
      have far : p ≠ (s.heap.push (EmpS led)).objs.size := Nat.ne_of_lt (Heap.lt_size op1)
      unfold Builtin.«set.__init__» noKeywords Builtin.Frozenset.updateFrom
      generalize it : pyIter = f
      wp_walk
      subst it
      refine wpAny_pyIter_tuple tp1 (wpAny_bind (wpAny_runValue ?_))
      refine loopTxt ((Walks.tuple (by simp [calm]) _ p far its).toS) ?_ xs room (fun i v hv => ?_) its.size 0 _ (Nat.zero_add _) ⟨⟨_, Heap.get?_push_size _ rfl, rfl, rfl⟩, tp1.push _⟩ ?_ fun z m hz => ?_
      · rw [Heap.size_push]
        intro c
        rcases List.mem_cons.mp c with c | c
        · exact Nat.ne_of_lt (Nat.lt_succ_self _) c
        · exact Nat.ne_of_gt lt (List.mem_singleton.mp c)
      · have hi : i < xs.length := by
          rw [← len]
          exact (Array.getElem?_eq_some_iff.mp hv).1
        obtain ⟨t, e⟩ := SS.strs_at are i v (by rw [Array.getElem?_toList]; exact hv)
        rw [List.getD_eq_getElem?_getD, List.getElem?_eq_getElem hi] at e
        exact ⟨_, t, List.getElem?_eq_getElem hi, e⟩
      · exact SetOf_congr ((setObjOf_fresh (knd := PySem.strKind prog w) led).setOf (Heap.get?_push_of_some _ at0) (by decide)) (fun _ => rfl) rfl
      · have e1 : z.gens = s.gens := m.gens
        have e2 : z.drawn = s.drawn := m.drawn
        have e3 : z.os = s.os := m.os
        rw [len, List.take_length] at hz
        refine wpAny_pure (wpAny_pure ⟨rfl, z.heap, z.toks, ?_, hz, fun b o e => ?_⟩)
        · rw [← e1, ← e2, ← e3]
        · have hb := Heap.lt_size e
          refine m.heap b o ?_ (Heap.get?_push_of_some _ (Heap.get?_push_of_some _ e))
          rw [Heap.size_push]
          intro c
          rcases List.mem_cons.mp c with c | c
          · exact Nat.ne_of_lt hb c
          · exact Nat.ne_of_lt (Nat.lt_succ_of_lt hb) (List.mem_singleton.mp c)
    · match r, hr with
      | .error _, hr => exact hr
      | .ok (.ret _), ⟨e1, h', tk, e2, hz, kp⟩ =>
        subst e1
        subst e2
        repeat (any_goals (first | assumption | wp_step))
        exact q _ _ hz kp
end
end FL
/-! ## L4 -/
set_option Elab.async false
set_option linter.all false
set_option maxRecDepth 100000
set_option maxHeartbeats 4000000
/-! len(set(ts)), ts a tuple of texts -/
namespace FL
open PySem L2 PySem.Spec PyProof.Rows
variable {X : Cx}
def tLenTxt (K : PySem.W.Frag) (ta : TE) : TE := fun σ H Q => ta σ H fun v H1 => ∃ p, ∃ xs : List Str, v = .ref p ∧ SqT K H1 p (xs.map V.str) ∧ xs.length + 1 < scanBound ∧ Q (.int (dcnt xs.reverse : Nat)) H1
theorem pe_lenTxt {a : Expr} {ta : TE} {p1 p2 p3 p4 : Pos} {K : PySem.W.Frag} (eK : X.K = K) (hc : X.calm = true) (g1 : Gl X "len") (m1 : X.mg "len" = none) (g2 : Gl X "set") (m2 : X.mg "set" = none) (ha : PE X a ta)
    (one : starEach [a] X.env = (false, eval a X.env) :: starEach [] X.env := by rfl) : PE X (.Call (.Name "len" p1) [.Call (.Name "set" p2) [a] [] p3] [] p4) (tLenTxt K ta) := by
  subst eK
  refine ⟨fun pins s σ H Q I h => Call_ (ld_blt I g1 m1 boot_len (PyProof.Rows.callWith_builtin1 (PyProof.Rows.args_cons (Call_ (ld_blt I g2 m2 boot_set ?_)) rfl) rfl rfl))⟩
  refine PyProof.Rows.callWith_type1 (PyProof.Rows.args_cons (thn (ha.run pins s σ H _ I h) fun v z ⟨x, H1, J, rx, p, xs, e, tp, room, q⟩ => PyProof.Rows.args_nil ?_) one) one rfl
  subst e
  cases rx
  obtain ⟨its, rs, pl, _⟩ := J.tuple tp
  have len : its.length = xs.length := by rw [← rs.length, List.length_map]
  refine setTxt (J.ok.hd hc) pl (by simpa using strsAre_of rs) (by rw [List.size_toArray, len]; exact room) fun h' tk hz kp => PyProof.Rows.args_nil ?_
  have J2 : Inv X pins σ H1 { z with heap := h', toks := tk } := J.kept kp
  obtain ⟨o, _, _, _, ho, ex, d, _, _, _, f, n⟩ := hz
  have le := dcnt_le xs.reverse
  rw [List.length_reverse] at le
  have sm : dcnt xs.reverse < 4096 := Nat.lt_of_le_of_lt le (Nat.lt_of_succ_lt room)
  exact call_len_set ho ex d f (by rw [n]; omega) ⟨.int (dcnt xs.reverse : Nat), H1, J2.tok _, ⟨_, by rw [n]⟩, q⟩
end FL
/-! ## P3 -/
set_option Elab.async false
set_option linter.all false
set_option maxRecDepth 100000
set_option maxHeartbeats 4000000
namespace FL
open PySem L2 GxR
theorem Dts.get {K : PySem.W.Frag} {H : Hp} : ∀ {vs : List V} {ds : List PyData} {i : Nat} {v : V}, Dts K H vs ds → vs[i]? = some v → ∃ d, ds[i]? = some d ∧ Dt K H v d
  | _, _, _, _, .nil, h => nomatch h
  | _, _, 0, _, .cons a _, h => ⟨_, rfl, (Option.some.inj h) ▸ a⟩
  | _, _, i + 1, _, .cons _ p, h => Dts.get (i := i) p h
theorem Dts.unstr {K : PySem.W.Frag} {H : Hp} : ∀ {vs : List V} {ws : List Str}, Dts K H vs (ws.map PyData.str) → vs = ws.map V.str
  | _, [], .nil => rfl
  | _, _ :: _, .cons (.str _) p => congrArg _ (Dts.unstr p)
theorem Dts.kint {K : PySem.W.Frag} {H : Hp} {a : Str} {i j : Int} : ∀ {vs : List V}, Dts K H vs [.str a, .int i, .int j] → vs = [.str a, .int i, .int j]
  | _, .cons (.str _) (.cons (.int _) (.cons (.int _) .nil)) => rfl
theorem Dts.kchoice {K : PySem.W.Frag} {H : Hp} {a : Str} {d : PyData} : ∀ {vs : List V}, Dts K H vs [.str a, d] → ∃ v, vs = [.str a, v] ∧ Dt K H v d
  | _, .cons (.str _) (.cons h .nil) => ⟨_, rfl, h⟩
theorem Dt.dp {K : PySem.W.Frag} {H : Hp} : ∀ {d : PyData} {v : V}, Dt K H v d → Dp K H v d
  | _, _, .non => .non
  | _, _, .bl b => .bl b
  | _, _, .int i => .int i
  | _, _, .str x => .str x
  | _, _, .tup s p => .tup s (go p)
where go : ∀ {ds : List PyData} {vs : List V}, Paired (Dt K H) vs ds → DpAll K H vs ds
  | _, _, .nil => .nil
  | _, _, .cons a b => .cons a.dp (go b)
section
variable {P : Program} {w : World} {K : PySem.W.Frag} {mg : Str → Option Value} {base : Heap}
def spChoices (K : PySem.W.Frag) (Ps : List Addr) : Sp := fun vs H Q _ => ∃ (v : V) (ws : List Str), vs = [v] ∧ Dt K H v (.tuple (ws.map PyData.str)) ∧ KdOk (.choice ws) ∧ Tb Ps H ∧ ∀ H', Ex Ps H H' → Q (.bl true) H'
def spVKind (K : PySem.W.Frag) (Ps : List Addr) : Sp := fun vs H Q _ => ∃ (v : V) (kd : Kd), vs = [v] ∧ Dt K H v kd.d ∧ KdOk kd ∧ kd ≠ .non ∧ Tb Ps H ∧ ∀ H', Ex Ps H H' → Q (.bl true) H'
theorem textB_len {cs z : Str} (h : textB cs z = true) : z.length ≤ 1000 := by
  unfold textB at h
  rw [Bool.and_eq_true, Bool.and_eq_true, decide_eq_true_eq, decide_eq_true_eq] at h
  omega
def spKd (K : PySem.W.Frag) (Ps : List Addr) : Sp := fun vs H Q _ => ∃ (v : V) (kd : Kd), vs = [v] ∧ Dt K H v kd.d ∧ KdOk kd ∧ Tb Ps H ∧ ∀ H', Ex Ps H H' → Q (.bl true) H'
def spShort (K : PySem.W.Frag) (Ps : List Addr) : Sp := fun vs H Q _ => ∃ z : Str, vs = [.str z] ∧ (z = "" ∨ (z.length = 1 ∧ textB abc z = true)) ∧ Tb Ps H ∧ ∀ H', Ex Ps H H' → Q (.bl true) H'
def spOName (K : PySem.W.Frag) (Ps : List Addr) : Sp := fun vs H Q _ => ∃ z : Str, vs = [.str z] ∧ nameB z = true ∧ Tb Ps H ∧ ∀ H', Ex Ps H H' → Q (.bl true) H'
def spOption (K : PySem.W.Frag) (Ps : List Addr) : Sp := fun vs H Q _ => ∃ (v : V) (o : Opt), vs = [v] ∧ Dt K H v o.d ∧ nameB o.name = true ∧ (o.short = "" ∨ (o.short.length = 1 ∧ textB abc o.short = true)) ∧ KdOk o.kind ∧ Tb Ps H ∧ ∀ H', Ex Ps H H' → Q (.bl true) H'
theorem Dts.opt {K : PySem.W.Frag} {H : Hp} {a b : Str} {d : PyData} : ∀ {vs : List V}, Dts K H vs [.str a, .str b, d] → ∃ v, vs = [.str a, .str b, v] ∧ Dt K H v d
  | _, .cons (.str _) (.cons (.str _) (.cons h .nil)) => ⟨_, rfl, h⟩
end
end FL
/-! ## L5 -/
set_option Elab.async false
set_option linter.all false
set_option maxRecDepth 100000
set_option maxHeartbeats 4000000
/-! for i, x in enumerate(t), t a tuple -/
namespace FL
open PySem L2 PySem.Spec PyProof.Rows
set_option maxHeartbeats 4000000 in
/-- enumerate.__new__ of one argument that makes the iterator o -/
theorem newEnum {v : Value} {o : Obj} {G : Heap → Prop} (B : Begins v o G) :
    Meets (Builtin.«enumerate.__new__» ⟨[.type "enumerate", v], []⟩) (fun _ R s => G s.heap ∧ R (.ok (.ret (.ref (s.heap.push o).objs.size)))
      { s with heap := (s.heap.push o).push { cls := .type "enumerate", data := .fields #[.none, .bool false, .ref s.heap.objs.size, rawInt 0, .none, .none] } }) :=
  .of_wp fun prog w A R s q => by
    obtain ⟨h, g, d, tk, os⟩ := s
    obtain ⟨hg, q⟩ := q
    have su := sub_enumerate
    have go : ∀ {B' : Around} {E : Value → Shared → Prop} {Q : Value → Shared → Prop}, Q (.ref h.objs.size) ⟨h.push o, g, d, tk, os⟩ → wpAny (model prog w) B' (pyIter v) Q E ⟨h, g, d, tk, os⟩ := fun k => B.iter prog w _ _ ⟨h, g, d, tk, os⟩ _ hg k
    wp_walk using go
    refine wpAny_stack_any fun st => wpAny_pure ?_
    split
    · rename_i c _ _ _ _ _
      cases (c == Value.type "enumerate") <;> (wp_walk using go; exact ⟨_, rfl, q⟩)
    · wp_walk using go
      exact ⟨_, rfl, q⟩
theorem callEnum {prog : Program} {w : World} {A : Around} {E : Value → Shared → Prop} {s : Shared} {v : Value} {o : Obj} {G : Heap → Prop} {Q : Value → Shared → Prop} (B : Begins v o G) (hg : G s.heap)
    (q : ∀ h', IsEnum h' (s.heap.objs.size + 1) s.heap.objs.size 0 .none → h'.get? s.heap.objs.size = some o → (∀ b u, s.heap.get? b = some u → h'.get? b = some u) → Q (.ref (s.heap.objs.size + 1)) { s with heap := h' }) :
    wpAny (model prog w) A (call (.type "enumerate") [v]) Q E s := by
  have sz : (s.heap.push o).objs.size = s.heap.objs.size + 1 := Heap.size_push ..
  refine callType_new F.called_enumerate (by decide) (F.typeCall_enumerate_1 _) (F.newCall_enumerate_1 _) (fun obj => F.args_object_init_2 obj _) F.entry_enumerate_new (newEnum B) ⟨hg, ?_⟩
  have e : IsEnum ((s.heap.push o).push { cls := .type "enumerate", data := .fields #[.none, .bool false, .ref s.heap.objs.size, rawInt 0, .none, .none] }) (s.heap.push o).objs.size s.heap.objs.size 0 .none := Heap.get?_push_size _ rfl
  refine ⟨⟨_, e, rfl⟩, ?_⟩
  rw [sz] at e ⊢
  exact q _ e (Heap.get?_push_of_some _ (Heap.get?_push_size _ B.free)) fun b u z => Heap.get?_push_of_some _ (Heap.get?_push_of_some _ z)
/-- the tuple at a, each item in a new pair -/
def ItE (K : PySem.W.Frag) (a : Addr) : It :=
  ⟨fun i H => ∃ (xs : List V) (x : V), SqT K H a xs ∧ xs[i]? = some x, fun i H v H' => ∃ T x, v = .ref T ∧ H T = none ∧ H' = upd H T (.tup [.int (i : Nat), x]) ∧ ∀ xs, SqT K H a xs → xs[i]? = some x, fun i H => ∃ xs : List V, SqT K H a xs ∧ xs.length ≤ i⟩
theorem turnE {P : Program} {w : World} {K : PySem.W.Frag} {es : List Expr} {kk : Nat} {tp : Pos} (a e it : Addr) : Turn P w K (.Tuple es kk tp) (ItE K a) [e, it] e (fun i h => (∃ old, IsEnum h e it ((i : Nat) : Int) old) ∧ h.IsTupleIter it a i) where
  mem := List.mem_cons_self
  obj := fun i h st b hb => by
    obtain ⟨⟨_, he⟩, o, ho, _, hd⟩ := st
    rcases List.mem_cons.mp hb with z | z
    · exact z ▸ ⟨_, he, fun v q => nomatch q⟩
    · exact List.mem_singleton.mp z ▸ ⟨o, ho, fun v q => by rw [hd] at q; cases q⟩
  keep := fun i h h' st k => ⟨st.1.imp fun _ q => k e List.mem_cons_self _ q, st.2.at fun o q => k it (List.mem_cons_of_mem _ List.mem_cons_self) o q⟩
  item := by
    intro X hP hw hK hc i pins s σ H E I hf st hg
    subst hP hw hK
    obtain ⟨⟨old, he⟩, hit⟩ := st
    obtain ⟨xs, x, hq, hx⟩ := hg
    obtain ⟨its, rv, tup, _⟩ := I.tuple hq
    obtain ⟨u, hu, ru⟩ := rv.get hx
    have far : a ≠ it := fun z => by
      obtain ⟨o1, h1, c1, _⟩ := hit
      obtain ⟨o2, h2, c2, _⟩ := (show s.heap.IsTuple a its.toArray from tup)
      rw [z, h1] at h2
      cases h2
      rw [c1] at c2
      exact absurd c2 (by decide)
    have nei : e ≠ it := fun z => by
      obtain ⟨o1, h1, c1, _⟩ := hit
      rw [← z, show s.heap.get? e = _ from he] at h1
      cases h1
      exact absurd (show Value.type "enumerate" = Value.type "tuple_iterator" from c1) (by decide)
    have nea : e ≠ a := fun z => by
      obtain ⟨o2, h2, c2, _⟩ := (show s.heap.IsTuple a its.toArray from tup)
      rw [← z, show s.heap.get? e = _ from he] at h2
      cases h2
      exact absurd (show Value.type "enumerate" = Value.type "tuple" from c2) (by decide)
    have lt : i < its.toArray.size := by
      rw [List.size_toArray]
      exact (List.getElem?_eq_some_iff.mp hu).1
    have le : e < s.heap.objs.size := Heap.lt_size he
    have li : it < s.heap.objs.size := Heap.lt_size hit.choose_spec.1
    refine wpAny_pyNext_enum_itemD (Draws.tuple (by exact I.ok.hd hc) it a far its.toArray) he ⟨hit, tup⟩ lt nei ?_ fun y h1 tk hy ho st1 hT _ kp => ?_
    · intro z
      rcases List.mem_cons.mp z with z | z
      · exact nei z
      · exact nea (List.mem_singleton.mp z)
    have ey : y = u := by
      have : its[i]? = some y := by simpa using hy
      rw [hu] at this
      exact (Option.some.inj this).symm
    subst ey
    refine ⟨_, rfl, wpAny_letOwnedTupleGo_enum (s := { s with heap := h1, toks := tk + 1 }) ho fun h2 he2 sb => ?_⟩
    have at2 : h2.get? s.heap.objs.size = _ := (sb.2 _ (Nat.ne_of_gt le)).trans hT
    have ok : ObjOk X.prog X.w (upd H s.heap.objs.size (.tup [.int (i : Nat), x])) h2 s.heap.objs.size (.tup [.int (i : Nat), x]) :=
      ⟨by show 2 ≤ sizeLine; decide, [.int i tk, y], .cons ⟨_, rfl⟩ (.cons ru .nil), ⟨_, at2, rfl, _, rfl⟩⟩
    have I2 : Inv X pins σ (upd H s.heap.objs.size (.tup [.int (i : Nat), x])) { s with heap := h2, toks := tk + 1 } :=
      I.turnedNew (ch := [e, it]) (fun b ob hb q => (sb.2 b fun z => hb (z ▸ List.mem_cons_self)).trans (kp b ob (fun z => hb (z ▸ List.mem_cons_self)) (fun z => hb (z ▸ List.mem_cons_of_mem _ List.mem_cons_self)) q)) hf (Nat.le_refl _) ok
    refine ⟨.ref s.heap.objs.size, _, I2, rfl, ⟨_, x, rfl, I.hok.fresh (Nat.le_refl _), rfl, fun ys hy => by rw [I.tuple_inj hy hq]; exact hx⟩, ⟨⟨y, ?_⟩, st1.1.at fun o q => (sb.2 it nei.symm).trans q⟩, fun b hb => ?_⟩
    · rw [show ((i + 1 : Nat) : Int) = (i : Int) + 1 by omega]
      exact he2
    · have lb : b < s.heap.objs.size := by
        rcases List.mem_cons.mp hb with z | z
        · exact z ▸ le
        · exact List.mem_singleton.mp z ▸ li
      rw [upd_ne (Nat.ne_of_lt lb)]
      exact (hf b hb).1
  done := by
    intro X hP hw hK hc i pins s σ H E I hf st hg
    subst hP hw hK
    obtain ⟨⟨old, he⟩, hit⟩ := st
    obtain ⟨xs, hq, hx⟩ := hg
    obtain ⟨its, rv, tup, _⟩ := I.tuple hq
    obtain ⟨f0, f1, f2, f3, f4, f5⟩ := hf it (List.mem_cons_of_mem _ List.mem_cons_self)
    have out : its.toArray[i]? = none := Array.getElem?_eq_none (by rw [List.size_toArray, ← rv.length]; exact hx)
    have ty : s.TypeIs (.ref e) "enumerate" := ⟨_, he, rfl⟩
    unfold pyNext
    refine wpAny_bind (wpAny_attempt (wpAny_callSpecial?_slot (name := Str.ofString "__next__") ty F.slot_enumerate_next (wpAny_call_entry F.slot_enumerate_next ty F.entry_enumerate_next ?_ (F.args_enumerate_next_1 _))))
    change wpAny _ _ (field (.ref e) 2 >>= _) _ _ _
    refine wpAny_bind (wpAny_field he rfl (x := .ref it) rfl (wpAny_bind (wpAny_nextOf_tuple_end (I.ok.hd hc) hit (show s.heap.IsTuple a its.toArray from tup) out fun h1 z eb ⟨o, ho, co⟩ => ?_)))
    exact wpAny_bind (wpAny_isInstance (T := "StopIteration") (b := true) ⟨o, ho, co⟩ isSubtype_stop (wpAny_pure ⟨rfl, I.turned (t' := s.toks) (fun b ob hb q => eb b ob hb q) f0 f1 f3 f4 f5⟩))
  self := fun A i s Q E st h => wpAny_pyIter_enum st.1.choose_spec h
theorem walkE {K : PySem.W.Frag} {a : Addr} {xs : List V} : Walk (ItE K a) xs.length (fun H => SqT K H a xs) (YPair (fun i => some (.int (i : Nat))) (fun i => xs[i]?)) :=
  ⟨fun i _ hi q => ⟨xs, xs[i], q, by simp [hi]⟩, fun _ q => ⟨xs, q, Nat.le_refl _⟩, fun i H v H' _ q ⟨T, x, h1, h2, h3, h4⟩ => ⟨T, .int (i : Nat), x, h1, h2, h3, rfl, h4 xs q⟩⟩
def iEnumT (K : PySem.W.Frag) (ta : TA) : TI := fun σ H R => ta σ H fun vs H1 => ∃ a xs, vs = [.ref a] ∧ SqT K H1 a xs ∧ R (ItE K a) H1
theorem pi_enumT {X : Cx} {e : Expr} {ta : TA} {p pos tp : Pos} {es : List Expr} {kk : Nat} (hg : Gl X "enumerate") (hm : X.mg "enumerate" = none) (ha : PA X [e] ta) (one : starEach [e] X.env = [(false, eval e X.env)] := by rfl) :
    PI X (.Tuple es kk tp) (.Call (.Name "enumerate" p) [e] [] pos) (iEnumT X.K ta) := by
  refine ⟨fun pins s σ H R I h => Call_ (ld_blt I hg hm boot_enumerate (PyProof.Rows.callWith_type1 (thn (ha.run pos pins s σ H _ I h) fun us s1 ⟨vs, H1, J, r1, a, xs, ex, hq, q⟩ => ?_) one rfl))⟩
  subst ex
  obtain ⟨u, rfl, r⟩ := vals1 r1
  cases r
  obtain ⟨its, rv, tup, _⟩ := J.tuple hq
  refine callEnum (begins_tuple a its.toArray) tup fun h2 he ht kp => wpAny_pyIter_enum he ?_
  have J2 : Inv X pins σ H1 { s1 with heap := h2 } := J.kept (t' := s1.toks) kp
  refine ⟨s1.heap.objs.size + 1, [s1.heap.objs.size + 1, s1.heap.objs.size], _, _, H1, rfl, J2, turnE a (s1.heap.objs.size + 1) s1.heap.objs.size, ⟨⟨.none, he⟩, ⟨_, ht, rfl, rfl⟩⟩, fun b hb => ?_, q⟩
  have le : s1.heap.objs.size ≤ b := by
    rcases List.mem_cons.mp hb with z | z
    · exact z ▸ Nat.le_succ _
    · exact List.mem_singleton.mp z ▸ Nat.le_refl _
  exact J.fpOk le (J.hok.fresh le)
end FL
/-! ## P4 -/
set_option Elab.async false
set_option linter.all false
set_option maxRecDepth 100000
set_option maxHeartbeats 4000000
namespace FL
open PySem L2 GxR
theorem inV_str (x : Str) : ∀ ys : List Str, inV (.str x) (ys.map V.str) = decide (x ∈ ys)
  | [] => rfl
  | y :: ys => by
    have ih := inV_str x ys
    unfold inV at ih ⊢
    rw [List.map_cons, List.any_cons, ih]
    show ((y == x) || decide (x ∈ ys)) = _
    by_cases h : y = x
    · rw [h, beq_self_eq_true, Bool.true_or]
      exact (decide_eq_true List.mem_cons_self).symm
    · rw [beq_eq_false_iff_ne.mpr h, Bool.false_or]
      by_cases q : x ∈ ys
      · rw [decide_eq_true q, decide_eq_true (List.mem_cons_of_mem _ q)]
      · rw [decide_eq_false q, decide_eq_false]
        intro z
        rcases List.mem_cons.mp z with z | z
        · exact h z.symm
        · exact q z
def CwAt (K : PySem.W.Frag) (mg : Str → Option Value) : Prop := ∃ p, mg "CLAUSE_WORDS" = some (.ref p) ∧ ∀ H, SqT K H p ([("needs" : Str), "excludes", "either"].map V.str)
theorem Dts.cl {K : PySem.W.Frag} {H : Hp} {a b c : Str} : ∀ {vs : List V}, Dts K H vs [.str a, .str b, .str c] → vs = [.str a, .str b, .str c]
  | _, .cons (.str _) (.cons (.str _) (.cons (.str _) .nil)) => rfl
section
variable {P : Program} {w : World} {K : PySem.W.Frag} {mg : Str → Option Value} {base : Heap}
def spClause (K : PySem.W.Frag) : Sp := fun vs H Q _ => ∃ (v : V) (c : Cl) (n : Addr) (ns : List Str), vs = [v, .ref n] ∧ Dt K H v c.d ∧ SqL K H n (ns.map V.str) ∧ c.a ∈ ns ∧ c.b ∈ ns ∧ Q (.bl true) H
def spNamesOf (K : PySem.W.Frag) : Sp := fun vs H Q _ => ∃ (v : V) (os : List Opt), vs = [v] ∧ Dt K H v (.tuple (os.map Opt.d)) ∧ os.length ≤ 12 ∧ ∀ D, H D = none → Q (.ref D) (upd H D (.lst ((os.map Opt.name).map V.str)))
theorem Dts.at {K : PySem.W.Frag} {H : Hp} {α : Type} {f : α → PyData} {vs : List V} {os : List α} {i : Nat} {v : V} (h : Dts K H vs (os.map f)) (hv : vs[i]? = some v) : ∃ o, os[i]? = some o ∧ Dt K H v (f o) := by
  obtain ⟨d, hd, hv⟩ := h.get hv
  rw [List.getElem?_map] at hd
  cases q : os[i]? with
  | none => rw [q] at hd; cases hd
  | some o =>
    rw [q] at hd
    exact ⟨o, rfl, Option.some.inj hd ▸ hv⟩
def spPositionals (K : PySem.W.Frag) : Sp := fun vs H Q _ => ∃ (v : V) (lo hi : Int), vs = [v] ∧ Dt K H v (.tuple [.int lo, .int hi]) ∧ 0 ≤ lo ∧ lo ≤ hi ∧ hi ≤ 9 ∧ Q .non H
theorem Dts.int2 {K : PySem.W.Frag} {H : Hp} {i j : Int} : ∀ {vs : List V}, Dts K H vs [.int i, .int j] → vs = [.int i, .int j]
  | _, .cons (.int _) (.cons (.int _) .nil) => rfl
end
end FL
/-! ## P5 -/
set_option Elab.async false
set_option linter.all false
set_option maxRecDepth 100000
set_option maxHeartbeats 4000000
namespace FL
open PySem L2 GxR
theorem SqL.ex {K : PySem.W.Frag} {Ps : List Addr} {H H' : Hp} {p : Addr} {xs : List V} (t : Tb Ps H) (x : Ex Ps H H') (h : H p = some (.lst xs)) : SqL K H' p xs := SqL.of (x.lst t h)
section
variable {P : Program} {w : World} {K : PySem.W.Frag} {mg : Str → Option Value} {base : Heap}
def spCheckClauses (K : PySem.W.Frag) (Ps : List Addr) : Sp := fun vs H Q _ => ∃ (v : V) (cs : List Cl) (n : Addr) (ns : List Str), vs = [v, .ref n] ∧ Dt K H v (.tuple (cs.map Cl.d)) ∧ cs.length ≤ 60 ∧ H n = some (.lst (ns.map V.str)) ∧ (∀ c ∈ cs, c.a ∈ ns ∧ c.b ∈ ns) ∧ Tb Ps H ∧ ∀ H', Ex Ps H H' → Q .non H'
abbrev shortsOf (os : List Opt) : List Str := (os.map Opt.short).filter fun x => decide (x ≠ ("" : Str))
structure OptsOk (os : List Opt) : Prop where
  n1 : 1 ≤ os.length
  n12 : os.length ≤ 12
  nm : ∀ o ∈ os, nameB o.name = true
  sh : ∀ o ∈ os, o.short = "" ∨ (o.short.length = 1 ∧ textB abc o.short = true)
  kd : ∀ o ∈ os, KdOk o.kind
  nd : (os.map Opt.name).Nodup
  sd : (shortsOf os).Nodup
theorem GrOk.os {g : Gr} (h : GrOk g) : OptsOk g.opts := ⟨h.n1, h.n12, h.nm, h.sh, h.kd, h.nd, h.sd⟩
theorem nodup_at {xs : List Str} {i : Nat} {x : Str} (h : xs.Nodup) (hx : xs[i]? = some x) : x ∉ xs.take i := fun z => by
  have e : xs.take (i + 1) = xs.take i ++ [x] := take_more' hx
  have n : (xs.take (i + 1)).Nodup := h.sublist (List.take_sublist _ _)
  rw [e, List.nodup_append] at n
  exact n.2.2 x z x (List.mem_singleton_self x) rfl
theorem short_at {os : List Opt} {i : Nat} {o : Opt} (h : (shortsOf os).Nodup) (ho : os[i]? = some o) (n : o.short ≠ "") : o.short ∉ shortsOf (os.take i) := fun z => by
  have e : os.take (i + 1) = os.take i ++ [o] := take_more' ho
  have sub : (shortsOf (os.take (i + 1))).Sublist (shortsOf os) := ((List.take_sublist _ _).map _).filter _
  have nd := h.sublist sub
  unfold shortsOf at nd z
  rw [e, List.map_append, List.filter_append, List.nodup_append] at nd
  refine nd.2.2 o.short z o.short ?_ rfl
  show o.short ∈ List.filter _ [o.short]
  exact List.mem_filter.mpr ⟨List.mem_singleton_self _, decide_eq_true n⟩
theorem shorts_no (os : List Opt) : ("" : Str) ∉ shortsOf os := fun z => by
  have := (List.mem_filter.mp z).2
  exact absurd rfl (of_decide_eq_true this)
theorem shorts_len (os : List Opt) : (shortsOf os).length ≤ os.length := Nat.le_trans (List.length_filter_le _ _) (by rw [List.length_map] <;> exact Nat.le_refl _)
def spCheckOptions (K : PySem.W.Frag) (Ps : List Addr) : Sp := fun vs H Q _ => ∃ (v : V) (os : List Opt), vs = [v] ∧ Dt K H v (.tuple (os.map Opt.d)) ∧ OptsOk os ∧ Tb Ps H ∧ ∀ H', Ex Ps H H' → Q .non H'
theorem Dts.gr {K : PySem.W.Frag} {H : Hp} {d e f : PyData} : ∀ {vs : List V}, Dts K H vs [d, e, f] → ∃ a b c, vs = [a, b, c] ∧ Dt K H a d ∧ Dt K H b e ∧ Dt K H c f
  | _, .cons a (.cons b (.cons c .nil)) => ⟨_, _, _, rfl, a, b, c⟩
def spCheckGr (K : PySem.W.Frag) (Ps : List Addr) : Sp := fun vs H Q _ => ∃ (v : V) (g : Gr), vs = [v] ∧ Dt K H v g.d ∧ GrOk g ∧ Tb Ps H ∧ ∀ H', Ex Ps H H' → Q .non H'
def spOptNames (K : PySem.W.Frag) (Ps : List Addr) : Sp := fun vs H Q _ => ∃ (v : V) (g : Gr), vs = [v] ∧ Dt K H v g.d ∧ GrOk g ∧ Tb Ps H ∧ ∀ H1 l, Ex Ps H H1 → H1 l = none → Q (.ref l) (upd H1 l (.lst (g.names.map V.str)))
end
end FL
/-! ## L6 -/
set_option Elab.async false
set_option linter.all false
set_option maxRecDepth 100000
set_option maxHeartbeats 4000000
/-! dicts whose keys are pairs of a text and a truth -/
namespace FL
open PySem L2 PySem.Spec PyProof.Rows
abbrev Lit := Str × Bool
abbrev bI (b : Bool) : Int := if b = true then 1 else 0
def lk (l : Lit) : List Leaf := [.text l.1, .num (bI l.2)]
abbrev litV (l : Lit) : List V := [.str l.1, .bl l.2]
theorem bI_inj {a b : Bool} (h : bI a = bI b) : a = b := by cases a <;> cases b <;> first | rfl | (exact absurd h (by decide))
theorem lk_inj {a b : Lit} (h : lk a = lk b) : a = b := by
  unfold lk at h
  injection h with h1 h2
  injection h2 with h2 _
  injection h1 with h1
  injection h2 with h2
  exact Prod.ext h1 (bI_inj h2)
abbrev LKind (P : Program) (w : World) : HeapKind P w (List Leaf) := tupleKind (leafKind P w)
abbrev LEs := List (List Leaf × Addr × Value)
/-- the dict object at a, its entries known -/
def LdO (P : Program) (w : World) (a : Addr) (xs : LEs) : HO := .ext fun h => xs.length ≤ sizeLine ∧ (a == sysModules) = false ∧ ∃ o es ep, h.get? a = some o ∧ o.ExactDict ∧ o.data = .dict es ep ∧ es.toList = xs.map (entryOfKey (LKind P w)) ∧ (xs.map (·.1)).Nodup
abbrev LKT (K : PySem.W.Frag) (H : Hp) : List (Lit × V) → LEs → Prop := Paired fun p q => q.1 = lk p.1 ∧ SqT K H q.2.1 (litV p.1) ∧ RelV p.2 q.2.2
def Ld (P : Program) (w : World) (K : PySem.W.Frag) (H : Hp) (a : Addr) (kvs : List (Lit × V)) : Prop := ∃ xs, H a = some (LdO P w a xs) ∧ LKT K H kvs xs
section
variable {P : Program} {w : World} {K : PySem.W.Frag} {H H' : Hp} {a b : Addr} {kvs : List (Lit × V)} {xs : LEs}
theorem LKT.mono (t : TS K H H') (r : LKT K H kvs xs) : LKT K H' kvs xs := Paired.mapP r fun _ _ z => ⟨z.1, t _ _ z.2.1, z.2.2⟩
theorem Ld.keep (t : TS K H H') (e : H' a = H a) (d : Ld P w K H a kvs) : Ld P w K H' a kvs := by
  obtain ⟨xs, h, r⟩ := d
  exact ⟨xs, by rw [e]; exact h, r.mono t⟩
theorem Ld.loose (d : Ld P w K H a kvs) : Loose H a := fun u e => by
  obtain ⟨xs, h, _⟩ := d
  rw [h] at e
  cases e
  exact ⟨fun _ z => (by cases z), fun _ _ z => (by cases z)⟩
theorem atKey_hit {q : List Leaf × Addr × Value} {qs : LEs} {k : List Leaf} (e : q.1 = k) : atKey (q :: qs) k = some q.2 := by simp [atKey, List.find?_cons, e]
theorem atKey_miss {q : List Leaf × Addr × Value} {qs : LEs} {k : List Leaf} (e : ¬ q.1 = k) : atKey (q :: qs) k = atKey qs k := by simp [atKey, List.find?_cons, e]
theorem LKT.val (r : LKT K H kvs xs) (l : Lit) : RelO (valV kvs l) ((atKey xs (lk l)).map (·.2)) := by
  induction r with
  | nil => exact True.intro
  | @cons p q ps qs h t ih =>
    by_cases e : p.1 = l
    · rw [valV_pos e, atKey_hit (h.1.trans (congrArg lk e))]
      exact h.2.2
    · rw [valV_neg e, atKey_miss (fun z => e (lk_inj (h.1.symm.trans z)))]
      exact ih
theorem LKT.put (r : LKT K H kvs xs) (l : Lit) {y : V} {u : Value} (hb : SqT K H b (litV l)) (ry : RelV y u) : LKT K H (putK kvs l y) (storedH xs (lk l) b u) := by
  have e : (kvs.any fun kv => decide (kv.1 = l)) = (atKey xs (lk l)).isSome := by
    rw [valV_any, (r.val l).isSome_eq, Option.isSome_map]
  unfold putK storedH
  rw [e]
  by_cases q : (atKey xs (lk l)).isSome = true
  · rw [if_pos q, if_pos q]
    clear e q
    induction r with
    | nil => exact .nil
    | @cons p q ps qs h t ih =>
      rw [List.map_cons, List.map_cons]
      refine .cons ?_ ih
      unfold putAt
      by_cases z : p.1 = l
      · rw [if_pos z, if_pos (h.1.trans (congrArg lk z))]
        exact ⟨h.1, h.2.1, ry⟩
      · rw [if_neg z, if_neg (fun y => z (lk_inj (h.1.symm.trans y)))]
        exact h
  · rw [if_neg q, if_neg q]
    exact Paired.snoc r ⟨rfl, hb, ry⟩
end
section
variable {X : Cx} {pins : List (Addr × Obj)} {σ : L2.St} {H : Hp} {s : Shared} {a b : Addr} {kvs : List (Lit × V)} {l : Lit}
theorem lit_key (I : Inv X pins σ H s) (h : SqT X.K H b (litV l)) : (LKind X.prog X.w).is s.heap (lk l) b := by
  obtain ⟨its, r, ⟨o, h1, h2, n, h3⟩, _⟩ := I.tuple h
  refine ⟨o, its.toArray, n, h1, h2, h3, ?_⟩
  obtain ⟨x, t⟩ := l
  cases r with
  | cons ra r =>
    cases r with
    | cons rb r =>
      cases r
      obtain ⟨t', rfl⟩ := ra
      cases rb
      refine .cons ?_ (.cons ?_ .nil)
      · show Value.isStrOf x (.str x t') = true
        simp [Value.isStrOf]
      · exact decide_eq_true rfl
theorem ld_at (I : Inv X pins σ H s) (d : Ld X.prog X.w X.K H a kvs) : ∃ xs, LKT X.K H kvs xs ∧ s.heap.DictOfH (LKind X.prog X.w) a xs ∧ (a == sysModules) = false ∧ xs.length ≤ sizeLine := by
  obtain ⟨xs, h, r⟩ := d
  obtain ⟨⟨z, y, o, es, ep, h1, h2, h3, h4, h5⟩, _⟩ := I.hok a _ h
  refine ⟨xs, r, ⟨o, es, ep, h1, h2, h3, h4, ?_, h5⟩, y, z⟩
  intro x hx
  have go : ∀ {ks : List (Lit × V)} {ys : LEs}, LKT X.K H ks ys → ∀ x ∈ ys, (LKind X.prog X.w).is s.heap x.1 x.2.1 := by
    intro ks ys q
    induction q with
    | nil => exact fun x hx => nomatch hx
    | cons h t ih =>
      intro x hx
      rcases List.mem_cons.mp hx with e | hx
      · subst e
        rw [h.1]
        exact lit_key I h.2.1
      · exact ih x hx
  exact go r x hx
/-- the dict's object is written -/
theorem ld_write {h' : Heap} {t' : Nat} {ys : LEs} (I : Inv X pins σ H s) (d : Ld X.prog X.w X.K H a kvs) (z : ys.length ≤ sizeLine) (y : (a == sysModules) = false) (sb : Heap.SameBut a s.heap h') (dd : h'.DictOfH (LKind X.prog X.w) a ys) :
    Inv X pins σ (upd H a (LdO X.prog X.w a ys)) { s with heap := h', toks := t' } := by
  obtain ⟨xs, e, _⟩ := d
  obtain ⟨o, es, ep, h1, h2, h3, h4, _, h5⟩ := dd
  refine d_write I (by rw [e]; exact True.intro) sb ⟨o, h1⟩ ⟨⟨z, y, o, es, ep, h1, h2, h3, h4, h5⟩, ⟨o, h1⟩, fun g1 g2 f k => ?_⟩
  obtain ⟨z, y, o, es, ep, h1, r⟩ := f
  exact ⟨z, y, o, es, ep, k _ h1, r⟩
theorem storedH_len (xs : LEs) (k : List Leaf) (b : Addr) (v : Value) : (storedH xs k b v).length ≤ xs.length + 1 := by
  unfold storedH
  split
  · rw [List.length_map]
    exact Nat.le_succ _
  · rw [List.length_append]
    exact Nat.le_refl _
/-- a[l] = v behind it -/
def LdPut (P : Program) (w : World) (K : PySem.W.Frag) (H : Hp) (a : Addr) (kvs : List (Lit × V)) (l : Lit) (v : V) (H' : Hp) : Prop := (∀ b, b ≠ a → H' b = H b) ∧ Ld P w K H' a (putK kvs l v)
theorem ld_put {h' : Heap} {t' : Nat} {xs : LEs} {v : V} {u : Value} (I : Inv X pins σ H s) (d : Ld X.prog X.w X.K H a kvs) (r : LKT X.K H kvs xs) (z : kvs.length < sizeLine) (y : (a == sysModules) = false) (hb : SqT X.K H b (litV l)) (rv : RelV v u) (sb : Heap.SameBut a s.heap h')
    (dd : h'.DictOfH (LKind X.prog X.w) a (storedH xs (lk l) b u)) : ∃ H', LdPut X.prog X.w X.K H a kvs l v H' ∧ Inv X pins σ H' { s with heap := h', toks := t' } := by
  have hl : kvs.length = xs.length := Paired.length r
  refine ⟨_, ⟨fun b hb => upd_ne hb, _, upd_same, (r.put l hb rv).mono (TS.upd d.loose)⟩, ld_write I d ?_ y sb dd⟩
  have := storedH_len xs (lk l) b u
  omega
def tLdNew (P : Program) (w : World) : TE := fun _ H Q => ∀ p H', H p = none → H' p = some (LdO P w p []) → (∀ b, b ≠ p → H' b = H b) → Q (.ref p) H'
end
section
variable {X : Cx}
theorem ld_empty {P : Program} {w : World} {H : Hp} (h : Heap) (big : sysModules < h.objs.size) : ObjOk P w H (h.push { cls := .type "dict", data := .dict #[] }) h.objs.size (LdO P w h.objs.size []) := by
  refine ⟨⟨Nat.zero_le _, beq_eq_false_iff_ne.mpr (Ne.symm (Nat.ne_of_lt big)), _, #[], 0, Heap.get?_push_size _ rfl, ⟨rfl, rfl, rfl⟩, rfl, rfl, List.nodup_nil⟩, ⟨_, Heap.get?_push_size _ rfl⟩, fun g1 g2 f k => ?_⟩
  obtain ⟨z, y, o, es, ep, h1, r⟩ := f
  exact ⟨z, y, o, es, ep, k _ h1, r⟩
theorem pe_ldnew {pos : Pos} : PE X (.Dict [] [] pos) (tLdNew X.prog X.w) := ⟨fun pins s σ H Q I h =>
  wpAny_Dict_empty ⟨.ref s.heap.objs.size, _, I.laid (a := s.heap.objs.size) (o := LdO X.prog X.w s.heap.objs.size []) (t' := s.toks) (fun _ _ q => Heap.get?_push_of_some _ q) (Nat.le_refl _) (ld_empty s.heap I.big), rfl, h _ _ (I.hok.fresh (Nat.le_refl _)) upd_same fun b hb => upd_ne hb⟩⟩
/-- a[l] -/
def rLdIx (P : Program) (w : World) (K : PySem.W.Frag) : R2 := fun x y H Q => ∃ a b kvs l v, x = .ref a ∧ y = .ref b ∧ Ld P w K H a kvs ∧ SqT K H b (litV l) ∧ valV kvs l = some v ∧ Q v H
theorem ix_ld (hu : X.A.units + 64 < cLine) : IxR X (rLdIx X.prog X.w X.K) := by
  intro value slice pins s σ H x y v u Q I rx ry h hs
  obtain ⟨a, b, kvs, l, z, rfl, rfl, d, hb, e, q⟩ := h
  cases rx
  cases ry
  obtain ⟨xs, r, dd, _, _⟩ := ld_at I d
  obtain ⟨w', hw, rw'⟩ := RelO.some_of (v := z) (o := (atKey xs (lk l)).map (·.2)) (by rw [← e]; exact r.val l)
  obtain ⟨p, hp, hp2⟩ := Option.map_eq_some_iff.mp hw
  subst hp2
  refine subscriptTail_builtinR (x := p.2) dd.typeIs PySem.F.slot_dict_getitem.lookup (wpAny_getItem_heap (Q := fun r s' => r = p.2 ∧ EP X pins σ Q r s') (by show X.A.units + 1 < cLine; omega) (lit_key I hb) dd hp ⟨rfl, z, H, I.tok _, rw', q⟩) hs
/-- l in a, l not in a -/
def rLdIn (P : Program) (w : World) (K : PySem.W.Frag) (neg : Bool) : R2 := fun y x H Q => ∃ a b kvs l, x = .ref a ∧ y = .ref b ∧ Ld P w K H a kvs ∧ SqT K H b (litV l) ∧ Q (.bl (if neg then !(valV kvs l).isSome else (valV kvs l).isSome)) H
theorem op_inLd (hu : X.A.units + 64 < cLine) : OpR X (compareOp .In) (rLdIn X.prog X.w X.K false) := by
  intro pins s σ H y x v u Q I ry rx h
  obtain ⟨a, b, kvs, l, rfl, rfl, d, hb, q⟩ := h
  cases rx
  cases ry
  obtain ⟨xs, r, dd, hd, _⟩ := ld_at I d
  refine wpAny_in_heap (by show X.A.units + 1 < cLine; omega) (lit_key I hb) hd dd ⟨_, H, I.tok _, ?_, q⟩
  have e := (r.val l).isSome_eq
  rw [Option.isSome_map] at e
  rw [← e] <;> rfl
theorem op_ninLd (hu : X.A.units + 64 < cLine) : OpR X (compareOp .NotIn) (rLdIn X.prog X.w X.K true) := by
  intro pins s σ H y x v u Q I ry rx h
  obtain ⟨a, b, kvs, l, rfl, rfl, d, hb, q⟩ := h
  cases rx
  cases ry
  obtain ⟨xs, r, dd, hd, _⟩ := ld_at I d
  refine wpAny_notIn_heap (by show X.A.units + 1 < cLine; omega) (lit_key I hb) hd dd ⟨_, H, I.tok _, ?_, q⟩
  have e := (r.val l).isSome_eq
  rw [Option.isSome_map] at e
  rw [← e] <;> rfl
/-- a[l] = v -/
def rLdSet (P : Program) (w : World) (K : PySem.W.Frag) : V → V → V → Hp → (Hp → Prop) → Prop := fun o i v H Q => ∃ a b kvs l, o = .ref a ∧ i = .ref b ∧ Ld P w K H a kvs ∧ SqT K H b (litV l) ∧ kvs.length < sizeLine ∧ ∀ H', LdPut P w K H a kvs l v H' → Q H'
theorem set_ld (hu : X.A.units + 64 < cLine) : PSet X (rLdSet X.prog X.w X.K) := by
  intro pins s σ H o i v ov iv u Q I ro ri rv h
  obtain ⟨a, b, kvs, l, rfl, rfl, d, hb, z, q⟩ := h
  cases ro
  cases ri
  obtain ⟨xs, r, dd, hd, hz⟩ := ld_at I d
  refine wpAny_setItem_heap (hsz := hz) (by show X.A.units + 1 < cLine; omega) (lit_key I hb) dd fun h' dd' sb => ?_
  obtain ⟨H', hp, J⟩ := ld_put I d r z hd hb rv sb dd'
  exact ⟨H', J, q H' hp⟩
/-- a.get(l, v), a.get(l) -/
def rLdGet2 (P : Program) (w : World) (K : PySem.W.Frag) : V → List V → Hp → VK → Prop := fun x xs H Q => ∃ a b kvs l v, x = .ref a ∧ xs = [.ref b, v] ∧ Ld P w K H a kvs ∧ SqT K H b (litV l) ∧ Q ((valV kvs l).getD v) H
theorem mt_ldGet2 (hu : X.A.units + 64 < cLine) : MtR X "dict.get" (rLdGet2 X.prog X.w X.K) := by
  intro pins s σ H x vs u us Q I rx rs h
  obtain ⟨a, b, kvs, l, v, rfl, rfl, d, hb, q⟩ := h
  cases rx
  obtain ⟨xs, r, dd, hd, _⟩ := ld_at I d
  cases rs with
  | cons r1 rs =>
    cases rs with
    | cons r2 rs =>
      cases rs
      cases r1
      exact call_meetsIn PySem.F.slot_dict_get dd.typeIs PySem.F.entry_dict_get (PySem.F.args_dict_get_3 _ _ _) (meetsH_dict_get_default (LKind X.prog X.w) a b hd _) ⟨(by show X.A.units + 1 < cLine; omega), _, xs, lit_key I hb, dd, _, H, I.tok _, (r.val l).getD r2, q⟩
def rLdGet1 (P : Program) (w : World) (K : PySem.W.Frag) : V → List V → Hp → VK → Prop := fun x xs H Q => ∃ a b kvs l, x = .ref a ∧ xs = [.ref b] ∧ Ld P w K H a kvs ∧ SqT K H b (litV l) ∧ Q ((valV kvs l).getD .non) H
theorem mt_ldGet1 (hu : X.A.units + 64 < cLine) : MtR X "dict.get" (rLdGet1 X.prog X.w X.K) := by
  intro pins s σ H x vs u us Q I rx rs h
  obtain ⟨a, b, kvs, l, rfl, rfl, d, hb, q⟩ := h
  cases rx
  obtain ⟨xs, r, dd, hd, _⟩ := ld_at I d
  cases rs with
  | cons r1 rs =>
    cases rs
    cases r1
    exact call_meetsIn PySem.F.slot_dict_get dd.typeIs PySem.F.entry_dict_get (PySem.F.args_dict_get_2 _ _) (meetsH_dict_get (LKind X.prog X.w) a b hd) ⟨(by show X.A.units + 1 < cLine; omega), _, xs, lit_key I hb, dd, _, H, I.tok _, (r.val l).getD (d := .non) (d' := .none) rfl, q⟩
/-- a.setdefault(l, v) -/
def rLdDef (P : Program) (w : World) (K : PySem.W.Frag) : V → List V → Hp → VK → Prop := fun x xs H Q => ∃ a b kvs l v, x = .ref a ∧ xs = [.ref b, v] ∧ Ld P w K H a kvs ∧ SqT K H b (litV l) ∧ kvs.length < sizeLine ∧
  (∀ z, valV kvs l = some z → Q z H) ∧ (valV kvs l = none → ∀ H', LdPut P w K H a kvs l v H' → Q v H')
theorem mt_ldDef (hu : X.A.units + 64 < cLine) : MtR X "dict.setdefault" (rLdDef X.prog X.w X.K) := by
  intro pins s σ H x vs u us Q I rx rs h
  obtain ⟨a, b, kvs, l, v, rfl, rfl, d, hb, z, q1, q2⟩ := h
  cases rx
  obtain ⟨xs, r, dd, hd, hz⟩ := ld_at I d
  cases rs with
  | cons r1 rs =>
    cases rs with
    | cons r2 rs =>
      cases rs
      cases r1
      refine call_setdefault_heap (hsz := hz) (by show X.A.units + 1 < cLine; omega) (lit_key I hb) hd dd (fun p hp => ?_) fun hn h' dd' sb => ?_
      · have e := r.val l
        rw [hp] at e
        cases q : valV kvs l with
        | none => rw [q] at e; exact (show False from e).elim
        | some z => exact ⟨z, H, I.tok _, by rw [q] at e; exact e, q1 z q⟩
      · have e := r.val l
        rw [hn] at e
        have en : valV kvs l = none := by
          cases q : valV kvs l with
          | none => rfl
          | some z => rw [q] at e; exact (show False from e).elim
        obtain ⟨H', hp, J⟩ := ld_put I d r z hd hb r2 sb dd'
        exact ⟨v, H', J, r2, q2 en H' hp⟩
/-- a method of a dict of literals -/
def tLdM (P : Program) (w : World) (K : PySem.W.Frag) (r : V → List V → Hp → VK → Prop) (to : TE) (t : TA) : TE := fun σ H Q => to σ H fun x H1 => (∃ a kvs, x = .ref a ∧ Ld P w K H1 a kvs) ∧ t σ H1 fun xs H2 => r x xs H2 Q
theorem pe_ldm {o e : Expr} {es : List Expr} {to : TE} {t : TA} {name : Str} {apos cpos : Pos} {id : String} {r : V → List V → Hp → VK → Prop} (slot : Slot "dict" name id) (hty : typeOf (.builtin id) = pure (.type "method_descriptor")) (hm : MtR X id r) (ho : PE X o to) (ha : PA X (e :: es) t)
    (hbase : attributeBase o name X.env (eval o X.env) = eval o X.env := by rfl)
    (hfew : ((backTo cpos (starEach (e :: es) X.env)).all (fun x => !x.1) && (backToKw cpos (keywordEach [] X.env)).all (fun x => x.1.isSome)
      && decide ((e :: es).length + ([] : List Keyword).length + (if ([] : List Keyword).isEmpty then 0 else 1) < 30)) = true := by rfl)
    (hline : (apos.endLine == cpos.line) = true := by rfl) (hs : starEach (e :: es) X.env = (false, eval e X.env) :: starEach es X.env := by rfl) (hplain : (backTo cpos (starEach es X.env)).any (·.1) = false := by rfl) :
    PE X (.Call (.Attribute o name apos) (e :: es) [] cpos) (tLdM X.prog X.w X.K r to t) := by
  refine ⟨fun pins s σ H Q I h => wpAny_Call_method_late hbase hfew hline rfl (thn (ho.run pins s σ H _ I h) fun v z ⟨x, H1, J, rx, ⟨a, kvs, ex, d⟩, q⟩ => ?_)⟩
  subst ex
  obtain rfl : v = Value.ref a := rx
  obtain ⟨ys, _, ⟨ob, es', ep, h1, h2, _⟩, _, _⟩ := ld_at J d
  refine ⟨"dict", id, PySem.F.plainAttrs_dict, slot, hty, ⟨ob, h1, h2.1⟩, fun b e => ?_, ?_⟩
  · cases e
    exact ⟨ob, h1, h2.2.1⟩
  · have hA := ha.run cpos pins z σ H1 _ J q
    rw [hs] at hA ⊢
    refine Calls.callWith_builtin (by show (false || (backTo cpos (starEach es X.env)).any (·.1)) = false; rw [hplain] <;> rfl) (Calls.evalArgs_plain ?_)
    exact thn hA fun us z2 ⟨xs, H2, J2, rs, q2⟩ => hm pins z2 σ H2 (.ref a) xs (.ref a) us Q J2 rfl rs q2
end
end FL
/-! ## L7 -/
set_option Elab.async false
set_option linter.all false
set_option maxRecDepth 100000
set_option maxHeartbeats 4000000
namespace FL
open PySem L2 GxR
/-! ### the table of truths -/
theorem tupA_ok {K : PySem.W.Frag} {a : Addr} {vs : List V} (h : tupA K a vs = true) (H : Hp) : SqT K H a vs := by
  unfold tupA at h
  cases q : K.lookup a with
  | none => rw [q] at h; cases h
  | some o =>
    obtain ⟨oc, od, dt, osl⟩ := o
    rw [q] at h
    cases oc with
    | type c =>
      cases dt with
      | seq its n =>
        obtain ⟨h1, h2⟩ := He.ba (show (decide (c = "tuple") && (decide (its.size ≤ sizeLine) && He.relAll vs its.toList)) = true from h)
        obtain ⟨h3, h4⟩ := He.ba h2
        exact .inr ⟨_, its, n, q, congrArg Value.type (of_decide_eq_true h1), rfl, of_decide_eq_true h3, He.relAll_ok h4⟩
      | _ => cases h
    | _ => cases dt <;> cases h
def Cw.t1 : Cw → Bool
  | .either => true
  | _ => false
def Cw.t2 : Cw → Bool
  | .excludes => false
  | _ => true
theorem rtB_at {K : PySem.W.Frag} (h : rtB K = true) (c : Cw) : rtOne K c.word c.t1 c.t2 = true := by
  obtain ⟨h1, h2⟩ := He.ba h
  obtain ⟨h2, h3⟩ := He.ba h2
  cases c <;> assumption
/-- the table of truths stands -/
def RtAt (K : PySem.W.Frag) (w : World) (mg : Str → Option Value) : Prop := ∃ p, mg "REQUIRED_TRUTHS" = some (.ref p) ∧ ∀ c : Cw, ∃ t, KDct K w p c.word (.ref t) ∧ ∀ H, SqT K H t [.bl c.t1, .bl c.t2]
theorem rtAt_of {K : PySem.W.Frag} {w : World} {mg : Str → Option Value} {es : Array DictEntry} {n : Nat} (hm : mg "REQUIRED_TRUTHS" = some (.ref (He.ga K "REQUIRED_TRUTHS"))) (hd : KDict K w (He.ga K "REQUIRED_TRUTHS") es n) (h : rtB K = true) : RtAt K w mg := by
  refine ⟨_, hm, fun c => ?_⟩
  obtain ⟨h1, h2⟩ := He.ba (rtB_at h c)
  exact ⟨_, ⟨es, n, _, hd.at_, hd.lit, He.eqO_ok h1, rfl⟩, fun H => tupA_ok h2 H⟩
end FL
/-! ## L8 -/
set_option Elab.async false
set_option linter.all false
set_option maxRecDepth 100000
set_option maxHeartbeats 4000000
/-! sorted(xs) of pairs of a text and a truth -/
namespace FL
open PySem L2 PySem.Spec PyProof.Rows Srt SrtO
/-! ### the order -/
def ltL (a b : Lit) : Bool := if a.1 = b.1 then decide (bI a.2 < bI b.2) else decide (a.1.cps.toList < b.1.cps.toList)
theorem cps_inj {x y : Str} (h : x.cps.toList = y.cps.toList) : x = y := by
  cases x
  cases y
  congr 1
  exact Array.toList_inj.mp h
theorem ltL_iff {a b : Lit} : ltL a b = true ↔ a.1.cps.toList < b.1.cps.toList ∨ (a.1 = b.1 ∧ bI a.2 < bI b.2) := by
  unfold ltL
  by_cases e : a.1 = b.1
  · rw [if_pos e, decide_eq_true_eq]
    exact ⟨fun h => .inr ⟨e, h⟩, fun h => h.elim (fun z => absurd (e ▸ z) (List.lt_irrefl _)) And.right⟩
  · rw [if_neg e, decide_eq_true_eq]
    exact ⟨.inl, fun h => h.elim id fun z => absurd z.1 e⟩
theorem ltL_tri (a b : Lit) : ltL a b = true ∨ a = b ∨ ltL b a = true := by
  rw [ltL_iff, ltL_iff]
  by_cases e : a.1 = b.1
  · rcases Int.lt_trichotomy (bI a.2) (bI b.2) with h | h | h
    · exact .inl (.inr ⟨e, h⟩)
    · exact .inr (.inl (Prod.ext e (bI_inj h)))
    · exact .inr (.inr (.inr ⟨e.symm, h⟩))
  · by_cases h : a.1.cps.toList < b.1.cps.toList
    · exact .inl (.inl h)
    · have h2 : b.1.cps.toList ≤ a.1.cps.toList := List.not_lt.mp h
      by_cases h3 : b.1.cps.toList < a.1.cps.toList
      · exact .inr (.inr (.inl h3))
      · exact absurd (cps_inj (List.le_antisymm (List.not_lt.mp h3) h2)) e
theorem ltL_trans {a b c : Lit} (h1 : ltL a b = true) (h2 : ltL b c = true) : ltL a c = true := by
  rw [ltL_iff] at *
  rcases h1 with h1 | ⟨e1, h1⟩
  · rcases h2 with h2 | ⟨e2, h2⟩
    · exact .inl (List.lt_trans h1 h2)
    · exact .inl (e2 ▸ h1)
  · rcases h2 with h2 | ⟨e2, h2⟩
    · exact .inl (e1 ▸ h2)
    · exact .inr ⟨e1.trans e2, by omega⟩
theorem ltL_irr (a : Lit) : ltL a a = false := by
  unfold ltL
  rw [if_pos rfl]
  exact decide_eq_false (Int.lt_irrefl _)
theorem ltL_asym {a b : Lit} (h : ltL a b = true) : ltL b a = false := by
  cases q : ltL b a with
  | false => rfl
  | true => rw [← ltL_irr a, ltL_trans h q]
theorem swoL : Swo ltL := ⟨fun a b => ltL_asym, fun a b c h1 h2 => by
  cases q : ltL c a with
  | false => rfl
  | true =>
    rcases ltL_tri a b with z | z | z
    · rw [← h2, ltL_trans q z]
    · rw [← h2, ← z, q]
    · rw [← h1, z]⟩
theorem Swo.pull {α β : Type} {lt : α → α → Bool} (O : Swo lt) (k : β → α) : Swo fun x y => lt (k x) (k y) := ⟨fun _ _ => O.asym _ _, fun _ _ _ => O.tr _ _ _⟩
/-! ### literals in a heap -/
def IsLit (h : Heap) (v : Value) (l : Lit) : Prop := ∃ a o t n, v = .ref a ∧ h.get? a = some o ∧ o.cls = .type "tuple" ∧ o.data = .seq #[.str l.1 t, .bool l.2] n
def litAt (h : Heap) (v : Value) : Lit := match v with
  | .ref a => (match h.get? a with
    | some ⟨_, _, .seq its _, _⟩ => (match its.toList with
      | [.str x _, .bool b] => (x, b)
      | _ => ("", false))
    | _ => ("", false))
  | _ => ("", false)
theorem IsLit.at {h : Heap} {v : Value} {l : Lit} (p : IsLit h v l) : litAt h v = l := by
  obtain ⟨a, ⟨c, d, dt, sl⟩, t, n, rfl, ho, hc, hd⟩ := p
  simp only at hd
  subst hd
  unfold litAt
  simp only [ho]
theorem IsLit.keeps {h h' : Heap} {v : Value} {l : Lit} (p : IsLit h v l) (k : ∀ b o, h.get? b = some o → o.cls = .type "tuple" → h'.get? b = some o) : IsLit h' v l := by
  obtain ⟨a, o, t, n, e, ho, hc, hd⟩ := p
  exact ⟨a, o, t, n, e, k _ _ ho hc, hc, hd⟩
section
variable {prog : Program} {w : World} {A : Around} {E : Value → Shared → Prop} {s : Shared}
theorem lit_cmp {vs : List Value} {k : Value → Lit} (hp : ∀ v ∈ vs, IsLit s.heap v (k v)) : Cmp prog w A s (tuples' true) (fun p => p.1 ∈ vs) (lt2 fun v u => ltL (k v) (k u)) := by
  intro p q hm hm'
  have h1 := hp _ hm
  have h2 := hp _ hm'
  show wpAny (model prog w) A (keyLt' (tuples' true) p.1 q.1) (fun r s' => s' = s ∧ r = ltL (k p.1) (k q.1)) (fun _ _ => False) s
  generalize k p.1 = l at h1 ⊢
  generalize k q.1 = m at h2 ⊢
  obtain ⟨a, o, t, n, e, ho, hc, hd⟩ := h1
  obtain ⟨a', o', t', n', e', ho', hc', hd'⟩ := h2
  rw [e, e']
  refine PySem.W.kat_lt ho hd ho' hd' ?_
  show PySem.W.KatLex prog w A true (decide (2 < 2)) _ [(.str l.1 t, .str m.1 t'), (.bool l.2, .bool m.2)] 0 s
  refine PySem.W.kat_cons (SeqAt.EqAt.str_str l.1 t m.1 t' prog w _ _ ?_)
  refine PySem.W.kat_go (fun e1 => ?_) (fun e1 => ?_)
  · have ex : l.1 = m.1 := by simpa using e1
    refine PySem.W.kat_yes (PySem.W.kat_cons (SeqAt.EqAt.bool_bool l.2 m.2 prog w _ _ ?_))
    have e3 : ltL l m = decide (bI l.2 < bI m.2) := by
      unfold ltL
      rw [if_pos ex]
    refine PySem.W.kat_go (fun e2 => ?_) (fun e2 => ?_)
    · have ey : l.2 = m.2 := by simpa using e2
      refine PySem.W.kat_yes (PySem.W.kat_nil ⟨rfl, ?_⟩)
      rw [e3, ey]
      exact (decide_eq_false (Int.lt_irrefl _)).symm
    · refine PySem.W.kat_no (PySem.W.kat_one _ _ (PyProof.Rows.lt_bool ?_))
      exact (show s = s ∧ _ = ltL l m from ⟨rfl, e3.symm⟩)
  · have ex : ¬ l.1 = m.1 := by simpa using e1
    refine PySem.W.kat_no (oneLt_str ⟨rfl, ?_⟩)
    unfold ltL
    rw [if_neg ex]
theorem firsts_lit {h : Heap} {k : Value → Lit} : ∀ {vs : List Value}, (∀ v ∈ vs, IsLit h v (k v)) → ∃ fs : List Value, PySem.W.KatTups h vs fs ∧ fs.length = vs.length ∧ ∀ f ∈ fs, ∃ x t, f = Value.str x t
  | [], _ => ⟨[], PySem.W.KatTups.nil, rfl, fun _ hm => nomatch hm⟩
  | v :: vs, hp => by
    obtain ⟨fs, h1, h2, h3⟩ := firsts_lit (vs := vs) fun u hm => hp u (List.mem_cons_of_mem _ hm)
    obtain ⟨a, o, t, n, e, ho, hc, hd⟩ := hp v List.mem_cons_self
    rw [e]
    refine ⟨.str (k v).1 t :: fs, PySem.W.KatTups.cons ho hc hd rfl h1, congrArg (· + 1) h2, fun f hm => ?_⟩
    rcases List.mem_cons.mp hm with z | hm
    · exact ⟨_, t, z⟩
    · exact h3 f hm
theorem lits_sortable {a : Addr} {vs : List Value} {k : Value → Lit} (h0 : 0 < vs.length) (hp : ∀ v ∈ vs, IsLit s.heap v (k v)) (ha : ∀ o, s.heap.get? a = some o → o.cls ≠ .type "tuple") : SortableO prog w A s a vs fun v u => ltL (k v) (k u) := by
  intro h' keep
  have hp' : ∀ v ∈ vs, IsLit h' v (k v) := fun v hm => (hp v hm).keeps fun b o e c => keep b o (fun z => by subst z; exact ha o e c) e
  obtain ⟨fs, h1, h2, h3⟩ := firsts_lit hp'
  refine ⟨tuples' true, fun Q E hq => PySem.W.kat_kind (T := .type "str") h1 (by omega) (fun f hm => ?_) (by rfl) ?_, lit_cmp hp'⟩
  · obtain ⟨x, t, rfl⟩ := h3 f hm
    exact PySem.W.Looks.now
  · rw [show (Value.type "str" != Value.type "tuple") = true from by decide]
    exact hq
theorem sorted_lits {l : Addr} {vs : List Value} {k : Value → Lit} {Q : Value → Shared → Prop} (hl : s.heap.IsList l vs.toArray) (hz : vs.length ≤ sizeLine) (hp : ∀ v ∈ vs, IsLit s.heap v (k v))
    (q : ∀ (h' : Heap) (d : Addr) (out : List Value), Srtd (fun v u => ltL (k v) (k u)) out → out.Perm vs → (∀ b o, s.heap.get? b = some o → h'.get? b = some o) → s.heap.objs.size ≤ d → (∃ n, h'.get? d = some (seqObj "list" out.toArray n)) → Q (.ref d) { s with heap := h' }) :
    wpAny (model prog w) A (call (.builtin "sorted") [.ref l]) Q E s := by
  refine sorted_ord (Swo.pull swoL k) hl hz (fun h2 h₁ a ha kk => ?_) fun out hs hb => q _ _ out hs hb.perm (fun b o e => sortedAll_old e) (Nat.le_succ _) (sortedAll_at s.heap vs out.toArray)
  refine lits_sortable (s := { s with heap := h₁ }) (by omega) (fun v hm => (hp v hm).keeps fun b o e _ => (kk b o e).2) fun o e c => ?_
  cases Option.some.inj (e.symm.trans ha)
  exact absurd (Value.type.inj c) (by decide)
end
/-! ### the rule -/
abbrev LitsA (K : PySem.W.Frag) (H : Hp) : List Addr → List Lit → Prop := Paired fun b l => SqT K H b (litV l)
theorem LitsA.mono {K : PySem.W.Frag} {H H' : Hp} (t : TS K H H') {bs : List Addr} {ls : List Lit} (h : LitsA K H bs ls) : LitsA K H' bs ls := Paired.mapP h fun _ _ z => t _ _ z
theorem LitsA.mem {K : PySem.W.Frag} {H : Hp} : ∀ {bs : List Addr} {ls : List Lit}, LitsA K H bs ls → ∀ b ∈ bs, ∃ l ∈ ls, SqT K H b (litV l)
  | _, _, .nil, _, h => nomatch h
  | _, _, .cons a r, b, h => by
    rcases List.mem_cons.mp h with z | h
    · exact ⟨_, List.mem_cons_self, z ▸ a⟩
    · obtain ⟨l, hl, q⟩ := LitsA.mem r b h
      exact ⟨l, List.mem_cons_of_mem _ hl, q⟩
theorem refs_vals : ∀ {bs : List Addr} {us : List Value}, Vals (bs.map V.ref) us → us = bs.map Value.ref
  | [], _, .nil => rfl
  | b :: bs, _, .cons r t => by
    cases r
    rw [refs_vals t] <;> rfl
theorem vals_refs : ∀ bs : List Addr, Vals (bs.map V.ref) (bs.map Value.ref)
  | [] => .nil
  | b :: bs => .cons rfl (vals_refs bs)
def unref : Value → Addr
  | .ref a => a
  | _ => 0
theorem refs_perm {out : List Value} {bs : List Addr} (h : out.Perm (bs.map Value.ref)) : out = (out.map unref).map Value.ref := by
  rw [List.map_map]
  refine (List.map_id out).symm.trans (List.map_congr_left fun v hv => ?_)
  obtain ⟨b, _, rfl⟩ := List.mem_map.mp (h.mem_iff.mp hv)
  rfl
theorem paired_map {α β γ : Type} {F : β → γ → Prop} {f : α → β} {g : α → γ} : ∀ {l : List α}, (∀ x ∈ l, F (f x) (g x)) → Paired F (l.map f) (l.map g)
  | [], _ => .nil
  | x :: l, h => .cons (h x List.mem_cons_self) (paired_map fun y hy => h y (List.mem_cons_of_mem _ hy))
section
variable {X : Cx}
theorem isLit_of {pins : List (Addr × Obj)} {σ : L2.St} {H : Hp} {s : Shared} {b : Addr} {l : Lit} (I : Inv X pins σ H s) (h : SqT X.K H b (litV l)) : IsLit s.heap (.ref b) l := by
  obtain ⟨its, r, ⟨o, h1, h2, n, h3⟩, _⟩ := I.tuple h
  obtain ⟨x, t⟩ := l
  cases r with
  | cons ra r =>
    cases r with
    | cons rb r =>
      cases r
      obtain ⟨t', rfl⟩ := ra
      cases rb
      exact ⟨b, o, t', n, rfl, h1, h2, h3⟩
def rSortL (K : PySem.W.Frag) : List V → Hp → VK → Prop := fun xs H Q => ∃ p as ls, xs = [.ref p] ∧ SqL K H p (as.map V.ref) ∧ LitsA K H as ls ∧ ∀ d bs ms, H d = none → LitsA K H bs ms → ms.Perm ls → Srtd ltL ms → Q (.ref d) (upd H d (.lst (bs.map V.ref)))
theorem call_sortL : CallR X (.builtin "sorted") (rSortL X.K) := by
  intro pins s σ H xs us Q I r h
  obtain ⟨p, as, ls, rfl, hq, hl, q⟩ := h
  obtain ⟨u, rfl, ru⟩ := vals1 r
  obtain rfl : u = Value.ref p := ru
  obtain ⟨its, rv, pl, hz⟩ := I.list hq
  have e := refs_vals rv
  subst e
  have zl : as.length ≤ sizeLine := by rw [List.length_map] at hz; exact hz
  refine sorted_lits (k := litAt s.heap) pl.isList (by rw [List.length_map]; exact zl) (fun v hv => ?_) fun h' d out hs hp kp le ⟨n, hd⟩ => ?_
  · obtain ⟨b, hb, rfl⟩ := List.mem_map.mp hv
    obtain ⟨l, _, hl⟩ := hl.mem b hb
    have z := isLit_of I hl
    rw [z.at]
    exact z
  · have eo := refs_perm hp
    have pb : (out.map unref).Perm as := by
      have := hp.map unref
      rw [List.map_map] at this
      have e2 : as.map (unref ∘ Value.ref) = as := (List.map_congr_left fun _ _ => rfl).trans (List.map_id as)
      rw [e2] at this
      exact this
    have ol : (out.map unref).length ≤ sizeLine := by rw [pb.length_eq]; exact zl
    have ok : ObjOk X.prog X.w (upd H d (.lst ((out.map unref).map V.ref))) h' d (.lst ((out.map unref).map V.ref)) := by
      refine ⟨by rw [List.length_map]; exact ol, out, n, ?_, hd⟩
      have := vals_refs (out.map unref)
      rw [← eo] at this
      exact this
    refine ⟨.ref d, _, I.laid (a := d) (o := .lst ((out.map unref).map V.ref)) (t' := s.toks) kp le ok, rfl, q d (out.map unref) (out.map (litAt s.heap)) (I.hok.fresh le) ?_ ?_ ?_⟩
    · have all : ∀ v ∈ out, SqT X.K H (unref v) (litV (litAt s.heap v)) := fun v hv => by
        obtain ⟨b, hb, rfl⟩ := List.mem_map.mp (hp.mem_iff.mp hv)
        obtain ⟨l, _, hl⟩ := hl.mem b hb
        rw [(isLit_of I hl).at]
        exact hl
      exact paired_map all
    · have e2 : (as.map Value.ref).map (litAt s.heap) = ls := by
        clear hs hp eo pb ol ok hd q hq rv pl hz zl
        induction hl with
        | nil => rfl
        | cons h t ih => rw [List.map_cons, List.map_cons, (isLit_of I h).at, ih]
      rw [← e2]
      exact hp.map _
    · exact List.pairwise_map.mpr hs
end
end FL
/-! ## P6 -/
set_option Elab.async false
set_option linter.all false
set_option maxRecDepth 100000
set_option maxHeartbeats 4000000
namespace FL
open PySem L2 GxR
def neg (l : Lit) : Lit := (l.1, !l.2)
def Cl.r1 (c : Cl) : Lit := (c.a, c.w.t1)
def Cl.r2 (c : Cl) : Lit := (c.b, c.w.t2)
section
variable {P : Program} {w : World} {K : PySem.W.Frag} {mg : Str → Option Value} {base : Heap}
def spContrary (K : PySem.W.Frag) : Sp := fun vs H Q _ => ∃ (p : Addr) (l : Lit), vs = [.ref p] ∧ SqT K H p (litV l) ∧ ∀ t, H t = none → Q (.ref t) (upd H t (.tup (litV (neg l))))
theorem Same.trans' {H H1 H2 : Hp} (a : Same H H1) (b : Same H1 H2) : Same H H2 := fun c o h => b c o (a c o h)
def spRequired (K : PySem.W.Frag) : Sp := fun vs H Q _ => ∃ (v : V) (c : Cl), vs = [v] ∧ Dt K H v c.d ∧ ∀ t a b H', Same H H' → SqT K H' t [.ref a, .ref b] → SqT K H' a (litV c.r1) → SqT K H' b (litV c.r2) → Q (.ref t) H'
/-! ### the dict of steps -/
abbrev Edge := Lit × Lit
def nextE (es : List Edge) (l : Lit) : List Lit := (es.filter fun e => decide (e.1 = l)).map Prod.snd
theorem nextE_hit (es : List Edge) (l m : Lit) : nextE (es ++ [(l, m)]) l = nextE es l ++ [m] := by
  unfold nextE
  rw [List.filter_append, List.map_append, List.filter_cons_of_pos (by exact decide_eq_true rfl)] <;> rfl
theorem nextE_miss (es : List Edge) {l l' m : Lit} (h : l' ≠ l) : nextE (es ++ [(l, m)]) l' = nextE es l' := by
  unfold nextE
  rw [List.filter_append, List.map_append, List.filter_cons_of_neg (by rw [decide_eq_true_eq]; exact fun z => h z.symm)]
  exact List.append_nil _
structure StepsK (P : Program) (w : World) (K : PySem.W.Frag) (H0 H : Hp) (d : Addr) (es : List Edge) (kvs : List (Lit × V)) : Prop where
  ld : Ld P w K H d kvs
  len : kvs.length ≤ es.length
  val : ∀ l v, valV kvs l = some v → ∃ a bs, v = .ref a ∧ H0 a = none ∧ H a = some (.lst (bs.map V.ref)) ∧ LitsA K H bs (nextE es l)
  no : ∀ l, valV kvs l = none → nextE es l = []
  inj : ∀ l l' v, valV kvs l = some v → valV kvs l' = some v → l = l'
theorem Ld.ne {H : Hp} {d a : Addr} {kvs : List (Lit × V)} {xs : List V} (h : Ld P w K H d kvs) (e : H a = some (.lst xs)) : d ≠ a := fun z => by
  obtain ⟨ys, h, _⟩ := h
  rw [z, e] at h
  cases h
theorem Ld.some {H : Hp} {d : Addr} {kvs : List (Lit × V)} (h : Ld P w K H d kvs) : ∃ o, H d = .some o := let ⟨_, h, _⟩ := h; ⟨_, h⟩
theorem Ld.same {H H' : Hp} {d : Addr} {kvs : List (Lit × V)} (h : Ld P w K H d kvs) (s : Same H H') : Ld P w K H' d kvs := by
  obtain ⟨o, e⟩ := Ld.some h
  exact h.keep (TS.same s) (by rw [e, s _ _ e])
theorem StepsK.same {H0 H H' : Hp} {d : Addr} {es : List Edge} {kvs : List (Lit × V)} (S : StepsK P w K H0 H d es kvs) (s : Same H H') : StepsK P w K H0 H' d es kvs :=
  ⟨S.ld.same s, S.len, fun l v h => let ⟨a, bs, e, n, x, y⟩ := S.val l v h; ⟨a, bs, e, n, s _ _ x, y.mono (TS.same s)⟩, S.no, S.inj⟩
theorem StepsK.hit {H0 H : Hp} {d a b : Addr} {es : List Edge} {kvs : List (Lit × V)} {l m : Lit} {bs : List Addr} (S : StepsK P w K H0 H d es kvs) (h : valV kvs l = some (.ref a)) (n0 : H0 a = none) (ha : H a = some (.lst (bs.map V.ref))) (hl : LitsA K H bs (nextE es l)) (hb : SqT K H b (litV m)) :
    StepsK P w K H0 (upd H a (.lst ((bs ++ [b]).map V.ref))) d (es ++ [(l, m)]) kvs := by
  have ts : TS K H (upd H a (.lst ((bs ++ [b]).map V.ref))) := TS.put ha
  refine ⟨S.ld.keep ts (upd_ne (S.ld.ne ha)), Nat.le_trans S.len (by rw [List.length_append]; exact Nat.le_add_right _ _), fun l' v h' => ?_, fun l' h' => ?_, S.inj⟩
  · obtain ⟨a', bs', e, n, x, y⟩ := S.val l' v h'
    by_cases q : l' = l
    · subst q
      rw [h] at h'
      cases Option.some.inj h'
      rw [nextE_hit]
      exact ⟨a, bs ++ [b], rfl, n0, upd_same, Paired.snoc (hl.mono ts) (ts _ _ hb)⟩
    · have ne : a' ≠ a := fun z => q (S.inj l' l v h' (by rw [e, z]; exact h))
      rw [nextE_miss es q]
      exact ⟨a', bs', e, n, by rw [upd_ne ne]; exact x, y.mono ts⟩
  · have q : l' ≠ l := fun z => by rw [z, h] at h'; cases h'
    rw [nextE_miss es q]
    exact S.no l' h'
theorem StepsK.miss {H0 H H1 : Hp} {d e b : Addr} {es : List Edge} {kvs : List (Lit × V)} {l m : Lit} (S : StepsK P w K H0 H d es kvs) (h : valV kvs l = none) (n0 : H0 e = none) (he : H e = some (.lst [])) (fr : ∀ l v, valV kvs l = some v → v ≠ .ref e) (hp : LdPut P w K H d kvs l (.ref e) H1)
    (hb : SqT K H b (litV m)) : H1 e = some (.lst []) ∧ StepsK P w K H0 (upd H1 e (.lst [.ref b])) d (es ++ [(l, m)]) (putK kvs l (.ref e)) := by
  obtain ⟨p1, p2⟩ := hp
  have ne : e ≠ d := (S.ld.ne he).symm
  have he1 : H1 e = some (.lst []) := by rw [p1 e ne]; exact he
  have t1 : TS K H H1 := by
    have lo := S.ld.loose
    intro a xs q
    rcases q with q | q
    · have na : a ≠ d := fun z => by
        subst z
        rcases q with q | ⟨o', q⟩
        · exact (lo _ q).1 _ rfl
        · exact (lo _ q).2 _ _ rfl
      refine .inl ?_
      rcases q with q | ⟨o', q⟩
      · exact .inl (by rw [p1 a na]; exact q)
      · exact .inr ⟨o', by rw [p1 a na]; exact q⟩
    · exact .inr q
  have t2 : TS K H1 (upd H1 e (.lst [.ref b])) := TS.put he1
  have ts := t1.trans t2
  refine ⟨he1, p2.keep t2 (upd_ne ne.symm), ?_, fun l' v h' => ?_, fun l' h' => ?_, fun l1 l2 v h1 h2 => ?_⟩
  · have := length_putK kvs l (.ref e)
    have := S.len
    rw [List.length_append, List.length_cons, List.length_nil]
    omega
  · rw [valV_put] at h'
    by_cases q : l' = l
    · rw [if_pos q] at h'
      cases Option.some.inj h'
      rw [q, nextE_hit, S.no l h]
      exact ⟨e, [b], rfl, n0, upd_same, .cons (ts _ _ hb) .nil⟩
    · rw [if_neg q] at h'
      obtain ⟨a', bs', ev, n, x, y⟩ := S.val l' v h'
      have na : a' ≠ e := fun z => fr l' v h' (by rw [ev, z])
      have nd : a' ≠ d := (S.ld.ne x).symm
      rw [nextE_miss es q]
      exact ⟨a', bs', ev, n, by rw [upd_ne na, p1 a' nd]; exact x, y.mono ts⟩
  · rw [valV_put] at h'
    by_cases q : l' = l
    · rw [if_pos q] at h'
      cases h'
    · rw [if_neg q] at h'
      rw [nextE_miss es q]
      exact S.no l' h'
  · rw [valV_put] at h1 h2
    by_cases q1 : l1 = l
    · by_cases q2 : l2 = l
      · rw [q1, q2]
      · rw [if_pos q1] at h1
        rw [if_neg q2] at h2
        exact absurd (Option.some.inj h1).symm (fr l2 v h2)
    · by_cases q2 : l2 = l
      · rw [if_neg q1] at h1
        rw [if_pos q2] at h2
        exact absurd (Option.some.inj h2).symm (fr l1 v h1)
      · rw [if_neg q1] at h1
        rw [if_neg q2] at h2
        exact S.inj l1 l2 v h1 h2
theorem Same.ts' {H H' : Hp} (s : Same H H') : TS K H H' := TS.same s
theorem LdPut.ts {H H1 : Hp} {d : Addr} {kvs : List (Lit × V)} {l : Lit} {v : V} (h : Ld P w K H d kvs) (p : LdPut P w K H d kvs l v H1) : TS K H H1 := fun a xs q => by
  have lo := h.loose
  rcases q with q | q
  · have na : a ≠ d := fun z => by
      subst z
      rcases q with q | ⟨o', q⟩
      · exact (lo _ q).1 _ rfl
      · exact (lo _ q).2 _ _ rfl
    refine .inl ?_
    rcases q with q | ⟨o', q⟩
    · exact .inl (by rw [p.1 a na]; exact q)
    · exact .inr ⟨o', by rw [p.1 a na]; exact q⟩
  · exact .inr q
/-- d.setdefault(contrary(x), []).append(y) -/
theorem add_step {σ : L2.St} {Hi H0 : Hp} {d x1 x2 : Addr} {l m : Lit} {i j : Nat} {Dn : Ends} {kvs : List (Lit × V)} {es : List Edge} (e1 : σ[1]? = some (some (.ref d))) (ei : σ[i]? = some (some (.ref x1))) (ej : σ[j]? = some (some (.ref x2)))
    (S : StepsK P w K H0 Hi d es kvs) (s0 : Same H0 Hi) (d0 : H0 d = none) (h1 : SqT K Hi x1 (litV l)) (h2 : SqT K Hi x2 (litV m)) (small : es.length < 1000)
    (q : ∀ H' kvs', Same H0 H' → TS K Hi H' → StepsK P w K H0 H' d (es ++ [(neg l, m)]) kvs' → Dn.nx σ H') :
    tDrop (tBM K "list" rAppend (tLdM P w K (rLdDef P w K) (tVar 1) (tCons (tCall (spContrary K) [] E0 (tCons (tVar i) tNil)) (tCons (tLst tNil) tNil))) (tCons (tVar j) tNil)) Dn σ Hi := by
  refine ⟨_, e1, ⟨d, kvs, rfl, S.ld⟩, _, ei, x1, l, rfl, h1, fun t ht => ?_⟩
  have sA : Same Hi _ := Same.new (o := .tup (litV (neg l))) ht
  refine ⟨Nat.zero_le _, fun e he => ?_⟩
  have sB := Same.new (o := .lst []) he
  have sAB := Same.trans' sA sB
  have S2 := S.same sAB
  have ne : Hi e = none := by
    by_cases z : e = t
    · rw [z, upd_same] at he
      cases he
    · rw [upd_ne z] at he
      exact he
  have len := S.len
  have h2' := TS.same sAB _ _ h2
  refine ⟨d, t, kvs, neg l, .ref e, rfl, rfl, S2.ld, TS.same sB _ _ (SqT.of upd_same), small1000 (by omega), fun z hz => ?_, fun hn H1 hp => ?_⟩
  · obtain ⟨a, bs, rfl, n0, ha, hb⟩ := S2.val _ z hz
    refine ⟨.inl ⟨rfl, _, SqL.of ha⟩, _, ej, a, _, _, rfl, rfl, ha, ?_, ?_⟩
    · have := Paired.length hb
      have : (nextE es (neg l)).length ≤ es.length := by
        unfold nextE
        rw [List.length_map]
        exact List.length_filter_le _ _
      exact small1000 (by rw [List.length_map]; omega)
    · have H := S2.hit hz n0 ha hb h2'
      rw [List.map_append] at H
      refine q _ kvs (fun b o hb' => ?_) ((TS.same sAB).trans (TS.put ha)) H
      rw [upd_ne (ne_of_none hb' n0)]
      exact sAB _ _ (s0 b o hb')
  · have fr : ∀ l' v, valV kvs l' = some v → v ≠ .ref e := fun l' v hv z => by
      obtain ⟨a, bs, ev, _, ha, _⟩ := S.val l' v hv
      rw [z] at ev
      cases ev
      rw [ne] at ha
      cases ha
    have n0 : H0 e = none := by
      cases z : H0 e with
      | none => rfl
      | some o => rw [s0 e o z] at ne; cases ne
    obtain ⟨he1, S3⟩ := S2.miss hn n0 upd_same fr hp h2'
    refine ⟨.inl ⟨rfl, _, SqL.of he1⟩, _, ej, e, _, _, rfl, rfl, he1, small1000 (Nat.zero_le _), ?_⟩
    have t3 := LdPut.ts S2.ld hp
    refine q _ _ (fun b o hb' => ?_) ((TS.same sAB).trans (t3.trans (TS.put he1))) S3
    rw [upd_ne (ne_of_none hb' n0), hp.1 b (ne_of_none hb' d0)]
    exact sAB _ _ (s0 b o hb')
def edgesOf (c : Cl) : List Edge := [(neg c.r1, c.r2), (neg c.r2, c.r1)]
def edges (cs : List Cl) : List Edge := cs.flatMap edgesOf
theorem edges_len : ∀ cs : List Cl, (edges cs).length = 2 * cs.length
  | [] => rfl
  | c :: cs => by
    have := edges_len cs
    unfold edges at this ⊢
    rw [List.flatMap_cons, List.length_append, this, List.length_cons]
    show 2 + _ = _
    omega
def StepsAt (P : Program) (w : World) (K : PySem.W.Frag) (H : Hp) (d : Addr) (es : List Edge) : Prop := ∃ H0 kvs, StepsK P w K H0 H d es kvs
def spSteps (P : Program) (w : World) (K : PySem.W.Frag) : Sp := fun vs H Q _ => ∃ (v : V) (cs : List Cl), vs = [v] ∧ Dt K H v (.tuple (cs.map Cl.d)) ∧ cs.length ≤ 60 ∧ ∀ d H', Same H H' → H d = none → StepsAt P w K H' d (edges cs) → Q (.ref d) H'
end
end FL
/-! ## L9 -/
set_option Elab.async false
set_option linter.all false
set_option maxRecDepth 100000
set_option maxHeartbeats 4000000
/-! {k: v for x in it}, k a pair of a text and a truth -/
namespace FL
open PySem L2 PySem.Spec PyProof.Rows
variable {X : Cx}
def tLdc (P : Program) (w : World) (K : PySem.W.Frag) (wi : TI) (g : TG) (tk tv : TE) (vs : List Nat) : TE := fun σ H Q => wi σ H fun J H1 => ∀ D H2, H1 D = none → H2 D = some (LdO P w D []) → (∀ b, b ≠ D → H2 b = H1 b) →
  ∃ W : Nat → Nat → Hp → Prop, (∃ m, W 0 m H2) ∧ ∀ i m H, W i m H → (J.stop i H ∧ Q (.ref D) H) ∨ (J.go i H ∧ ∃ Nx : Hp → Prop, (∀ H', Nx H' → ∃ m', m' < m ∧ W (i + 1) m' H') ∧
    ∀ x H', J.yld i H x H' → g x (wipe σ vs) H' fun σ2 H2 => wipe σ2 vs = wipe σ vs ∧ tk σ2 H2 fun y H4 => tv σ2 H4 fun z H5 => ∃ b kvs l, y = .ref b ∧ Ld P w K H5 D kvs ∧ SqT K H5 b (litV l) ∧ kvs.length < sizeLine ∧ ∀ H6, LdPut P w K H5 D kvs l z H6 → Nx H6)
theorem ldc_core {pins : List (Addr × Obj)} {s : Shared} {σ : L2.St} {H : Hp} {Q : VK} {kx vx tg iter : Expr} {scope : Scope} {own : List (Str × Nat)} {pos pos' : Pos} {wi : TI} {g : TG} {tk tv : TE} {use : Option (Value → Sem Unit)} {Qf : Value → Shared → Prop} (hu : X.A.units + 64 < cLine) (hc : X.calm = true) (hN : X.N.Nodup) (I : Inv X pins σ H s) (hi : PI X tg iter wi) (ok : BlkOk X.N X.env.scope scope own)
    (hg : ∀ (s : Shared) (H : Hp) (C : Addr) (cl : List (Str × Addr)) (fp : List Addr), PG (X.blk s H scope (compEnvC scope cl C X.env) fp) tg g)
    (hk : ∀ (s : Shared) (H : Hp) (C : Addr) (cl : List (Str × Addr)) (fp : List Addr), PE (X.blk s H scope (compEnvC scope cl C X.env) fp) kx tk)
    (hv : ∀ (s : Shared) (H : Hp) (C : Addr) (cl : List (Str × Addr)) (fp : List Addr), PE (X.blk s H scope (compEnvC scope cl C X.env) fp) vx tv) (hs : ∀ x, foldedSetIterable iter X.env x = pure x)
    (h : tLdc X.prog X.w X.K wi g tk tv (own.map (·.2)) σ H Q)
    (fin : ∀ D C z m H', Inv X pins σ H' z → Q (.ref D) H' → z.heap.Ns C m → FpOk X pins H' C → compPost (model X.prog X.w) X.A X.xe use Qf (.ref D) C (.ok .next) z) :
    wpAny (model X.prog X.w) X.A (comprehension (.DictComp kx vx [⟨tg, iter, [], 0⟩] scope pos) scope X.env pos' newDict false (eval iter X.env) use) Qf X.xe s := by
  have cells : ∀ y ∈ scope.names, y.2 = .free → ∃ c, X.env.cells.lookup y.1 = some c := fun y hy e => (ok.free y hy e).elim (fun k => I.ok.has _ (.inl k)) fun k => I.ok.has _ (.inr k)
  refine wpAny_comprehension_free (use := use) rfl hs (closure_ok cells) ok.kind (fun y hy e => by rw [ok.uniq y hy, e]) (thn (hi.run pins s σ H _ I h) fun xv s1 hx => thn hx fun itv s2 ⟨it, fp, tn, J, H2, e, I2, T, st2, f2, q⟩ => ?_)
  subst e
  refine wpAny_newObj_type (newEnv_comp ?_)
  -- the new dict, the block's names
  obtain ⟨W, ⟨m0, w0⟩, turn⟩ := q s2.heap.objs.size _ (I2.hok.fresh (Nat.le_refl _)) (upd_same (o := LdO X.prog X.w s2.heap.objs.size [])) fun b hb => upd_ne hb
  have I3 : Inv X pins σ (upd H2 s2.heap.objs.size (LdO X.prog X.w s2.heap.objs.size [])) { s2 with heap := s2.heap.push { cls := .type "dict", data := .dict #[] } } :=
    I2.laid (t' := s2.toks) (fun _ _ e => Heap.get?_push_of_some _ e) (Nat.le_refl _) (ld_empty s2.heap I2.big)
  generalize eD : s2.heap.objs.size = D at *
  generalize eH : upd H2 D (LdO X.prog X.w D []) = H3 at *
  have low : ∀ b ∈ fp, b < D := fun b hb => by
    obtain ⟨o, e, _⟩ := T.obj _ _ st2 b hb
    exact eD ▸ Heap.lt_size e
  generalize es : ({ s2 with heap := s2.heap.push { cls := .type "dict", data := .dict #[] } } : Shared) = s3 at *
  have sz : s3.heap.objs.size = D + 1 := by rw [← es, ← eD]; exact Heap.size_push ..
  have f3 : ∀ b ∈ fp, FpOk X pins H3 b ∧ b < s3.heap.objs.size := fun b hb => by
    have lt := low b hb
    refine ⟨⟨?_, (f2 b hb).2⟩, by rw [sz]; exact Nat.lt_succ_of_lt lt⟩
    rw [← eH, upd_ne (Nat.ne_of_lt lt)]
    exact (f2 b hb).1
  have st3 : tn 0 s3.heap := T.keep _ _ _ st2 fun b _ o e => by rw [← es]; exact Heap.get?_push_of_some _ e
  have I4 := block_start I3 ok hN f3
  have pg := hg s3 H3 s3.heap.objs.size (cellsFrom (s3.heap.objs.size + 1) scope.names (cloFrom X.env.cells scope.names [])) fp
  have pk := hk s3 H3 s3.heap.objs.size (cellsFrom (s3.heap.objs.size + 1) scope.names (cloFrom X.env.cells scope.names [])) fp
  have pv := hv s3 H3 s3.heap.objs.size (cellsFrom (s3.heap.objs.size + 1) scope.names (cloFrom X.env.cells scope.names [])) fp
  refine (show codeAny _ _ (.compStart (.DictComp kx vx [⟨tg, iter, [], 0⟩] scope pos) 0 (.ref it) (.ref D) (compEnvC scope (cellsFrom (s3.heap.objs.size + 1) scope.names (cloFrom X.env.cells scope.names [])) s3.heap.objs.size X.env))
    (compPost (model X.prog X.w) X.A X.xe use Qf (.ref D) s3.heap.objs.size) { s3 with heap := pushCells (s3.heap.push { cls := .type "dict", data := .dict #[] }) scope.names } from ?_)
  generalize ec : compEnvC scope (cellsFrom (s3.heap.objs.size + 1) scope.names (cloFrom X.env.cells scope.names [])) s3.heap.objs.size X.env = ce at I4 pg pk pv ⊢
  have at0 : ce.locals = s3.heap.objs.size := by rw [← ec] <;> rfl
  have st4 : tn 0 (pushCells (s3.heap.push { cls := .type "dict", data := .dict #[] }) scope.names) := T.keep _ _ _ st3 fun b _ o e => pushCells_keeps _ _ _ _ (Heap.get?_push_of_some _ e)
  generalize es4 : ({ s3 with heap := pushCells (s3.heap.push { cls := .type "dict", data := .dict #[] }) scope.names } : Shared) = s4 at I4 ⊢
  replace st4 : tn 0 s4.heap := by rw [← es4]; exact st4
  have off : ∀ {σ' : L2.St} {H' : Hp} {s' : Shared}, Inv (X.blk s3 H3 scope ce fp) [] σ' H' s' → (∀ b ∈ fp, H' b = none) → ∀ b ∈ fp, FpOk (X.blk s3 H3 scope ce fp) [] H' b := fun {σ' H' s'} I' n b hb =>
    ⟨n b hb, (I'.ok.exf b hb).1, I'.ok.exfs b hb, .inl hb, fun x c e => (I'.ok.exf b hb).2 x c e, fun p hp => absurd (show p ∈ ([] : List (Addr × Obj)) ++ [] from hp) (by simp)⟩
  refine codeAny_compStart_dict ?_ (T.self X.A 0 _ _ _ st4 ?_) <;>
  · refine compLoop_anyD (fun n z => ∃ i H', Inv (X.blk s3 H3 scope ce fp) [] (wipe σ (own.map (·.2))) H' z ∧ tn i z.heap ∧ (∀ b ∈ fp, H' b = none) ∧ W i n H') ?_ m0 ⟨0, H3, I4, st4, fun b hb => (f3 b hb).1.1, w0⟩
    rintro n s5 ⟨i, H5, I5, st5, n5, w5⟩
    rcases turn i n H5 w5 with ⟨stop, qq⟩ | ⟨go, Nx, dec, step⟩
    · refine thnF (T.done (X.blk s3 H3 scope ce fp) rfl rfl rfl hc i [] s5 _ H5 (fun _ _ => False) I5 (off I5 n5) st5 stop) fun r s6 ⟨hr, I6⟩ => ?_
      subst hr
      have I7 : Inv X pins σ H5 s6 := I3.call' (ch := fp) I6.os I6.base I6.hok I6.bare fun b hb => let ⟨_, k2, k3, k4, k5, k6⟩ := (f3 b hb).1; ⟨k4, k2, k5, k6⟩
      have free : H5 s3.heap.objs.size = none := at0 ▸ I6.free
      obtain ⟨m, ns, _⟩ := I6.loc
      exact fin D s3.heap.objs.size s6 m H5 I7 qq (at0 ▸ ns) (I3.fpOk (Nat.le_refl _) free)
    · refine thnF (T.item (X.blk s3 H3 scope ce fp) rfl rfl rfl hc i [] s5 _ H5 (fun _ _ => False) I5 (off I5 n5) st5 go) fun r s6 ⟨u, hr, h6⟩ => ?_
      subst hr
      refine thnF h6 fun _ s7 ⟨x, H7, I7, r7, y7, st7, n7⟩ => ?_
      refine thnF (pg.run _ s7 _ H7 x u _ (I7.pinned (off I7 n7) (T.obj _ _ st7)) r7 (step x H7 y7)) fun _ s8 ⟨σ8, H8, I8, hw8, q8⟩ => ?_
      rw [List.forIn_nil]
      refine wpAny_pure ?_
      rw [if_pos rfl]
      refine thnF (pk.run _ s8 σ8 H8 _ I8 q8) fun z s10 ⟨yk, H10, I10, r10, q10⟩ => thnF (pv.run _ s10 σ8 H10 _ I10 q10) fun z2 s11 ⟨yv, H11, I11, r11, b, kvs, l, ek, d, hb, small, nx⟩ => ?_
      subst ek
      obtain rfl : z = Value.ref b := r10
      obtain ⟨xs, r, dd, hd, hz⟩ := ld_at (X := X.blk s3 H3 scope ce fp) I11 d
      refine wpAny_dictSet_heap (hsz := hz) (by show X.A.units < cLine; omega) (lit_key (X := X.blk s3 H3 scope ce fp) I11 hb) dd fun h' dd' sb => ?_
      obtain ⟨H12, hp, I12⟩ := ld_put (X := X.blk s3 H3 scope ce fp) I11 d r small hd hb r11 sb dd'
      obtain ⟨m', hm, w'⟩ := dec H12 (nx H12 hp)
      have pin : ∀ b ∈ fp, ∀ o, s7.heap.get? b = some o → h'.get? b = some o ∧ H12 b = none := fun b hb o e =>
        let k := I12.pin (b, o) (List.mem_append_right _ (List.mem_append_right _ (mem_pinsAt hb e)))
        ⟨k.1, k.2.1⟩
      have hl : (wipe σ (own.map (·.2))).length = σ8.length := by rw [← hw8, wipe_length]
      refine ⟨m', hm, i + 1, H12, (I12.unpinned (pins := [])).weak hl (fun j v e => ?_), T.keep _ _ _ st7 fun b hb o e => (pin b hb o e).1, fun b hb => ?_, w'⟩
      · rw [← hw8] at e
        exact (wipe_some e).1
      · obtain ⟨o, e, _⟩ := T.obj _ _ st7 b hb
        exact (pin b hb o e).2
theorem pe_ldc {kx vx tg iter : Expr} {scope : Scope} {own : List (Str × Nat)} {pos : Pos} {wi : TI} {g : TG} {tk tv : TE} (hu : X.A.units + 64 < cLine) (hc : X.calm = true) (hN : X.N.Nodup) (hi : PI X tg iter wi) (ok : BlkOk X.N X.env.scope scope own)
    (hg : ∀ (s : Shared) (H : Hp) (C : Addr) (cl : List (Str × Addr)) (fp : List Addr), PG (X.blk s H scope (compEnvC scope cl C X.env) fp) tg g)
    (hk : ∀ (s : Shared) (H : Hp) (C : Addr) (cl : List (Str × Addr)) (fp : List Addr), PE (X.blk s H scope (compEnvC scope cl C X.env) fp) kx tk)
    (hv : ∀ (s : Shared) (H : Hp) (C : Addr) (cl : List (Str × Addr)) (fp : List Addr), PE (X.blk s H scope (compEnvC scope cl C X.env) fp) vx tv) (hs : ∀ x, foldedSetIterable iter X.env x = pure x := by intro _; rfl) :
    PE X (.DictComp kx vx [⟨tg, iter, [], 0⟩] scope pos) (tLdc X.prog X.w X.K wi g tk tv (own.map (·.2))) := by
  refine ⟨fun pins s σ H Q I h => ?_⟩
  rw [arm_eval_DictComp]
  refine ldc_core hu hc hN I hi ok hg hk hv hs h fun D C z m H' J q ns ⟨f0, f1, f2, f3, f4, f5⟩ => ⟨m, ns, fun h'' sb => ?_⟩
  exact ⟨.ref D, H', J.turned (t' := z.toks) (fun b o hb e => (sb.2 b hb).trans e) f0 f1 f3 f4 f5, rfl, q⟩
/-- y = {..}, y a local -/
theorem ps_setLdc {i : Nat} {y : Str} {py : Pos} {kx vx tg iter : Expr} {scope : Scope} {own : List (Str × Nat)} {pos spos : Pos} {wi : TI} {g : TG} {tk tv : TE} (hu : X.A.units + 64 < cLine) (hc : X.calm = true) (hN : X.N.Nodup) (hy : X.N[i]? = some y) (hyl : X.env.scope.names.lookup y = some .local)
    (hsw : swapsWith (.DictComp kx vx [⟨tg, iter, [], 0⟩] scope pos) (some (.Name y py)) spos.line X.env = pure true) (hi : PI X tg iter wi) (ok : BlkOk X.N X.env.scope scope own)
    (hg : ∀ (s : Shared) (H : Hp) (C : Addr) (cl : List (Str × Addr)) (fp : List Addr), PG (X.blk s H scope (compEnvC scope cl C X.env) fp) tg g)
    (hk : ∀ (s : Shared) (H : Hp) (C : Addr) (cl : List (Str × Addr)) (fp : List Addr), PE (X.blk s H scope (compEnvC scope cl C X.env) fp) kx tk)
    (hv : ∀ (s : Shared) (H : Hp) (C : Addr) (cl : List (Str × Addr)) (fp : List Addr), PE (X.blk s H scope (compEnvC scope cl C X.env) fp) vx tv) (hs : ∀ x, foldedSetIterable iter X.env x = pure x := by intro _; rfl) :
    PS X (.Assign [.Name y py] (.DictComp kx vx [⟨tg, iter, [], 0⟩] scope pos) spos) (tAsg (tLdc X.prog X.w X.K wi g tk tv (own.map (·.2))) (gName i)) := by
  refine ⟨fun pins s σ H D I h => ?_⟩
  rw [exec_Assign_Name_used _ _ _ _ hsw]
  refine wpAny_bind (wpAny_standAt (wpAny_bind ?_))
  change wpAny _ X.A (do let _ ← comprehension (.DictComp kx vx [⟨tg, iter, [], 0⟩] scope pos) scope X.env (firstIterPos [⟨tg, iter, [], 0⟩] pos) newDict false (eval iter X.env) (some (assign (.Name y py) X.env))) _ _ s
  have h2 : tLdc X.prog X.w X.K wi g tk tv (own.map (·.2)) σ H (fun x H1 => gName i x σ H1 D.nx) := h
  refine wpAny_bind (thn (ldc_core (Qf := fun _ z => SP X pins D .next z) hu hc hN I hi ok hg hk hv hs h2 fun L C z m H' J q ns ⟨f0, f1, f2, f3, f4, f5⟩ => ?_) fun _ z hz => wpAny_pure (wpAny_pure hz))
  change wpAny _ _ (assign (.Name y py) X.env (.ref L)) _ _ _
  refine wpAny_assign_Name (store_ok2 (v := V.ref L) J hN hy (.inl hyl) rfl (fun z2 J2 ⟨a, sb, ha⟩ => ⟨m, ns.sameBut sb ?_, fun h3 sb3 => ⟨_, H', J2.turned (t' := z2.toks) (fun b o hb e => (sb3.2 b hb).trans e) f0 f1 f3 f4 f5, q⟩⟩) (.inr hyl))
  rcases ha with e | e
  · rw [e]; exact f1
  · exact fun k => f4 y a e k.symm
theorem sw_dict {kx vx : Expr} {gs : List Comprehension} {scope : Scope} {pos py : Pos} {y : Str} {l : Nat} {env : Env} (hk : env.scope.kind = .function) (hy : env.scope.names.lookup y = some .local) (hl : (py.line == pos.line) = true)
    (ha : (scope.names.any fun (n, k) => n == y && (k == .local || k == .cell)) = false) : swapsWith (.DictComp kx vx gs scope pos) (some (.Name y py)) l env = pure true := by
  have ky : env.kindOf y = some .local := hy
  have hb : env.blockKind = .function := by unfold Env.blockKind; rw [hk]; rfl
  unfold swapsWith
  simp only [hb, ky, ha, Expr.pos, hl]
  rfl
end FL
/-! ## P7 -/
set_option Elab.async false
set_option linter.all false
set_option maxRecDepth 100000
set_option maxHeartbeats 4000000
namespace FL
open PySem L2 GxR SrtO
/-! ### sorting, as a function -/
def insL (a : Lit) : List Lit → List Lit
  | [] => [a]
  | b :: r => if ltL b a = true then b :: insL a r else a :: b :: r
def srt : List Lit → List Lit
  | [] => []
  | a :: r => insL a (srt r)
theorem insL_perm (a : Lit) : ∀ r, (insL a r).Perm (a :: r)
  | [] => .refl _
  | b :: r => by
    unfold insL
    split
    · exact ((insL_perm a r).cons b).trans (.swap a b r)
    · exact .refl _
theorem srt_perm : ∀ r, (srt r).Perm r
  | [] => .refl _
  | a :: r => (insL_perm a _).trans ((srt_perm r).cons a)
theorem insL_srtd (a : Lit) : ∀ {r}, Srtd ltL r → Srtd ltL (insL a r)
  | [], _ => srtd_one a
  | b :: r, h => by
    unfold insL
    have ⟨h1, h2⟩ := List.pairwise_cons.mp h
    split
    · rename_i q
      refine List.pairwise_cons.mpr ⟨fun x hx => ?_, insL_srtd a h2⟩
      rcases List.mem_cons.mp ((insL_perm a r).mem_iff.mp hx) with z | z
      · rw [z]; exact ltL_asym q
      · exact h1 x z
    · rename_i q
      have q' : ltL b a = false := by simpa using q
      refine List.pairwise_cons.mpr ⟨fun x hx => ?_, h⟩
      rcases List.mem_cons.mp hx with z | z
      · rw [z]; exact q'
      · exact swoL.tr a b x q' (h1 x z)
theorem srt_srtd : ∀ r, Srtd ltL (srt r)
  | [] => .nil
  | a :: r => insL_srtd a (srt_srtd r)
theorem srtd_uniq : ∀ {a b : List Lit}, a.Perm b → Srtd ltL a → Srtd ltL b → a = b
  | [], b, p, _, _ => (List.nil_perm.mp p).symm
  | x :: a, [], p, _, _ => (List.perm_nil.mp p)
  | x :: a, y :: b, p, ha, hb => by
    have ⟨h1, h2⟩ := List.pairwise_cons.mp ha
    have ⟨h3, h4⟩ := List.pairwise_cons.mp hb
    have e : x = y := by
      rcases List.mem_cons.mp (p.mem_iff.mp List.mem_cons_self) with z | z
      · exact z
      · rcases List.mem_cons.mp (p.mem_iff.mpr List.mem_cons_self) with z2 | z2
        · exact z2.symm
        · have q1 := h3 x z
          have q2 := h1 y z2
          rcases ltL_tri x y with t | t | t
          · rw [q1] at t; cases t
          · exact t
          · rw [q2] at t; cases t
    subst e
    rw [srtd_uniq ((List.perm_cons x).mp p) h2 h4]
theorem srt_eq {ms ls : List Lit} (p : ms.Perm ls) (h : Srtd ltL ms) : ms = srt ls := srtd_uniq (p.trans (srt_perm ls).symm) h (srt_srtd ls)
/-! ### the search -/
abbrev Chains := List (Lit × List Lit)
def chG (m : Chains) (l : Lit) : Option (List Lit) := (m.find? fun x => decide (x.1 = l)).map (·.2)
def visit (ch : List Lit) (s : Chains × List Lit) (f : Lit) : Chains × List Lit := if (chG s.1 f).isSome then s else (s.1 ++ [(f, ch ++ [f])], s.2 ++ [f])
inductive Bfs (es : List Edge) : List Lit → Chains → Chains → Prop
  | done (m : Chains) : Bfs es [] m m
  | pop {l : Lit} {q : List Lit} {m mf : Chains} {ch : List Lit} : chG m l = some ch → Bfs es ((srt (nextE es l)).foldl (visit ch) (m, q)).2 ((srt (nextE es l)).foldl (visit ch) (m, q)).1 mf → Bfs es (l :: q) m mf
def putM (m : Chains) (l : Lit) (c : List Lit) : Chains := if (m.any fun x => decide (x.1 = l)) = true then m.map (fun x => if x.1 = l then (x.1, c) else x) else m ++ [(l, c)]
def init1 (m : Chains) (l : Lit) : Chains := putM m l [l]
def initM (q : List Lit) : Chains := q.foldl init1 []
theorem chG_any (m : Chains) (l : Lit) : (m.any fun x => decide (x.1 = l)) = (chG m l).isSome := by
  induction m with
  | nil => rfl
  | cons x m ih =>
    unfold chG at ih ⊢
    rw [List.any_cons, List.find?_cons, ih]
    by_cases h : x.1 = l
    · rw [decide_eq_true h] <;> rfl
    · rw [decide_eq_false h] <;> rfl
theorem chG_mem {m : Chains} {l : Lit} : (chG m l).isSome = true ↔ l ∈ m.map Prod.fst := by
  rw [← chG_any, List.any_eq_true]
  constructor
  · rintro ⟨x, hx, e⟩
    exact List.mem_map.mpr ⟨x, hx, of_decide_eq_true e⟩
  · intro h
    obtain ⟨x, hx, e⟩ := List.mem_map.mp h
    exact ⟨x, hx, decide_eq_true e⟩
theorem chG_in {m : Chains} {l : Lit} {c : List Lit} (h : chG m l = some c) : (l, c) ∈ m := by
  unfold chG at h
  cases q : m.find? (fun x => decide (x.1 = l)) with
  | none => rw [q] at h; cases h
  | some x =>
    rw [q] at h
    have e : x.1 = l := of_decide_eq_true (List.find?_some (p := fun x : Lit × List Lit => decide (x.1 = l)) q)
    have e2 : x.2 = c := Option.some.inj h
    rw [← e, ← e2]
    exact List.mem_of_find?_eq_some q
theorem putM_new {m : Chains} {l : Lit} (c : List Lit) (h : (chG m l).isSome = false) : putM m l c = m ++ [(l, c)] := by
  unfold putM
  rw [chG_any, h, if_neg (by decide)]
theorem nodup_len {α : Type} [DecidableEq α] : ∀ {xs ys : List α}, xs.Nodup → (∀ x ∈ xs, x ∈ ys) → xs.length ≤ ys.length
  | [], _, _, _ => Nat.zero_le _
  | x :: xs, ys, h, s => by
    have ⟨h1, h2⟩ := List.nodup_cons.mp h
    have := nodup_len (ys := ys.erase x) h2 fun y hy => (List.mem_erase_of_ne (fun e => h1 (by rw [← e]; exact hy))).mpr (s y (List.mem_cons_of_mem _ hy))
    have l := List.length_erase_of_mem (s x List.mem_cons_self)
    have : 0 < ys.length := List.length_pos_of_mem (s x List.mem_cons_self)
    rw [List.length_cons]
    omega
structure Good (U : List Lit) (B : Nat) (m : Chains) (q : List Lit) : Prop where
  nd : (m.map Prod.fst).Nodup
  sub : ∀ x ∈ m, x.1 ∈ U
  ch : ∀ x ∈ m, x.2.length ≤ m.length
  ql : q.length ≤ B + m.length
  qs : ∀ l ∈ q, (chG m l).isSome = true
theorem Good.len {U : List Lit} {B : Nat} {m : Chains} {q : List Lit} (g : Good U B m q) : m.length ≤ U.length := by
  have := nodup_len g.nd fun x hx => by
    obtain ⟨y, hy, e⟩ := List.mem_map.mp hx
    exact e ▸ g.sub y hy
  rw [List.length_map] at this
  exact this
abbrev mu (U : List Lit) (m : Chains) (q : List Lit) : Nat := q.length + 2 * (U.length - m.length)
theorem Good.visit {U : List Lit} {B : Nat} {m : Chains} {q ch : List Lit} {f : Lit} (g : Good U B m q) (hf : f ∈ U) (hc : ch.length ≤ m.length) :
    Good U B (visit ch (m, q) f).1 (visit ch (m, q) f).2 ∧ mu U (visit ch (m, q) f).1 (visit ch (m, q) f).2 ≤ mu U m q ∧ m.length ≤ (visit ch (m, q) f).1.length := by
  unfold FL.visit
  by_cases h : (chG m f).isSome = true
  · rw [if_pos h]
    exact ⟨g, Nat.le_refl _, Nat.le_refl _⟩
  · rw [if_neg h]
    have g2 : Good U B (m ++ [(f, ch ++ [f])]) (q ++ [f]) := by
      refine ⟨?_, fun x hx => ?_, fun x hx => ?_, ?_, fun l hl => ?_⟩
      · rw [List.map_append]
        refine List.nodup_append.mpr ⟨g.nd, by simp, fun a ha b hb e => ?_⟩
        have : b = f := by simpa using hb
        rw [e, this] at ha
        exact h (chG_mem.mpr ha)
      · rcases List.mem_append.mp hx with hx | hx
        · exact g.sub x hx
        · rw [List.mem_singleton.mp hx]
          exact hf
      · rw [List.length_append]
        rcases List.mem_append.mp hx with hx | hx
        · exact Nat.le_trans (g.ch x hx) (Nat.le_add_right _ _)
        · rw [List.mem_singleton.mp hx, List.length_append]
          exact Nat.add_le_add_right hc _
      · have := g.ql
        simp only [List.length_append, List.length_cons, List.length_nil]
        omega
      · rw [chG_mem, List.map_append]
        rcases List.mem_append.mp hl with hl | hl
        · exact List.mem_append_left _ (chG_mem.mp (g.qs l hl))
        · rw [List.mem_singleton.mp hl]
          exact List.mem_append_right _ (by simp)
    have l2 := g2.len
    refine ⟨g2, ?_, ?_⟩
    · simp only [List.length_append, List.length_cons, List.length_nil, mu] at l2 ⊢
      omega
    · rw [List.length_append]
      exact Nat.le_add_right _ _
theorem Good.init1 {U : List Lit} {B : Nat} {m : Chains} {l : Lit} (g : Good U B m []) (hl : l ∈ U) : Good U B (init1 m l) [] ∧ (chG (init1 m l) l).isSome = true ∧ (∀ k, (chG m k).isSome = true → (chG (FL.init1 m l) k).isSome = true) := by
  unfold FL.init1 putM
  rw [chG_any]
  by_cases h : (chG m l).isSome = true
  · rw [if_pos h]
    have e : (m.map fun x => if x.1 = l then (x.1, [l]) else x).map Prod.fst = m.map Prod.fst := by
      rw [List.map_map]
      refine List.map_congr_left fun x _ => ?_
      show (if x.1 = l then (x.1, [l]) else x).1 = x.1
      split <;> rfl
    have pos : 0 < m.length := by
      have := List.length_pos_of_mem (chG_mem.mp h)
      rw [List.length_map] at this
      exact this
    refine ⟨⟨by rw [e]; exact g.nd, fun x hx => ?_, fun x hx => ?_, Nat.zero_le _, (fun l hl => nomatch hl)⟩, ?_, fun k hk => ?_⟩
    · obtain ⟨y, hy, rfl⟩ := List.mem_map.mp hx
      split
      · exact g.sub y hy
      · exact g.sub y hy
    · rw [List.length_map]
      obtain ⟨y, hy, rfl⟩ := List.mem_map.mp hx
      split
      · exact pos
      · exact g.ch y hy
    · rw [chG_mem, e]
      exact chG_mem.mp h
    · rw [chG_mem, e]
      exact chG_mem.mp hk
  · rw [if_neg h]
    refine ⟨⟨?_, fun x hx => ?_, fun x hx => ?_, Nat.zero_le _, (fun l hl => nomatch hl)⟩, ?_, fun k hk => ?_⟩
    · rw [List.map_append]
      refine List.nodup_append.mpr ⟨g.nd, by simp, fun a ha b hb e => ?_⟩
      have : b = l := by simpa using hb
      rw [e, this] at ha
      exact h (chG_mem.mpr ha)
    · rcases List.mem_append.mp hx with hx | hx
      · exact g.sub x hx
      · rw [List.mem_singleton.mp hx]
        exact hl
    · rw [List.length_append]
      rcases List.mem_append.mp hx with hx | hx
      · exact Nat.le_trans (g.ch x hx) (Nat.le_add_right _ _)
      · rw [List.mem_singleton.mp hx]
        exact Nat.le_add_left _ _
    · rw [chG_mem, List.map_append]
      exact List.mem_append_right _ (by simp)
    · rw [chG_mem, List.map_append]
      exact List.mem_append_left _ (chG_mem.mp hk)
end FL
/-! ## P8 -/
set_option Elab.async false
set_option linter.all false
set_option maxRecDepth 100000
set_option maxHeartbeats 4000000
namespace FL
open PySem L2 GxR SrtO
theorem ldc_it {P : Program} {w : World} {K : PySem.W.Frag} {J : It} {n : Nat} {G : Hp → Prop} {Y : Nat → Hp → V → Hp → Prop} (wk : Walk J n G Y) {g : TG} {tk tv : TE} {vs : List Nat} {σ : L2.St} {H2 : Hp} {D : Addr} {Qd : Hp → Prop} (Pv : Nat → Hp → Prop) (h0 : Pv 0 H2) (hG : ∀ i H, i ≤ n → Pv i H → G H)
    (hs : ∀ i x H H', i < n → Pv i H → Y i H x H' → g x (wipe σ vs) H' fun σ2 H2 => wipe σ2 vs = wipe σ vs ∧ tk σ2 H2 fun y H4 => tv σ2 H4 fun z H5 => ∃ b kvs l, y = .ref b ∧ Ld P w K H5 D kvs ∧ SqT K H5 b (litV l) ∧ kvs.length < sizeLine ∧ ∀ H6, LdPut P w K H5 D kvs l z H6 → Pv (i + 1) H6) (hd : ∀ H, Pv n H → Qd H) :
    ∃ W : Nat → Nat → Hp → Prop, (∃ m, W 0 m H2) ∧ ∀ i m H, W i m H → (J.stop i H ∧ Qd H) ∨ (J.go i H ∧ ∃ Nx : Hp → Prop, (∀ H', Nx H' → ∃ m', m' < m ∧ W (i + 1) m' H') ∧
      ∀ x H', J.yld i H x H' → g x (wipe σ vs) H' fun σ2 H2 => wipe σ2 vs = wipe σ vs ∧ tk σ2 H2 fun y H4 => tv σ2 H4 fun z H5 => ∃ b kvs l, y = .ref b ∧ Ld P w K H5 D kvs ∧ SqT K H5 b (litV l) ∧ kvs.length < sizeLine ∧ ∀ H6, LdPut P w K H5 D kvs l z H6 → Nx H6) := by
  refine ⟨fun i m H => m = n - i ∧ i ≤ n ∧ Pv i H, ⟨n, rfl, Nat.zero_le _, h0⟩, ?_⟩
  rintro i m H ⟨rfl, hi, p⟩
  have q := hG i H hi p
  by_cases lt : i < n
  · exact .inr ⟨wk.goes i H lt q, Pv (i + 1), fun H' p' => ⟨n - (i + 1), by omega, rfl, lt, p'⟩, fun x H' y => hs i x H H' lt p (wk.yields i H x H' lt q y)⟩
  · obtain rfl : i = n := by omega
    exact .inl ⟨wk.stops H q, hd H p⟩
theorem chG_app {m : Chains} {l : Lit} {c : List Lit} (x : Lit × List Lit) (h : chG m l = some c) : chG (m ++ [x]) l = some c := by
  unfold chG at h ⊢
  rw [List.find?_append]
  cases q : m.find? (fun x => decide (x.1 = l)) with
  | none => rw [q] at h; cases h
  | some y => rw [q] at h; exact h
theorem visit_get {m : Chains} {q ch c : List Lit} {l f : Lit} (h : chG m l = some c) : chG (visit ch (m, q) f).1 l = some c := by
  unfold visit
  split
  · exact h
  · exact chG_app _ h
theorem LitsA.at {K : PySem.W.Frag} {H : Hp} : ∀ {bs : List Addr} {ls : List Lit} {i : Nat} {b : Addr}, LitsA K H bs ls → bs[i]? = some b → ∃ l, ls[i]? = some l ∧ SqT K H b (litV l)
  | _, _, _, _, .nil, h => nomatch h
  | _, _, 0, _, .cons a _, h => ⟨_, rfl, (Option.some.inj h) ▸ a⟩
  | _, _, i + 1, _, .cons _ r, h => LitsA.at (i := i) r h
theorem next_sub {es : List Edge} {l x : Lit} (h : x ∈ srt (nextE es l)) : x ∈ es.map Prod.snd := by
  have := (srt_perm _).mem_iff.mp h
  unfold nextE at this
  obtain ⟨e, he, rfl⟩ := List.mem_map.mp this
  exact List.mem_map.mpr ⟨e, (List.mem_filter.mp he).1, rfl⟩
section
variable {P : Program} {w : World} {K : PySem.W.Frag} {mg : Str → Option Value} {base : Heap}
/-- a chain's list -/
def CR (K : PySem.W.Frag) (H0 H : Hp) (L : Addr) (kv : Lit × V) (c : Lit × List Lit) : Prop := kv.1 = c.1 ∧ ∃ a bs, kv.2 = .ref a ∧ H0 a = none ∧ a ≠ L ∧ H a = some (.lst (bs.map V.ref)) ∧ LitsA K H bs c.2
structure ChK (P : Program) (w : World) (K : PySem.W.Frag) (H0 H : Hp) (L d : Addr) (m : Chains) (kvs : List (Lit × V)) : Prop where
  ld : Ld P w K H d kvs
  pr : Paired (CR K H0 H L) kvs m
theorem ChK.len {H0 H : Hp} {L d : Addr} {m : Chains} {kvs : List (Lit × V)} (C : ChK P w K H0 H L d m kvs) : kvs.length = m.length := Paired.length C.pr
/-- what was there stays, but for the list at L and the dict at d -/
theorem ChK.keep {H0 H H' : Hp} {L d : Addr} {m : Chains} {kvs : List (Lit × V)} (C : ChK P w K H0 H L d m kvs) (ts : TS K H H') (s : ∀ b o, b ≠ L → H b = some o → H' b = some o) (dL : d ≠ L) : ChK P w K H0 H' L d m kvs := by
  obtain ⟨o, e⟩ := Ld.some C.ld
  refine ⟨C.ld.keep ts (by rw [e, s d o dL e]), Paired.mapP C.pr fun kv c h => ?_⟩
  obtain ⟨h1, a, bs, h2, h3, h4, h5, h6⟩ := h
  exact ⟨h1, a, bs, h2, h3, h4, s a _ h4 h5, h6.mono ts⟩
theorem paired_repl {α β : Type} {F : α → β → Prop} {f : α → α} {g : β → β} : ∀ {xs : List α} {ys : List β}, Paired F xs ys → (∀ x y, F x y → F (f x) (g y)) → Paired F (xs.map f) (ys.map g)
  | _, _, .nil, _ => .nil
  | _, _, .cons h t, k => .cons (k _ _ h) (paired_repl t k)
theorem pr_any {H0 H : Hp} {L : Addr} {m : Chains} {kvs : List (Lit × V)} (l : Lit) (h : Paired (CR K H0 H L) kvs m) : (kvs.any fun kv => decide (kv.1 = l)) = (m.any fun x => decide (x.1 = l)) := by
  induction h with
  | nil => rfl
  | cons h t ih => rw [List.any_cons, List.any_cons, ih, h.1]
theorem ChK.put {H0 H H' : Hp} {L d a : Addr} {m : Chains} {kvs : List (Lit × V)} {l : Lit} {c : List Lit} {bs : List Addr} (C : ChK P w K H0 H L d m kvs) (p : LdPut P w K H d kvs l (.ref a) H') (n0 : H0 a = none) (nL : a ≠ L) (ha : H a = some (.lst (bs.map V.ref))) (hl : LitsA K H bs c) :
    ChK P w K H0 H' L d (putM m l c) (putK kvs l (.ref a)) := by
  have ts := LdPut.ts C.ld p
  have same : ∀ b xs, H b = some (.lst xs) → H' b = some (.lst xs) := fun b xs e => by
    rw [p.1 b (C.ld.ne e).symm]
    exact e
  have pr : Paired (CR K H0 H' L) kvs m := Paired.mapP C.pr fun kv c h => by
    obtain ⟨h1, a, bs, h2, h3, h4, h5, h6⟩ := h
    exact ⟨h1, a, bs, h2, h3, h4, same _ _ h5, h6.mono ts⟩
  refine ⟨p.2, ?_⟩
  have new : CR K H0 H' L (l, .ref a) (l, c) := ⟨rfl, a, bs, rfl, n0, nL, same _ _ ha, hl.mono ts⟩
  unfold putK putM
  rw [pr_any l C.pr]
  split
  · refine paired_repl pr fun x y h => ?_
    by_cases e : x.1 = l
    · rw [if_pos e, if_pos (h.1.symm.trans e)]
      exact ⟨h.1, a, bs, rfl, n0, nL, same _ _ ha, hl.mono ts⟩
    · rw [if_neg e, if_neg (fun z => e (h.1.trans z))]
      exact h
  · exact Paired.snoc pr new
theorem ChK.val {H0 H : Hp} {L d : Addr} {m : Chains} {kvs : List (Lit × V)} (C : ChK P w K H0 H L d m kvs) (l : Lit) : (valV kvs l).isSome = (chG m l).isSome := by
  rw [← valV_any, ← chG_any, pr_any l C.pr]
theorem pr_get {H0 H : Hp} {L : Addr} {m : Chains} {kvs : List (Lit × V)} {l : Lit} {c : List Lit} (h : Paired (CR K H0 H L) kvs m) (e : chG m l = some c) : ∃ a bs, valV kvs l = some (.ref a) ∧ H0 a = none ∧ a ≠ L ∧ H a = some (.lst (bs.map V.ref)) ∧ LitsA K H bs c := by
  induction h with
  | nil => cases e
  | @cons x y xs ys h t ih =>
    by_cases q : y.1 = l
    · have e2 : chG (y :: ys) l = some y.2 := by
        unfold chG
        rw [List.find?_cons, decide_eq_true q] <;> rfl
      rw [e2] at e
      cases Option.some.inj e
      obtain ⟨h1, a, bs, h2, h3⟩ := h
      exact ⟨a, bs, by rw [valV_pos (h1.trans q), h2], h3⟩
    · have e2 : chG (y :: ys) l = chG ys l := by
        unfold chG
        rw [List.find?_cons, decide_eq_false q]
      rw [e2] at e
      rw [valV_neg (fun z => q (h.1.symm.trans z))]
      exact ih e
theorem sqL_same {H H' : Hp} (s : Same H H') {p : Addr} {xs : List V} (h : SqL K H p xs) : SqL K H' p xs := by
  rcases h with (h | ⟨o, h⟩) | h
  · exact .inl (.inl (s _ _ h))
  · exact .inl (.inr ⟨o, s _ _ h⟩)
  · exact .inr h
def ChAt (P : Program) (w : World) (K : PySem.W.Frag) (H : Hp) (d : Addr) (m : Chains) : Prop := ∃ H0 L kvs, ChK P w K H0 H L d m kvs
def spShortest (P : Program) (w : World) (K : PySem.W.Frag) : Sp := fun vs H Q _ => ∃ (v : V) (p : Addr) (cs : List Cl) (as : List Addr) (ls : List Lit), vs = [v, .ref p] ∧ Dt K H v (.tuple (cs.map Cl.d)) ∧ cs.length ≤ 60 ∧ SqL K H p (as.map V.ref) ∧ LitsA K H as ls ∧ ls.length ≤ 100 ∧
  ∀ d H' mf, Same H H' → H d = none → Bfs (edges cs) (srt ls) (initM (srt ls)) mf → ChAt P w K H' d mf → Q (.ref d) H'
end
end FL
/-! ## L10 -/
set_option Elab.async false
set_option linter.all false
set_option maxRecDepth 100000
set_option maxHeartbeats 4000000
/-! sorted(xs) of lists of literals -/
namespace FL
open PySem L2 PySem.Spec PyProof.Rows Srt SrtO SeqAt
def ltC : List Lit → List Lit → Bool
  | [], [] => false
  | [], _ :: _ => true
  | _ :: _, [] => false
  | a :: x, b :: y => if a = b then ltC x y else ltL a b
theorem firstLt_map (e r : Nat → Bool) (fin : Bool) (f : Nat → Nat) : ∀ l : List Nat, firstLt e r fin (l.map f) = firstLt (fun j => e (f j)) (fun j => r (f j)) fin l
  | [] => rfl
  | j :: l => by
    rw [List.map_cons]
    unfold firstLt
    rw [firstLt_map e r fin f l]
theorem firstLt_ltC : ∀ xs ys : List Lit, firstLt (fun j => decide (xs.getD j ("", false) = ys.getD j ("", false))) (fun j => ltL (xs.getD j ("", false)) (ys.getD j ("", false))) (decide (xs.length < ys.length)) (List.range (min xs.length ys.length)) = ltC xs ys
  | [], [] => rfl
  | [], y :: ys => by
    show firstLt _ _ (decide (0 < ys.length + 1)) (List.range (min 0 (ys.length + 1))) = true
    rw [Nat.zero_min, List.range_zero, decide_eq_true (Nat.succ_pos _)] <;> rfl
  | x :: xs, [] => by
    show firstLt _ _ (decide (xs.length + 1 < 0)) (List.range (min (xs.length + 1) 0)) = false
    rw [Nat.min_zero, List.range_zero, decide_eq_false (Nat.not_lt_zero _)] <;> rfl
  | x :: xs, y :: ys => by
    have ih := firstLt_ltC xs ys
    rw [List.length_cons, List.length_cons, Nat.succ_min_succ, List.range_succ_eq_map]
    unfold firstLt ltC
    rw [firstLt_map]
    show (if decide (x = y) = true then firstLt (fun j => decide (xs.getD j ("", false) = ys.getD j ("", false))) (fun j => ltL (xs.getD j ("", false)) (ys.getD j ("", false))) (decide (xs.length + 1 < ys.length + 1)) (List.range (min xs.length ys.length)) else ltL x y) = _
    have e : decide (xs.length + 1 < ys.length + 1) = decide (xs.length < ys.length) := decide_eq_decide.mpr ⟨Nat.lt_of_succ_lt_succ, Nat.succ_lt_succ⟩
    rw [e, ih]
    by_cases h : x = y
    · rw [decide_eq_true h, if_pos rfl, if_pos h]
    · rw [decide_eq_false h, if_neg (by decide), if_neg h]
theorem ltC_irr : ∀ x, ltC x x = false
  | [] => rfl
  | a :: x => by
    unfold ltC
    rw [if_pos rfl]
    exact ltC_irr x
theorem ltC_tri : ∀ x y, ltC x y = true ∨ x = y ∨ ltC y x = true
  | [], [] => .inr (.inl rfl)
  | [], _ :: _ => .inl rfl
  | _ :: _, [] => .inr (.inr rfl)
  | a :: x, b :: y => by
    unfold ltC
    by_cases h : a = b
    · rw [if_pos h, if_pos h.symm]
      rcases ltC_tri x y with z | z | z
      · exact .inl z
      · exact .inr (.inl (by rw [h, z]))
      · exact .inr (.inr z)
    · rw [if_neg h, if_neg (fun z => h z.symm)]
      rcases ltL_tri a b with z | z | z
      · exact .inl z
      · exact absurd z h
      · exact .inr (.inr z)
theorem ltC_trans : ∀ {x y z}, ltC x y = true → ltC y z = true → ltC x z = true
  | [], [], _, h, _ => nomatch h
  | [], _ :: _, [], _, h => nomatch h
  | [], _ :: _, _ :: _, _, _ => rfl
  | _ :: _, [], _, h, _ => nomatch h
  | _ :: _, _ :: _, [], _, h => nomatch h
  | a :: x, b :: y, c :: z, h1, h2 => by
    unfold ltC at h1 h2 ⊢
    by_cases e1 : a = b
    · rw [if_pos e1] at h1
      by_cases e2 : b = c
      · rw [if_pos e2] at h2
        rw [if_pos (e1.trans e2)]
        exact ltC_trans h1 h2
      · rw [if_neg e2] at h2
        rw [if_neg (fun q => e2 (e1 ▸ q)), e1]
        exact h2
    · rw [if_neg e1] at h1
      by_cases e2 : b = c
      · rw [if_pos e2] at h2
        rw [if_neg (fun q => e1 (q.trans e2.symm)), ← e2]
        exact h1
      · rw [if_neg e2] at h2
        have t := ltL_trans h1 h2
        rw [if_neg (fun q => by rw [q, ltL_irr] at t; cases t)]
        exact t
theorem ltC_asym {x y : List Lit} (h : ltC x y = true) : ltC y x = false := by
  cases q : ltC y x with
  | false => rfl
  | true => rw [← ltC_irr x, ltC_trans h q]
theorem swoC : Swo ltC := ⟨fun a b => ltC_asym, fun a b c h1 h2 => by
  cases q : ltC c a with
  | false => rfl
  | true =>
    rcases ltC_tri a b with z | z | z
    · rw [← h2, ltC_trans q z]
    · rw [← h2, ← z, q]
    · rw [← h1, z]⟩
/-! ### chains in a heap -/
abbrev IsLits (h : Heap) : List Value → List Lit → Prop := Paired (IsLit h)
def IsCh (h : Heap) (v : Value) (c : List Lit) : Prop := ∃ a items, v = .ref a ∧ h.IsList a items ∧ IsLits h items.toList c
section
variable {prog : Program} {w : World} {A : Around} {E : Value → Shared → Prop} {s : Shared}
theorem lits_get {h : Heap} : ∀ {us : List Value} {c : List Lit} {j : Nat} {u : Value}, IsLits h us c → us[j]? = some u → IsLit h u (c.getD j ("", false))
  | _, _, _, _, .nil, e => nomatch e
  | _, _, 0, _, .cons a _, e => (Option.some.inj e) ▸ a
  | _, _, j + 1, _, .cons _ r, e => lits_get (j := j) r e
theorem lit_is {h : Heap} {v : Value} {l : Lit} (p : IsLit h v l) : ∃ a, v = .ref a ∧ IsTupleKey (leafKind prog w) h (lk l) a := by
  obtain ⟨a, o, t, n, rfl, ho, hc, hd⟩ := p
  refine ⟨a, rfl, o, _, n, ho, hc, hd, ?_⟩
  obtain ⟨x, b⟩ := l
  refine .cons ?_ (.cons ?_ .nil)
  · show Value.isStrOf x (.str x t) = true
    simp [Value.isStrOf]
  · exact decide_eq_true rfl
theorem lit_eqAt (hu : A.units < cLine) {u v : Value} {l m : Lit} (h1 : IsLit s.heap u l) (h2 : IsLit s.heap v m) : EqAt A s u v (decide (l = m)) := by
  intro prog w E Q q
  obtain ⟨a, rfl, ka⟩ := lit_is (prog := prog) (w := w) h1
  obtain ⟨b, rfl, kb⟩ := lit_is (prog := prog) (w := w) h2
  refine wpAny_eqBool_tuple hu ka kb ?_
  have e : decide (lk l = lk m) = decide (l = m) := decide_eq_decide.mpr ⟨lk_inj, congrArg lk⟩
  rw [e]
  exact q
theorem lit_rcLt (hu : A.units + 1 < cLine) {u v : Value} {l m : Lit} (h1 : IsLit s.heap u l) (h2 : IsLit s.heap v m) (ne : l ≠ m) : RcLt A s u v (ltL l m) := by
  obtain ⟨a, o, t, n, rfl, ho, hc, hd⟩ := h1
  obtain ⟨b, o', t', n', rfl, ho', hc', hd'⟩ := h2
  have e : ltL l m = firstLt (fun j => if j = 0 then decide (l.1 = m.1) else decide (l.2 = m.2)) (fun j => if j = 0 then decide (l.1.cps.toList < m.1.cps.toList) else decide (b2i l.2 < b2i m.2)) (decide (2 < 2)) (List.range (min 2 2)) := by
    show _ = firstLt _ _ _ [0, 1]
    unfold firstLt firstLt firstLt ltL
    by_cases h : l.1 = m.1
    · rw [if_pos h, if_pos (by rw [if_pos rfl]; exact decide_eq_true h)]
      have h2 : l.2 ≠ m.2 := fun z => ne (Prod.ext h z)
      rw [if_neg (by rw [if_neg (by decide)]; exact fun z => h2 (of_decide_eq_true z)), if_neg (by decide)]
      rfl
    · rw [if_neg h, if_neg (by rw [if_pos rfl]; exact fun z => h (of_decide_eq_true z)), if_pos rfl]
  rw [e]
  refine RcLt.tuples (items := #[.str l.1 t, .bool l.2]) (items2 := #[.str m.1 t', .bool m.2]) ⟨o, ho, hc, n, hd⟩ ⟨o', ho', hc', n', hd'⟩ (by omega) (fun j j1 j2 => ?_) fun j j1 j2 ej => ?_
  · match j, j1 with
    | 0, _ => exact EqAt.str_str l.1 t m.1 t'
    | 1, _ => exact EqAt.bool_bool l.2 m.2
    | j + 2, h => exact absurd h (by show ¬ j + 2 < 2; omega)
  · match j, j1 with
    | 0, _ => exact fun prog w E Q q => PyProof.Rows.lt_str q
    | 1, _ => exact fun prog w E Q q => PyProof.Rows.lt_bool q
    | j + 2, h => exact absurd h (by show ¬ j + 2 < 2; omega)
theorem chainAt_items {h : Heap} : ∀ {us : List Value} {c : List Lit}, IsLits h us c → us.map (litAt h) = c
  | _, _, .nil => rfl
  | _, _, .cons a r => by rw [List.map_cons, a.at, chainAt_items r]
def chAt (h : Heap) (v : Value) : List Lit := match v with
  | .ref a => (match h.get? a with
    | some ⟨_, _, .seq its _, _⟩ => its.toList.map (litAt h)
    | _ => [])
  | _ => []
theorem IsCh.at {h : Heap} {v : Value} {c : List Lit} (p : IsCh h v c) : chAt h v = c := by
  obtain ⟨a, items, rfl, ⟨⟨cl, d, dt, sl⟩, ho, hc, n, hd⟩, hi⟩ := p
  simp only at hd
  subst hd
  unfold chAt
  simp only [ho]
  exact chainAt_items hi
theorem IsCh.keeps {h h' : Heap} {v : Value} {c : List Lit} (p : IsCh h v c) (k : ∀ b o, h.get? b = some o → (o.cls = .type "tuple" ∨ v = .ref b) → h'.get? b = some o) : IsCh h' v c := by
  obtain ⟨a, items, rfl, ⟨o, ho, r⟩, hi⟩ := p
  exact ⟨a, items, rfl, ⟨o, k a o ho (.inr rfl), r⟩, Paired.mapP hi fun u l z => z.keeps fun b o e c => k b o e (.inl c)⟩
theorem ch_cmp (hu : A.units + 8 < cLine) {vs : List Value} {k : Value → List Lit} (hp : ∀ v ∈ vs, IsCh s.heap v (k v)) : SrtO.Cmp prog w A s oneType' (fun p => p.1 ∈ vs) (lt2 fun v u => ltC (k v) (k u)) := by
  intro p q hm hm'
  have h1 := hp _ hm
  have h2 := hp _ hm'
  show wpAny (model prog w) A (keyLt' oneType' p.1 q.1) (fun r s' => s' = s ∧ r = ltC (k p.1) (k q.1)) (fun _ _ => False) s
  generalize k p.1 = c at h1 ⊢
  generalize k q.1 = d at h2 ⊢
  obtain ⟨a, xs, e, ha, hx⟩ := h1
  obtain ⟨b, ys, e', hb, hy⟩ := h2
  rw [e, e', keyLt'_oneType, oneLt'_eq]
  simp only [if_true]
  have lx : xs.size = c.length := by rw [← Array.length_toList]; exact Paired.length hx
  have ly : ys.size = d.length := by rw [← Array.length_toList]; exact Paired.length hy
  refine wpAny_bind (wpAny_cRoomFor (by omega) ?_)
  refine wpAny_bind (wpAny_callSpecialIfBound?_slot ha.typeIs F.slot_list_lt (call_list_lt (e := fun j => decide (c.getD j ("", false) = d.getD j ("", false))) (r := fun j => ltL (c.getD j ("", false)) (d.getD j ("", false))) ha hb (fun j j1 j2 => ?_) (fun j j1 j2 ej => ?_) ?_))
  · refine lit_eqAt (by show A.units + _ < cLine; first | omega | (show A.units + 1 < cLine; omega) | (show A.units + 2 < cLine; omega)) (lits_get hx ?_) (lits_get hy ?_)
    · rw [Array.getElem?_toList, Array.getElem?_eq_getElem j1]
    · rw [Array.getElem?_toList, Array.getElem?_eq_getElem j2]
  · refine lit_rcLt (by show A.units + _ + 1 < cLine; first | omega | (show A.units + 1 + 1 < cLine; omega)) (lits_get hx ?_) (lits_get hy ?_) (of_decide_eq_false ej)
    · rw [Array.getElem?_toList, Array.getElem?_eq_getElem j1]
    · rw [Array.getElem?_toList, Array.getElem?_eq_getElem j2]
  · rw [lx, ly, firstLt_ltC]
    exact wpAny_truthy_bool ⟨rfl, rfl⟩
theorem chs_sortable (hu : A.units + 8 < cLine) {a : Addr} {vs : List Value} {k : Value → List Lit} (h0 : 2 ≤ vs.length) (hp : ∀ v ∈ vs, IsCh s.heap v (k v)) (ha : ∀ o, s.heap.get? a = some o → o.cls ≠ .type "tuple") (hv : ∀ v ∈ vs, v ≠ .ref a) : SortableO prog w A s a vs fun v u => ltC (k v) (k u) := by
  intro h' keep
  have hp' : ∀ v ∈ vs, IsCh h' v (k v) := fun v hm => (hp v hm).keeps fun b o e c => keep b o (fun z => by
    subst z
    rcases c with c | c
    · exact ha o e c
    · exact hv v hm c) e
  refine ⟨oneType', fun Q E hq => PySem.W.kas_kind (T := .type "list") h0 (fun v hm => ?_) (by decide) (by decide) hq, ch_cmp hu hp'⟩
  obtain ⟨b, items, rfl, ⟨o, ho, hc, r⟩, _⟩ := hp' v hm
  rw [← hc]
  exact (show PySem.W.Looks (model prog w) h' (typeOf (.ref b)) o.cls from (PySem.W.Looks.ld ho).andThen .now)
theorem sorted_chs (hu : A.units + 16 < cLine) {l : Addr} {vs : List Value} {k : Value → List Lit} {Q : Value → Shared → Prop} (hl : s.heap.IsList l vs.toArray) (hz : vs.length ≤ sizeLine) (hp : ∀ v ∈ vs, IsCh s.heap v (k v))
    (q : ∀ (h' : Heap) (d : Addr) (out : List Value), Srtd (fun v u => ltC (k v) (k u)) out → out.Perm vs → (∀ b o, s.heap.get? b = some o → h'.get? b = some o) → s.heap.objs.size ≤ d → (∃ n, h'.get? d = some (seqObj "list" out.toArray n)) → Q (.ref d) { s with heap := h' }) :
    wpAny (model prog w) A (call (.builtin "sorted") [.ref l]) Q E s := by
  refine sorted_ord (Swo.pull swoC k) hl hz (fun h2 h₁ a ha kk => ?_) fun out hs hb => q _ _ out hs hb.perm (fun b o e => sortedAll_old e) (Nat.le_succ _) (sortedAll_at s.heap vs out.toArray)
  refine chs_sortable (s := { s with heap := h₁ }) (by show A.units + 1 + 1 + 8 < cLine; omega) h2 (fun v hm => (hp v hm).keeps fun b o e _ => (kk b o e).2) (fun o e c => ?_) fun v hm z => ?_
  · cases Option.some.inj (e.symm.trans ha)
    exact absurd (Value.type.inj c) (by decide)
  · obtain ⟨b, items, rfl, ⟨o, ho, _⟩, _⟩ := hp v hm
    exact (kk b o ho).1 (by injection z)
end
abbrev ChsA (K : PySem.W.Frag) (H : Hp) : List Addr → List (List Lit) → Prop := Paired fun a c => ∃ bs, H a = some (.lst (bs.map V.ref)) ∧ LitsA K H bs c
theorem ChsA.mem {K : PySem.W.Frag} {H : Hp} : ∀ {as : List Addr} {cs : List (List Lit)}, ChsA K H as cs → ∀ a ∈ as, ∃ c ∈ cs, ∃ bs, H a = some (.lst (bs.map V.ref)) ∧ LitsA K H bs c
  | _, _, .nil, _, h => nomatch h
  | _, _, .cons a r, b, h => by
    rcases List.mem_cons.mp h with z | h
    · exact ⟨_, List.mem_cons_self, z ▸ a⟩
    · obtain ⟨c, hc, q⟩ := ChsA.mem r b h
      exact ⟨c, List.mem_cons_of_mem _ hc, q⟩
section
variable {X : Cx}
theorem isCh_of {pins : List (Addr × Obj)} {σ : L2.St} {H : Hp} {s : Shared} {a : Addr} {bs : List Addr} {c : List Lit} (I : Inv X pins σ H s) (h : H a = some (.lst (bs.map V.ref))) (hl : LitsA X.K H bs c) : IsCh s.heap (.ref a) c := by
  obtain ⟨its, rv, pl, hz⟩ := I.list (SqL.of h)
  have e := refs_vals rv
  subst e
  refine ⟨a, _, rfl, pl.isList, ?_⟩
  have go : ∀ {bs : List Addr} {c : List Lit}, LitsA X.K H bs c → IsLits s.heap (bs.map Value.ref) c := by
    intro bs c h
    induction h with
    | nil => exact .nil
    | cons a r ih => exact .cons (isLit_of I a) ih
  simpa using go hl
def rSortC (K : PySem.W.Frag) : List V → Hp → VK → Prop := fun xs H Q => ∃ p as cs, xs = [.ref p] ∧ SqL K H p (as.map V.ref) ∧ ChsA K H as cs ∧ ∀ d bs ms, H d = none → ChsA K H bs ms → ms.Perm cs → Srtd ltC ms → Q (.ref d) (upd H d (.lst (bs.map V.ref)))
theorem call_sortC (hu : X.A.units + 64 < cLine) : CallR X (.builtin "sorted") (rSortC X.K) := by
  intro pins s σ H xs us Q I r h
  obtain ⟨p, as, cs, rfl, hq, hl, q⟩ := h
  obtain ⟨u, rfl, ru⟩ := vals1 r
  obtain rfl : u = Value.ref p := ru
  obtain ⟨its, rv, pl, hz⟩ := I.list hq
  have e := refs_vals rv
  subst e
  have zl : as.length ≤ sizeLine := by rw [List.length_map] at hz; exact hz
  have isc : ∀ b ∈ as, ∃ c, IsCh s.heap (.ref b) c ∧ ∃ bs, H b = some (.lst (bs.map V.ref)) ∧ LitsA X.K H bs c := fun b hb => by
    obtain ⟨c, _, bs, h1, h2⟩ := hl.mem b hb
    exact ⟨c, isCh_of I h1 h2, bs, h1, h2⟩
  refine sorted_chs (by omega) (k := chAt s.heap) pl.isList (by rw [List.length_map]; exact zl) (fun v hv => ?_) fun h' d out hs hp kp le ⟨n, hd⟩ => ?_
  · obtain ⟨b, hb, rfl⟩ := List.mem_map.mp hv
    obtain ⟨c, hc, _⟩ := isc b hb
    rw [hc.at]
    exact hc
  · have eo := refs_perm hp
    have pb : (out.map unref).Perm as := by
      have := hp.map unref
      rw [List.map_map] at this
      have e2 : as.map (unref ∘ Value.ref) = as := (List.map_congr_left fun _ _ => rfl).trans (List.map_id as)
      rw [e2] at this
      exact this
    have ok : ObjOk X.prog X.w (upd H d (.lst ((out.map unref).map V.ref))) h' d (.lst ((out.map unref).map V.ref)) := by
      refine ⟨by rw [List.length_map, pb.length_eq]; exact zl, out, n, ?_, hd⟩
      have := vals_refs (out.map unref)
      rw [← eo] at this
      exact this
    refine ⟨.ref d, _, I.laid (a := d) (o := .lst ((out.map unref).map V.ref)) (t' := s.toks) kp le ok, rfl, q d (out.map unref) (out.map (chAt s.heap)) (I.hok.fresh le) (paired_map fun v hv => ?_) ?_ (List.pairwise_map.mpr hs)⟩
    · obtain ⟨b, hb, rfl⟩ := List.mem_map.mp (hp.mem_iff.mp hv)
      obtain ⟨c, hc, bs, h1, h2⟩ := isc b hb
      rw [hc.at]
      exact ⟨bs, h1, h2⟩
    · have e2 : (as.map Value.ref).map (chAt s.heap) = cs := by
        clear isc hs hp eo pb ok hd q hq rv pl hz zl
        induction hl with
        | nil => rfl
        | cons h t ih =>
          obtain ⟨bs, h1, h2⟩ := h
          rw [List.map_cons, List.map_cons, (isCh_of I h1 h2).at, ih]
      rw [← e2]
      exact hp.map _
end
end FL
/-! ## M1 -/
set_option Elab.async false
set_option linter.all false
set_option maxRecDepth 100000
set_option maxHeartbeats 4000000
/-! min(found, key=lambda chain: (len(chain), chain), default=None) -/
namespace FL
open PySem L2 PySem.Spec PyProof.Rows Srt SrtO SeqAt
/-! ### the order of the keys -/
def ltK (c d : List Lit) : Bool := if c.length = d.length then ltC c d else decide (c.length < d.length)
def btK (cs : List (List Lit)) (a b : Nat) : Bool := ltK (cs.getD a []) (cs.getD b [])
section
variable {prog : Program} {w : World} {A : Around} {s : Shared}
theorem all_eq : ∀ (c d : List Lit), c.length = d.length → (List.range c.length).all (fun j => decide (c.getD j ("", false) = d.getD j ("", false))) = decide (c = d) := by
  intro c d h
  rw [Bool.eq_iff_iff, List.all_eq_true, decide_eq_true_eq]
  constructor
  · intro q
    refine List.ext_getElem h fun j h1 h2 => ?_
    have := of_decide_eq_true (q j (List.mem_range.mpr h1))
    simpa [h1, h2] using this
  · rintro rfl j _
    exact decide_eq_true rfl
theorem ch_eqAt (hu : A.units + 8 < cLine) {a b : Addr} {c d : List Lit} (h1 : IsCh s.heap (.ref a) c) (h2 : IsCh s.heap (.ref b) d) : EqAt A s (.ref a) (.ref b) (decide (c = d)) := by
  by_cases e : a = b
  · subst e
    have : c = d := by rw [← h1.at, ← h2.at]
    rw [decide_eq_true this]
    exact EqAt.same _
  · refine EqAt.of_refs e ?_
    obtain ⟨a', xs, e1, ha, hx⟩ := h1
    obtain ⟨b', ys, e2, hb, hy⟩ := h2
    cases e1
    cases e2
    have lx : xs.size = c.length := by rw [← Array.length_toList]; exact Paired.length hx
    have ly : ys.size = d.length := by rw [← Array.length_toList]; exact Paired.length hy
    by_cases l : c.length = d.length
    · rw [← all_eq c d l, ← lx]
      refine RcAt.lists ha hb (by omega) (by omega) fun j j1 j2 => ?_
      refine lit_eqAt (by show A.units + 1 < cLine; omega) (lits_get hx ?_) (lits_get hy ?_)
      · rw [Array.getElem?_toList, Array.getElem?_eq_getElem j1]
      · rw [Array.getElem?_toList, Array.getElem?_eq_getElem j2]
    · rw [decide_eq_false (fun z => l (by rw [z]))]
      exact RcAt.lists_lengths ha hb (by rw [bne_iff_ne, lx, ly]; exact l) (by omega)
theorem ch_rcLt (hu : A.units + 8 < cLine) {a b : Addr} {c d : List Lit} (h1 : IsCh s.heap (.ref a) c) (h2 : IsCh s.heap (.ref b) d) : RcLt A s (.ref a) (.ref b) (ltC c d) := by
  obtain ⟨a', xs, e1, ha, hx⟩ := h1
  obtain ⟨b', ys, e2, hb, hy⟩ := h2
  cases e1
  cases e2
  have lx : xs.size = c.length := by rw [← Array.length_toList]; exact Paired.length hx
  have ly : ys.size = d.length := by rw [← Array.length_toList]; exact Paired.length hy
  rw [← firstLt_ltC c d, ← lx, ← ly]
  refine RcLt.lists ha hb (by omega) (fun j j1 j2 => ?_) fun j j1 j2 ej => ?_
  · refine lit_eqAt (by show A.units + 1 < cLine; omega) (lits_get hx ?_) (lits_get hy ?_)
    · rw [Array.getElem?_toList, Array.getElem?_eq_getElem j1]
    · rw [Array.getElem?_toList, Array.getElem?_eq_getElem j2]
  · refine lit_rcLt (by show A.units + 1 + 1 < cLine; omega) (lits_get hx ?_) (lits_get hy ?_) (of_decide_eq_false ej)
    · rw [Array.getElem?_toList, Array.getElem?_eq_getElem j1]
    · rw [Array.getElem?_toList, Array.getElem?_eq_getElem j2]
/-- v is the tuple of c's length and c -/
def IsKey (h : Heap) (v : Value) (c : List Lit) : Prop := ∃ t a tk, v = .ref t ∧ h.IsTuple t #[.int (c.length : Int) tk, .ref a] ∧ IsCh h (.ref a) c
theorem key_rcLt (hu : A.units + 16 < cLine) {u v : Value} {c d : List Lit} (h1 : IsKey s.heap u c) (h2 : IsKey s.heap v d) : RcLt A s u v (ltK c d) := by
  obtain ⟨t1, a1, k1, rfl, i1, c1⟩ := h1
  obtain ⟨t2, a2, k2, rfl, i2, c2⟩ := h2
  have e : ltK c d = firstLt (fun j => if j = 0 then (c.length : Int) == (d.length : Int) else decide (c = d)) (fun j => if j = 0 then decide ((c.length : Int) < (d.length : Int)) else ltC c d) (decide (2 < 2)) (List.range (min 2 2)) := by
    show _ = firstLt _ _ _ [0, 1]
    unfold firstLt firstLt firstLt ltK
    by_cases l : c.length = d.length
    · rw [if_pos l, if_pos (by rw [if_pos rfl, l]; exact beq_self_eq_true _), if_neg (by decide : ¬ (1 = 0))]
      by_cases q : c = d
      · rw [if_pos (decide_eq_true q), q]
        exact ltC_irr d
      · rw [if_neg (by rw [decide_eq_false q]; decide), if_neg (by decide : ¬ (1 = 0))]
    · rw [if_neg l, if_neg (by rw [if_pos rfl, beq_iff_eq]; omega), if_pos rfl]
      exact decide_eq_decide.mpr ⟨fun z => by omega, fun z => by omega⟩
  rw [e]
  refine RcLt.tuples (items := #[.int (c.length : Int) k1, .ref a1]) (items2 := #[.int (d.length : Int) k2, .ref a2]) i1 i2 (by omega) (fun j j1 j2 => ?_) fun j j1 j2 ej => ?_
  · match j, j1 with
    | 0, _ => exact EqAt.int_int _ k1 _ k2
    | 1, _ => exact ch_eqAt (by show A.units + 1 + 8 < cLine; omega) c1 c2
    | j + 2, h => exact absurd h (by show ¬ j + 2 < 2; omega)
  · match j, j1 with
    | 0, _ => exact fun prog w E Q q => PyProof.Rows.lt_int q
    | 1, _ => exact ch_rcLt (by show A.units + 1 + 8 < cLine; omega) c1 c2
    | j + 2, h => exact absurd h (by show ¬ j + 2 < 2; omega)
end
end FL
/-! ## M2 -/
set_option Elab.async false
set_option linter.all false
set_option maxRecDepth 100000
set_option maxHeartbeats 4000000
namespace FL
open PySem L2 PySem.Spec PyProof.Rows Srt SrtO SeqAt LamX
section
variable {X : Cx} {pins : List (Addr × Obj)} {σ : L2.St} {H : Hp} {s : Shared}
/-- a lambda of one parameter and no captured name is called -/
theorem lam_call {A : Around} {f c' : Addr} {q : Str} {params : Arguments} {body : Expr} {scope : Scope} {pm ctv : Value} {N : List Str} {x : Str} {k : Nat} {v : V} {u : Value} {tb : TE} {Q : VK} {EE : Value → Shared → Prop} (hr : Room (k + 1) A) (e0 : Env0 X.prog X.w X.K X.mg X.base A X.stack s H)
    (lim : s.heap.NoLimit) (of1 : s.heap.get? f = some (PySem.W.kla_obj "<lambda>" q params body scope [] pm c' ctv)) (hc : H c' = some (CodeO c' q)) (S : FnScope N [x] scope)
    (hbind : bindArgs (PySem.W.kla_fn "<lambda>" q params body scope [] pm (.ref c') ctv) ⟨[u], []⟩ = pure ([x].zip [u])) (rv : RelV v u)
    (hbody : ∀ (A : Around) (s : Shared) (H : Hp), Room k (A.deeper (envOfC q scope s.heap.objs.size f (.ref c'))) → PE (cxOf C8.CX0 X.prog X.w X.K X.mg X.base N q scope f (.ref c') A X.stack s H C8.E0) body tb)
    (h : tb (L2.start N [v]) H Q) : wpAny (model X.prog X.w) A (call (.ref f) [u]) (fun u' s' => L2.CE X.stack X.prog X.w H s Q u' s') EE s := by
  obtain ⟨⟨oc, vs, t, hoc, hdc, hvc⟩, _, _⟩ := e0.hok c' _ hc
  have rc : codeAny (model X.prog X.w) A (.call (.ref f) ⟨[u], []⟩) (L2.CR C8.CX0 X.stack X.prog X.w H s Q C8.E0) s := by
    refine PySem.W.kla_callFunE hr.depth of1 rfl S.co S.gen rfl ⟨c', oc, vs, t, rfl, hoc, hdc, hvc⟩ ?_
    rw [hbind]
    refine wpAny_pure ?_
    have hkind : ∀ y ∈ [x].zip [u], scope.names.lookup y.1 = some .local ∨ (scope.names.lookup y.1 = some .cell ∧ ((cellsFrom (s.heap.objs.size + 1) scope.names []).lookup y.1).isSome = true) := fun ⟨n, z⟩ hy => by
      rcases S.par n (List.of_mem_zip hy).1 with q | q
      · exact .inl q
      · exact .inr ⟨q, PySem.W.cellsFrom_some _ _ _ (.inl q)⟩
    refine wpAny_newFunctionEnv_cells S.kind hkind fun env he s1 xx => ?_
    subst he
    refine ⟨lim.keeps xx.toInCall.keep, ?_⟩
    have J : Inv (cxOf C8.CX0 X.prog X.w X.K X.mg X.base N q scope f (.ref c') A X.stack s H C8.E0) [] (L2.start N [v]) H s1 := inv_start S hr.hd e0 rfl (.cons rv .nil) xx
    refine PySem.W.kla_codeExpr (wpAny_mono ((hbody A s H (hr.deeper _)).run [] _ _ H Q J h) (fun u' s' hq => ?_) fun e s' hq => hq)
    obtain ⟨w', H', J', r', q'⟩ := hq
    exact ⟨w', H', J'.os, J'.bare, J'.base, J'.hok, r', q'⟩
  refine wpAny_call (codeAny_mono rc fun r s' hq => ?_)
  cases r with
  | error e => exact (show False from hq).elim
  | ok fl =>
    cases fl with
    | ret u => exact hq
    | next => exact False.elim hq
    | brk => exact False.elim hq
    | cont => exact False.elim hq
end
/-! ### the loop of min -/
/-- what the key's function does of a list -/
def KeyCall (X : Cx) (pins : List (Addr × Obj)) (σ : L2.St) (A : Around) (f c' : Addr) (of : Obj) (q : Str) : Prop :=
  ∀ (pl : List (Addr × Obj)) (s : Shared) (H : Hp) (a : Addr) (xs : List V) (Q E : Value → Shared → Prop), Inv X (pins ++ pl) σ H s → (f, of) ∈ pins → H c' = some (CodeO c' q) → H a = some (.lst xs) →
    (∀ t s', Inv X (pins ++ pl) σ (upd H t (.tup [.int xs.length, .ref a])) s' → H t = none → Q (.ref t) s') → wpAny (model X.prog X.w) A (call (.ref f) [.ref a]) Q E s
theorem ChsA.at {K : PySem.W.Frag} {H : Hp} : ∀ {as : List Addr} {cs : List (List Lit)} {i : Nat} {a : Addr}, ChsA K H as cs → as[i]? = some a → ∃ bs, H a = some (.lst (bs.map V.ref)) ∧ LitsA K H bs (cs.getD i [])
  | _, _, _, _, .nil, h => nomatch h
  | _, _, 0, _, .cons a _, h => (Option.some.inj h) ▸ a
  | _, _, i + 1, _, .cons _ r, h => ChsA.at (i := i) r h
theorem argBest_le (bt : Nat → Nat → Bool) : ∀ j, argBest bt j ≤ j
  | 0 => Nat.le_refl _
  | j + 1 => by
    unfold argBest
    split
    · exact Nat.le_refl _
    · exact Nat.le_succ_of_le (argBest_le bt j)
section
variable {X : Cx} {pins : List (Addr × Obj)} {σ : L2.St}
theorem isKey_of {H : Hp} {s : Shared} {a t : Addr} {bs : List Addr} {c : List Lit} (I : Inv X pins σ H s) (h : H a = some (.lst (bs.map V.ref))) (hl : LitsA X.K H bs c) (ht : H t = some (.tup [.int (c.length : Int), .ref a])) : IsKey s.heap (.ref t) c := by
  obtain ⟨its, rv, ⟨o, h1, h2, n, h3⟩, _⟩ := I.tuple (SqT.of ht)
  cases rv with
  | cons r1 rv =>
    cases rv with
    | cons r2 rv =>
      cases rv
      obtain ⟨tk, rfl⟩ := r1
      cases r2
      exact ⟨t, a, tk, rfl, ⟨o, h1, h2, n, h3⟩, isCh_of I h hl⟩
end
theorem args_min_kd (a v d : Value) : argsOk "min" ⟨[a], [(Str.ofString "key", v), (Str.ofString "default", d)]⟩ := by unfold argsOk; kernel_rfl
end FL
/-! ## M3 -/
set_option Elab.async false
set_option linter.all false
set_option maxRecDepth 100000
set_option maxHeartbeats 4000000
namespace FL
open PySem L2 PySem.Spec PyProof.Rows Srt SrtO SeqAt LamX
/-- what the list of the best holds when j items are through -/
def OldAt (cs : List (List Lit)) (as : List Addr) (H : Hp) (j : Nat) (arr : Array Value) : Prop :=
  (j = 0 ∧ arr = #[]) ∨ ∃ i a kt, j = i + 1 ∧ arr = #[.ref a, .ref kt] ∧ as[argBest (btK cs) i]? = some a ∧ H kt = some (.tup [.int ((cs.getD (argBest (btK cs) i) []).length : Int), .ref a])
section
variable {X : Cx} {pins : List (Addr × Obj)} {σ : L2.St} {A : Around} {f c' It S l : Addr} {q : Str} {of : Obj} {as : List Addr} {cs : List (List Lit)} {R : Result → Shared → Prop} {H0 : Hp}
theorem FpOk.heap {H H' : Hp} {b : Addr} (h : FpOk X pins H b) (n : H' b = none) : FpOk X pins H' b := ⟨n, h.2⟩
theorem min_loop (hh : A.handled = none) (hu : A.units + 64 < cLine) (KC : KeyCall X pins σ A.in1 f c' of q) (hfp : (f, of) ∈ pins) (nlI : l ≠ It) (nIS : It ≠ S) (lc : as.length = cs.length) (hc0 : H0 c' = some (CodeO c' q))
    (hl0 : H0 l = some (.lst (as.map V.ref))) (hcs : ChsA X.K H0 as cs)
    (h0 : as.length = 0 → ∀ H s, Same H0 H → Inv X pins σ H s → R (.ok (.ret .none)) s)
    (hR : ∀ a H s, as[argBest (btK cs) (as.length - 1)]? = some a → 0 < as.length → Same H0 H → Inv X pins σ H s → R (.ok (.ret (.ref a))) s) :
    ∀ (r j : Nat) (H : Hp) (s : Shared) (arr : Array Value) (n : Nat), as.length - j = r → j ≤ as.length → Inv X pins σ H s → Same H0 H → FpOk X pins H It → FpOk X pins H S →
      s.heap.IsListIter It l j → s.heap.get? S = some (seqObj "list" arr n) → OldAt cs as H j arr → codeAny (model X.prog X.w) A (.builtin "min.loop" ⟨[.ref It, .ref f, .ref S], [(Str.ofString "default", .none)]⟩) R s := by
  have hname : (toString "min" ++ toString ".loop" : String) = "min.loop" := by decide
  have W := Walks.list (prog := X.prog) (w := X.w) (A := A.in1) hh It l nlI (as.map Value.ref).toArray
  have hsz : (as.map Value.ref).toArray.size = as.length := by simp
  intro r
  induction r with
  | zero =>
    intro j H s arr n hr hj I s0 fI fS it gS old
    have ej : j = as.length := by omega
    subst ej
    have hl : s.heap.IsList l (as.map Value.ref).toArray := by
      obtain ⟨its, rv, pl, hz⟩ := I.list (SqL.of (s0 _ _ hl0))
      have e := refs_vals rv
      subst e
      exact pl.isList
    refine codeAny_builtin PySem.F.entry_min_loop ?_
    rw [Around.under_plainId PySem.F.plain_min_loop _]
    show wpAny _ A.in1 (seqItems? (.ref S) >>= _) _ _ _
    refine wpAny_bind (wpAny_seqItems gS rfl ?_)
    show wpAny _ A.in1 (tryCatch (pyNext (.ref It)) _ >>= _) _ _ _
    refine wpAny_bind (wpAny_tryCatch (W.done _ _ _ ⟨by rw [hsz]; exact it, hl⟩ fun h' tk' hk' => ?_))
    have I1 : Inv X pins σ H { s with heap := h', toks := tk' } := I.turned (it := It) (fun b o hb e => hk' b o (by simpa using hb) e) fI.1 fI.2.1 fI.2.2.2.1 fI.2.2.2.2.1 fI.2.2.2.2.2
    have gS' := hk' S _ (by simpa using nIS.symm) gS
    rcases old with ⟨z, rfl⟩ | ⟨i, a, kt, z, rfl, ha, hk⟩
    · show wpAny _ A.in1 (rule _ >>= _) _ _ _
      exact wpAny_bind (wpAny_rule (wpAny_pure (h0 z H _ s0 I1)))
    · show wpAny _ A.in1 (updateSeq S (fun _ => #[]) >>= _) _ _ _
      refine wpAny_bind ?_
      refine wpAny_updateSeq gS' rfl (wpAny_bind (wpAny_letGo (wpAny_pure ?_)))
      have s1 := Heap.SameBut.update h' S (Obj.mapSeq fun _ => (#[] : Array Value))
      have I2 : Inv X pins σ H { ({ s with heap := h', toks := tk' } : Shared) with heap := h'.update S (Obj.mapSeq fun _ => (#[] : Array Value)), toks := tk' } := I1.turned (it := S) (fun b o hb e => (s1.2 b hb).trans e) fS.1 fS.2.1 fS.2.2.2.1 fS.2.2.2.2.1 fS.2.2.2.2.2
      refine hR a H _ ?_ (by omega) s0 I2
      rw [show as.length - 1 = i by omega]
      exact ha
  | succ r ih =>
    intro j H s arr n hr hj I s0 fI fS it gS old
    have hlt : j < as.length := by omega
    have hl : s.heap.IsList l (as.map Value.ref).toArray := by
      obtain ⟨its, rv, pl, hz⟩ := I.list (SqL.of (s0 _ _ hl0))
      have e := refs_vals rv
      subst e
      exact pl.isList
    refine codeAny_builtin PySem.F.entry_min_loop ?_
    rw [Around.under_plainId PySem.F.plain_min_loop _]
    show wpAny _ A.in1 (seqItems? (.ref S) >>= _) _ _ _
    refine wpAny_bind (wpAny_seqItems gS rfl ?_)
    show wpAny _ A.in1 (tryCatch (pyNext (.ref It)) _ >>= _) _ _ _
    refine wpAny_bind (wpAny_tryCatch (W.item j _ _ _ (by rw [hsz]; exact hlt) ⟨it, hl⟩ fun v h' tk' hP hst' hk' => ?_))
    obtain ⟨aj, haj⟩ : ∃ a, as[j]? = some a := ⟨_, List.getElem?_eq_getElem hlt⟩
    obtain rfl : v = .ref aj := by
      have z : ((as.map Value.ref).toArray)[j]? = some v := hP
      rw [List.getElem?_toArray, List.getElem?_map, haj] at z
      exact (Option.some.inj z).symm
    have I1 : Inv X pins σ H { s with heap := h', toks := tk' } := I.turned (it := It) (fun b o hb e => hk' b o (by simpa using hb) e) fI.1 fI.2.1 fI.2.2.2.1 fI.2.2.2.2.1 fI.2.2.2.2.2
    have gS' := hk' S _ (by simpa using nIS.symm) gS
    obtain ⟨oI', hoI', hoc, hod⟩ := id hst'.1
    have I2 := I1.pinned (fp := [It, S]) (fun b hb => by
      rcases List.mem_cons.mp hb with rfl | hb
      · exact fI
      · rw [List.mem_singleton.mp hb]; exact fS) (fun b hb => by
      rcases List.mem_cons.mp hb with rfl | hb
      · exact ⟨_, hoI', fun v z => by rw [hod] at z; cases z⟩
      · rw [List.mem_singleton.mp hb]; exact ⟨_, gS', fun v z => by cases z⟩)
    obtain ⟨bs, hbj, hLj⟩ := hcs.at haj
    have lj : bs.length = (cs.getD j []).length := Paired.length hLj
    show wpAny _ A.in1 (tryCatch (holding [.ref aj] (call (.ref f) [.ref aj])) _ >>= _) _ _ _
    refine wpAny_bind (wpAny_tryCatch (wpAny_holding (KC _ _ H aj (bs.map V.ref) _ _ I2 hfp (s0 _ _ hc0) (s0 _ _ hbj) fun t s2 I3 nt => ?_)))
    have pin : ∀ b ∈ [It, S], ∀ o, h'.get? b = some o → s2.heap.get? b = some o ∧ upd H t (.tup [.int (bs.map V.ref).length, .ref aj]) b = none := fun b hb o e =>
      let z := I3.pin (b, o) (List.mem_append_right _ (List.mem_append_right _ (mem_pinsAt hb e)))
      ⟨z.1, z.2.1⟩
    obtain ⟨gI2, nI2⟩ := pin It (by simp) _ hoI'
    obtain ⟨gS2, nS2⟩ := pin S (by simp) _ gS'
    have I4 : Inv X pins σ (upd H t (.tup [.int (bs.map V.ref).length, .ref aj])) s2 := I3.unpinned
    have sN : Same H (upd H t (.tup [.int (bs.map V.ref).length, .ref aj])) := Same.new nt
    have s02 := Same.trans' s0 sN
    have hkt : upd H t (.tup [.int (bs.map V.ref).length, .ref aj]) t = some (.tup [.int ((cs.getD j []).length : Int), .ref aj]) := by rw [upd_same, List.length_map, lj]
    generalize upd H t (.tup [.int (bs.map V.ref).length, .ref aj]) = H2 at I4 nI2 nS2 sN s02 hkt
    have keyj : IsKey s2.heap (.ref t) (cs.getD j []) := isKey_of I4 (s02 _ _ hbj) (hLj.mono (TS.same s02)) hkt
    have hit2 : s2.heap.IsListIter It l (j + 1) := ⟨oI', gI2, hoc, hod⟩
    have write : ∀ (s3 : Shared) (o : Obj), s3 = { s2 with heap := s2.heap.update S (Obj.mapSeq fun _ => #[.ref aj, .ref t]) } → argBest (btK cs) j = j → codeAny (model X.prog X.w) A (.builtin "min.loop" ⟨[.ref It, .ref f, .ref S], [(Str.ofString "default", .none)]⟩) R s3 := fun s3 _ e3 hb => by
      subst e3
      have s1 := Heap.SameBut.update s2.heap S (Obj.mapSeq fun _ => #[.ref aj, .ref t])
      obtain ⟨c2, hc2⟩ : ∃ c2, (s2.heap.update S (Obj.mapSeq fun _ => #[.ref aj, .ref t])).get? S = some (seqObj "list" #[.ref aj, .ref t] c2) := ⟨_, get?_update_seq gS2 fun _ => #[.ref aj, .ref t]⟩
      have I5 : Inv X pins σ H2 { s2 with heap := s2.heap.update S (Obj.mapSeq fun _ => #[.ref aj, .ref t]), toks := s2.toks } := I4.turned (it := S) (fun b o hb e => (s1.2 b hb).trans e) nS2 fS.2.1 fS.2.2.2.1 fS.2.2.2.2.1 fS.2.2.2.2.2
      refine ih (j + 1) H2 _ _ c2 (by omega) hlt I5 s02 (FpOk.heap fI nI2) (FpOk.heap fS nS2) ⟨oI', (s1.2 It nIS).trans gI2, hoc, hod⟩ hc2 (.inr ⟨j, aj, t, rfl, rfl, by rw [hb]; exact haj, by rw [hb]; exact hkt⟩)
    rcases old with ⟨z, rfl⟩ | ⟨i, a, kt, z, rfl, ha, hk⟩
    · subst z
      show wpAny _ A.in1 (updateSeq S (fun _ => #[.ref aj, .ref t]) >>= _) _ _ _
      refine wpAny_bind ?_
      refine wpAny_updateSeq gS2 rfl ?_
      rw [hname]
      exact wpAny_pure ⟨plainId_quiet PySem.F.plain_min_loop _, write _ oI' rfl rfl⟩
    · subst z
      obtain ⟨bs2, hb2, hL2⟩ := hcs.at ha
      have keyi : IsKey s2.heap (.ref kt) (cs.getD (argBest (btK cs) i) []) := isKey_of I4 (s02 _ _ hb2) (hL2.mono (TS.same s02)) (sN _ _ hk)
      show wpAny _ A.in1 (tryCatch (holding [.ref aj, .ref t] (richCompare .Lt (.ref t) (.ref kt) >>= _)) _ >>= _) _ _ _
      refine wpAny_bind (wpAny_tryCatch (wpAny_holding (wpAny_bind (key_rcLt (by show A.units + 1 + 16 < cLine; omega) keyj keyi _ _ _ _ ?_))))
      refine wpAny_bind (wpAny_holding (wpAny_truthy_bool ?_))
      refine wpAny_bind (wpAny_letGo (wpAny_pure ?_))
      cases hb : ltK (cs.getD (i + 1) []) (cs.getD (argBest (btK cs) i) []) with
      | true =>
        simp only [if_true]
        refine wpAny_bind ?_
        refine wpAny_updateSeq gS2 rfl (wpAny_bind (wpAny_letGo ?_))
        rw [hname]
        refine wpAny_pure ⟨plainId_quiet PySem.F.plain_min_loop _, write _ oI' rfl ?_⟩
        unfold argBest
        rw [if_pos (show btK cs (i + 1) (argBest (btK cs) i) = true from hb)]
      | false =>
        simp only [Bool.false_eq_true, if_false]
        refine wpAny_bind (wpAny_letGo ?_)
        rw [hname]
        have eb : argBest (btK cs) (i + 1) = argBest (btK cs) i := by
          show (if btK cs (i + 1) (argBest (btK cs) i) then i + 1 else argBest (btK cs) i) = _
          rw [if_neg (by rw [show btK cs (i + 1) (argBest (btK cs) i) = false from hb]; decide)]
        refine wpAny_pure ⟨plainId_quiet PySem.F.plain_min_loop _, ih (i + 1 + 1) H2 s2 _ n (by omega) hlt I4 s02 (FpOk.heap fI nI2) (FpOk.heap fS nS2) hit2 gS2 (.inr ⟨i + 1, a, kt, rfl, rfl, by rw [eb]; exact ha, by rw [eb]; exact sN _ _ hk⟩)⟩
theorem min_call {H : Hp} {s : Shared} {Q E : Value → Shared → Prop} (hh : A.handled = none) (hu : A.units + 64 < cLine) (KC : KeyCall X pins σ A.in1 f c' of q) (I : Inv X pins σ H s) (hfp : (f, of) ∈ pins) (lc : as.length = cs.length) (hc : H c' = some (CodeO c' q))
    (hl : H l = some (.lst (as.map V.ref))) (hcs : ChsA X.K H as cs) (h0 : as.length = 0 → ∀ H' s', Same H H' → Inv X pins σ H' s' → Q .none s')
    (hR : ∀ a H' s', as[argBest (btK cs) (as.length - 1)]? = some a → 0 < as.length → Same H H' → Inv X pins σ H' s' → Q (.ref a) s') :
    wpAny (model X.prog X.w) A (call (.builtin "min") [.ref l] [(Str.ofString "key", .ref f), (Str.ofString "default", .none)]) Q E s := by
  have hname : (toString "min" ++ toString ".loop" : String) = "min.loop" := by decide
  have hls : s.heap.IsList l (as.map Value.ref).toArray := by
    obtain ⟨its, rv, pl, hz⟩ := I.list (SqL.of hl)
    have e := refs_vals rv
    subst e
    exact pl.isList
  obtain ⟨ol, hol, _⟩ := id hls
  have hll : l < s.heap.objs.size := Heap.lt_size hol
  refine kmk_tree PySem.F.kind_min PySem.F.plain_min PySem.F.entry_min (args_min_kd _ _ _) ?_
  show wpAny _ A.in1 (Builtin.Builtins.bindParams "min" ["key", "default"] 0 ⟨[], [(Str.ofString "key", .ref f), (Str.ofString "default", .none)]⟩ >>= _) _ _ s
  refine wpAny_bind (wpAny_of_eq (show Builtin.Builtins.bindParams "min" ["key", "default"] 0 ⟨[], [(Str.ofString "key", .ref f), (Str.ofString "default", .none)]⟩ = pure [some (.ref f), some .none] from rfl) ?_)
  refine wpAny_bind (wpAny_pure ?_)
  refine wpAny_bind (wpAny_pyIter_list hls ?_)
  refine wpAny_bind (wpAny_newList ?_ (Nat.zero_le _))
  rw [hname]
  generalize hIt : ({ cls := .type "list_iterator", data := .fields #[.ref l, .int 0 0] } : Obj) = oIt
  have hS : (s.heap.push oIt).objs.size = s.heap.objs.size + 1 := size_push' ..
  have gI : ((s.heap.push oIt).push (seqObj "list" #[] 0)).get? s.heap.objs.size = some oIt := Heap.get?_push_of_some _ (by rw [← hIt]; exact Heap.get?_push_size _ rfl)
  have gS : ((s.heap.push oIt).push (seqObj "list" #[] 0)).get? (s.heap.push oIt).objs.size = some (seqObj "list" #[] 0) := Heap.get?_push_size _ rfl
  have I1 : Inv X pins σ H { s with heap := (s.heap.push oIt).push (seqObj "list" #[] 0), toks := s.toks } := I.kept fun b o e => Heap.get?_push_of_some _ (Heap.get?_push_of_some _ e)
  refine wpAny_pure ⟨plainId_quiet PySem.F.plain_min_loop _, min_loop (It := s.heap.objs.size) (S := (s.heap.push oIt).objs.size) (H0 := H) hh hu KC hfp (Nat.ne_of_lt hll) (by rw [hS]; exact Nat.ne_of_lt (Nat.lt_succ_self _)) lc hc hl hcs (fun z H' s' a b => ?_) (fun a H' s' e p b c => ?_) as.length 0 H _ #[] 0 rfl (Nat.zero_le _) I1 (fun _ _ z => z)
    (I.fpOk (Nat.le_refl _) (I.hok.fresh (Nat.le_refl _))) (I.fpOk (by rw [hS]; exact Nat.le_succ _) (I.hok.fresh (by rw [hS]; exact Nat.le_succ _))) ⟨oIt, gI, by rw [← hIt], by rw [← hIt] <;> rfl⟩ gS (.inl ⟨rfl, rfl⟩)⟩
  · exact h0 z H' s' a b
  · exact hR a H' s' e p b c
end
end FL
/-! ## M4a -/
set_option Elab.async false
set_option linter.all false
set_option maxRecDepth 100000
set_option maxHeartbeats 4000000
/-! a lambda is made: only its maker's table may have grown -/
namespace FL
open PySem L2 PySem.Spec PyProof.Rows LamX
/-- all but the table at P, and that bears the lambda's name still -/
structure LamEx (P : Addr) (q : Str) (H H' : Hp) : Prop where
  same : ∀ b o, b ≠ P → H b = some o → H' b = some o
  tab : TabS H' P q
section
variable {X : Cx} {pins : List (Addr × Obj)} {σ : L2.St} {H : Hp} {s : Shared} {c P : Addr} {q : Str}
theorem lam_make3 {ps0 : Arguments} {bd : Expr} {sc : Scope} {at0 : Pos} {E Q : Value → Shared → Prop} (I : Inv X pins σ H s) (TB : LamX.TabB X.base X.mg c P) (hcode : X.env.code = .ref c) (eq : q = X.env.qual ++ "<lambda>") (hT : TabS H P q) (hdef : defaultsOf ps0 X.env = ([], []))
    (hfree : ∀ y ∈ sc.names, y.2 = .free → ∃ c, X.env.cells.lookup y.1 = some c)
    (h : ∀ (f c' : Addr) (pm ctv : Value) (H1 : Hp) (s' : Shared), Inv X pins σ H1 s' → LamEx P q H H1 → s'.heap.get? f = some (PySem.W.kla_obj "<lambda>" q ps0 bd sc (cloFrom X.env.cells sc.names []) pm c' ctv) → H1 f = none → f ∉ frs X.stack → H1 c' = some (CodeO c' q) → Q (.ref f) s') :
    wpAny (model X.prog X.w) X.A (eval (.Lambda ps0 bd sc at0) X.env) Q E s := by
  subst eq
  obtain ⟨ps, hP, tri, told⟩ := hT
  refine PySem.W.kla_eval hdef ?_
  have gP : s.heap.get? P = some { cls := .none, data := .fields ps } := I.hok P _ hP
  have out : ∀ f, s.heap.objs.size ≤ f → f ∉ frs X.stack := fun f hf z => by
    have := I.stkSub _ z
    rcases List.mem_cons.mp this with e | e
    · exact absurd (Nat.lt_of_lt_of_le I.lt hf) (by rw [e]; exact Nat.lt_irrefl _)
    · exact I.nofs hf e
  cases hc : codeAmong at0 ps.toList with
  | some cv =>
    obtain ⟨c', e, hco⟩ := told at0 cv hc
    subst e
    refine PySem.W.kla_makeFunctionHit (mg := X.mg) (c := c) (P := P) (ps := ps) (closure_ok hfree) I.ok.glob (I.mod.glob.keeps I.bk) hcode (TB.code.keeps I.bk) gP tri hc (TB.bm.keeps I.bk) fun ctv h2 tk kp hz => ?_
    refine h h2.objs.size c' _ ctv H _ (I.kept (t' := tk) fun b o e => Heap.get?_push_of_some _ (kp b o e)) ⟨fun _ _ _ e => e, ps, hP, tri, told⟩ (Heap.get?_push_size _ rfl) (I.hok.fresh hz) (out _ hz) hco
  | none =>
    refine PySem.W.kla_makeFunction (mg := X.mg) (c := c) (P := P) (ps := ps) (closure_ok hfree) I.ok.glob (I.mod.glob.keeps I.bk) hcode (TB.code.keeps I.bk) gP tri hc TB.gP (TB.bm.keeps I.bk) fun c' ctv h2 tk kp ge lt rec tab => ?_
    obtain ⟨c2, oc, vs, t, e2, hoc, hd, hv⟩ := rec
    cases e2
    have z2 : s.heap.objs.size ≤ h2.objs.size := Nat.le_trans ge (Nat.le_of_lt lt)
    have nC : H c' = none := I.hok.fresh ge
    have nPC : P ≠ c' := ne_of_none hP nC
    have J := inv_table (t' := tk) (q := X.env.qual ++ "<lambda>") (more := #[rawInt at0.line, rawInt at0.col, .ref c']) (h' := h2.push (PySem.W.kla_obj "<lambda>" (X.env.qual ++ "<lambda>") ps0 bd sc (cloFrom X.env.cells sc.names []) ((X.mg "__name__").getD .none) c' ctv)) I hP
      (fun b o hb e => Heap.get?_push_of_some _ (kp b o hb e)) (Heap.get?_push_of_some _ tab) ge ⟨oc, vs, t, Heap.get?_push_of_some _ hoc, hd, hv⟩
    have stay : ∀ b o, b ≠ P → H b = some o → upd (upd H P (.tbl (ps ++ #[rawInt at0.line, rawInt at0.col, .ref c']))) c' (CodeO c' (X.env.qual ++ "<lambda>")) b = some o := fun b o nb e => by
      rw [upd_ne (ne_of_none e nC), upd_ne nb]
      exact e
    have tl : (ps ++ #[rawInt at0.line, rawInt at0.col, .ref c']).toList = ps.toList ++ [rawInt at0.line, rawInt at0.col, .ref c'] := by simp
    refine h h2.objs.size c' _ ctv _ _ J ⟨stay, _, by rw [upd_ne nPC, upd_same], by rw [tl]; exact PySem.TriplesOk_snoc _ _ _ _ tri, fun p' cv hcv => ?_⟩ (Heap.get?_push_size _ rfl) ?_ (out _ z2) upd_same
    · rw [tl] at hcv
      rcases among_app _ tri hcv with z | z
      · obtain ⟨c0, e1, e2⟩ := told p' cv z
        exact ⟨c0, e1, stay _ _ (fun z => by rw [z, hP] at e2; exact codeO_ne ps (Option.some.inj e2).symm) e2⟩
      · exact ⟨c', z, upd_same⟩
    · rw [upd_ne (Nat.ne_of_gt lt), upd_ne (Nat.ne_of_gt (Nat.lt_of_lt_of_le (Heap.lt_size gP) z2))]
      exact I.hok.fresh z2
end
end FL
/-! ## M4 -/
set_option Elab.async false
set_option linter.all false
set_option maxRecDepth 100000
set_option maxHeartbeats 4000000
namespace FL
open PySem L2 PySem.Spec PyProof.Rows Srt SrtO SeqAt LamX
/-- min(e, key=lambda x: (len(x), x), default=None) -/
def tMin (K : PySem.W.Frag) (P : Addr) (q : Str) (te : TE) : TE := fun σ H Q => te σ H fun v H1 => ∃ l as cs, v = .ref l ∧ H1 l = some (.lst (as.map V.ref)) ∧ ChsA K H1 as cs ∧ TabS H1 P q ∧
  ∀ H2, LamEx P q H1 H2 → (as = [] → ∀ H3, Same H2 H3 → Q .non H3) ∧ ∀ a H3, as[argBest (btK cs) (as.length - 1)]? = some a → 0 < as.length → Same H2 H3 → Q (.ref a) H3
section
variable {X : Cx}
theorem LamEx.ts {K : PySem.W.Frag} {P : Addr} {q : Str} {H H' : Hp} (t : TabS H P q) (x : LamEx P q H H') : TS K H H' := fun b xs z => by
  obtain ⟨ps, hP, _⟩ := t
  rcases z with z | z
  · refine .inl ?_
    rcases z with z | ⟨o, z⟩
    · exact .inl (x.same _ _ (fun e => by rw [e, hP] at z; cases z) z)
    · exact .inr ⟨o, x.same _ _ (fun e => by rw [e, hP] at z; cases z) z⟩
  · exact .inr z
theorem LamEx.lst {P : Addr} {q : Str} {H H' : Hp} (t : TabS H P q) (x : LamEx P q H H') {l : Addr} {xs : List V} (h : H l = some (.lst xs)) : H' l = some (.lst xs) := by
  obtain ⟨ps, hP, _⟩ := t
  exact x.same _ _ (fun e => by rw [e, hP] at h; cases h) h
theorem ChsA.ext {K : PySem.W.Frag} {P : Addr} {q : Str} {H H' : Hp} (t : TabS H P q) (x : LamEx P q H H') {as : List Addr} {cs : List (List Lit)} (h : ChsA K H as cs) : ChsA K H' as cs := Paired.mapP h fun a c ⟨bs, h1, h2⟩ => ⟨bs, x.lst t h1, h2.mono (x.ts t)⟩
theorem pe_minLam {q : Str} {c P : Addr} {k j : Nat} {e : Expr} {te tb : TE} {params : Arguments} {body : Expr} {scope : Scope} {N : List Str} {x : Str} {p pos lpos cp k1 k2 : Pos} (hr : Room (k + 3) X.A) (hc : X.calm = true) (hg : Gl X "min") (hm : X.mg "min" = none) (ha : PA X [e] (tCons te tNil))
    (TB : LamX.TabB X.base X.mg c P) (hcode : X.env.code = .ref c) (eq : q = X.env.qual ++ "<lambda>") (S : FnScope N [x] scope) (hdef : defaultsOf params X.env = ([], []))
    (hbind : ∀ (q : Str) (cl : List (Str × Addr)) (pm cv ctv u : Value), bindArgs (PySem.W.kla_fn "<lambda>" q params body scope cl pm cv ctv) ⟨[u], []⟩ = pure ([x].zip [u]))
    (hbody : ∀ (f c' : Addr) (A : Around) (s : Shared) (H : Hp) (st : List Env), Room k (A.deeper (envOfC q scope s.heap.objs.size f (.ref c'))) → PE (cxOf C8.CX0 X.prog X.w X.K X.mg X.base N q scope f (.ref c') A st s H C8.E0) body tb)
    (htb : ∀ (a : Addr) (xs : List V) (H : Hp) (Q : VK), H a = some (.lst xs) → (∀ t, H t = none → Q (.ref t) (upd H t (.tup [.int xs.length, .ref a]))) → tb (L2.start N [.ref a]) H Q)
    (he : backTo pos (starEach [e] X.env) = (false, eval e X.env) :: backTo pos (starEach [] X.env) := by rfl) (hpl : (backTo pos (starEach [e] X.env)).any (·.1) = false := by rfl)
    (hall : (backToKw pos (keywordEach [⟨some "key", .Lambda params body scope lpos, k1⟩, ⟨some "default", .Constant .none j cp, k2⟩] X.env)).all (·.1.isSome) = true := by rfl) (hnone : (backToKw pos (keywordEach [⟨some "key", .Lambda params body scope lpos, k1⟩, ⟨some "default", .Constant .none j cp, k2⟩] X.env)).any (·.1.isNone) = false := by rfl) :
    PE X (.Call (.Name "min" p) [e] [⟨some "key", .Lambda params body scope lpos, k1⟩, ⟨some "default", .Constant .none j cp, k2⟩] pos) (tMin X.K P q te) := by
  refine ⟨fun pins s σ H Q I h => ?_⟩
  refine wpAny_Call_Name_kw (ld_blt I hg hm (by decide +kernel : bootBuiltins "min" = some (.builtin "min")) ?_)
  refine PyProof.Rows.callWith_kw (thn (ha.run pos pins s σ H (fun vs H1 => ∃ l as cs, vs = [.ref l] ∧ H1 l = some (.lst (as.map V.ref)) ∧ ChsA X.K H1 as cs ∧ TabS H1 P q ∧
    ∀ H2, LamEx P q H1 H2 → (as = [] → ∀ H3, Same H2 H3 → Q .non H3) ∧ ∀ a H3, as[argBest (btK cs) (as.length - 1)]? = some a → 0 < as.length → Same H2 H3 → Q (.ref a) H3) I ?_) fun us s1 hq => ?_) he hpl hall hnone
  · have mono : te σ H _ := h
    show te σ H fun v H1 => ∃ l as cs, [v] = [.ref l] ∧ _
    have e2 : (fun v H1 => ∃ l as cs, [v] = [V.ref l] ∧ H1 l = some (.lst (as.map V.ref)) ∧ ChsA X.K H1 as cs ∧ TabS H1 P q ∧
      ∀ H2, LamEx P q H1 H2 → (as = [] → ∀ H3, Same H2 H3 → Q .non H3) ∧ ∀ a H3, as[argBest (btK cs) (as.length - 1)]? = some a → 0 < as.length → Same H2 H3 → Q (.ref a) H3) =
      (fun v H1 => ∃ l as cs, v = V.ref l ∧ H1 l = some (.lst (as.map V.ref)) ∧ ChsA X.K H1 as cs ∧ TabS H1 P q ∧
      ∀ H2, LamEx P q H1 H2 → (as = [] → ∀ H3, Same H2 H3 → Q .non H3) ∧ ∀ a H3, as[argBest (btK cs) (as.length - 1)]? = some a → 0 < as.length → Same H2 H3 → Q (.ref a) H3) := by
      funext v H1
      refine propext ⟨fun ⟨l, as, cs, z, r⟩ => ⟨l, as, cs, by injection z, r⟩, fun ⟨l, as, cs, z, r⟩ => ⟨l, as, cs, by rw [z], r⟩⟩
    rw [e2]
    exact mono
  obtain ⟨vs, H1, I1, r1, l, as, cs, rfl, hl, hcs, hT, hq⟩ := hq
  obtain ⟨u, rfl, ru⟩ := vals1 r1
  obtain rfl : u = Value.ref l := ru
  show wpAny _ _ (evalAll ((do let v ← eval (.Lambda params body scope lpos) X.env; standAt pos; pure v) :: (do let v ← eval (.Constant .none j cp) X.env; standAt pos; pure v) :: [])) _ _ s1
  have hnf : ∀ y ∈ scope.names, y.2 = .free → ∃ c, X.env.cells.lookup y.1 = some c := fun y hy e => absurd e (S.nofree y hy)
  have hclo : cloFrom X.env.cells scope.names [] = [] := by
    cases q : cloFrom X.env.cells scope.names [] with
    | nil => rfl
    | cons y ys =>
      have hm : (y.1, y.2) ∈ cloFrom X.env.cells scope.names [] := by rw [q]; exact List.mem_cons_self
      rcases cloFrom_mem hm with z | ⟨z, _⟩
      · cases z
      · exact absurd rfl (S.nofree _ z)
  refine wpAny_evalAll_cons (wpAny_bind (lam_make3 I1 TB hcode eq hT hdef hnf fun f c' pm ctv H2 s2 I2 eN hf hfn hfr hco => wpAny_bind (wpAny_standAt (wpAny_pure ?_))))
  refine wpAny_evalAll_cons (wpAny_bind (Constant_none (wpAny_bind (wpAny_standAt (wpAny_pure ?_)))))
  refine wpAny_evalAll_nil ?_
  show wpAny _ _ (call (.builtin "min") [.ref l] [(Str.ofString "key", .ref f), (Str.ofString "default", .none)]) _ _ s2
  obtain ⟨q0, q1⟩ := hq H2 eN
  generalize hof : PySem.W.kla_obj "<lambda>" q params body scope (cloFrom X.env.cells scope.names []) pm c' ctv = of at hf
  have gf3 : s2.heap.get? f = some of := hf
  have fL : f ≠ X.env.locals := fun z => by
    obtain ⟨m, ⟨o, es, ep, ho, hd, _⟩, _⟩ := I2.loc
    rw [← z, gf3] at ho
    cases ho
    rw [← hof] at hd
    cases hd
  have fF : f ∉ X.fs := fun z => by
    rcases I2.ok.stk with e | ⟨e, _⟩
    · exact hfr (by rw [e]; exact z)
    · refine hfr ?_
      rw [e]
      show f ∈ List.filterMap _ (_ :: _)
      rw [List.filterMap_cons]
      split
      · exact z
      · exact List.mem_cons_of_mem _ z
  have I4 : Inv X (pins ++ [(f, of)]) σ H2 s2 := I2.pins_of fun p hp => by
    rcases List.mem_append.mp hp with hp | hp
    · exact I2.pin p (List.mem_append_right _ hp)
    · rw [List.mem_singleton.mp hp]
      exact ⟨gf3, hfn, fL, fF, fun v z => by rw [← hof] at z; cases z⟩
  have KC : KeyCall X (pins ++ [(f, of)]) σ X.A.in1 f c' of q := fun pl s H a xs Q E J hfp hc ha hQ => by
    obtain ⟨gf, _⟩ := J.pin (f, of) (List.mem_append_right _ (List.mem_append_left _ hfp))
    rw [← hof, hclo] at gf
    have e0 := J.env0
    have e1 : Env0 X.prog X.w X.K X.mg X.base X.A.in1 X.stack s H := ⟨e0.frames, e0.mod, e0.bs, e0.bsz, e0.funs, e0.frf, e0.hok, e0.bare⟩
    refine wpAny_mono (lam_call (v := V.ref a) (EE := fun _ _ => False) (Q := fun v H' => ∃ t, v = .ref t ∧ H t = none ∧ H' = upd H t (.tup [.int xs.length, .ref a])) ((hr.mono (by omega)).in1) e1 J.nolimit gf hc S (hbind _ _ _ _ _ _) (show L2.RelV (V.ref a) (Value.ref a) from rfl) (fun A s H hr2 => hbody f c' A s H _ hr2) (htb a xs H _ ha fun t ht => ⟨t, rfl, ht, rfl⟩)) (fun u s' hce => ?_) fun _ _ z => z.elim
    obtain ⟨v, H', J', rv, t, ev, nt, eH⟩ := J.after hce
    subst ev eH
    obtain rfl : u = Value.ref t := rv
    exact hQ t s' J' nt
  have hn3 : as.length = cs.length := Paired.length hcs
  refine min_call (as := as) (cs := cs) (hr.hd) (by have := hr.un; omega) KC I4 (List.mem_append_right _ (List.mem_singleton.mpr rfl)) hn3 hco (eN.lst hT hl) (hcs.ext hT eN) (fun z H' s' sH J => ?_) fun a H' s' ea pos sH J => ?_
  · exact ⟨.non, H', J.pins_of fun p hp => J.pin p (List.mem_append_right _ (List.mem_append_left _ hp)), rfl, q0 (List.eq_nil_of_length_eq_zero z) H' sH⟩
  · exact ⟨.ref a, H', J.pins_of fun p hp => J.pin p (List.mem_append_right _ (List.mem_append_left _ hp)), rfl, q1 a H' ea pos sH⟩
end
/-! ### tables: those of generator expressions (Ps) and the one of a lambda (at L, of the name q) -/
structure Ez (L : Addr) (q : Str) (Ps : List Addr) (H H' : Hp) : Prop where
  ex : Ex (L :: Ps) H H'
  tl : TabS H' L q
structure Tz (L : Addr) (q : Str) (Ps : List Addr) (H : Hp) : Prop where
  tb : Tb (L :: Ps) H
  tl : TabS H L q
section
variable {K : PySem.W.Frag} {L : Addr} {q : Str} {Ps : List Addr} {H H1 H' : Hp}
theorem Ez.tz (x : Ez L q Ps H H') : Tz L q Ps H' := ⟨x.ex.tb, x.tl⟩
theorem Ez.refl (t : Tz L q Ps H) : Ez L q Ps H H := ⟨Ex.refl t.tb, t.tl⟩
theorem Ez.trans (a : Ez L q Ps H H1) (b : Ez L q Ps H1 H') : Ez L q Ps H H' := ⟨a.ex.trans b.ex, b.tl⟩
theorem tabS_tabG {P : Addr} (t : TabS H P q) : GxR.TabG H P := let ⟨ps, a, b, _⟩ := t; ⟨ps, a, b⟩
theorem Ez.of_same (t : Tz L q Ps H) (s : Same H H') : Ez L q Ps H H' := by
  have tl : TabS H' L q := t.tl.ext s
  refine ⟨⟨fun b o _ e => s b o e, fun P hP => ?_⟩, tl⟩
  obtain ⟨ps, e, r⟩ := t.tb P hP
  exact ⟨ps, s _ _ e, r⟩
theorem Ez.new {p : Addr} {o : HO} (t : Tz L q Ps H) (h : H p = none) : Ez L q Ps H (L2.upd H p o) := Ez.of_same t (Same.new h)
theorem Ez.of_lam (t : Tz L q Ps H) (x : LamEx L q H H') : Ez L q Ps H H' := by
  refine ⟨⟨fun b o n e => x.same b o (fun z => n (by rw [z]; exact List.mem_cons_self)) e, fun P hP => ?_⟩, x.tab⟩
  by_cases z : P = L
  · rw [z]
    exact tabS_tabG x.tab
  · obtain ⟨ps, e, r⟩ := t.tb P hP
    exact ⟨ps, x.same _ _ z e, r⟩
theorem Ez.of_ex (nL : L ∉ Ps) (t : Tz L q Ps H) (x : Ex Ps H H') : Ez L q Ps H H' := by
  have tP : Tb Ps H := fun P hP => t.tb P (List.mem_cons_of_mem _ hP)
  obtain ⟨ps, e, tri, told⟩ := t.tl
  have tl : TabS H' L q := ⟨ps, x.same _ _ nL e, tri, fun pos cv hc => by
    obtain ⟨c, e1, e2⟩ := told pos cv hc
    exact ⟨c, e1, x.same _ _ (tP.no e2 codeO_ne) e2⟩⟩
  refine ⟨⟨fun b o n e => x.same b o (fun z => n (List.mem_cons_of_mem _ z)) e, fun P hP => ?_⟩, tl⟩
  rcases List.mem_cons.mp hP with z | z
  · rw [z]
    exact tabS_tabG tl
  · exact x.tb P z
theorem Tz.tbP (t : Tz L q Ps H) : Tb Ps H := fun P hP => t.tb P (List.mem_cons_of_mem _ hP)
theorem Ez.ts (t : Tz L q Ps H) (a : Ez L q Ps H H') : TS K H H' := Ex.ts t.tb a.ex
theorem Ez.lst {p : Addr} {xs : List V} (t : Tz L q Ps H) (a : Ez L q Ps H H') (h : H p = some (.lst xs)) : H' p = some (.lst xs) := Ex.lst t.tb a.ex h
theorem Ez.free {p : Addr} (t : Tz L q Ps H) (a : Ez L q Ps H H') (h : H' p = none) : H p = none := Ex.free t.tb a.ex h
theorem Ez.sqL {p : Addr} {xs : List V} (t : Tz L q Ps H) (a : Ez L q Ps H H') (h : SqL K H p xs) : SqL K H' p xs := by
  rcases h with (h | ⟨o, h⟩) | h
  · exact .inl (.inl (a.lst t h))
  · exact .inl (.inr ⟨o, a.ex.same _ _ (t.tb.no h (fun _ z => by cases z)) h⟩)
  · exact .inr h
end
end FL
/-! ## N2 -/
set_option Elab.async false
set_option linter.all false
set_option maxRecDepth 100000
set_option maxHeartbeats 4000000
/-! sorted(xs) of pairs of a length and a list of texts -/
namespace FL
open PySem L2 PySem.Spec PyProof.Rows Srt SrtO SeqAt
abbrev ltT (a b : Str) : Bool := decide (a.cps.toList < b.cps.toList)
theorem ltT_tri (a b : Str) : ltT a b = true ∨ a = b ∨ ltT b a = true := by
  by_cases h : a.cps.toList < b.cps.toList
  · exact .inl (decide_eq_true h)
  · by_cases h2 : b.cps.toList < a.cps.toList
    · exact .inr (.inr (decide_eq_true h2))
    · exact .inr (.inl (cps_inj (List.le_antisymm (List.not_lt.mp h2) (List.not_lt.mp h))))
theorem ltT_trans {a b c : Str} (h1 : ltT a b = true) (h2 : ltT b c = true) : ltT a c = true := decide_eq_true (List.lt_trans (of_decide_eq_true h1) (of_decide_eq_true h2))
theorem ltT_irr (a : Str) : ltT a a = false := decide_eq_false (List.lt_irrefl _)
def ltS : List Str → List Str → Bool
  | [], [] => false
  | [], _ :: _ => true
  | _ :: _, [] => false
  | a :: x, b :: y => if a = b then ltS x y else ltT a b
theorem firstLt_ltS : ∀ xs ys : List Str, firstLt (fun j => decide (xs.getD j "" = ys.getD j "")) (fun j => ltT (xs.getD j "") (ys.getD j "")) (decide (xs.length < ys.length)) (List.range (min xs.length ys.length)) = ltS xs ys
  | [], [] => rfl
  | [], y :: ys => by
    show firstLt _ _ (decide (0 < ys.length + 1)) (List.range (min 0 (ys.length + 1))) = true
    rw [Nat.zero_min, List.range_zero, decide_eq_true (Nat.succ_pos _)] <;> rfl
  | x :: xs, [] => by
    show firstLt _ _ (decide (xs.length + 1 < 0)) (List.range (min (xs.length + 1) 0)) = false
    rw [Nat.min_zero, List.range_zero, decide_eq_false (Nat.not_lt_zero _)] <;> rfl
  | x :: xs, y :: ys => by
    have ih := firstLt_ltS xs ys
    rw [List.length_cons, List.length_cons, Nat.succ_min_succ, List.range_succ_eq_map]
    unfold firstLt ltS
    rw [firstLt_map]
    show (if decide (x = y) = true then firstLt (fun j => decide (xs.getD j "" = ys.getD j "")) (fun j => ltT (xs.getD j "") (ys.getD j "")) (decide (xs.length + 1 < ys.length + 1)) (List.range (min xs.length ys.length)) else ltT x y) = _
    have e : decide (xs.length + 1 < ys.length + 1) = decide (xs.length < ys.length) := decide_eq_decide.mpr ⟨Nat.lt_of_succ_lt_succ, Nat.succ_lt_succ⟩
    rw [e, ih]
    by_cases h : x = y
    · rw [decide_eq_true h, if_pos rfl, if_pos h]
    · rw [decide_eq_false h, if_neg (by decide), if_neg h]
theorem ltS_irr : ∀ x, ltS x x = false
  | [] => rfl
  | a :: x => by
    unfold ltS
    rw [if_pos rfl]
    exact ltS_irr x
theorem ltS_tri : ∀ x y, ltS x y = true ∨ x = y ∨ ltS y x = true
  | [], [] => .inr (.inl rfl)
  | [], _ :: _ => .inl rfl
  | _ :: _, [] => .inr (.inr rfl)
  | a :: x, b :: y => by
    unfold ltS
    by_cases h : a = b
    · rw [if_pos h, if_pos h.symm]
      rcases ltS_tri x y with z | z | z
      · exact .inl z
      · exact .inr (.inl (by rw [h, z]))
      · exact .inr (.inr z)
    · rw [if_neg h, if_neg (fun z => h z.symm)]
      rcases ltT_tri a b with z | z | z
      · exact .inl z
      · exact absurd z h
      · exact .inr (.inr z)
theorem ltS_trans : ∀ {x y z}, ltS x y = true → ltS y z = true → ltS x z = true
  | [], [], _, h, _ => nomatch h
  | [], _ :: _, [], _, h => nomatch h
  | [], _ :: _, _ :: _, _, _ => rfl
  | _ :: _, [], _, h, _ => nomatch h
  | _ :: _, _ :: _, [], _, h => nomatch h
  | a :: x, b :: y, c :: z, h1, h2 => by
    unfold ltS at h1 h2 ⊢
    by_cases e1 : a = b
    · rw [if_pos e1] at h1
      by_cases e2 : b = c
      · rw [if_pos e2] at h2
        rw [if_pos (e1.trans e2)]
        exact ltS_trans h1 h2
      · rw [if_neg e2] at h2
        rw [if_neg (fun q => e2 (e1 ▸ q)), e1]
        exact h2
    · rw [if_neg e1] at h1
      by_cases e2 : b = c
      · rw [if_pos e2] at h2
        rw [if_neg (fun q => e1 (q.trans e2.symm)), ← e2]
        exact h1
      · rw [if_neg e2] at h2
        have t := ltT_trans h1 h2
        rw [if_neg (fun q => by rw [q, ltT_irr] at t; cases t)]
        exact t
/-- by the number of names, then by the names -/
def ltN (c d : List Str) : Bool := if c.length = d.length then ltS c d else decide (c.length < d.length)
theorem ltN_irr (x : List Str) : ltN x x = false := by
  unfold ltN
  rw [if_pos rfl, ltS_irr]
theorem ltN_tri (x y : List Str) : ltN x y = true ∨ x = y ∨ ltN y x = true := by
  unfold ltN
  by_cases h : x.length = y.length
  · rw [if_pos h, if_pos h.symm]
    exact ltS_tri x y
  · rw [if_neg h, if_neg (Ne.symm h)]
    rcases Nat.lt_or_gt_of_ne h with z | z
    · exact .inl (decide_eq_true z)
    · exact .inr (.inr (decide_eq_true z))
theorem ltN_trans {x y z : List Str} (h1 : ltN x y = true) (h2 : ltN y z = true) : ltN x z = true := by
  unfold ltN at *
  by_cases a : x.length = y.length
  · rw [if_pos a] at h1
    by_cases b : y.length = z.length
    · rw [if_pos b] at h2
      rw [if_pos (a.trans b)]
      exact ltS_trans h1 h2
    · rw [if_neg b] at h2
      rw [if_neg (fun q => b (a.symm.trans q)), a]
      exact h2
  · rw [if_neg a] at h1
    have h1 := of_decide_eq_true h1
    by_cases b : y.length = z.length
    · rw [if_neg (fun q => a (q.trans b.symm))]
      exact decide_eq_true (by omega)
    · rw [if_neg b] at h2
      have h2 := of_decide_eq_true h2
      rw [if_neg (by omega)]
      exact decide_eq_true (by omega)
theorem ltN_asym {x y : List Str} (h : ltN x y = true) : ltN y x = false := by
  cases q : ltN y x with
  | false => rfl
  | true => rw [← ltN_irr x, ltN_trans h q]
theorem swoN : Swo ltN := ⟨fun a b => ltN_asym, fun a b c h1 h2 => by
  cases q : ltN c a with
  | false => rfl
  | true =>
    rcases ltN_tri a b with z | z | z
    · rw [← h2, ltN_trans q z]
    · rw [← h2, ← z, q]
    · rw [← h1, z]⟩
/-! ### in a heap -/
def IsTx (u : Value) (x : Str) : Prop := ∃ t, u = .str x t
def IsNl (h : Heap) (v : Value) (c : List Str) : Prop := ∃ a items, v = .ref a ∧ h.IsList a items ∧ Paired IsTx items.toList c
def IsSz (h : Heap) (v : Value) (c : List Str) : Prop := ∃ b a o tk n, v = .ref b ∧ h.get? b = some o ∧ o.cls = .type "tuple" ∧ o.data = .seq #[.int (c.length : Int) tk, .ref a] n ∧ IsNl h (.ref a) c
def txAt (v : Value) : Str := match v with
  | .str x _ => x
  | _ => ""
def nlAt (h : Heap) (v : Value) : List Str := match v with
  | .ref a => (match h.get? a with
    | some ⟨_, _, .seq its _, _⟩ => its.toList.map txAt
    | _ => [])
  | _ => []
def szAt (h : Heap) (v : Value) : List Str := match v with
  | .ref a => (match h.get? a with
    | some ⟨_, _, .seq its _, _⟩ => nlAt h (its.getD 1 .none)
    | _ => [])
  | _ => []
theorem txs_at : ∀ {us : List Value} {c : List Str}, Paired IsTx us c → us.map txAt = c
  | _, _, .nil => rfl
  | _, _, .cons ⟨t, e⟩ r => by rw [List.map_cons, txs_at r, e] <;> rfl
theorem IsNl.at {h : Heap} {v : Value} {c : List Str} (p : IsNl h v c) : nlAt h v = c := by
  obtain ⟨a, items, rfl, ⟨⟨cl, d, dt, sl⟩, ho, hc, n, hd⟩, hi⟩ := p
  simp only at hd
  subst hd
  unfold nlAt
  simp only [ho]
  exact txs_at hi
theorem IsSz.at {h : Heap} {v : Value} {c : List Str} (p : IsSz h v c) : szAt h v = c := by
  obtain ⟨b, a, ⟨cl, d, dt, sl⟩, tk, n, rfl, ho, hc, hd, hn⟩ := p
  simp only at hd
  subst hd
  unfold szAt
  simp only [ho]
  exact hn.at
theorem IsNl.keeps {h h' : Heap} {v : Value} {c : List Str} (p : IsNl h v c) (k : ∀ b o, h.get? b = some o → v = .ref b → h'.get? b = some o) : IsNl h' v c := by
  obtain ⟨a, items, rfl, ⟨o, ho, r⟩, hi⟩ := p
  exact ⟨a, items, rfl, ⟨o, k a o ho rfl, r⟩, hi⟩
theorem tx_get : ∀ {us : List Value} {c : List Str} {j : Nat} {u : Value}, Paired IsTx us c → us[j]? = some u → IsTx u (c.getD j "")
  | _, _, _, _, .nil, e => nomatch e
  | _, _, 0, _, .cons a _, e => (Option.some.inj e) ▸ a
  | _, _, j + 1, _, .cons _ r, e => tx_get (j := j) r e
section
variable {prog : Program} {w : World} {A : Around} {E : Value → Shared → Prop} {s : Shared}
theorem nls_eq : ∀ (c d : List Str), c.length = d.length → (List.range c.length).all (fun j => decide (c.getD j "" = d.getD j "")) = decide (c = d) := by
  intro c d h
  rw [Bool.eq_iff_iff, List.all_eq_true, decide_eq_true_eq]
  constructor
  · intro q
    refine List.ext_getElem h fun j h1 h2 => ?_
    have := of_decide_eq_true (q j (List.mem_range.mpr h1))
    simpa [h1, h2] using this
  · rintro rfl j _
    exact decide_eq_true rfl
theorem tx_eqAt {u v : Value} {x y : Str} (h1 : IsTx u x) (h2 : IsTx v y) : EqAt A s u v (decide (x = y)) := by
  obtain ⟨t, rfl⟩ := h1
  obtain ⟨t', rfl⟩ := h2
  have := EqAt.str_str (A := A) (s := s) x t y t'
  rwa [show (x == y) = decide (x = y) from by rw [Bool.eq_iff_iff, beq_iff_eq, decide_eq_true_eq]] at this
theorem nl_eqAt (hu : A.units + 8 < cLine) {a b : Addr} {c d : List Str} (h1 : IsNl s.heap (.ref a) c) (h2 : IsNl s.heap (.ref b) d) : EqAt A s (.ref a) (.ref b) (decide (c = d)) := by
  by_cases e : a = b
  · subst e
    have : c = d := by rw [← h1.at, ← h2.at]
    rw [decide_eq_true this]
    exact EqAt.same _
  · refine EqAt.of_refs e ?_
    obtain ⟨a', xs, e1, ha, hx⟩ := h1
    obtain ⟨b', ys, e2, hb, hy⟩ := h2
    cases e1
    cases e2
    have lx : xs.size = c.length := by rw [← Array.length_toList]; exact Paired.length hx
    have ly : ys.size = d.length := by rw [← Array.length_toList]; exact Paired.length hy
    by_cases l : c.length = d.length
    · rw [← nls_eq c d l, ← lx]
      refine RcAt.lists ha hb (by omega) (by omega) fun j j1 j2 => tx_eqAt (tx_get hx ?_) (tx_get hy ?_)
      · rw [Array.getElem?_toList, Array.getElem?_eq_getElem j1]
      · rw [Array.getElem?_toList, Array.getElem?_eq_getElem j2]
    · rw [decide_eq_false (fun z => l (by rw [z]))]
      exact RcAt.lists_lengths ha hb (by rw [bne_iff_ne, lx, ly]; exact l) (by omega)
theorem nl_rcLt (hu : A.units + 8 < cLine) {a b : Addr} {c d : List Str} (h1 : IsNl s.heap (.ref a) c) (h2 : IsNl s.heap (.ref b) d) : RcLt A s (.ref a) (.ref b) (ltS c d) := by
  obtain ⟨a', xs, e1, ha, hx⟩ := h1
  obtain ⟨b', ys, e2, hb, hy⟩ := h2
  cases e1
  cases e2
  have lx : xs.size = c.length := by rw [← Array.length_toList]; exact Paired.length hx
  have ly : ys.size = d.length := by rw [← Array.length_toList]; exact Paired.length hy
  rw [← firstLt_ltS c d, ← lx, ← ly]
  refine RcLt.lists ha hb (by omega) (fun j j1 j2 => tx_eqAt (tx_get hx ?_) (tx_get hy ?_)) fun j j1 j2 ej => ?_
  · rw [Array.getElem?_toList, Array.getElem?_eq_getElem j1]
  · rw [Array.getElem?_toList, Array.getElem?_eq_getElem j2]
  · have h1 := tx_get hx (j := j) (u := xs[j]) (by rw [Array.getElem?_toList, Array.getElem?_eq_getElem j1])
    have h2 := tx_get hy (j := j) (u := ys[j]) (by rw [Array.getElem?_toList, Array.getElem?_eq_getElem j2])
    obtain ⟨t, e1⟩ := h1
    obtain ⟨t', e2⟩ := h2
    rw [e1, e2]
    exact fun prog w E Q q => PyProof.Rows.lt_str q
theorem sz_cmp (hu : A.units + 16 < cLine) {vs : List Value} {k : Value → List Str} (hp : ∀ v ∈ vs, IsSz s.heap v (k v)) : SrtO.Cmp prog w A s (tuples' true) (fun p => p.1 ∈ vs) (lt2 fun v u => ltN (k v) (k u)) := by
  intro p q hm hm'
  have h1 := hp _ hm
  have h2 := hp _ hm'
  show wpAny (model prog w) A (keyLt' (tuples' true) p.1 q.1) (fun r s' => s' = s ∧ r = ltN (k p.1) (k q.1)) (fun _ _ => False) s
  generalize k p.1 = c at h1 ⊢
  generalize k q.1 = d at h2 ⊢
  obtain ⟨b, a, o, t, n, e, ho, hc, hd, hn⟩ := h1
  obtain ⟨b', a', o', t', n', e', ho', hc', hd', hn'⟩ := h2
  rw [e, e']
  refine PySem.W.kat_lt ho hd ho' hd' ?_
  show PySem.W.KatLex prog w A true (decide (2 < 2)) _ [(.int (c.length : Int) t, .int (d.length : Int) t'), (.ref a, .ref a')] 0 s
  refine PySem.W.kat_cons (SeqAt.EqAt.int_int _ t _ t' prog w _ _ ?_)
  refine PySem.W.kat_go (fun e1 => ?_) (fun e1 => ?_)
  · have ex : c.length = d.length := by
      have : (c.length : Int) = (d.length : Int) := by simpa using e1
      omega
    refine PySem.W.kat_yes (PySem.W.kat_cons (nl_eqAt (by omega) hn hn' prog w _ _ ?_))
    have e3 : ltN c d = ltS c d := by
      unfold ltN
      rw [if_pos ex]
    refine PySem.W.kat_go (fun e2 => ?_) (fun e2 => ?_)
    · have ey : c = d := of_decide_eq_true e2
      refine PySem.W.kat_yes (PySem.W.kat_nil ⟨rfl, ?_⟩)
      rw [e3, ey, ltS_irr]
      rfl
    · refine PySem.W.kat_no (PySem.W.kat_one _ _ (nl_rcLt (by omega) hn hn' prog w _ _ ?_))
      exact (show s = s ∧ _ = ltN c d from ⟨rfl, e3.symm⟩)
  · have ex : ¬ c.length = d.length := fun z => by rw [z] at e1; simp at e1
    refine PySem.W.kat_no (oneLt_int ⟨rfl, ?_⟩)
    unfold ltN
    rw [if_neg ex]
    exact decide_eq_decide.mpr (by omega)
theorem firsts_sz {h : Heap} {k : Value → List Str} : ∀ {vs : List Value}, (∀ v ∈ vs, IsSz h v (k v)) → ∃ fs : List Value, PySem.W.KatTups h vs fs ∧ fs.length = vs.length ∧ ∀ f ∈ fs, ∃ x t, f = Value.int x t
  | [], _ => ⟨[], PySem.W.KatTups.nil, rfl, fun _ hm => nomatch hm⟩
  | v :: vs, hp => by
    obtain ⟨fs, h1, h2, h3⟩ := firsts_sz (vs := vs) fun u hm => hp u (List.mem_cons_of_mem _ hm)
    obtain ⟨b, a, o, t, n, e, ho, hc, hd, _⟩ := hp v List.mem_cons_self
    rw [e]
    refine ⟨.int ((k v).length : Int) t :: fs, PySem.W.KatTups.cons ho hc hd rfl h1, congrArg (· + 1) h2, fun f hm => ?_⟩
    rcases List.mem_cons.mp hm with z | hm
    · exact ⟨_, t, z⟩
    · exact h3 f hm
theorem szs_sortable (hu : A.units + 16 < cLine) {a : Addr} {vs : List Value} {k : Value → List Str} (h0 : 0 < vs.length) (hp : ∀ v ∈ vs, IsSz s.heap v (k v)) (hn : ∀ v ∈ vs, ∀ b o, s.heap.get? b = some o → (v = .ref b ∨ ∃ t tk n, v = .ref t ∧ ∃ o2, s.heap.get? t = some o2 ∧ o2.data = .seq #[.int ((k v).length : Int) tk, .ref b] n) → b ≠ a) :
    SortableO prog w A s a vs fun v u => ltN (k v) (k u) := by
  intro h' keep
  have hp' : ∀ v ∈ vs, IsSz h' v (k v) := fun v hm => by
    obtain ⟨b, x, o, t, n, e, ho, hc, hd, hl⟩ := hp v hm
    have nb : b ≠ a := hn v hm b o ho (.inl e)
    refine ⟨b, x, o, t, n, e, keep b o nb ho, hc, hd, hl.keeps fun b2 o2 e2 e3 => ?_⟩
    cases e3
    exact keep _ _ (hn v hm _ o2 e2 (.inr ⟨b, t, n, e, o, ho, hd⟩)) e2
  obtain ⟨fs, h1, h2, h3⟩ := firsts_sz hp'
  refine ⟨tuples' true, fun Q E hq => PySem.W.kat_kind (T := .type "int") h1 (by omega) (fun f hm => ?_) (by rfl) ?_, sz_cmp hu hp'⟩
  · obtain ⟨x, t, rfl⟩ := h3 f hm
    exact PySem.W.Looks.now
  · rw [show (Value.type "int" != Value.type "tuple") = true from by decide]
    exact hq
theorem sorted_szs (hu : A.units + 32 < cLine) {l : Addr} {vs : List Value} {k : Value → List Str} {Q : Value → Shared → Prop} (hl : s.heap.IsList l vs.toArray) (hz : vs.length ≤ sizeLine) (hp : ∀ v ∈ vs, IsSz s.heap v (k v))
    (q : ∀ (h' : Heap) (d : Addr) (out : List Value), Srtd (fun v u => ltN (k v) (k u)) out → out.Perm vs → (∀ b o, s.heap.get? b = some o → h'.get? b = some o) → s.heap.objs.size ≤ d → (∃ n, h'.get? d = some (seqObj "list" out.toArray n)) → Q (.ref d) { s with heap := h' }) :
    wpAny (model prog w) A (call (.builtin "sorted") [.ref l]) Q E s := by
  refine sorted_ord (Swo.pull swoN k) hl hz (fun h2 h₁ a ha kk => ?_) fun out hs hb => q _ _ out hs hb.perm (fun b o e => sortedAll_old e) (Nat.le_succ _) (sortedAll_at s.heap vs out.toArray)
  refine szs_sortable (s := { s with heap := h₁ }) (by show A.units + 1 + 1 + 16 < cLine; omega) (by omega) (fun v hm => ?_) fun v hm b o e c => ?_
  · obtain ⟨b, x, o, t, n, e, ho, hc, hd, hl⟩ := hp v hm
    exact ⟨b, x, o, t, n, e, (kk b o ho).2, hc, hd, hl.keeps fun b2 o2 e2 _ => (kk b2 o2 e2).2⟩
  · obtain ⟨b0, x0, o0, t0, n0, e0, ho0, hc0, hd0, hl0⟩ := hp v hm
    rcases c with c | ⟨t, tk, n, c, o2, g, hd⟩
    · rw [e0] at c
      cases c
      exact (kk _ _ ho0).1
    · rw [e0] at c
      cases c
      have g0 := (kk _ _ ho0).2
      rw [show h₁.get? _ = _ from g] at g0
      cases g0
      rw [hd0] at hd
      injection hd with hd _
      have e4 : b = x0 := by
        have := congrArg Array.toList hd
        simp at this
        exact this.2.symm
      obtain ⟨a5, its, e5, ⟨o5, ho5, _⟩, _⟩ := hl0
      cases e5
      rw [e4]
      exact (kk _ _ ho5).1
end
end FL
/-! ## N3 -/
set_option Elab.async false
set_option linter.all false
set_option maxRecDepth 100000
set_option maxHeartbeats 4000000
namespace FL
open PySem L2 PySem.Spec PyProof.Rows Srt SrtO SeqAt
/-- lists of texts -/
abbrev NlsA (H : Hp) : List Addr → List (List Str) → Prop := Paired fun a c => H a = some (.lst (c.map V.str))
/-- pairs of a length and a list of texts -/
abbrev SzA (K : PySem.W.Frag) (H : Hp) : List Addr → List (List Str) → Prop := Paired fun t c => ∃ a, SqT K H t [.int (c.length : Int), .ref a] ∧ H a = some (.lst (c.map V.str))
theorem pmem {α β : Type} {F : α → β → Prop} : ∀ {xs : List α} {ys : List β}, Paired F xs ys → ∀ x ∈ xs, ∃ y ∈ ys, F x y
  | _, _, .nil, _, h => nomatch h
  | _, _, .cons a r, b, h => by
    rcases List.mem_cons.mp h with z | h
    · exact ⟨_, List.mem_cons_self, z ▸ a⟩
    · obtain ⟨c, hc, q⟩ := pmem r b h
      exact ⟨c, List.mem_cons_of_mem _ hc, q⟩
theorem pat {α β : Type} {F : α → β → Prop} : ∀ {xs : List α} {ys : List β} {i : Nat} {x : α}, Paired F xs ys → xs[i]? = some x → ∃ y, ys[i]? = some y ∧ F x y
  | _, _, _, _, .nil, h => nomatch h
  | _, _, 0, _, .cons a _, h => ⟨_, rfl, (Option.some.inj h) ▸ a⟩
  | _, _, i + 1, _, .cons _ r, h => pat (i := i) r h
theorem NlsA.same {H H' : Hp} (s : Same H H') {as : List Addr} {cs : List (List Str)} (h : NlsA H as cs) : NlsA H' as cs := Paired.mapP h fun a c z => s _ _ z
theorem SzA.same {K : PySem.W.Frag} {H H' : Hp} (s : Same H H') {as : List Addr} {cs : List (List Str)} (h : SzA K H as cs) : SzA K H' as cs := Paired.mapP h fun t c ⟨a, h1, h2⟩ => ⟨a, TS.same s _ _ h1, s _ _ h2⟩
section
variable {X : Cx}
theorem isNl_of {pins : List (Addr × Obj)} {σ : L2.St} {H : Hp} {s : Shared} {a : Addr} {c : List Str} (I : Inv X pins σ H s) (h : H a = some (.lst (c.map V.str))) : IsNl s.heap (.ref a) c := by
  obtain ⟨its, rv, pl, hz⟩ := I.list (SqL.of h)
  refine ⟨a, _, rfl, pl.isList, ?_⟩
  have go : ∀ {c : List Str} {us : List Value}, Vals (c.map V.str) us → Paired IsTx us c := by
    intro c
    induction c with
    | nil => intro us r; cases r; exact .nil
    | cons x c ih =>
      intro us r
      cases r with
      | cons r1 r => exact .cons r1 (ih r)
  simpa using go rv
theorem isSz_of {pins : List (Addr × Obj)} {σ : L2.St} {H : Hp} {s : Shared} {t a : Addr} {c : List Str} (I : Inv X pins σ H s) (ht : SqT X.K H t [.int (c.length : Int), .ref a]) (h : H a = some (.lst (c.map V.str))) : IsSz s.heap (.ref t) c := by
  obtain ⟨its, rv, ⟨o, h1, h2, n, h3⟩, _⟩ := I.tuple ht
  cases rv with
  | cons r1 rv =>
    cases rv with
    | cons r2 rv =>
      cases rv
      obtain ⟨tk, rfl⟩ := r1
      cases r2
      exact ⟨t, a, o, tk, n, rfl, h1, h2, h3, isNl_of I h⟩
def rSortSz (K : PySem.W.Frag) : List V → Hp → VK → Prop := fun xs H Q => ∃ p as cs, xs = [.ref p] ∧ SqL K H p (as.map V.ref) ∧ SzA K H as cs ∧ ∀ d bs ms, H d = none → SzA K H bs ms → ms.Perm cs → Srtd ltN ms → Q (.ref d) (upd H d (.lst (bs.map V.ref)))
theorem call_sortSz (hu : X.A.units + 64 < cLine) : CallR X (.builtin "sorted") (rSortSz X.K) := by
  intro pins s σ H xs us Q I r h
  obtain ⟨p, as, cs, rfl, hq, hl, q⟩ := h
  obtain ⟨u, rfl, ru⟩ := vals1 r
  obtain rfl : u = Value.ref p := ru
  obtain ⟨its, rv, pl, hz⟩ := I.list hq
  have e := refs_vals rv
  subst e
  have zl : as.length ≤ sizeLine := by rw [List.length_map] at hz; exact hz
  have isc : ∀ b ∈ as, ∃ c, IsSz s.heap (.ref b) c ∧ ∃ a, SqT X.K H b [.int (c.length : Int), .ref a] ∧ H a = some (.lst (c.map V.str)) := fun b hb => by
    obtain ⟨c, _, a, h1, h2⟩ := pmem hl b hb
    exact ⟨c, isSz_of I h1 h2, a, h1, h2⟩
  refine sorted_szs (by omega) (k := szAt s.heap) pl.isList (by rw [List.length_map]; exact zl) (fun v hv => ?_) fun h' d out hs hp kp le ⟨n, hd⟩ => ?_
  · obtain ⟨b, hb, rfl⟩ := List.mem_map.mp hv
    obtain ⟨c, hc, _⟩ := isc b hb
    rw [hc.at]
    exact hc
  · have eo := refs_perm hp
    have pb : (out.map unref).Perm as := by
      have := hp.map unref
      rw [List.map_map] at this
      have e2 : as.map (unref ∘ Value.ref) = as := (List.map_congr_left fun _ _ => rfl).trans (List.map_id as)
      rw [e2] at this
      exact this
    have ok : ObjOk X.prog X.w (upd H d (.lst ((out.map unref).map V.ref))) h' d (.lst ((out.map unref).map V.ref)) := by
      refine ⟨by rw [List.length_map, pb.length_eq]; exact zl, out, n, ?_, hd⟩
      have := vals_refs (out.map unref)
      rw [← eo] at this
      exact this
    refine ⟨.ref d, _, I.laid (a := d) (o := .lst ((out.map unref).map V.ref)) (t' := s.toks) kp le ok, rfl, q d (out.map unref) (out.map (szAt s.heap)) (I.hok.fresh le) (paired_map fun v hv => ?_) ?_ (List.pairwise_map.mpr hs)⟩
    · obtain ⟨b, hb, rfl⟩ := List.mem_map.mp (hp.mem_iff.mp hv)
      obtain ⟨c, hc, a, h1, h2⟩ := isc b hb
      rw [hc.at]
      exact ⟨a, h1, h2⟩
    · have e2 : (as.map Value.ref).map (szAt s.heap) = cs := by
        clear isc hs hp eo pb ok hd q hq rv pl hz zl
        induction hl with
        | nil => rfl
        | cons h t ih =>
          obtain ⟨a, h1, h2⟩ := h
          rw [List.map_cons, List.map_cons, (isSz_of I h1 h2).at, ih]
      rw [← e2]
      exact hp.map _
end
end FL
/-! ## M5 -/
set_option Elab.async false
set_option linter.all false
set_option maxRecDepth 100000
set_option maxHeartbeats 4000000
namespace FL
open PySem L2 GxR SrtO
abbrev qMin : Str := ("shortest_chain" ++ ".<locals>." : Str) ++ "<lambda>"
theorem op_inLdK {X : Cx} {P : Program} {w : World} {K : PySem.W.Frag} (eP : X.prog = P) (ew : X.w = w) (eK : X.K = K) (hu : X.A.units + 64 < cLine) : OpR X (compareOp .In) (rLdIn P w K false) := by
  subst eP ew eK
  exact op_inLd hu
theorem ix_ldK {X : Cx} {P : Program} {w : World} {K : PySem.W.Frag} (eP : X.prog = P) (ew : X.w = w) (eK : X.K = K) (hu : X.A.units + 64 < cLine) : IxR X (rLdIx P w K) := by
  subst eP ew eK
  exact ix_ld hu
def found (mf : Chains) (ms : List Lit) : List (List Lit) := ms.filterMap (chG mf)
theorem found_snoc (mf : Chains) {ms : List Lit} {i : Nat} {m : Lit} (h : ms[i]? = some m) : found mf (ms.take (i + 1)) = found mf (ms.take i) ++ (match chG mf m with | some c => [c] | none => []) := by
  unfold found
  rw [take_more' h, List.filterMap_append]
  congr 1
  rw [List.filterMap_cons]
  cases chG mf m <;> rfl
section
variable {P : Program} {w : World} {K : PySem.W.Frag} {mg : Str → Option Value} {base : Heap}
theorem ChK.same {H0 H H' : Hp} {L d : Addr} {m : Chains} {kvs : List (Lit × V)} (C : ChK P w K H0 H L d m kvs) (s : Same H H') : ChK P w K H0 H' L d m kvs :=
  ⟨C.ld.same s, Paired.mapP C.pr fun kv c h => let ⟨h1, a, bs, h2, h3, h4, h5, h6⟩ := h; ⟨h1, a, bs, h2, h3, h4, s _ _ h5, h6.mono (TS.same s)⟩⟩
theorem ChsA.same {H H' : Hp} (s : Same H H') {as : List Addr} {cs : List (List Lit)} (h : ChsA K H as cs) : ChsA K H' as cs := Paired.mapP h fun a c ⟨bs, h1, h2⟩ => ⟨bs, s _ _ h1, h2.mono (TS.same s)⟩
def spChain (P : Program) (w : World) (K : PySem.W.Frag) (L : Addr) (Ps : List Addr) (tup : Bool) : Sp := fun vs H Q _ => ∃ (v : V) (p g : Addr) (cs : List Cl) (as gs : List Addr) (ls ms : List Lit), vs = [v, .ref p, .ref g] ∧ Dt K H v (.tuple (cs.map Cl.d)) ∧ cs.length ≤ 60 ∧ SqL K H p (as.map V.ref) ∧ LitsA K H as ls ∧ ls.length ≤ 100 ∧
  (if tup = true then SqT K H g (gs.map V.ref) else SqL K H g (gs.map V.ref)) ∧ LitsA K H gs ms ∧ ms.length ≤ 100 ∧ Tz L qMin Ps H ∧
  ∀ mf, Bfs (edges cs) (srt ls) (initM (srt ls)) mf → (found mf ms = [] → ∀ H', Ez L qMin Ps H H' → Q .non H') ∧
    ∀ a bs c H', (found mf ms)[PySem.argBest (btK (found mf ms)) ((found mf ms).length - 1)]? = some c → Ez L qMin Ps H H' → H' a = some (.lst (bs.map V.ref)) → LitsA K H' bs c → Q (.ref a) H'
end
end FL
/-! ## P13 -/
set_option Elab.async false
set_option linter.all false
set_option maxRecDepth 100000
set_option maxHeartbeats 4000000
/-! what the search reaches -/
namespace FL
open PySem L2 GxR SrtO
inductive Reach (es : List Edge) (S : Lit → Prop) : Lit → Prop
  | base {l : Lit} : S l → Reach es S l
  | step {l x : Lit} : Reach es S l → (l, x) ∈ es → Reach es S x
theorem Reach.mono {es : List Edge} {S T : Lit → Prop} (h : ∀ l, S l → Reach es T l) : ∀ {l : Lit}, Reach es S l → Reach es T l
  | _, .base s => h _ s
  | _, .step r e => .step (Reach.mono h r) e
/-- is a key -/
abbrev Key (m : Chains) (l : Lit) : Prop := (chG m l).isSome = true
theorem key_app {m : Chains} {x : Lit × List Lit} {l : Lit} : Key (m ++ [x]) l ↔ Key m l ∨ l = x.1 := by
  unfold Key
  rw [chG_mem, chG_mem, List.map_append, List.mem_append]
  exact or_congr Iff.rfl (by simp)
theorem visit_key {ch q : List Lit} {m : Chains} {f l : Lit} : Key (visit ch (m, q) f).1 l ↔ Key m l ∨ l = f := by
  unfold visit
  by_cases h : (chG m f).isSome = true
  · rw [if_pos h]
    exact ⟨.inl, fun z => z.elim id fun e => e ▸ h⟩
  · rw [if_neg h]
    exact key_app
theorem fold_key {ch : List Lit} : ∀ (fs : List Lit) {m : Chains} {q : List Lit} {l : Lit}, Key (fs.foldl (visit ch) (m, q)).1 l ↔ Key m l ∨ l ∈ fs
  | [], _, _, _ => by simp
  | f :: fs, m, q, l => by
    rw [List.foldl_cons]
    have := fold_key (ch := ch) fs (m := (visit ch (m, q) f).1) (q := (visit ch (m, q) f).2) (l := l)
    rw [show ((visit ch (m, q) f).1, (visit ch (m, q) f).2) = visit ch (m, q) f from rfl] at this
    rw [this, visit_key, List.mem_cons, or_assoc]
/-- a new key waits -/
theorem visit_wait {ch q : List Lit} {m : Chains} {f l : Lit} (h : Key (visit ch (m, q) f).1 l) : Key m l ∨ l ∈ (visit ch (m, q) f).2 := by
  unfold visit at h ⊢
  by_cases z : (chG m f).isSome = true
  · rw [if_pos z] at h
    exact .inl h
  · rw [if_neg z] at h ⊢
    exact (key_app.mp h).imp id fun e => by rw [e]; exact List.mem_append_right _ (List.mem_singleton_self _)
theorem visit_q {ch q : List Lit} {m : Chains} {f l : Lit} (h : l ∈ q) : l ∈ (visit ch (m, q) f).2 := by
  unfold visit
  split
  · exact h
  · exact List.mem_append_left _ h
theorem fold_q {ch : List Lit} : ∀ (fs : List Lit) {m : Chains} {q : List Lit} {l : Lit}, l ∈ q → l ∈ (fs.foldl (visit ch) (m, q)).2
  | [], _, _, _, h => h
  | f :: fs, m, q, l, h => by
    rw [List.foldl_cons]
    exact fold_q fs (m := (visit ch (m, q) f).1) (visit_q h)
theorem fold_wait {ch : List Lit} : ∀ (fs : List Lit) {m : Chains} {q : List Lit} {l : Lit}, Key (fs.foldl (visit ch) (m, q)).1 l → Key m l ∨ l ∈ (fs.foldl (visit ch) (m, q)).2
  | [], _, _, _, h => .inl h
  | f :: fs, m, q, l, h => by
    rw [List.foldl_cons] at h ⊢
    rcases fold_wait fs (m := (visit ch (m, q) f).1) (q := (visit ch (m, q) f).2) h with z | z
    · rcases visit_wait z with z | z
      · exact .inl z
      · exact .inr (fold_q fs (m := (visit ch (m, q) f).1) z)
    · exact .inr z
theorem next_mem {es : List Edge} {l x : Lit} : x ∈ srt (nextE es l) ↔ (l, x) ∈ es := by
  rw [(srt_perm _).mem_iff]
  unfold nextE
  rw [List.mem_map]
  constructor
  · rintro ⟨e, he, rfl⟩
    have h := List.mem_filter.mp he
    have e1 : e.1 = l := of_decide_eq_true h.2
    rw [← e1]
    exact h.1
  · intro h
    exact ⟨(l, x), List.mem_filter.mpr ⟨h, decide_eq_true rfl⟩, rfl⟩
/-- the keys at the end: all that is reached -/
theorem Bfs.keys {es : List Edge} : ∀ {q : List Lit} {m mf : Chains}, Bfs es q m mf → (∀ k, Key m k → k ∈ q ∨ ∀ x, (k, x) ∈ es → Key m x) → ∀ l, Key mf l ↔ Reach es (Key m) l := by
  intro q m mf h
  induction h with
  | done m =>
    intro inv l
    refine ⟨.base, fun r => ?_⟩
    induction r with
    | base s => exact s
    | step _ e ih => exact ((inv _ ih).resolve_left (fun z => nomatch z)) _ e
  | @pop l0 q m mf ch hc _ ih =>
    intro inv l
    have k0 : Key m l0 := by
      unfold Key
      rw [hc] <;> rfl
    rw [ih (fun k hk => ?_) l]
    · constructor
      · refine Reach.mono fun x hx => ?_
        rcases (fold_key _).mp hx with z | z
        · exact .base z
        · exact .step (.base k0) (next_mem.mp z)
      · exact Reach.mono fun x hx => .base ((fold_key _).mpr (.inl hx))
    · rcases fold_wait _ hk with z | z
      · by_cases e : k = l0
        · refine .inr fun x hx => (fold_key _).mpr (.inr ?_)
          rw [e] at hx
          exact next_mem.mpr hx
        · rcases inv k z with w | w
          · rcases List.mem_cons.mp w with w | w
            · exact absurd w e
            · exact .inl (fold_q _ w)
          · exact .inr fun x hx => (fold_key _).mpr (.inl (w x hx))
      · exact .inl z
theorem key_put {m : Chains} {l k : Lit} {c : List Lit} : Key (putM m l c) k ↔ Key m k ∨ k = l := by
  unfold putM
  by_cases h : (m.any fun x => decide (x.1 = l)) = true
  · rw [if_pos h]
    have e : (m.map fun x => if x.1 = l then (x.1, c) else x).map Prod.fst = m.map Prod.fst := by
      rw [List.map_map]
      refine List.map_congr_left fun x _ => ?_
      show (if x.1 = l then (x.1, c) else x).1 = x.1
      split <;> rfl
    unfold Key
    rw [chG_mem, chG_mem, e]
    refine ⟨.inl, fun z => z.elim id fun w => ?_⟩
    rw [chG_any] at h
    exact w ▸ chG_mem.mp h
  · rw [if_neg h]
    exact key_app
theorem init_keys : ∀ (q : List Lit) (m : Chains) (k : Lit), Key (q.foldl init1 m) k ↔ Key m k ∨ k ∈ q
  | [], _, _ => by simp
  | l :: q, m, k => by
    rw [List.foldl_cons, init_keys q]
    unfold init1
    rw [key_put, List.mem_cons, or_assoc]
/-- from a list: what is reached from its literals -/
theorem bfs_keys {es : List Edge} {ls : List Lit} {mf : Chains} (h : Bfs es (srt ls) (initM (srt ls)) mf) (l : Lit) : Key mf l ↔ Reach es (· ∈ ls) l := by
  have key0 : ∀ k, Key (initM (srt ls)) k ↔ k ∈ ls := fun k => by
    unfold initM
    rw [init_keys, (srt_perm ls).mem_iff]
    exact ⟨fun z => z.elim (fun w => by cases w) id, .inr⟩
  rw [h.keys (fun k hk => .inl ((srt_perm ls).mem_iff.mpr ((key0 k).mp hk))) l]
  exact ⟨Reach.mono fun x hx => .base ((key0 x).mp hx), Reach.mono fun x hx => .base ((key0 x).mpr hx)⟩
/-- what is reached from a list is what is reached from one of it -/
theorem reach_union {es : List Edge} {ls : List Lit} {l : Lit} : Reach es (· ∈ ls) l ↔ ∃ a ∈ ls, Reach es (· ∈ [a]) l := by
  constructor
  · intro h
    induction h with
    | base s => exact ⟨_, s, .base (List.mem_singleton_self _)⟩
    | step _ e ih =>
      obtain ⟨a, ha, r⟩ := ih
      exact ⟨a, ha, .step r e⟩
  · rintro ⟨a, ha, r⟩
    exact Reach.mono (fun x hx => .base (by rw [List.mem_singleton.mp hx]; exact ha)) r
theorem perm_nodup {α : Type} [DecidableEq α] : ∀ {a b : List α}, a.Nodup → b.Nodup → (∀ x, x ∈ a ↔ x ∈ b) → a.Perm b
  | [], b, _, _, h => by
    have : b = [] := List.eq_nil_iff_forall_not_mem.mpr fun x hx => nomatch (h x).mpr hx
    rw [this]
  | x :: a, b, na, nb, h => by
    have ⟨n1, n2⟩ := List.nodup_cons.mp na
    have hx : x ∈ b := (h x).mp List.mem_cons_self
    refine (List.Perm.cons x (perm_nodup n2 (nb.erase x) fun y => ?_)).trans (List.perm_cons_erase hx).symm
    rw [nb.mem_erase_iff]
    constructor
    · exact fun hy => ⟨fun e => n1 (e ▸ hy), (h y).mp (List.mem_cons_of_mem _ hy)⟩
    · exact fun hy => (List.mem_cons.mp ((h y).mpr hy.2)).resolve_left hy.1
/-- two lists without repetitions of the same literals are sorted alike -/
theorem srt_same {a b : List Lit} (na : a.Nodup) (nb : b.Nodup) (h : ∀ x, x ∈ a ↔ x ∈ b) : srt a = srt b := by
  have p : a.Perm b := by
    exact perm_nodup na nb h
  exact srtd_uniq ((srt_perm a).trans (p.trans (srt_perm b).symm)) (srt_srtd a) (srt_srtd b)
end FL
/-! ## M6a -/
set_option Elab.async false
set_option linter.all false
set_option maxRecDepth 100000
set_option maxHeartbeats 4000000
namespace FL
open PySem L2 GxR SrtO
theorem found_key {mf : Chains} {ms : List Lit} : found mf ms ≠ [] ↔ ∃ g ∈ ms, Key mf g := by
  unfold found
  constructor
  · intro h
    obtain ⟨c, hc⟩ := List.exists_mem_of_ne_nil _ h
    obtain ⟨g, hg, e⟩ := List.mem_filterMap.mp hc
    exact ⟨g, hg, by unfold Key; rw [e] <;> rfl⟩
  · rintro ⟨g, hg, k⟩ e
    obtain ⟨c, hc⟩ := Option.isSome_iff_exists.mp k
    have : c ∈ ms.filterMap (chG mf) := List.mem_filterMap.mpr ⟨g, hg, hc⟩
    rw [e] at this
    cases this
/-- from the literals ls one of ms is reached -/
def Gets (cs : List Cl) (ls ms : List Lit) : Prop := ∃ g ∈ ms, Reach (edges cs) (· ∈ ls) g
theorem found_gets {cs : List Cl} {ls ms : List Lit} {mf : Chains} (h : Bfs (edges cs) (srt ls) (initM (srt ls)) mf) : found mf ms ≠ [] ↔ Gets cs ls ms := by
  rw [found_key]
  exact exists_congr fun g => and_congr Iff.rfl (bfs_keys h g)
theorem best_some {α : Type} (bt : Nat → Nat → Bool) {xs : List α} (h : xs ≠ []) : ∃ c, xs[PySem.argBest bt (xs.length - 1)]? = some c := by
  have := argBest_le bt (xs.length - 1)
  have : 0 < xs.length := List.length_pos_iff.mpr h
  exact ⟨_, List.getElem?_eq_getElem (by omega)⟩
/-- both chains exist -/
def Both (cs : List Cl) (n : Str) : Prop := Gets cs [(n, false)] [(n, true)] ∧ Gets cs [(n, true)] [(n, false)]
section
variable {P : Program} {w : World} {K : PySem.W.Frag} {mg : Str → Option Value} {base : Heap}
/-- a chain from a literal to its contrary -/
def spRefut (K : PySem.W.Frag) (L : Addr) (Ps : List Addr) : Sp := fun vs H Q _ => ∃ (v : V) (p : Addr) (l : Lit) (cs : List Cl), vs = [v, .ref p] ∧ Dt K H v (.tuple (cs.map Cl.d)) ∧ cs.length ≤ 60 ∧ SqT K H p (litV l) ∧ Tz L qMin Ps H ∧
  (¬ Gets cs [l] [neg l] → ∀ H', Ez L qMin Ps H H' → Q .non H') ∧ (Gets cs [l] [neg l] → ∀ a H', Ez L qMin Ps H H' → Q (.ref a) H')
end
end FL
/-! ## M8 -/
set_option Elab.async false
set_option linter.all false
set_option maxRecDepth 100000
set_option maxHeartbeats 4000000
namespace FL
open PySem L2 GxR SrtO
theorem tabS_wr {H : Hp} {P p : Addr} {q : Str} {o : HO} {xs : List V} (t : LamX.TabS H P q) (e : H p = some (.lst xs)) : LamX.TabS (upd H p o) P q := by
  obtain ⟨ps, h1, h2, h3⟩ := t
  refine ⟨ps, by rw [upd_ne (fun z => by rw [z, e] at h1; cases h1)]; exact h1, h2, fun pos cv hc => ?_⟩
  obtain ⟨c, e1, e2⟩ := h3 pos cv hc
  refine ⟨c, e1, ?_⟩
  rw [upd_ne (fun z => ?_)]
  · exact e2
  · rw [z, e] at e2
    unfold LamX.CodeO at e2
    cases e2
theorem Ez.wr {L : Addr} {q : Str} {Ps : List Addr} {H H1 : Hp} {p : Addr} {o : HO} {xs : List V} (a : Ez L q Ps H H1) (h : H p = none) (e : H1 p = some (.lst xs)) : Ez L q Ps H (L2.upd H1 p o) :=
  ⟨a.ex.wr h (a.ex.tb.no e (fun _ z => by cases z)), tabS_wr a.tl e⟩
section
variable {P : Program} {w : World} {K : PySem.W.Frag} {mg : Str → Option Value} {base : Heap}
theorem Ez.up {L : Addr} {q : Str} {Ps : List Addr} {H : Hp} (t : Tz L q Ps H) (nL : L ∉ Ps) {H1 : Hp} {l : Addr} {o : HO} (x : Ex Ps H H1) (n : H1 l = none) : Ez L q Ps H (L2.upd H1 l o) :=
  let z := Ez.of_ex nL t x
  z.trans (Ez.new z.tz n)
def spContra (K : PySem.W.Frag) (L : Addr) (Ps : List Addr) : Sp := fun vs H Q _ => ∃ (v : V) (g : Gr), vs = [v] ∧ Dt K H v g.d ∧ GrOk g ∧ Tz L qMin Ps H ∧ (∀ n ∈ g.names, ¬ Both g.cls n) ∧ ∀ H', Ez L qMin Ps H H' → Q .non H'
end
end FL
/-! ## N4d -/
set_option Elab.async false
set_option linter.all false
set_option maxRecDepth 100000
set_option maxHeartbeats 4000000
namespace FL
open PySem L2 GxR SrtO
def fitB (c : Cl) (ns : List Str) : Bool := match c.w with
  | .needs => !decide (c.a ∈ ns) || decide (c.b ∈ ns)
  | .excludes => !(decide (c.a ∈ ns) && decide (c.b ∈ ns))
  | .either => decide (c.a ∈ ns) || decide (c.b ∈ ns)
def fitsB (cs : List Cl) (ns : List Str) : Bool := cs.all fun c => fitB c ns
theorem fits_take {cs : List Cl} {ns : List Str} {i : Nat} {c : Cl} (h : cs[i]? = some c) : fitsB (cs.take (i + 1)) ns = (fitsB (cs.take i) ns && fitB c ns) := by
  unfold fitsB
  rw [take_more' h, List.all_append] <;> simp
theorem fits_no {cs : List Cl} {ns : List Str} {c : Cl} (h : c ∈ cs) (f : fitB c ns = false) : fitsB cs ns = false := by
  unfold fitsB
  rw [List.all_eq_false]
  exact ⟨c, h, by rw [f]; decide⟩
end FL
/-! ## N5d -/
set_option Elab.async false
set_option linter.all false
set_option maxRecDepth 100000
set_option maxHeartbeats 4000000
namespace FL
open PySem L2 GxR SrtO
/-- all sets of the names, in the order of their making -/
def subs (ns : List Str) : List (List Str) := ns.foldl (fun acc n => acc ++ acc.map (· ++ [n])) [[]]
theorem subs_snoc (ns : List Str) (n : Str) : subs (ns ++ [n]) = subs ns ++ (subs ns).map (· ++ [n]) := by
  unfold subs
  rw [List.foldl_append] <;> rfl
theorem snoc_ind {p : List Str → Prop} (h0 : p []) (h1 : ∀ ns n, p ns → p (ns ++ [n])) : ∀ ns, p ns := fun ns => by
  have : p ns.reverse.reverse := by
    generalize ns.reverse = r
    induction r with
    | nil => exact h0
    | cons x r ih =>
      rw [List.reverse_cons]
      exact h1 _ _ ih
  rwa [List.reverse_reverse] at this
theorem subs_len (ns : List Str) : (subs ns).length = 2 ^ ns.length := by
  induction ns using snoc_ind with
  | h0 => rfl
  | h1 ns n ih =>
    rw [subs_snoc, List.length_append, List.length_map, ih, List.length_append, List.length_singleton, Nat.pow_succ]
    omega
theorem subs_size (ns : List Str) : ∀ c ∈ subs ns, c.length ≤ ns.length := by
  induction ns using snoc_ind with
  | h0 =>
    intro c hc
    rw [List.mem_singleton.mp hc]
    exact Nat.le_refl _
  | h1 ns n ih =>
    intro c hc
    rw [subs_snoc] at hc
    rw [List.length_append]
    rcases List.mem_append.mp hc with hc | hc
    · exact Nat.le_trans (ih c hc) (Nat.le_add_right _ _)
    · obtain ⟨d, hd, rfl⟩ := List.mem_map.mp hc
      rw [List.length_append]
      exact Nat.add_le_add_right (ih d hd) _
theorem subs_4096 {ns : List Str} (h : ns.length ≤ 12) : (subs ns).length ≤ 4096 := by
  rw [subs_len]
  exact Nat.pow_le_pow_right (by decide) h
theorem small9 {n : Nat} (h : n < 9000) : n < sizeLine := Nat.lt_trans h (by decide)
abbrev NlsN (D : Addr) (H : Hp) : List Addr → List (List Str) → Prop := Paired fun a c => a ≠ D ∧ H a = some (.lst (c.map V.str))
theorem NlsN.nls {D : Addr} {H : Hp} {as : List Addr} {cs : List (List Str)} (h : NlsN D H as cs) : NlsA H as cs := Paired.mapP h fun _ _ z => z.2
theorem papp {α β : Type} {F : α → β → Prop} : ∀ {xs ys : List α} {us vs : List β}, Paired F xs us → Paired F ys vs → Paired F (xs ++ ys) (us ++ vs)
  | _, _, _, _, .nil, h => h
  | _, _, _, _, .cons a t, h => .cons a (papp t h)
def IsSets (g : Gr) (nss : List (List Str)) : Prop := ∃ sns ms, sns.Perm g.names ∧ PyProof.Rows.sortedS sns = true ∧ ms.Perm (subs sns) ∧ Srtd ltN ms ∧ nss = ms.filter (fitsB g.cls)
theorem free_same {H H' : Hp} (s : Same H H') {p : Addr} (h : H' p = none) : H p = none := by
  cases z : H p with
  | none => rfl
  | some o => rw [s _ _ z] at h; cases h
end FL
/-! ## N6 -/
set_option Elab.async false
set_option linter.all false
set_option maxRecDepth 100000
set_option maxHeartbeats 4000000
/-! what chains decide: clauses of two literals -/
namespace FL
open PySem L2 GxR SrtO
/-- the clause holds where p tells what is given -/
def satc (c : Cl) (p : Str → Bool) : Bool := match c.w with
  | .needs => !p c.a || p c.b
  | .excludes => !(p c.a && p c.b)
  | .either => p c.a || p c.b
def sats (cs : List Cl) (p : Str → Bool) : Bool := cs.all fun c => satc c p
def tr (p : Str → Bool) (l : Lit) : Bool := p l.1 == l.2
theorem tr_neg (p : Str → Bool) (l : Lit) : tr p (neg l) = !tr p l := by
  unfold tr neg
  cases p l.1 <;> cases l.2 <;> rfl
theorem neg_neg (l : Lit) : neg (neg l) = l := by
  unfold neg
  cases l with
  | mk a b => cases b <;> rfl
theorem satc_tr (c : Cl) (p : Str → Bool) : satc c p = (tr p c.r1 || tr p c.r2) := by
  obtain ⟨w, a, b⟩ := c
  unfold satc tr Cl.r1 Cl.r2
  cases w <;> simp only [Cw.t1, Cw.t2] <;> cases p a <;> cases p b <;> rfl
theorem edges_mem {cs : List Cl} {l x : Lit} : (l, x) ∈ edges cs ↔ ∃ c ∈ cs, (l = neg c.r1 ∧ x = c.r2) ∨ (l = neg c.r2 ∧ x = c.r1) := by
  unfold edges
  rw [List.mem_flatMap]
  refine exists_congr fun c => and_congr Iff.rfl ?_
  unfold edgesOf
  simp
theorem edges_contra {cs : List Cl} {l x : Lit} (h : (l, x) ∈ edges cs) : (neg x, neg l) ∈ edges cs := by
  obtain ⟨c, hc, h | h⟩ := edges_mem.mp h
  · exact edges_mem.mpr ⟨c, hc, .inr ⟨by rw [h.2], by rw [h.1, neg_neg]⟩⟩
  · exact edges_mem.mpr ⟨c, hc, .inl ⟨by rw [h.2], by rw [h.1, neg_neg]⟩⟩
abbrev R1 (cs : List Cl) (a b : Lit) : Prop := Reach (edges cs) (· ∈ [a]) b
theorem R1.refl (cs : List Cl) (a : Lit) : R1 cs a a := .base (List.mem_singleton_self a)
theorem R1.trans {cs : List Cl} {a b c : Lit} (h1 : R1 cs a b) (h2 : R1 cs b c) : R1 cs a c := Reach.mono (fun l hl => by rw [List.mem_singleton.mp hl]; exact h1) h2
theorem R1.contra {cs : List Cl} {a b : Lit} (h : R1 cs a b) : R1 cs (neg b) (neg a) := by
  induction h with
  | base s => rw [List.mem_singleton.mp s]; exact R1.refl _ _
  | step _ e ih => exact R1.trans (.step (R1.refl _ _) (edges_contra e)) ih
theorem sats_mem {cs : List Cl} {p : Str → Bool} (h : sats cs p = true) {c : Cl} (hc : c ∈ cs) : satc c p = true := List.all_eq_true.mp h c hc
theorem reach_sound {cs : List Cl} {p : Str → Bool} {S : Lit → Prop} (hs : sats cs p = true) (h0 : ∀ l, S l → tr p l = true) {x : Lit} (h : Reach (edges cs) S x) : tr p x = true := by
  induction h with
  | base s => exact h0 _ s
  | @step l x _ e ih =>
    obtain ⟨c, hc, h | h⟩ := edges_mem.mp e
    · have := sats_mem hs hc
      rw [satc_tr] at this
      rw [h.1, tr_neg] at ih
      rw [h.2]
      cases q : tr p c.r1 with
      | true => rw [q] at ih; cases ih
      | false => rw [q] at this; simpa using this
    · have := sats_mem hs hc
      rw [satc_tr] at this
      rw [h.1, tr_neg] at ih
      rw [h.2]
      cases q : tr p c.r2 with
      | true => rw [q] at ih; cases ih
      | false => rw [q] at this; simpa using this
theorem no_both {cs : List Cl} {p : Str → Bool} (hs : sats cs p = true) (n : Str) : ¬ Both cs n := by
  rintro ⟨⟨x, hx, h1⟩, ⟨y, hy, h2⟩⟩
  rw [List.mem_singleton.mp hx] at h1
  rw [List.mem_singleton.mp hy] at h2
  cases q : p n with
  | true =>
    have := reach_sound hs (fun l hl => by rw [List.mem_singleton.mp hl]; unfold tr; rw [q] <;> rfl) h2
    unfold tr at this
    rw [q] at this
    cases this
  | false =>
    have := reach_sound hs (fun l hl => by rw [List.mem_singleton.mp hl]; unfold tr; rw [q] <;> rfl) h1
    unfold tr at this
    rw [q] at this
    cases this
/-- a chain from one violating literal to a required one: every set that the clauses accept satisfies the clause -/
theorem gets_sound {cs : List Cl} {c : Cl} (h : Gets cs [neg c.r1, neg c.r2] [c.r1, c.r2]) {p : Str → Bool} (hs : sats cs p = true) : satc c p = true := by
  obtain ⟨x, hx, h⟩ := h
  cases q : satc c p with
  | true => rfl
  | false =>
    rw [satc_tr, Bool.or_eq_false_iff] at q
    have z := reach_sound hs (fun l hl => by
      rcases List.mem_cons.mp hl with e | hl
      · rw [e, tr_neg, q.1] <;> rfl
      · rw [List.mem_singleton.mp hl, tr_neg, q.2] <;> rfl) h
    rcases List.mem_cons.mp hx with e | hx
    · rw [e, q.1] at z; cases z
    · rw [List.mem_singleton.mp hx, q.2] at z; cases z
theorem neg_inj {a b : Lit} (h : neg a = neg b) : a = b := by rw [← neg_neg a, h, neg_neg]
/-- no such chain: some set is accepted that violates the clause -/
theorem gets_complete {cs : List Cl} {c : Cl} {p0 : Str → Bool} (h0 : sats cs p0 = true) (h : ¬ Gets cs [neg c.r1, neg c.r2] [c.r1, c.r2]) : ∃ p, sats cs p = true ∧ satc c p = false := by
  classical
  let T : Lit → Prop := Reach (edges cs) (· ∈ [neg c.r1, neg c.r2])
  have hT : ∀ {l}, T l → ∃ a ∈ [neg c.r1, neg c.r2], R1 cs a l := fun h => reach_union.mp h
  have noR : ∀ {a b : Lit}, a ∈ [neg c.r1, neg c.r2] → b ∈ [neg c.r1, neg c.r2] → ¬ R1 cs a (neg b) := fun {a b} ha hb r => by
    refine h ⟨neg b, ?_, reach_union.mpr ⟨a, ha, r⟩⟩
    rcases List.mem_cons.mp hb with e | hb
    · rw [e, neg_neg]; exact List.mem_cons_self
    · rw [List.mem_singleton.mp hb, neg_neg]; exact List.mem_cons_of_mem _ (List.mem_singleton_self _)
  have cons : ∀ {l}, T l → ¬ T (neg l) := fun {l} h1 h2 => by
    obtain ⟨a, ha, r1⟩ := hT h1
    obtain ⟨b, hb, r2⟩ := hT h2
    have r3 := R1.contra r2
    rw [neg_neg] at r3
    exact noR ha hb (R1.trans r1 r3)
  let p : Str → Bool := fun x => if T (x, true) then true else if T (x, false) then false else p0 x
  have pT : ∀ {l}, T l → tr p l = true := fun {l} h => by
    obtain ⟨x, b⟩ := l
    unfold tr
    show (p x == b) = true
    cases b with
    | true =>
      show ((if T (x, true) then true else if T (x, false) then false else p0 x) == true) = true
      rw [if_pos h] <;> rfl
    | false =>
      have n : ¬ T (x, true) := fun z => cons z h
      show ((if T (x, true) then true else if T (x, false) then false else p0 x) == false) = true
      rw [if_neg n, if_pos h] <;> rfl
  have p0T : ∀ {l}, ¬ T l → ¬ T (neg l) → tr p l = tr p0 l := fun {l} h1 h2 => by
    obtain ⟨x, b⟩ := l
    have e : p x = p0 x := by
      show (if T (x, true) then true else if T (x, false) then false else p0 x) = p0 x
      cases b with
      | true =>
        have h3 : ¬ T (x, false) := h2
        rw [if_neg h1, if_neg h3]
      | false =>
        have h3 : ¬ T (x, true) := h2
        rw [if_neg h3, if_neg h1]
    unfold tr
    show (p x == b) = (p0 x == b)
    rw [e]
  refine ⟨p, List.all_eq_true.mpr fun k hk => ?_, ?_⟩
  · show satc k p = true
    rw [satc_tr]
    have e1 : (neg k.r1, k.r2) ∈ edges cs := edges_mem.mpr ⟨k, hk, .inl ⟨rfl, rfl⟩⟩
    have e2 : (neg k.r2, k.r1) ∈ edges cs := edges_mem.mpr ⟨k, hk, .inr ⟨rfl, rfl⟩⟩
    by_cases t1 : T k.r1
    · rw [pT t1] <;> rfl
    · by_cases t2 : T k.r2
      · rw [pT t2, Bool.or_true]
      · have n1 : ¬ T (neg k.r1) := fun z => t2 (.step z e1)
        have n2 : ¬ T (neg k.r2) := fun z => t1 (.step z e2)
        rw [p0T t1 n1, p0T t2 n2, ← satc_tr]
        exact sats_mem h0 hk
  · rw [satc_tr, Bool.or_eq_false_iff]
    constructor
    · have := pT (l := neg c.r1) (.base List.mem_cons_self)
      rw [tr_neg] at this
      simpa using this
    · have := pT (l := neg c.r2) (.base (List.mem_cons_of_mem _ (List.mem_singleton_self _)))
      rw [tr_neg] at this
      simpa using this
/-! ### sets and what they give -/
theorem fitB_sat (c : Cl) (ns : List Str) : fitB c ns = satc c fun x => decide (x ∈ ns) := rfl
theorem fitsB_sat (cs : List Cl) (ns : List Str) : fitsB cs ns = sats cs fun x => decide (x ∈ ns) := rfl
theorem satc_congr {c : Cl} {p q : Str → Bool} (ha : p c.a = q c.a) (hb : p c.b = q c.b) : satc c p = satc c q := by
  unfold satc
  rw [ha, hb]
theorem sats_congr {cs : List Cl} {p q : Str → Bool} (h : ∀ c ∈ cs, p c.a = q c.a ∧ p c.b = q c.b) : sats cs p = sats cs q := by
  unfold sats
  rw [Bool.eq_iff_iff, List.all_eq_true, List.all_eq_true]
  refine forall_congr' fun c => forall_congr' fun hc => ?_
  rw [satc_congr (h c hc).1 (h c hc).2]
theorem filter_subs (p : Str → Bool) : ∀ ns, ns.filter p ∈ subs ns := fun ns => by
  induction ns using snoc_ind with
  | h0 => exact List.mem_singleton_self _
  | h1 ns n ih =>
    rw [subs_snoc, List.filter_append]
    cases q : p n with
    | true =>
      rw [List.filter_cons_of_pos q, List.filter_nil]
      exact List.mem_append_right _ (List.mem_map.mpr ⟨_, ih, rfl⟩)
    | false =>
      rw [List.filter_cons_of_neg (by rw [q]; decide), List.filter_nil, List.append_nil]
      exact List.mem_append_left _ ih
/-- all accepted sets satisfy c, told by sets of names or by what is given -/
theorem all_sets_iff {cs ks : List Cl} {sns : List Str} (h1 : ∀ c ∈ cs, c.a ∈ sns ∧ c.b ∈ sns) (h2 : ∀ c ∈ ks, c.a ∈ sns ∧ c.b ∈ sns) : (∀ s ∈ subs sns, fitsB cs s = true → fitsB ks s = true) ↔ ∀ p, sats cs p = true → sats ks p = true := by
  constructor
  · intro h p hp
    have key : ∀ {xs : List Cl}, (∀ c ∈ xs, c.a ∈ sns ∧ c.b ∈ sns) → fitsB xs (sns.filter p) = sats xs p := fun {xs} hx => by
      rw [fitsB_sat]
      refine sats_congr fun c hc => ?_
      have ⟨a, b⟩ := hx c hc
      constructor
      · show decide (c.a ∈ sns.filter p) = p c.a
        rw [Bool.eq_iff_iff, decide_eq_true_eq, List.mem_filter]
        exact ⟨fun z => z.2, fun z => ⟨a, z⟩⟩
      · show decide (c.b ∈ sns.filter p) = p c.b
        rw [Bool.eq_iff_iff, decide_eq_true_eq, List.mem_filter]
        exact ⟨fun z => z.2, fun z => ⟨b, z⟩⟩
    rw [← key h2]
    exact h _ (filter_subs p sns) (by rw [key h1]; exact hp)
  · intro h s _ hs
    rw [fitsB_sat] at hs ⊢
    exact h _ hs
end FL
/-! ## V0 -/
set_option Elab.async false
set_option linter.all false
set_option maxRecDepth 100000
set_option maxHeartbeats 4000000
/-! literals as data -/
namespace FL
open PySem L2 GxR SrtO PySem.Spec PyProof.Rows
def rInDT (K : PySem.W.Frag) : R2 := fun x y H Q => ∃ d ds, Dp K H x d ∧ Dp K H y (.tuple ds) ∧ SeqAt.shaped d = true ∧ SeqAt.shaped (.tuple ds) = true ∧ Q (.bl (ds.any fun z => PyData.eqv z d)) H
theorem op_inDT {X : Cx} (hu : X.A.units + 65 < cLine) : OpR X (compareOp .In) (rInDT X.K) := by
  intro pins s σ H x y v u Q I rx ry h
  obtain ⟨d, ds, hd, he, sd, se, q⟩ := h
  obtain ⟨as, r1⟩ := Dp.reads I d x v hd rx
  obtain ⟨bs, r2⟩ := Dp.reads I (.tuple ds) y u he ry
  exact SeqAt.in_tuple_reads r2 r1 (SeqAt.canLay_of_shaped se) (SeqAt.canLay_of_shaped sd) (room_in_shaped sd hu) ⟨.bl _, H, I, rfl, q⟩
def litD (l : Lit) : PyData := .tuple [.str l.1, .bool l.2]
theorem litD_eqv (a b : Lit) : PyData.eqv (litD a) (litD b) = decide (a = b) := by
  obtain ⟨a1, a2⟩ := a
  obtain ⟨b1, b2⟩ := b
  unfold litD
  simp only [PyData.eqv, PyData.eqvAll, Bool.and_true]
  rw [Bool.eq_iff_iff, Bool.and_eq_true, beq_iff_eq, beq_iff_eq, decide_eq_true_eq, Prod.mk.injEq]
theorem pair_eqv (a b c d : Lit) : PyData.eqv (.tuple [litD a, litD b]) (.tuple [litD c, litD d]) = (decide (a = c) && decide (b = d)) := by
  show (PyData.eqv (litD a) (litD c) && (PyData.eqv (litD b) (litD d) && true)) = _
  rw [Bool.and_true, litD_eqv, litD_eqv]
abbrev okL (l : Lit) : Prop := PyData.strOk l.1 = true
theorem shaped4 {a b c d : Lit} (ha : okL a) (hb : okL b) (hc : okL c) (hd : okL d) : SeqAt.shaped (.tuple [.tuple [litD a, litD b], .tuple [litD c, litD d]]) = true := by
  unfold okL at ha hb hc hd
  unfold litD
  simp [SeqAt.shaped, PyData.canLay0, PyData.canLayAll0, PyData.depth, PyData.depthAll, ha, hb, hc, hd]
theorem shaped2 {a b : Lit} (ha : okL a) (hb : okL b) : SeqAt.shaped (.tuple [litD a, litD b]) = true := by
  unfold okL at ha hb
  unfold litD
  simp [SeqAt.shaped, PyData.canLay0, PyData.canLayAll0, PyData.depth, PyData.depthAll, ha, hb]
theorem okL_neg {l : Lit} (h : okL l) : okL (neg l) := h
theorem okL_of {g : Gr} (ok : GrOk g) {l : Lit} (h : l.1 ∈ g.names) : okL l := by
  obtain ⟨o, ho, e⟩ := List.mem_map.mp h
  have hn := ok.nm o ho
  unfold nameB textB at hn
  rw [e] at hn
  simp only [Bool.and_eq_true] at hn
  obtain ⟨⟨_, _, h3⟩, _⟩ := hn
  show l.1.cps.all (· < 0x110000) = true
  rw [← Array.all_toList, List.all_eq_true]
  intro c hc
  have := of_decide_eq_true (List.all_eq_true.mp h3 c hc)
  have hb : ∀ d ∈ habc.cps.toList, d < 0x110000 := by decide +kernel
  exact decide_eq_true (hb c this)
theorem shaped1 {a : Lit} (ha : okL a) : SeqAt.shaped (litD a) = true := by
  unfold okL at ha
  unfold litD
  simp [SeqAt.shaped, PyData.canLay0, PyData.canLayAll0, PyData.depth, PyData.depthAll, ha]
theorem atI_back {xs : List V} {x : V} (h : xs[xs.length - 1]? = some x) (hn : 1 ≤ xs.length) : atI xs (-1) = some x := by
  unfold atI ixN
  rw [if_neg (by decide)]
  first
    | (rw [if_pos (by omega)]
       show xs[_]? = some x
       rw [show ((-1 : Int) + (xs.length : Int)).toNat = xs.length - 1 by omega]
       exact h)
    | (rw [if_pos (by omega)]
       show xs[_]? = some x
       rw [show ((xs.length : Int) + (-1 : Int)).toNat = xs.length - 1 by omega]
       exact h)
section
variable {K : PySem.W.Frag}
theorem dp_lit {H : Hp} {p : Addr} {l : Lit} (h : SqT K H p (litV l)) : Dp K H (.ref p) (litD l) := .tup h (.cons (.str _) (.cons (.bl _) .nil))
end
end FL
/-! ## L15 -/
set_option Elab.async false
set_option linter.all false
set_option maxRecDepth 100000
set_option maxHeartbeats 4000000
namespace FL
open PySem L2 GxR
section
variable {K : PySem.W.Frag}
theorem dpTy {H : Hp} : ∀ {v : V} {d : PyData}, Dp K H v d → TyX K H v (.type (tyN d))
  | _, _, .non => .base .non
  | _, _, .bl b => .base (.bl b)
  | _, _, .int i => .base (.int i)
  | _, _, .str x => .base (.str x)
  | _, _, .lst s _ => by
    rcases s with (s | ⟨o, s⟩) | ⟨o, its, n, e, c, _⟩
    · exact .base (.lst s)
    · exact .base (.frz s)
    · exact .kList e c
  | _, _, .tup s _ => by
    rcases s with (s | ⟨o, s⟩) | ⟨o, its, n, e, c, _⟩
    · exact .base (.tup s)
    · exact .fTuple s
    · exact .kTuple e c
def isLi : PyData → Bool
  | .list _ => true
  | .dict _ => true
  | _ => false
theorem isi_list : ∀ d : PyData, PySem.W.kitOne K (.type (tyN d)) (.type "list") = some (isLi d)
  | .none => kit_ty (show kitB "NoneType" "list" = some false by decide +kernel)
  | .bool _ => kit_ty (show kitB "bool" "list" = some false by decide +kernel)
  | .int _ => kit_ty (show kitB "int" "list" = some false by decide +kernel)
  | .str _ => kit_ty (show kitB "str" "list" = some false by decide +kernel)
  | .list _ => kit_ty (show kitB "list" "list" = some true by decide +kernel)
  | .tuple _ => kit_ty (show kitB "tuple" "list" = some false by decide +kernel)
  | .dict _ => kit_ty (show kitB "list" "list" = some true by decide +kernel)
end
end FL
/-! ## L16 -/
set_option Elab.async false
set_option linter.all false
set_option maxRecDepth 100000
set_option maxHeartbeats 4000000
namespace FL
open PySem L2 GxR
section
variable {K : PySem.W.Frag}
theorem Tz.sameD {L : Addr} {q : Str} {Ps : List Addr} {H H' : Hp} {d : Addr} {xs : List V} (t : Tz L q Ps H) (e : H d = some (.lst xs)) (s : SameD d H H') : Tz L q Ps H' := by
  obtain ⟨ps, h1, h2, h3⟩ := t.tl
  have ne : ∀ {b : Addr} {u : HO}, H b = some u → (∀ xs, u ≠ .lst xs) → b ≠ d := fun {b u} z nu y => by
    rw [y, e] at z
    exact nu _ (Option.some.inj z).symm
  refine ⟨fun P hP => ?_, ps, s _ _ (ne h1 (fun _ z => by cases z)) h1, h2, fun pos cv hc => ?_⟩
  · obtain ⟨qs, z1, z2⟩ := t.tb P hP
    exact ⟨qs, s _ _ (ne z1 (fun _ z => by cases z)) z1, z2⟩
  · obtain ⟨c, e1, e2⟩ := h3 pos cv hc
    exact ⟨c, e1, s _ _ (ne e2 (fun _ z => by unfold LamX.CodeO at z; cases z)) e2⟩
theorem DiceAt.ez {L : Addr} {q : Str} {Ps : List Addr} {H H' : Hp} {d : Addr} (t : Tz L q Ps H) (x : Ez L q Ps H H') (h : DiceAt K H d) : DiceAt K H' d := by
  obtain ⟨a, ns, p, m, r, e, hs, rest⟩ := h
  refine ⟨a, ns, p, m, r, x.lst t e, ?_, rest⟩
  rcases hs with ⟨o, hs⟩ | hs
  · exact .inl ⟨o, x.ex.same _ _ (t.tb.no hs (fun _ z => by cases z)) hs⟩
  · exact .inr hs
end
end FL
/-! ## V5 -/
set_option Elab.async false
set_option linter.all false
set_option maxRecDepth 100000
set_option maxHeartbeats 4000000
/-! data of chains and names; what may be said of it -/
namespace FL
open PySem L2 GxR SrtO
section
variable {K : PySem.W.Frag}
theorem DiceAt.ne {H : Hp} {d x : Addr} {ys : List V} (h : DiceAt K H d) (e : H x = some (.lst ys)) (n : ∀ y ∈ ys, ∀ i, y ≠ .int i) : x ≠ d := fun z => by
  obtain ⟨a, ns, p, m, r, q, _⟩ := h
  rw [z, q] at e
  injection e with e
  injection e with e
  exact n (.int p) (by rw [← e]; simp) p rfl
theorem noInt_ref {as : List Addr} : ∀ y ∈ as.map V.ref, ∀ i, y ≠ .int i := fun y hy i e => by
  obtain ⟨a, _, rfl⟩ := List.mem_map.mp hy
  cases e
theorem noInt_str {as : List Str} : ∀ y ∈ as.map V.str, ∀ i, y ≠ .int i := fun y hy i e => by
  obtain ⟨a, _, rfl⟩ := List.mem_map.mp hy
  cases e
theorem dpLit {H : Hp} {b : Addr} {l : Lit} (q : SqT K H b (litV l)) : Dp K H (.ref b) (litD l) := .tup q (.cons (.str _) (.cons (.bl _) .nil))
theorem dpLits {H : Hp} : ∀ {bs : List Addr} {ch : List Lit}, LitsA K H bs ch → DpAll K H (bs.map V.ref) (ch.map litD)
  | _, _, .nil => .nil
  | _, _, .cons a t => .cons (dpLit a) (dpLits t)
theorem dp_chain {H : Hp} {a : Addr} {bs : List Addr} {ch : List Lit} (h : H a = some (.lst (bs.map V.ref))) (hl : LitsA K H bs ch) : Dp K H (.ref a) (.list (ch.map litD)) := .lst (SqL.of h) (dpLits hl)
theorem dpTxts {H : Hp} : ∀ ns : List Str, DpAll K H (ns.map V.str) (ns.map PyData.str)
  | [] => .nil
  | n :: ns => .cons (.str n) (dpTxts ns)
theorem dp_txts {H : Hp} {a : Addr} {l : List Str} (h : H a = some (.lst (l.map V.str))) : Dp K H (.ref a) (.list (l.map PyData.str)) := .lst (SqL.of h) (dpTxts l)
end
/-- data that can be compared, no deeper than n -/
def Shp (n : Nat) (d : PyData) : Prop := d.canLay0 = true ∧ d.depth ≤ n
theorem Shp.mono {n m : Nat} {d : PyData} (h : Shp n d) (l : n ≤ m) : Shp m d := ⟨h.1, Nat.le_trans h.2 l⟩
theorem Shp.all {n : Nat} : ∀ {ds : List PyData}, (∀ d ∈ ds, Shp n d) → PyData.canLayAll0 ds = true ∧ PyData.depthAll ds ≤ n
  | [], _ => ⟨rfl, Nat.zero_le _⟩
  | d :: ds, h => by
    obtain ⟨a, b⟩ := h d List.mem_cons_self
    obtain ⟨c, e⟩ := Shp.all (ds := ds) fun x hx => h x (List.mem_cons_of_mem _ hx)
    exact ⟨by rw [PyData.canLayAll0, a, c] <;> rfl, by rw [PyData.depthAll]; exact Nat.max_le.mpr ⟨b, e⟩⟩
theorem Shp.tup {n : Nat} {ds : List PyData} (h : ∀ d ∈ ds, Shp n d) : Shp (n + 1) (.tuple ds) := ⟨by rw [PyData.canLay0]; exact (Shp.all h).1, by rw [PyData.depth]; exact Nat.succ_le_succ (Shp.all h).2⟩
theorem Shp.lst {n : Nat} {ds : List PyData} (h : ∀ d ∈ ds, Shp n d) : Shp (n + 1) (.list ds) := ⟨by rw [PyData.canLay0]; exact (Shp.all h).1, by rw [PyData.depth]; exact Nat.succ_le_succ (Shp.all h).2⟩
theorem Shp.str {n : Nat} {x : Str} (h : PyData.strOk x = true) : Shp n (.str x) := ⟨by rw [PyData.canLay0]; exact h, by rw [PyData.depth]; exact Nat.zero_le _⟩
theorem Shp.bl {n : Nat} {b : Bool} : Shp n (.bool b) := ⟨rfl, by rw [PyData.depth]; exact Nat.zero_le _⟩
theorem Shp.int {n : Nat} {i : Int} : Shp n (.int i) := ⟨rfl, by rw [PyData.depth]; exact Nat.zero_le _⟩
theorem Shp.lit {l : Lit} (h : okL l) : Shp 1 (litD l) := .tup fun d hd => by
  rcases List.mem_cons.mp hd with rfl | hd
  · exact .str h
  · rw [List.mem_singleton.mp hd]; exact .bl
theorem Shp.ok {n : Nat} {d : PyData} (h : Shp n d) (l : n ≤ 64) : SeqAt.shaped d = true := by
  unfold SeqAt.shaped
  rw [h.1, decide_eq_true (Nat.le_trans h.2 l)] <;> rfl
theorem Shp.refl {n : Nat} {d : PyData} (h : Shp n d) : PyData.eqv d d = true := SeqAt.eqv_refl d h.1
end FL
/-! ## VX7 -/
set_option Elab.async false
set_option linter.all false
set_option maxRecDepth 100000
set_option maxHeartbeats 4000000
/-! min of a list of data; of lengths with texts -/
namespace FL
open PySem L2 PySem.Spec PyProof.Rows PySem.W
def rMinD (K : PySem.W.Frag) : List V → Hp → VK → Prop := fun vs H Q => ∃ (p : Addr) (xs : List V) (d : PyData) (ds : List PyData), vs = [.ref p] ∧ SqL K H p xs ∧ DpAll K H xs (d :: ds) ∧ AlikeAll (d :: ds) ∧ PyData.depthAll (d :: ds) ≤ 8 ∧
  ∀ (i : Nat) (v : V), xs[i]? = some v → (d :: ds)[i]? = some (minD d ds) → Q v H
theorem vals_at : ∀ {xs : List V} {us : List Value} {i : Nat} {u : Value}, Vals xs us → us[i]? = some u → ∃ x, xs[i]? = some x ∧ RelV x u
  | _, _, _, _, .nil, h => nomatch h
  | _, _, 0, _, .cons r _, h => ⟨_, rfl, (Option.some.inj h) ▸ r⟩
  | _, _, i + 1, _, .cons _ t, h => vals_at (i := i) t h
theorem rall_at {h : Heap} : ∀ {us : List Value} {ds : List PyData} {as : List Addr} {i : Nat} {u : Value}, ReadsAll h us ds as → us[i]? = some u → ∃ d bs, ds[i]? = some d ∧ Reads h u d bs
  | _, _, _, _, _, .nil, e => nomatch e
  | _, _, _, 0, _, .cons r _, e => ⟨_, _, rfl, (Option.some.inj e) ▸ r⟩
  | _, _, _, i + 1, _, .cons _ t, e => rall_at (i := i) t e
theorem call_minD {X : Cx} (hc : X.calm = true) (hu : X.A.units + 64 < cLine) : CallR X (.builtin "min") (rMinD X.K) := by
  intro pins s σ H vs us Q I r h
  obtain ⟨p, xs, d, ds, rfl, hs, hd, ha, hdep, q⟩ := h
  obtain ⟨its, rv, hl, _⟩ := I.list hs
  rw [Vals.ref1 r]
  obtain ⟨as, hr⟩ := Dp.readsAll I (d :: ds) xs its hd rv
  refine min_list_data (I.ok.hd hc) hl.isList (show ReadsAll s.heap its.toArray.toList (d :: ds) as from by simpa using hr) ha (by omega) fun i v h' tk bs hv r2 hk => ?_
  have hv : its[i]? = some v := by simpa using hv
  obtain ⟨x, hx, rx⟩ := vals_at rv hv
  obtain ⟨e, cs, he, re⟩ := rall_at hr hv
  have ee := (Reads.unique (reads_keeps hk re) _ _ r2).1
  exact ⟨x, H, I.kept hk, rx, q i x hx (by rw [he, ee])⟩
/-- a text behind its length -/
abbrev pD (z : Str) : PyData := .tuple [.int (z.length : Int), .str z]
/-- shorter, or of one length and smaller -/
def ltP (a b : Str) : Bool := if a.length = b.length then decide (a.cps.toList < b.cps.toList) else decide (a.length < b.length)
theorem eqv_ii (a b : Int) : PyData.eqv (.int a) (.int b) = decide (a = b) := by
  simp only [PyData.eqv]
  exact (Bool.eq_iff_iff.mpr (by rw [beq_iff_eq, decide_eq_true_iff]))
theorem lt_irr : ∀ l : List Nat, decide (l < l) = false := fun l => decide_eq_false (List.lt_irrefl l)
theorem dataLt_pD (a b : Str) : dataLt (pD a) (pD b) = ltP a b := by
  rw [dataLt_pair rfl rfl, eqv_ii]
  unfold ltP
  by_cases h : a.length = b.length
  · rw [if_pos h, if_pos (decide_eq_true (by omega))]
    by_cases e : PyData.eqv (.str a) (.str b) = true
    · rw [if_pos e]
      simp only [PyData.eqv] at e
      have : a = b := eq_of_beq e
      subst this
      exact (lt_irr _).symm
    · rw [if_neg e, dataLt_str]
  · rw [if_neg h, if_neg (by rw [decide_eq_true_iff]; omega), dataLt_int]
    rw [Bool.eq_iff_iff, decide_eq_true_iff, decide_eq_true_iff]
    omega
/-- the least of some texts -/
def minP (a : Str) (l : List Str) : Str := l.foldl (fun m y => if ltP y m = true then y else m) a
theorem minD_pD : ∀ (l : List Str) (a : Str), minD (pD a) (l.map pD) = pD (minP a l)
  | [], _ => rfl
  | y :: l, a => by
    show minD (if dataLt (pD y) (pD a) = true then pD y else pD a) (l.map pD) = pD (minP (if ltP y a = true then y else a) l)
    rw [dataLt_pD]
    by_cases h : ltP y a = true
    · rw [if_pos h, if_pos h]
      exact minD_pD l y
    · rw [if_neg h, if_neg h]
      exact minD_pD l a
theorem pD_inj {a b : Str} (h : pD a = pD b) : a = b := by
  injection h with h
  injection h with _ h
  injection h with h _
  injection h
theorem alike_pD : ∀ l : List Str, AlikeAll (l.map pD) := fun l => ⟨fun x hx y hy => by
  obtain ⟨a, _, rfl⟩ := List.mem_map.mp hx
  obtain ⟨b, _, rfl⟩ := List.mem_map.mp hy
  rfl, fun x hx => by
  obtain ⟨a, _, rfl⟩ := List.mem_map.mp hx
  exact fun z => nomatch z⟩
theorem depth_pD : ∀ l : List Str, PyData.depthAll (l.map pD) ≤ 1
  | [] => Nat.zero_le _
  | a :: l => by
    rw [List.map_cons, PyData.depthAll]
    refine Nat.max_le.mpr ⟨?_, depth_pD l⟩
    rw [PyData.depth, PyData.depthAll, PyData.depthAll, PyData.depth, PyData.depth, PyData.depthAll]
    decide
end FL
/-! ## MS1 -/
set_option Elab.async false
set_option linter.all false
set_option maxRecDepth 100000
set_option maxHeartbeats 4000000
/-! min(texts, key=lambda x: (len(x), x)) of texts -/
namespace FL
open PySem L2 PySem.Spec PyProof.Rows Srt SrtO SeqAt LamX
/-- v is the tuple of z's length and z -/
def IsKeyS (h : Heap) (v : Value) (z : Str) : Prop := ∃ as, Reads h v (pD z) as
theorem key_rcLtS {A : Around} {s : Shared} (hu : A.units + 16 < cLine) {u v : Value} {a b : Str} (h1 : IsKeyS s.heap u a) (h2 : IsKeyS s.heap v b) : RcLt A s u v (ltP a b) := by
  obtain ⟨as, r1⟩ := h1
  obtain ⟨bs, r2⟩ := h2
  have d1 : (pD a).depth ≤ 1 := by
    rw [PyData.depth, PyData.depthAll, PyData.depthAll, PyData.depth, PyData.depth, PyData.depthAll]
    decide
  have := PySem.W.rcLt_alike (pD a) (pD b) A s u v as bs r1 r2 rfl (fun z => nomatch z) (by have := Nat.min_le_left (pD a).depth (pD b).depth; omega)
  rw [dataLt_pD] at this
  exact this
/-- what the key's function does of a text -/
def KeyCallS (X : Cx) (pins : List (Addr × Obj)) (σ : L2.St) (A : Around) (f c' : Addr) (of : Obj) (q : Str) : Prop :=
  ∀ (pl : List (Addr × Obj)) (s : Shared) (H : Hp) (z : Str) (u : Value) (Q E : Value → Shared → Prop), Inv X (pins ++ pl) σ H s → (f, of) ∈ pins → H c' = some (CodeO c' q) → RelV (.str z) u → z.length ≤ sizeLine →
    (∀ t s', Inv X (pins ++ pl) σ (upd H t (.tup [.int z.length, .str z])) s' → H t = none → Q (.ref t) s') → wpAny (model X.prog X.w) A (call (.ref f) [u]) Q E s
abbrev btS (zs : List Str) (a b : Nat) : Bool := ltP (zs.getD a "") (zs.getD b "")
/-- what the list of the best holds when j items are through -/
def OldS (zs : List Str) (H : Hp) (j : Nat) (arr : Array Value) : Prop :=
  (j = 0 ∧ arr = #[]) ∨ ∃ i v kt, j = i + 1 ∧ arr = #[v, .ref kt] ∧ RelV (.str (zs.getD (argBest (btS zs) i) "")) v ∧ H kt = some (.tup [.int ((zs.getD (argBest (btS zs) i) "").length : Int), .str (zs.getD (argBest (btS zs) i) "")])
theorem args_min_k (a v : Value) : argsOk "min" ⟨[a], [(Str.ofString "key", v)]⟩ := by unfold argsOk; kernel_rfl
section
variable {X : Cx} {pins : List (Addr × Obj)} {σ : L2.St} {A : Around} {f c' It S l : Addr} {q : Str} {of : Obj} {zs : List Str} {R : Result → Shared → Prop} {H0 : Hp}
theorem keyS_of {H : Hp} {s : Shared} {t : Addr} {z : Str} (I : Inv X pins σ H s) (ht : H t = some (.tup [.int (z.length : Int), .str z])) : IsKeyS s.heap (.ref t) z :=
  Dp.reads I (pD z) (.ref t) (.ref t) (.tup (SqT.of ht) (.cons (.int _) (.cons (.str _) .nil))) rfl
theorem vals_get : ∀ {xs : List V} {us : List Value} {i : Nat} {x : V}, Vals xs us → xs[i]? = some x → ∃ u, us[i]? = some u ∧ RelV x u
  | _, _, _, _, .nil, h => nomatch h
  | _, _, 0, _, .cons r _, h => ⟨_, rfl, (Option.some.inj h) ▸ r⟩
  | _, _, i + 1, _, .cons _ t, h => vals_get (i := i) t h
theorem min_loopS (hh : A.handled = none) (hu : A.units + 64 < cLine) (KC : KeyCallS X pins σ A.in1 f c' of q) (hfp : (f, of) ∈ pins) (nlI : l ≠ It) (nIS : It ≠ S) (hc0 : H0 c' = some (CodeO c' q))
    (hl0 : H0 l = some (.lst (zs.map V.str))) (hz : 0 < zs.length) (hzl : ∀ z ∈ zs, z.length ≤ sizeLine)
    (hR : ∀ v H s, RelV (.str (zs.getD (argBest (btS zs) (zs.length - 1)) "")) v → Same H0 H → Inv X pins σ H s → R (.ok (.ret v)) s) :
    ∀ (r j : Nat) (H : Hp) (s : Shared) (arr : Array Value) (n : Nat), zs.length - j = r → j ≤ zs.length → Inv X pins σ H s → Same H0 H → FpOk X pins H It → FpOk X pins H S →
      s.heap.IsListIter It l j → s.heap.get? S = some (seqObj "list" arr n) → OldS zs H j arr → codeAny (model X.prog X.w) A (.builtin "min.loop" ⟨[.ref It, .ref f, .ref S], []⟩) R s := by
  have hname : (toString "min" ++ toString ".loop" : String) = "min.loop" := by decide
  intro r
  induction r with
  | zero =>
    intro j H s arr n hr hj I s0 fI fS it gS old
    have ej : j = zs.length := by omega
    subst ej
    obtain ⟨its, rv, pl, _⟩ := I.list (SqL.of (s0 _ _ hl0))
    have hl : s.heap.IsList l its.toArray := pl.isList
    have W := Walks.list (prog := X.prog) (w := X.w) (A := A.in1) hh It l nlI its.toArray
    have lits : its.length = zs.length := by
      have := rv.length
      rw [List.length_map] at this
      omega
    have hsz : its.toArray.size = zs.length := by simp [lits]
    refine codeAny_builtin PySem.F.entry_min_loop ?_
    rw [Around.under_plainId PySem.F.plain_min_loop _]
    show wpAny _ A.in1 (seqItems? (.ref S) >>= _) _ _ _
    refine wpAny_bind (wpAny_seqItems gS rfl ?_)
    show wpAny _ A.in1 (tryCatch (pyNext (.ref It)) _ >>= _) _ _ _
    refine wpAny_bind (wpAny_tryCatch (W.done _ _ _ ⟨by rw [hsz]; exact it, hl⟩ fun h' tk' hk' => ?_))
    have I1 : Inv X pins σ H { s with heap := h', toks := tk' } := I.turned (it := It) (fun b o hb e => hk' b o (by simpa using hb) e) fI.1 fI.2.1 fI.2.2.2.1 fI.2.2.2.2.1 fI.2.2.2.2.2
    have gS' := hk' S _ (by simpa using nIS.symm) gS
    rcases old with ⟨z, rfl⟩ | ⟨i, v, kt, z, rfl, ha, hk⟩
    · omega
    · show wpAny _ A.in1 (updateSeq S (fun _ => #[]) >>= _) _ _ _
      refine wpAny_bind ?_
      refine wpAny_updateSeq gS' rfl (wpAny_bind (wpAny_letGo (wpAny_pure ?_)))
      have s1 := Heap.SameBut.update h' S (Obj.mapSeq fun _ => (#[] : Array Value))
      have I2 : Inv X pins σ H { ({ s with heap := h', toks := tk' } : Shared) with heap := h'.update S (Obj.mapSeq fun _ => (#[] : Array Value)), toks := tk' } := I1.turned (it := S) (fun b o hb e => (s1.2 b hb).trans e) fS.1 fS.2.1 fS.2.2.2.1 fS.2.2.2.2.1 fS.2.2.2.2.2
      refine hR v H _ ?_ s0 I2
      rw [show zs.length - 1 = i by omega]
      exact ha
  | succ r ih =>
    intro j H s arr n hr hj I s0 fI fS it gS old
    have hlt : j < zs.length := by omega
    obtain ⟨its, rv, pl, _⟩ := I.list (SqL.of (s0 _ _ hl0))
    have hl : s.heap.IsList l its.toArray := pl.isList
    have W := Walks.list (prog := X.prog) (w := X.w) (A := A.in1) hh It l nlI its.toArray
    have lits : its.length = zs.length := by
      have := rv.length
      rw [List.length_map] at this
      omega
    have hsz : its.toArray.size = zs.length := by simp [lits]
    refine codeAny_builtin PySem.F.entry_min_loop ?_
    rw [Around.under_plainId PySem.F.plain_min_loop _]
    show wpAny _ A.in1 (seqItems? (.ref S) >>= _) _ _ _
    refine wpAny_bind (wpAny_seqItems gS rfl ?_)
    show wpAny _ A.in1 (tryCatch (pyNext (.ref It)) _ >>= _) _ _ _
    refine wpAny_bind (wpAny_tryCatch (W.item j _ _ _ (by rw [hsz]; exact hlt) ⟨it, hl⟩ fun v h' tk' hP hst' hk' => ?_))
    obtain ⟨zj, hzj⟩ : ∃ a, zs[j]? = some a := ⟨_, List.getElem?_eq_getElem hlt⟩
    have egj : zs.getD j "" = zj := by rw [List.getD_eq_getElem?_getD, hzj] <;> rfl
    obtain ⟨v', hv', rvj⟩ := vals_get rv (show (zs.map V.str)[j]? = some (.str zj) by rw [List.getElem?_map, hzj] <;> rfl)
    obtain rfl : v = v' := by
      have z : (its.toArray)[j]? = some v := hP
      rw [List.getElem?_toArray, hv'] at z
      exact (Option.some.inj z).symm
    have I1 : Inv X pins σ H { s with heap := h', toks := tk' } := I.turned (it := It) (fun b o hb e => hk' b o (by simpa using hb) e) fI.1 fI.2.1 fI.2.2.2.1 fI.2.2.2.2.1 fI.2.2.2.2.2
    have gS' := hk' S _ (by simpa using nIS.symm) gS
    obtain ⟨oI', hoI', hoc, hod⟩ := id hst'.1
    have I2 := I1.pinned (fp := [It, S]) (fun b hb => by
      rcases List.mem_cons.mp hb with rfl | hb
      · exact fI
      · rw [List.mem_singleton.mp hb]; exact fS) (fun b hb => by
      rcases List.mem_cons.mp hb with rfl | hb
      · exact ⟨_, hoI', fun v z => by rw [hod] at z; cases z⟩
      · rw [List.mem_singleton.mp hb]; exact ⟨_, gS', fun v z => by cases z⟩)
    show wpAny _ A.in1 (tryCatch (holding [v] (call (.ref f) [v])) _ >>= _) _ _ _
    refine wpAny_bind (wpAny_tryCatch (wpAny_holding (KC _ _ H zj v _ _ I2 hfp (s0 _ _ hc0) rvj (hzl zj (List.mem_of_getElem? hzj)) fun t s2 I3 nt => ?_)))
    have pin : ∀ b ∈ [It, S], ∀ o, h'.get? b = some o → s2.heap.get? b = some o ∧ upd H t (.tup [.int zj.length, .str zj]) b = none := fun b hb o e =>
      let z := I3.pin (b, o) (List.mem_append_right _ (List.mem_append_right _ (mem_pinsAt hb e)))
      ⟨z.1, z.2.1⟩
    obtain ⟨gI2, nI2⟩ := pin It (by simp) _ hoI'
    obtain ⟨gS2, nS2⟩ := pin S (by simp) _ gS'
    have I4 : Inv X pins σ (upd H t (.tup [.int zj.length, .str zj])) s2 := I3.unpinned
    have sN : Same H (upd H t (.tup [.int zj.length, .str zj])) := Same.new nt
    have s02 := Same.trans' s0 sN
    have hkt : upd H t (.tup [.int zj.length, .str zj]) t = some (.tup [.int (zj.length : Int), .str zj]) := upd_same
    generalize upd H t (.tup [.int zj.length, .str zj]) = H2 at I4 nI2 nS2 sN s02 hkt
    have keyj : IsKeyS s2.heap (.ref t) zj := keyS_of I4 hkt
    have hit2 : s2.heap.IsListIter It l (j + 1) := ⟨oI', gI2, hoc, hod⟩
    have write : ∀ (s3 : Shared) (o : Obj), s3 = { s2 with heap := s2.heap.update S (Obj.mapSeq fun _ => #[v, .ref t]) } → argBest (btS zs) j = j → codeAny (model X.prog X.w) A (.builtin "min.loop" ⟨[.ref It, .ref f, .ref S], []⟩) R s3 := fun s3 _ e3 hb => by
      subst e3
      have s1 := Heap.SameBut.update s2.heap S (Obj.mapSeq fun _ => #[v, .ref t])
      obtain ⟨c2, hc2⟩ : ∃ c2, (s2.heap.update S (Obj.mapSeq fun _ => #[v, .ref t])).get? S = some (seqObj "list" #[v, .ref t] c2) := ⟨_, get?_update_seq gS2 fun _ => #[v, .ref t]⟩
      have I5 : Inv X pins σ H2 { s2 with heap := s2.heap.update S (Obj.mapSeq fun _ => #[v, .ref t]), toks := s2.toks } := I4.turned (it := S) (fun b o hb e => (s1.2 b hb).trans e) nS2 fS.2.1 fS.2.2.2.1 fS.2.2.2.2.1 fS.2.2.2.2.2
      refine ih (j + 1) H2 _ _ c2 (by omega) hlt I5 s02 (FpOk.heap fI nI2) (FpOk.heap fS nS2) ⟨oI', (s1.2 It nIS).trans gI2, hoc, hod⟩ hc2 (.inr ⟨j, v, t, rfl, rfl, by rw [hb, egj]; exact rvj, by rw [hb, egj]; exact hkt⟩)
    rcases old with ⟨z, rfl⟩ | ⟨i, vb, kt, z, rfl, ha, hk⟩
    · subst z
      show wpAny _ A.in1 (updateSeq S (fun _ => #[v, .ref t]) >>= _) _ _ _
      refine wpAny_bind ?_
      refine wpAny_updateSeq gS2 rfl ?_
      rw [hname]
      exact wpAny_pure ⟨plainId_quiet PySem.F.plain_min_loop _, write _ oI' rfl rfl⟩
    · subst z
      have keyi : IsKeyS s2.heap (.ref kt) (zs.getD (argBest (btS zs) i) "") := keyS_of I4 (sN _ _ hk)
      show wpAny _ A.in1 (tryCatch (holding [v, .ref t] (richCompare .Lt (.ref t) (.ref kt) >>= _)) _ >>= _) _ _ _
      refine wpAny_bind (wpAny_tryCatch (wpAny_holding (wpAny_bind (key_rcLtS (by show A.units + 1 + 16 < cLine; omega) keyj keyi _ _ _ _ ?_))))
      refine wpAny_bind (wpAny_holding (wpAny_truthy_bool ?_))
      refine wpAny_bind (wpAny_letGo (wpAny_pure ?_))
      cases hb : ltP zj (zs.getD (argBest (btS zs) i) "") with
      | true =>
        simp only [if_true]
        refine wpAny_bind ?_
        refine wpAny_updateSeq gS2 rfl (wpAny_bind (wpAny_letGo ?_))
        rw [hname]
        refine wpAny_pure ⟨plainId_quiet PySem.F.plain_min_loop _, write _ oI' rfl ?_⟩
        unfold argBest
        rw [if_pos (show btS zs (i + 1) (argBest (btS zs) i) = true from by show ltP _ _ = true; rw [egj]; exact hb)]
      | false =>
        simp only [Bool.false_eq_true, if_false]
        refine wpAny_bind (wpAny_letGo ?_)
        rw [hname]
        have eb : argBest (btS zs) (i + 1) = argBest (btS zs) i := by
          show (if btS zs (i + 1) (argBest (btS zs) i) then i + 1 else argBest (btS zs) i) = _
          rw [if_neg (by rw [show btS zs (i + 1) (argBest (btS zs) i) = false from by show ltP _ _ = false; rw [egj]; exact hb]; decide)]
        refine wpAny_pure ⟨plainId_quiet PySem.F.plain_min_loop _, ih (i + 1 + 1) H2 s2 _ n (by omega) hlt I4 s02 (FpOk.heap fI nI2) (FpOk.heap fS nS2) hit2 gS2 (.inr ⟨i + 1, vb, kt, rfl, rfl, by rw [eb]; exact ha, by rw [eb]; exact sN _ _ hk⟩)⟩
theorem min_callS {H : Hp} {s : Shared} {Q E : Value → Shared → Prop} (hh : A.handled = none) (hu : A.units + 64 < cLine) (KC : KeyCallS X pins σ A.in1 f c' of q) (I : Inv X pins σ H s) (hfp : (f, of) ∈ pins) (hc : H c' = some (CodeO c' q))
    (hl : H l = some (.lst (zs.map V.str))) (hz : 0 < zs.length) (hzl : ∀ z ∈ zs, z.length ≤ sizeLine)
    (hR : ∀ v H' s', RelV (.str (zs.getD (argBest (btS zs) (zs.length - 1)) "")) v → Same H H' → Inv X pins σ H' s' → Q v s') :
    wpAny (model X.prog X.w) A (call (.builtin "min") [.ref l] [(Str.ofString "key", .ref f)]) Q E s := by
  have hname : (toString "min" ++ toString ".loop" : String) = "min.loop" := by decide
  obtain ⟨its, rv, pl, _⟩ := I.list (SqL.of hl)
  have hls : s.heap.IsList l its.toArray := pl.isList
  obtain ⟨ol, hol, _⟩ := id hls
  have hll : l < s.heap.objs.size := Heap.lt_size hol
  refine kmk_tree PySem.F.kind_min PySem.F.plain_min PySem.F.entry_min (args_min_k _ _) ?_
  show wpAny _ A.in1 (Builtin.Builtins.bindParams "min" ["key", "default"] 0 ⟨[], [(Str.ofString "key", .ref f)]⟩ >>= _) _ _ s
  refine wpAny_bind (wpAny_of_eq (show Builtin.Builtins.bindParams "min" ["key", "default"] 0 ⟨[], [(Str.ofString "key", .ref f)]⟩ = pure [some (.ref f), none] from rfl) ?_)
  refine wpAny_bind (wpAny_pure ?_)
  refine wpAny_bind (wpAny_pyIter_list hls ?_)
  refine wpAny_bind (wpAny_newList ?_ (Nat.zero_le _))
  rw [hname]
  generalize hIt : ({ cls := .type "list_iterator", data := .fields #[.ref l, .int 0 0] } : Obj) = oIt
  have zS : (s.heap.push oIt).objs.size = s.heap.objs.size + 1 := size_push' ..
  have gI : ((s.heap.push oIt).push (seqObj "list" #[] 0)).get? s.heap.objs.size = some oIt := Heap.get?_push_of_some _ (by rw [← hIt]; exact Heap.get?_push_size _ rfl)
  have gS : ((s.heap.push oIt).push (seqObj "list" #[] 0)).get? (s.heap.push oIt).objs.size = some (seqObj "list" #[] 0) := Heap.get?_push_size _ rfl
  have I1 : Inv X pins σ H { s with heap := (s.heap.push oIt).push (seqObj "list" #[] 0), toks := s.toks } := I.kept fun b o e => Heap.get?_push_of_some _ (Heap.get?_push_of_some _ e)
  refine wpAny_pure ⟨plainId_quiet PySem.F.plain_min_loop _, min_loopS (It := s.heap.objs.size) (S := (s.heap.push oIt).objs.size) (H0 := H) hh hu KC hfp (Nat.ne_of_lt hll) (by rw [zS]; exact Nat.ne_of_lt (Nat.lt_succ_self _)) hc hl hz hzl (fun v H' s' e b c => ?_) zs.length 0 H _ #[] 0 rfl (Nat.zero_le _) I1 (fun _ _ z => z)
    (I.fpOk (Nat.le_refl _) (I.hok.fresh (Nat.le_refl _))) (I.fpOk (by rw [zS]; exact Nat.le_succ _) (I.hok.fresh (by rw [zS]; exact Nat.le_succ _))) ⟨oIt, gI, by rw [← hIt], by rw [← hIt] <;> rfl⟩ gS (.inl ⟨rfl, rfl⟩)⟩
  exact hR v H' s' e b c
end
/-- min(e, key=lambda x: (len(x), x)) of texts -/
def tMinS (P : Addr) (q : Str) (te : TE) : TE := fun σ H Q => te σ H fun v H1 => ∃ (l : Addr) (zs : List Str), v = .ref l ∧ H1 l = some (.lst (zs.map V.str)) ∧ 0 < zs.length ∧ (∀ z ∈ zs, z.length ≤ sizeLine) ∧ TabS H1 P q ∧
  ∀ H2, LamEx P q H1 H2 → ∀ H3, Same H2 H3 → Q (.str (zs.getD (argBest (btS zs) (zs.length - 1)) "")) H3
section
variable {X : Cx}
theorem pe_minLamS {q : Str} {c P : Addr} {k : Nat} {e : Expr} {te tb : TE} {params : Arguments} {body : Expr} {scope : Scope} {N : List Str} {x : Str} {p pos lpos k1 : Pos} (hr : Room (k + 3) X.A) (hc : X.calm = true) (hg : Gl X "min") (hm : X.mg "min" = none) (ha : PA X [e] (tCons te tNil))
    (TB : LamX.TabB X.base X.mg c P) (hcode : X.env.code = .ref c) (eq : q = X.env.qual ++ "<lambda>") (S : FnScope N [x] scope) (hdef : defaultsOf params X.env = ([], []))
    (hbind : ∀ (q : Str) (cl : List (Str × Addr)) (pm cv ctv u : Value), bindArgs (PySem.W.kla_fn "<lambda>" q params body scope cl pm cv ctv) ⟨[u], []⟩ = pure ([x].zip [u]))
    (hbody : ∀ (f c' : Addr) (A : Around) (s : Shared) (H : Hp) (st : List Env), Room k (A.deeper (envOfC q scope s.heap.objs.size f (.ref c'))) → PE (cxOf C8.CX0 X.prog X.w X.K X.mg X.base N q scope f (.ref c') A st s H C8.E0) body tb)
    (htb : ∀ (z : Str) (H : Hp) (Q : VK), (∀ t, H t = none → Q (.ref t) (upd H t (.tup [.int z.length, .str z]))) → z.length ≤ sizeLine → tb (L2.start N [.str z]) H Q)
    (he : backTo pos (starEach [e] X.env) = (false, eval e X.env) :: backTo pos (starEach [] X.env) := by rfl) (hpl : (backTo pos (starEach [e] X.env)).any (·.1) = false := by rfl)
    (hall : (backToKw pos (keywordEach [⟨some "key", .Lambda params body scope lpos, k1⟩] X.env)).all (·.1.isSome) = true := by rfl) (hnone : (backToKw pos (keywordEach [⟨some "key", .Lambda params body scope lpos, k1⟩] X.env)).any (·.1.isNone) = false := by rfl) :
    PE X (.Call (.Name "min" p) [e] [⟨some "key", .Lambda params body scope lpos, k1⟩] pos) (tMinS P q te) := by
  refine ⟨fun pins s σ H Q I h => ?_⟩
  refine wpAny_Call_Name_kw (ld_blt I hg hm (by decide +kernel : bootBuiltins "min" = some (.builtin "min")) ?_)
  refine PyProof.Rows.callWith_kw (thn (ha.run pos pins s σ H (fun vs H1 => ∃ (l : Addr) (zs : List Str), vs = [.ref l] ∧ H1 l = some (.lst (zs.map V.str)) ∧ 0 < zs.length ∧ (∀ z ∈ zs, z.length ≤ sizeLine) ∧ TabS H1 P q ∧
    ∀ H2, LamEx P q H1 H2 → ∀ H3, Same H2 H3 → Q (.str (zs.getD (argBest (btS zs) (zs.length - 1)) "")) H3) I ?_) fun us s1 hq => ?_) he hpl hall hnone
  · have mono : te σ H _ := h
    show te σ H fun v H1 => ∃ l zs, [v] = [.ref l] ∧ _
    have e2 : (fun v H1 => ∃ (l : Addr) (zs : List Str), [v] = [V.ref l] ∧ H1 l = some (.lst (zs.map V.str)) ∧ 0 < zs.length ∧ (∀ z ∈ zs, z.length ≤ sizeLine) ∧ TabS H1 P q ∧
      ∀ H2, LamEx P q H1 H2 → ∀ H3, Same H2 H3 → Q (.str (zs.getD (argBest (btS zs) (zs.length - 1)) "")) H3) =
      (fun v H1 => ∃ (l : Addr) (zs : List Str), v = V.ref l ∧ H1 l = some (.lst (zs.map V.str)) ∧ 0 < zs.length ∧ (∀ z ∈ zs, z.length ≤ sizeLine) ∧ TabS H1 P q ∧
      ∀ H2, LamEx P q H1 H2 → ∀ H3, Same H2 H3 → Q (.str (zs.getD (argBest (btS zs) (zs.length - 1)) "")) H3) := by
      funext v H1
      refine propext ⟨fun ⟨l, zs, z, r⟩ => ⟨l, zs, by injection z, r⟩, fun ⟨l, zs, z, r⟩ => ⟨l, zs, by rw [z], r⟩⟩
    rw [e2]
    exact mono
  obtain ⟨vs, H1, I1, r1, l, zs, rfl, hl, hz, hzl, hT, hq⟩ := hq
  obtain ⟨u, rfl, ru⟩ := vals1 r1
  obtain rfl : u = Value.ref l := ru
  show wpAny _ _ (evalAll ((do let v ← eval (.Lambda params body scope lpos) X.env; standAt pos; pure v) :: [])) _ _ s1
  have hnf : ∀ y ∈ scope.names, y.2 = .free → ∃ c, X.env.cells.lookup y.1 = some c := fun y hy e => absurd e (S.nofree y hy)
  have hclo : cloFrom X.env.cells scope.names [] = [] := by
    cases q : cloFrom X.env.cells scope.names [] with
    | nil => rfl
    | cons y ys =>
      have hm : (y.1, y.2) ∈ cloFrom X.env.cells scope.names [] := by rw [q]; exact List.mem_cons_self
      rcases cloFrom_mem hm with z | ⟨z, _⟩
      · cases z
      · exact absurd rfl (S.nofree _ z)
  refine wpAny_evalAll_cons (wpAny_bind (lam_make3 I1 TB hcode eq hT hdef hnf fun f c' pm ctv H2 s2 I2 eN hf hfn hfr hco => wpAny_bind (wpAny_standAt (wpAny_pure ?_))))
  refine wpAny_evalAll_nil ?_
  show wpAny _ _ (call (.builtin "min") [.ref l] [(Str.ofString "key", .ref f)]) _ _ s2
  have q1 := hq H2 eN
  generalize hof : PySem.W.kla_obj "<lambda>" q params body scope (cloFrom X.env.cells scope.names []) pm c' ctv = of at hf
  have gf3 : s2.heap.get? f = some of := hf
  have fL : f ≠ X.env.locals := fun z => by
    obtain ⟨m, ⟨o, es, ep, ho, hd, _⟩, _⟩ := I2.loc
    rw [← z, gf3] at ho
    cases ho
    rw [← hof] at hd
    cases hd
  have fF : f ∉ X.fs := fun z => by
    rcases I2.ok.stk with e | ⟨e, _⟩
    · exact hfr (by rw [e]; exact z)
    · refine hfr ?_
      rw [e]
      show f ∈ List.filterMap _ (_ :: _)
      rw [List.filterMap_cons]
      split
      · exact z
      · exact List.mem_cons_of_mem _ z
  have I4 : Inv X (pins ++ [(f, of)]) σ H2 s2 := I2.pins_of fun p hp => by
    rcases List.mem_append.mp hp with hp | hp
    · exact I2.pin p (List.mem_append_right _ hp)
    · rw [List.mem_singleton.mp hp]
      exact ⟨gf3, hfn, fL, fF, fun v z => by rw [← hof] at z; cases z⟩
  have KC : KeyCallS X (pins ++ [(f, of)]) σ X.A.in1 f c' of q := fun pl s H z u Q E J hfp hc rz lz hQ => by
    obtain ⟨gf, _⟩ := J.pin (f, of) (List.mem_append_right _ (List.mem_append_left _ hfp))
    rw [← hof, hclo] at gf
    have e0 := J.env0
    have e1 : Env0 X.prog X.w X.K X.mg X.base X.A.in1 X.stack s H := ⟨e0.frames, e0.mod, e0.bs, e0.bsz, e0.funs, e0.frf, e0.hok, e0.bare⟩
    refine wpAny_mono (lam_call (v := V.str z) (EE := fun _ _ => False) (Q := fun v H' => ∃ t, v = .ref t ∧ H t = none ∧ H' = upd H t (.tup [.int z.length, .str z])) ((hr.mono (by omega)).in1) e1 J.nolimit gf hc S (hbind _ _ _ _ _ _) rz (fun A s H hr2 => hbody f c' A s H _ hr2) (htb z H _ (fun t ht => ⟨t, rfl, ht, rfl⟩) lz)) (fun u s' hce => ?_) fun _ _ z => z.elim
    obtain ⟨v, H', J', rv, t, ev, nt, eH⟩ := J.after hce
    subst ev eH
    obtain rfl : u = Value.ref t := rv
    exact hQ t s' J' nt
  refine min_callS (zs := zs) (hr.hd) (by have := hr.un; omega) KC I4 (List.mem_append_right _ (List.mem_singleton.mpr rfl)) hco (eN.lst hT hl) hz hzl fun v H' s' rv sH J => ?_
  exact ⟨.str _, H', J.pins_of fun p hp => J.pin p (List.mem_append_right _ (List.mem_append_left _ hp)), rv, q1 H' sH⟩
end
end FL
/-! ## LX1 -/
set_option Elab.async false
set_option linter.all false
set_option maxRecDepth 100000
set_option maxHeartbeats 4000000
/-! the lexer: blanks -/
namespace FL
open PySem L2
abbrev sIndexBehindBlanks : Stmt := top 14
theorem scIndexBehindBlanks : FnScope ["line", "start", "index"] ["line", "start"] (defScope sIndexBehindBlanks) := ⟨rfl, rfl, rfl, by decide +kernel, rfl, by decide +kernel, by decide +kernel⟩
/-- how many blanks a text begins with -/
def blanksN : List Nat → Nat
  | c :: cs => if c = 32 then blanksN cs + 1 else 0
  | [] => 0
/-- the index behind the blanks -/
def blk (cs : List Nat) (i : Nat) : Nat := i + blanksN (cs.drop i)
theorem blk_end {cs : List Nat} {i : Nat} (h : cs.length ≤ i) : blk cs i = i := by
  unfold blk
  rw [List.drop_of_length_le h] <;> rfl
theorem blk_no {cs : List Nat} {i c : Nat} (h : cs[i]? = some c) (n : c ≠ 32) : blk cs i = i := by
  obtain ⟨hi, e⟩ := List.getElem?_eq_some_iff.mp h
  unfold blk
  rw [List.drop_eq_getElem_cons hi, e]
  unfold blanksN
  rw [if_neg n] <;> rfl
theorem blk_yes {cs : List Nat} {i : Nat} (h : cs[i]? = some 32) : blk cs i = blk cs (i + 1) := by
  obtain ⟨hi, e⟩ := List.getElem?_eq_some_iff.mp h
  unfold blk
  rw [List.drop_eq_getElem_cons hi, e]
  show i + (if (32 : Nat) = 32 then blanksN (cs.drop (i + 1)) + 1 else 0) = _
  rw [if_pos rfl]
  omega
section
variable {P : Program} {w : World} {K : PySem.W.Frag} {mg : Str → Option Value} {base : Heap}
def spBlk : Sp := fun vs H Q _ => ∃ (z : Str) (i : Nat), vs = [.str z, .int (i : Int)] ∧ i ≤ z.length ∧ z.length ≤ 1000 ∧ Q (.int (blk z.cps.toList i : Int)) H
theorem ok_blk (D : Dn K mg "index_behind_blanks" sIndexBehindBlanks ["line", "start"]) (hlen : mg "len" = none) : Ok P w K mg base CX0 1 "index_behind_blanks" ["line", "start"] spBlk := by
  refine D.ok scIndexBehindBlanks (fun vs H Q E h => ?_) (fun f cdv A outer s H vs Q E hr h => ?_)
  · obtain ⟨z, i, rfl, _⟩ := h
    rfl
  · obtain ⟨z, i, rfl, hi, hz, k⟩ := h
    refine ⟨_, (pss_cons (ps_set (i := 2) scIndexBehindBlanks.nd rfl (Or.inl rfl) (pv 1))
  (pss_cons (ps_while PassesOwn.never (PW.pt (pw_and (pt_cmpR op_lt (pv 2) (pe_callB call_len_str (by rfl) hlen PySem.boot_len (pa_cons (pv 0) pa_nil)) (nomark _)) (pw_and1 (pt_cmpR op_eq (pe_ix ix_str (pv 0) (pv 2) (fun _ _ => rfl)) pe_str (nomark _))))) (pss_one (ps_aug (i := 2) scIndexBehindBlanks.nd rfl (Or.inl rfl) pe_int ip_add)))
  (pss_one (ps_ret (pv 2))))), ?_⟩
    refine ⟨_, rfl, ?_⟩
    show tSeq (tWhile _ _) _ _ [some (.str z), some (.int (i : Int)), some (.int (i : Int))] H
    refine ⟨fun m σ H' => ∃ j : Nat, m = z.length - j ∧ σ = [some (.str z), some (.int (i : Int)), some (.int (j : Int))] ∧ H' = H ∧ j ≤ z.length ∧ blk z.cps.toList j = blk z.cps.toList i, ⟨_, i, rfl, rfl, rfl, hi, rfl⟩, ?_⟩
    rintro m σ H' ⟨j, rfl, rfl, rfl, hj, e⟩
    have zl : z.cps.toList.length = z.length := by simp [Str.length]
    refine ⟨_, rfl, _, rfl, z, rfl, Nat.le_of_lt (small1000 hz), _, _, rfl, rfl, _, rfl, ?_⟩
    by_cases hl : j < z.length
    · rw [decide_eq_true (show (j : Int) < (z.length : Int) from by omega)]
      refine iteT ?_
      obtain ⟨c, hc⟩ : ∃ c, z.cps.toList[j]? = some c := ⟨_, List.getElem?_eq_getElem (by omega)⟩
      refine ⟨_, rfl, _, rfl, z, _, c, rfl, rfl, Nat.le_of_lt (small1000 hz), atI_nat hc, rfl, _, rfl, ?_⟩
      by_cases h32 : c = 32
      · subst h32
        refine iteT ?_
        refine ⟨fun σ' H'' => σ' = [some (.str z), some (.int (i : Int)), some (.int ((j : Int) + 1))] ∧ H'' = H', fun σ' H'' ⟨e1, e2⟩ => ⟨_, ?_, j + 1, rfl, e1, e2, hl, by rw [← e, blk_yes hc]⟩, ?_⟩
        · omega
        · exact ⟨_, rfl, _, _, rfl, rfl, rfl, rfl⟩
      · rw [decide_eq_false (show ¬ (V.str ⟨#[c]⟩ = V.str " ") from fun q => h32 (by injection q with q; injection q with q; injection q with q; injection q))]
        refine iteF ?_
        refine ⟨_, rfl, ?_⟩
        rw [← blk_no hc h32, e]
        exact k
    · rw [decide_eq_false (show ¬ (j : Int) < (z.length : Int) from by omega)]
      refine iteF ?_
      refine iteF ?_
      refine ⟨_, rfl, ?_⟩
      rw [← blk_end (cs := z.cps.toList) (i := j) (by omega), e]
      exact k
end
end FL
/-! ## X1 -/
set_option Elab.async false
set_option linter.all false
set_option maxRecDepth 100000
set_option maxHeartbeats 4000000
/-! list.count of flat items; isinstance of a caught error with fields; an error made without arguments -/
namespace FL
open PySem L2 PySem.Spec PyProof.Rows
section
variable {X : Cx}
def rCount (K : PySem.W.Frag) : V → List V → Hp → VK → Prop := fun x xs H Q => ∃ (a : Addr) (ys : List V) (y : V), x = .ref a ∧ xs = [y] ∧ SqL K H a ys ∧ flatV y = true ∧ ys.all flatV = true ∧ Q (.int ((ys.countP fun z => eqV z y : Nat) : Int)) H
theorem countP_vals {y : V} {uy : Value} (ry : RelV y uy) (fy : flatV y = true) : ∀ {ys : List V} {us : List Value}, Vals ys us → ys.all flatV = true → us.countP (eqU y) = ys.countP fun z => eqV z y
  | _, _, .nil, _ => rfl
  | _, _, .cons (a := z) (b := u) r rs, f => by
    rw [List.all_cons, Bool.and_eq_true] at f
    rw [List.countP_cons, List.countP_cons, countP_vals ry fy rs f.2, eqU_of r f.1]
theorem mt_count : MtR X "list.count" (rCount X.K) := by
  intro pins s σ H x xs v us Q I rx rxs h
  obtain ⟨a, ys, y, rfl, rfl, hs, fy, fys, q⟩ := h
  cases rx
  cases rxs with
  | cons ry rt =>
    rename_i uy ut
    cases rt
    obtain ⟨its, rv, ⟨⟨cls, dd, data, sl⟩, n, ho, hc, hdn, hd⟩, hlen⟩ := I.list hs
    simp only at hc hd
    subst hc hd
    refine call_meets PySem.F.slot_list_count ⟨_, ho, rfl⟩ PySem.F.entry_list_count (PySem.F.args_list_count_2 _ _)
      (SeqAt.list_countAt a its.toArray n dd sl uy (eqU y)) ⟨ho, fun u' hu' => mem_eqAt ry fy rv fys u' (by simpa using hu'), ?_⟩
    have ec : its.toArray.toList.countP (eqU y) = ys.countP fun z => eqV z y := countP_vals ry fy rv fys
    refine ⟨.int ((ys.countP fun z => eqV z y : Nat) : Int), H, I.tok _, ⟨s.toks, ?_⟩, q⟩
    show Value.int ((its.toArray.toList.countP (eqU y) : Nat) : Int) s.toks = Value.int ((ys.countP fun z => eqV z y : Nat) : Int) s.toks
    rw [ec]
theorem mt_countK {K : PySem.W.Frag} (eK : X.K = K) : MtR X "list.count" (rCount K) := eK ▸ mt_count
theorem mt_indexK {K : PySem.W.Frag} (eK : X.K = K) : MtR X "list.index" (rIndex K) := eK ▸ mt_index
/-- isinstance(e, c), e the exception that the suite holds, of the class at D, its dict d -/
def rIsD (K : PySem.W.Frag) (a : Addr) (cls : Value) (d : Option Addr) : List V → Hp → VK → Prop := fun xs H Q => ∃ (D : Addr) (c : V) (cv : Value) (b : Bool), cls = .ref D ∧ ExcC K D ∧ xs = [.ref a, c] ∧ (∀ u, RelV c u → u = cv) ∧ PySem.W.kitOne K (.ref D) cv = some b ∧ (∀ dd, d = some dd → ∃ fs, H dd = some (.xd fs)) ∧ Q (.bl b) H
theorem call_isD {a : Addr} {cls : Value} {d : Option Addr} {oe : Obj} {pn : List (Addr × Obj)} (hz : Zc cls d oe) (hf : ∃ vs, oe.data = .fields vs) : CallR (X.suite a ((a, oe) :: pn)) (.builtin "isinstance") (rIsD X.K a cls d) := by
  intro pins s σ H xs us Q I r h
  obtain ⟨D, c, cv, b, rfl, C, rfl, hcv, e, hdd, q⟩ := h
  cases r with
  | cons rx rr =>
    cases rr with
    | cons rt rr =>
      cases rr
      cases rx
      have ec := hcv _ rt
      subst ec
      obtain ⟨hget, _⟩ := I.pin (a, oe) (List.mem_append.mpr (.inl List.mem_cons_self))
      obtain ⟨vs, hv⟩ := hf
      have J : ∃ od, PySem.W.InstAt s.heap a oe D od := by
        obtain ⟨oc, od, oda, osl⟩ := oe
        obtain ⟨h1, h2⟩ := hz
        dsimp only at h1 h2 hv
        subst h1 h2 hv
        cases od with
        | none => exact ⟨none, hget, rfl, rfl, trivial⟩
        | some dd =>
          obtain ⟨fs, hx⟩ := hdd dd rfl
          have hx : ObjOk X.prog X.w H s.heap dd (.xd fs) := I.hok dd _ hx
          obtain ⟨mA, hns, _⟩ := hx
          obtain ⟨od, ho, _⟩ := lookIn_ns hns
          exact ⟨some od, hget, rfl, rfl, ho⟩
      obtain ⟨od, J⟩ := J
      have hcl : (PySem.W.clsIn X.K D).isSome = true := by obtain ⟨cd, hc, _⟩ := PySem.W.any_some C.hd; rw [hc]; rfl
      exact PySem.W.kia_one (PySem.W.kitx_exc hcl C.hg C.hk C.hs C.ha C.hn C.ht C.hm) I.kIn J e (fun z => nomatch z) fun tk => ⟨.bl b, H, I.kept (t' := tk) fun _ _ z => z, rfl, q⟩
/-- C(), C an own exception class without own __init__ -/
theorem pmk_own0 {C : Addr} {bmB : List Value} {B newId initId : String} {x : Str} {p pos : Pos} (F : ExcBaseFacts B newId initId bmB) (q : PySem.W.excIn X.K C bmB newId = true) (gC : X.mg x = some (.ref C))
    (kC : PySem.W.keepIn X.K (.ref C) = true) (r : Raises X (.ref C)) (hg : Gl X x) (hdb : (x == ("__debug__" : Str)) = false := by decide) :
    PMk X (.Call (.Name x p) [] [] pos) (fun _ H Q => Q (.ref C) none H) := by
  intro pins s σ H Q I h
  refine wpAny_Call_Name_kw (ld_glob I hg gC ?_ hdb)
  refine PySem.W.callWith_K0 I.kIn kC ?_
  show wpAny _ _ (call (.ref C) []) _ _ _
  obtain ⟨bm, N, nm, qn, bs, hdct, sn, sub, ab, col, dd, k0, k1, k2, k3, k5, mN, hC, hN, hni, T⟩ := exc_obj I.kIn q
  refine wpAny_call_exc_subT F T hC hN hni (fun h' e hm => ?_) (by show 0 ≤ sizeLine; exact Nat.zero_le _)
  exact mk_of I hm r h (I.hok.gone hm.new)
end
end FL
/-! ## X2 -/
set_option Elab.async false
set_option linter.all false
set_option maxRecDepth 100000
set_option maxHeartbeats 4000000
/-! the program's errors: what the top must say of their classes -/
namespace FL
open PySem L2
/-- an error's class without an __init__ -/
structure ErN (K : PySem.W.Frag) (mg : Str → Option Value) (x : Str) (C : Addr) : Prop where
  gC : mg x = some (.ref C)
  kC : PySem.W.keepIn K (.ref C) = true
  ex : PySem.W.excIn K C He.veBase "ValueError.__new__" = true
  sub : PySem.W.subIn K (.ref C) (.type "BaseException") = some true
  ty : PySem.W.typeIn K (.ref C) = some (.type "type")
  ic : ExcC K C
/-- one whose __init__ stores fs -/
structure ErI (K : PySem.W.Frag) (mg : Str → Option Value) (x : Str) (C fI : Addr) (fs : List Str) : Prop where
  gC : mg x = some (.ref C)
  oe : OexC K C
  ic : ExcC K C
  xf : XfC K C
  no : ∀ f ∈ fs, PySem.W.findIn K (.ref C) f = some none
  iC : PySem.W.findIn K (.ref C) "__init__" = some (some (.ref fI))
  tI : PySem.W.typeIn K (.ref fI) = some (.type "function")
theorem excCB_ok {K : PySem.W.Frag} {D : Addr} (h : excCB K D = true) : ExcC K D := by
  obtain ⟨h1, h⟩ := He.ba h
  obtain ⟨h2, h⟩ := He.ba h
  obtain ⟨h3, h⟩ := He.ba h
  obtain ⟨h4, h⟩ := He.ba h
  obtain ⟨h5, h⟩ := He.ba h
  obtain ⟨h6, h⟩ := He.ba h
  obtain ⟨h7, h8⟩ := He.ba h
  exact ⟨of_decide_eq_true h1, of_decide_eq_true h2, of_decide_eq_true h3, h4, of_decide_eq_true h5, of_decide_eq_true h6, of_decide_eq_true h7, of_decide_eq_true h8⟩
theorem clsOB_ok {K : PySem.W.Frag} {C : Addr} (h : clsOB K C = true) : ∃ nm q N bs bm sn sub ab col dd k0 k1 k2 k3 k5, K.lookup C = some (excClassObj nm q C N bs bm true sn sub ab col dd k0 k1 k2 k3 k5 "ValueError.__new__") ∧ PySem.HandSPX.refsVE bm = true := by
  unfold clsOB at h
  split at h
  · rename_i t dd cd sl e
    obtain ⟨h1, h⟩ := He.ba h
    obtain ⟨h2, h⟩ := He.ba h
    obtain ⟨h3, h⟩ := He.ba h
    obtain ⟨h4, h5⟩ := He.ba h
    have e1 := of_decide_eq_true h1
    subst e1
    split at h4
    · rename_i c bm em
      obtain ⟨g1, g2⟩ := He.ba h4
      have e2 := of_decide_eq_true g1
      subst e2
      split at h5
      · rename_i k0 k1 k2 k3 n k5 es
        unfold isVeN at h5
        split at h5
        · rename_i nn
          have e3 := of_decide_eq_true h5
          subst e3
          obtain ⟨nm, bs, mro, ns, qn, hd, sn, sub, ab, col, del⟩ := cd
          dsimp only at em h2 h3
          subst em h2
          have h3 : del = false := by simpa using h3
          subst h3
          obtain ⟨l⟩ := sl
          simp only at es
          subst es
          exact ⟨nm, qn, ns, bs, bm, sn, sub, ab, col, dd, k0, k1, k2, k3, k5, e, g2⟩
        · cases h5
      · cases h5
    · cases h4
  · cases h
theorem erNB_ok {K : PySem.W.Frag} {mg : Str → Option Value} {h : Heap} {x : Str} (X : K.In h) (G : h.Ns mainGlobals mg) (c : erNB K x = true) : ErN K mg x (He.ga K x) := by
  obtain ⟨h1, h⟩ := He.ba c
  obtain ⟨h2, h3⟩ := He.ba h
  obtain ⟨g1, g⟩ := He.ba h2
  obtain ⟨g2, g⟩ := He.ba g
  obtain ⟨g3, g4⟩ := He.ba g
  exact ⟨PySem.W.mg_of X G (He.eqO_ok h1), g2, g1, of_decide_eq_true g3, of_decide_eq_true g4, excCB_ok h3⟩
theorem erIB_ok {K : PySem.W.Frag} {mg : Str → Option Value} {h : Heap} {x : Str} {fs : List Str} (X : K.In h) (G : h.Ns mainGlobals mg) (c : erIB K x fs = true) : ErI K mg x (He.ga K x) (He.fAd K (x, some "__init__")) fs := by
  obtain ⟨h1, h⟩ := He.ba c
  obtain ⟨h2, h⟩ := He.ba h
  obtain ⟨h3, h⟩ := He.ba h
  obtain ⟨h4, h⟩ := He.ba h
  obtain ⟨h5, h⟩ := He.ba h
  obtain ⟨h6, h⟩ := He.ba h
  obtain ⟨h7, h⟩ := He.ba h
  obtain ⟨h8, h⟩ := He.ba h
  obtain ⟨h9, h⟩ := He.ba h
  obtain ⟨h10, h11⟩ := He.ba h
  exact ⟨PySem.W.mg_of X G (He.eqO_ok h1), ⟨clsOB_ok h2, of_decide_eq_true h3, of_decide_eq_true h4, of_decide_eq_true h5, h6⟩, excCB_ok h7, xfB_ok h8, fun f hf => He.eqO_ok (List.all_eq_true.mp h9 f hf), He.eqO_ok h10, of_decide_eq_true h11⟩
/-! ### what the __init__s do -/
section
variable {P : Program} {w : World} {K : PySem.W.Frag} {mg : Str → Option Value} {base : Heap}
def spInit1 (K : PySem.W.Frag) (C : Addr) (f : Str) : Sp := fun vs H Q _ => ∃ (a : Addr) (v : V), vs = [.ref a, v] ∧ OexC K C ∧ PySem.W.findIn K (.ref C) f = some none ∧ H a = some (exo a C none) ∧
  ∀ d, H d = none → d ≠ a → Q .non (upd (upd H d (exd d [(f, v)])) a (exo a C (some d)))
def spInit2 (K : PySem.W.Frag) (C : Addr) (f g : Str) : Sp := fun vs H Q _ => ∃ (a : Addr) (v u : V), vs = [.ref a, v, u] ∧ OexC K C ∧ PySem.W.findIn K (.ref C) f = some none ∧ PySem.W.findIn K (.ref C) g = some none ∧ H a = some (exo a C none) ∧
  ∀ d, H d = none → d ≠ a → Q .non (upd (upd (upd H d (exd d [(f, v)])) a (exo a C (some d))) d (exd d [(g, u), (f, v)]))
theorem er_heap1 {H : Hp} {a d : Addr} {o1 o2 o3 o4 : HO} (ha : H a = none) : upd (del (upd (upd (upd H a o1) d o2) a o3) a) d o4 = upd H d o4 := by
  funext b
  by_cases hd : b = d
  · rw [hd, upd_same, upd_same]
  · rw [upd_ne hd, upd_ne hd]
    by_cases h : b = a
    · rw [h, del_same, ha]
    · rw [del_ne h, upd_ne h, upd_ne hd, upd_ne h]
theorem er_heap2 {H : Hp} {a d : Addr} {o1 o2 o3 o4 o5 : HO} (ha : H a = none) : upd (del (upd (upd (upd (upd H a o1) d o2) a o3) d o5) a) d o4 = upd H d o4 := by
  funext b
  by_cases hd : b = d
  · rw [hd, upd_same, upd_same]
  · rw [upd_ne hd, upd_ne hd]
    by_cases h : b = a
    · rw [h, del_same, ha]
    · rw [del_ne h, upd_ne hd, upd_ne h, upd_ne hd, upd_ne h]
/-- what a raise of an error with one field asks -/
theorem init1_use {x f : Str} {C fI : Addr} {fs : List Str} (T : ErI K mg x C fI fs) (hf : f ∈ fs) {H : Hp} {a : Addr} {v : V} (ha : H a = none) {Q : XK} (k : ∀ d, H d = none → Q (.ref C) (some d) (upd H d (.xd [(f, v)]))) :
    spInit1 K C f [.ref a, v] (upd H a (exo a C none)) (fun z H2 => z = .non ∧ ∃ (d : Addr) (fs : List (Str × V)), H2 a = some (exo a C (some d)) ∧ H2 d = some (exd d fs) ∧ H d = none ∧ Q (.ref C) (some d) (upd (del H2 a) d (.xd fs))) (fun _ _ _ => False) := by
  refine ⟨a, v, rfl, T.oe, T.no f hf, upd_same, fun d hd nd => ⟨rfl, d, [(f, v)], upd_same, by rw [upd_ne nd, upd_same], ?_, ?_⟩⟩
  · rw [upd_ne nd] at hd
    exact hd
  · rw [er_heap1 ha]
    refine k d ?_
    rw [upd_ne nd] at hd
    exact hd
theorem init2_use {x f g : Str} {C fI : Addr} {fs : List Str} (T : ErI K mg x C fI fs) (hf : f ∈ fs) (hg : g ∈ fs) {H : Hp} {a : Addr} {v u : V} (ha : H a = none) {Q : XK} (k : ∀ d, H d = none → Q (.ref C) (some d) (upd H d (.xd [(g, u), (f, v)]))) :
    spInit2 K C f g [.ref a, v, u] (upd H a (exo a C none)) (fun z H2 => z = .non ∧ ∃ (d : Addr) (fs : List (Str × V)), H2 a = some (exo a C (some d)) ∧ H2 d = some (exd d fs) ∧ H d = none ∧ Q (.ref C) (some d) (upd (del H2 a) d (.xd fs))) (fun _ _ _ => False) := by
  refine ⟨a, v, u, rfl, T.oe, T.no f hf, T.no g hg, upd_same, fun d hd nd => ⟨rfl, d, [(g, u), (f, v)], by rw [upd_ne nd.symm, upd_same], upd_same, ?_, ?_⟩⟩
  · rw [upd_ne nd] at hd
    exact hd
  · rw [er_heap2 ha]
    refine k d ?_
    rw [upd_ne nd] at hd
    exact hd
end
end FL
/-! ## LX2 -/
set_option Elab.async false
set_option linter.all false
set_option maxRecDepth 100000
set_option maxHeartbeats 4000000
/-! the lexer: what stands in quotation marks -/
namespace FL
open PySem L2
abbrev sReadQuoted : Stmt := top 17
theorem scReadQuoted : FnScope ["line", "start", "mark", "characters", "index"] ["line", "start"] (defScope sReadQuoted) := ⟨rfl, rfl, rfl, by decide +kernel, rfl, by decide +kernel, by decide +kernel⟩
/-- what stands behind a mark that opens: the characters, and how many places they and the closing mark take -/
def rqE (mark : Nat) : Bool → List Nat → Option (List Nat × Nat)
  | _, [] => none
  | true, d :: r => (rqE mark false r).map fun p => (d :: p.1, p.2 + 1)
  | false, c :: r => if c = mark then some ([], 1) else if mark = 34 ∧ c = 92 then (rqE mark true r).map fun p => (p.1, p.2 + 1) else (rqE mark false r).map fun p => (c :: p.1, p.2 + 1)
abbrev rqL (mark : Nat) (r : List Nat) : Option (List Nat × Nat) := rqE mark false r
theorem rqE_f (mark c : Nat) (r : List Nat) : rqE mark false (c :: r) = if c = mark then some ([], 1) else if mark = 34 ∧ c = 92 then (rqE mark true r).map fun p => (p.1, p.2 + 1) else (rqE mark false r).map fun p => (c :: p.1, p.2 + 1) := rfl
theorem rqE_t (mark d : Nat) (r : List Nat) : rqE mark true (d :: r) = (rqE mark false r).map fun p => (d :: p.1, p.2 + 1) := rfl
theorem rq_end {mark : Nat} {cs : List Nat} {j : Nat} (h : cs.length ≤ j) : rqL mark (cs.drop j) = none := by
  rw [List.drop_of_length_le h] <;> rfl
theorem rq_mark {mark : Nat} {cs : List Nat} {j : Nat} (h : cs[j]? = some mark) : rqL mark (cs.drop j) = some ([], 1) := by
  obtain ⟨hi, e⟩ := List.getElem?_eq_some_iff.mp h
  rw [List.drop_eq_getElem_cons hi, e]
  show rqE mark false (mark :: cs.drop (j + 1)) = _
  rw [rqE_f, if_pos rfl]
theorem rq_one {mark c : Nat} {cs : List Nat} {j : Nat} (h : cs[j]? = some c) (n : c ≠ mark) (q : ¬ (mark = 34 ∧ c = 92)) : rqL mark (cs.drop j) = (rqL mark (cs.drop (j + 1))).map fun p => (c :: p.1, p.2 + 1) := by
  obtain ⟨hi, e⟩ := List.getElem?_eq_some_iff.mp h
  rw [List.drop_eq_getElem_cons hi, e]
  show rqE mark false (c :: cs.drop (j + 1)) = _
  rw [rqE_f, if_neg n, if_neg q]
theorem rq_two {mark c d : Nat} {cs : List Nat} {j : Nat} (h : cs[j]? = some c) (h2 : cs[j + 1]? = some d) (n : c ≠ mark) (q : mark = 34 ∧ c = 92) : rqL mark (cs.drop j) = (rqL mark (cs.drop (j + 2))).map fun p => (d :: p.1, p.2 + 2) := by
  obtain ⟨hi, e⟩ := List.getElem?_eq_some_iff.mp h
  obtain ⟨hi2, e2⟩ := List.getElem?_eq_some_iff.mp h2
  rw [List.drop_eq_getElem_cons hi, e, List.drop_eq_getElem_cons hi2, e2]
  show rqE mark false (c :: d :: cs.drop (j + 2)) = _
  rw [rqE_f, if_neg n, if_pos q, rqE_t]
  show _ = (rqE mark false (cs.drop (j + 2))).map _
  cases rqE mark false (cs.drop (j + 2)) <;> rfl
theorem rq_last {mark c : Nat} {cs : List Nat} {j : Nat} (h : cs[j]? = some c) (h2 : cs.length = j + 1) (n : c ≠ mark) (q : mark = 34 ∧ c = 92) : rqL mark (cs.drop j) = none := by
  obtain ⟨hi, e⟩ := List.getElem?_eq_some_iff.mp h
  rw [List.drop_eq_getElem_cons hi, e, List.drop_of_length_le (by omega)]
  show rqE mark false [c] = _
  rw [rqE_f, if_neg n, if_pos q] <;> rfl
theorem ifkS {c : TT} {t e u : L2.TS} {D} {σ : L2.St} {H : Hp} {J : L2.St → Hp → Prop} (h1 : ∀ σ' H', J σ' H' → u D σ' H') (h2 : (∀ σ' H', J σ' H' → u D σ' H') → tIfS c t e { D with nx := u D } σ H) : tSeq (tIfS c t e) u D σ H := h2 h1
/-- a text of codes -/
abbrev tS (cs : List Nat) : Str := ⟨cs.toArray⟩
theorem cut_one {z : Str} {j : Nat} : cutS z (some (j : Int)) (some ((j : Int) + 1)) = tS ((z.cps.toList.drop j).take 1) := by
  have zl : z.cps.toList.length = z.length := by simp [Str.length]
  unfold cutS
  rw [show ((j : Int) + 1) = ((j + 1 : Nat) : Int) from by omega, HT.sIx_nat, HT.sIx_nat]
  show (⟨_⟩ : Str) = ⟨_⟩
  congr 2
  by_cases h : j < z.length
  · rw [Nat.min_eq_left (by omega), Nat.min_eq_left (by omega)]
    congr 1
    omega
  · rw [Nat.min_eq_right (by omega), Nat.min_eq_right (by omega), Nat.sub_self, List.take_zero, List.drop_of_length_le (l := z.cps.toList) (i := j) (by omega), List.take_nil]
theorem join_nil : ∀ ys : List (List Nat), TL.joinL [] ys = ys.flatten
  | [] => rfl
  | [p] => by
    show p = _
    rw [List.flatten_cons, List.flatten_nil, List.append_nil]
  | p :: q :: r => by
    show p ++ ([] ++ TL.joinL [] (q :: r)) = _
    rw [List.nil_append, join_nil (q :: r)]
    rfl
theorem join_tS (ys : List (List Nat)) : Txt.join "" (ys.map tS) = tS ys.flatten := by
  have e := SX.join_S [] ys
  rw [join_nil] at e
  exact e
theorem sum_one : ∀ {ys : List (List Nat)}, (∀ y ∈ ys, y.length ≤ 1) → ((ys.map tS).map (·.length)).sum ≤ ys.length
  | [], _ => Nat.le_refl _
  | y :: ys, h => by
    have h1 := h y List.mem_cons_self
    have h2 := sum_one (ys := ys) fun y hy => h y (List.mem_cons_of_mem _ hy)
    have e : (tS y).length = y.length := by simp [tS, Str.length]
    rw [List.map_cons, List.map_cons, List.sum_cons, e, List.length_cons]
    omega
theorem str1_ne {a b : Nat} (h : a ≠ b) : ¬ (V.str ⟨#[a]⟩ = V.str ⟨#[b]⟩) := fun q => h (by injection q with q; injection q with q; injection q with q; injection q)
section
variable {P : Program} {w : World} {K : PySem.W.Frag} {mg : Str → Option Value} {base : Heap}
def spReadQ (K : PySem.W.Frag) (CL : Addr) : Sp := fun vs H Q E => ∃ (z : Str) (i mark : Nat), vs = [.str z, .int (i : Int)] ∧ z.length ≤ 1000 ∧ z.cps.toList[i]? = some mark ∧
  (rqL mark (z.cps.toList.drop (i + 1)) = none → ∀ d H', Same H H' → H' d = none → E (.ref CL) (some d) (upd H' d (.xd [("index", .int (i : Int))]))) ∧
  (∀ x n, rqL mark (z.cps.toList.drop (i + 1)) = some (x, n) → ∀ t H', Same H H' → SqT K H' t [.str (tS x), .int ((i + 1 + n : Nat) : Int)] → Q (.ref t) H')
theorem ok_readQ {CL fI : Addr} {fdI : FuncData} (TL : ErI K mg "LineError" CL fI ["index"]) (GLineErrorInit : FnOk P w K mg base CX0 1 fI fdI ["self", "index"] (spInit1 K CL "index")) (bLineErrorInit : Binds K fdI ["self", "index"] [])
    (D : Dn K mg "read_quoted" sReadQuoted ["line", "start"]) (hlen : mg "len" = none) : Ok P w K mg base (L2.CX P w) 3 "read_quoted" ["line", "start"] (spReadQ K CL) := by
  refine D.okX scReadQuoted (fun vs H Q E h => ?_) (fun f cdv A outer s H vs Q E hr h => ?_)
  · obtain ⟨z, i, mark, rfl, _⟩ := h
    rfl
  · obtain ⟨z, i, mark, rfl, hz, hm, kE, kQ⟩ := h
    refine ⟨_, (pss_cons (ps_set (i := 2) scReadQuoted.nd rfl (Or.inl rfl) (pe_ix ix_str (pv 0) (pv 1) (fun _ _ => rfl)))
  (pss_cons (ps_set (i := 3) scReadQuoted.nd rfl (Or.inl rfl) (pe_lst pa_nil))
  (pss_cons (ps_set (i := 4) scReadQuoted.nd rfl (Or.inl rfl) (pe_op op_add (pv 1) pe_int))
  (pss_cons (ps_while (passes_of rfl) (PW.pt (pw_and (pt_cmpR op_lt (pv 4) (pe_callB call_len_str (by rfl) hlen PySem.boot_len (pa_cons (pv 0) pa_nil)) (nomark _)) (pw_and1 (pt_cmpR op_ne (pe_ix ix_str (pv 0) (pv 4) (fun _ _ => rfl)) (pv 2) (nomark _))))) (pss_cons (ps_if (PW.pt (pw_and (pt_cmpR op_eq (pv 2) pe_str (nomark _)) (pw_and1 (pt_cmpR op_eq (pe_ix ix_str (pv 0) (pv 4) (fun _ _ => rfl)) pe_str (nomark _))))) (pss_one (ps_aug (i := 4) scReadQuoted.nd rfl (Or.inl rfl) pe_int ip_add)) pss_nil)
  (pss_cons (ps_expr (pe_bm PySem.F.plainAttrs_list PySem.F.slot_list_append PySem.F.type_list_append mt_append (pv 3) (pa_cons (pe_slice sl_str (pv 0) (po_some (pv 4)) (po_some (pe_op op_add (pv 4) pe_int))) pa_nil)))
  (pss_one (ps_aug (i := 4) scReadQuoted.nd rfl (Or.inl rfl) pe_int ip_add)))))
  (pss_cons (ps_if (pt_cmpR op_ge (pv 4) (pe_callB call_len_str (by rfl) hlen PySem.boot_len (pa_cons (pv 0) pa_nil)) (nomark _)) (pss_one (ps_raise rfl (takes_of rfl rfl rfl rfl) (pmk_oex TL.oe TL.iC TL.tI GLineErrorInit (hr.mono (by decide)) bLineErrorInit .nil (fun _ _ _ _ _ _ _ z => z.elim) rfl TL.gC (pa_cons (pv 1) pa_nil)))) pss_nil)
  (pss_one (ps_ret (pe_tup (pa_cons (pe_join pe_str (pv 3)) (pa_cons (pe_op op_add (pv 4) pe_int) pa_nil)))))))))), ?_⟩
    have zl : z.cps.toList.length = z.length := by simp [Str.length]
    obtain ⟨him, _⟩ := List.getElem?_eq_some_iff.mp hm
    refine ⟨_, rfl, _, rfl, z, _, mark, rfl, rfl, Nat.le_of_lt (small1000 hz), atI_nat hm, ?_⟩
    refine ⟨by show 0 ≤ sizeLine; decide, fun l hl => ?_⟩
    refine ⟨_, rfl, _, _, rfl, rfl, ?_⟩
    show tSeq (tWhile _ _) _ _ [some (.str z), some (.int (i : Int)), some (.str ⟨#[mark]⟩), some (.ref l), some (.int ((i : Int) + 1))] _
    have small := Nat.le_of_lt (small1000 hz)
    refine ⟨fun m σ H' => ∃ (j : Nat) (ys : List (List Nat)), m = z.length + 1 - j ∧ σ = [some (.str z), some (.int (i : Int)), some (.str ⟨#[mark]⟩), some (.ref l), some (.int (j : Int))] ∧ H' l = some (.lst ((ys.map tS).map V.str)) ∧ Same H H' ∧ ys.length + i + 1 ≤ j ∧ j ≤ z.length + 1 ∧ (∀ y ∈ ys, y.length ≤ 1) ∧ rqL mark (z.cps.toList.drop (i + 1)) = (rqL mark (z.cps.toList.drop j)).map fun p => (ys.flatten ++ p.1, (j - (i + 1)) + p.2),
      ⟨_, i + 1, [], rfl, rfl, upd_same, Same.new hl, by show 0 + i + 1 ≤ i + 1; omega, by omega, (fun _ h => nomatch h), ?_⟩, ?_⟩
    · rw [Nat.sub_self]
      cases rqL mark (z.cps.toList.drop (i + 1)) with
      | none => rfl
      | some p => show some p = some ([] ++ p.1, 0 + p.2); rw [List.nil_append, Nat.zero_add]
    rintro m σ H' ⟨j, ys, rfl, rfl, el, s, ly, hj, y1, e⟩
    refine ⟨_, rfl, _, rfl, z, rfl, small, _, _, rfl, rfl, _, rfl, ?_⟩
    by_cases hjl : j < z.length
    · rw [decide_eq_true (show (j : Int) < (z.length : Int) from by omega)]
      refine iteT ?_
      obtain ⟨c, hc⟩ : ∃ c, z.cps.toList[j]? = some c := ⟨_, List.getElem?_eq_getElem (by omega)⟩
      refine ⟨_, rfl, _, rfl, z, _, c, rfl, rfl, small, atI_nat hc, _, rfl, rfl, _, rfl, ?_⟩
      by_cases hcm : c = mark
      · subst hcm
        rw [decide_eq_true rfl]
        refine iteF ?_
        refine ⟨_, rfl, _, rfl, z, rfl, small, _, _, rfl, rfl, _, rfl, ?_⟩
        rw [rq_mark hc] at e
        rw [show decide ((z.length : Int) ≤ (j : Int)) = false from decide_eq_false (by omega)]
        refine iteF ?_
        refine ⟨⟨_, rfl⟩, _, rfl, "", l, ys.map tS, rfl, rfl, .inl (SqL.of el), ?_, _, rfl, _, _, rfl, rfl, by show 2 ≤ sizeLine; decide, fun t ht => ?_⟩
        · have := sum_one y1
          have e0 : ("" : Str).length = 0 := rfl
          rw [e0, Nat.mul_zero]
          omega
        · rw [join_tS]
          have e' : rqL c (z.cps.toList.drop (i + 1)) = some (ys.flatten, j - (i + 1) + 1) := by
            rw [e]
            show some (ys.flatten ++ [], _) = _
            rw [List.append_nil]
          refine kQ _ _ e' t _ (fun b o h => Same.new ht _ _ (s b o h)) ?_
          rw [show ((i + 1 + (j - (i + 1) + 1) : Nat) : Int) = (j : Int) + 1 from by omega]
          exact SqT.of upd_same
      · rw [decide_eq_false (str1_ne hcm)]
        refine iteT ?_
        refine ⟨fun σ' H'' => ∃ (j2 : Nat) (ys2 : List (List Nat)), j < j2 ∧ σ' = [some (.str z), some (.int (i : Int)), some (.str ⟨#[mark]⟩), some (.ref l), some (.int (j2 : Int))] ∧ H'' l = some (.lst ((ys2.map tS).map V.str)) ∧ Same H H'' ∧ ys2.length + i + 1 ≤ j2 ∧ j2 ≤ z.length + 1 ∧ (∀ y ∈ ys2, y.length ≤ 1) ∧ rqL mark (z.cps.toList.drop (i + 1)) = (rqL mark (z.cps.toList.drop j2)).map fun p => (ys2.flatten ++ p.1, (j2 - (i + 1)) + p.2), fun σ' H'' ⟨j2, ys2, lt, h⟩ => ⟨_, by omega, j2, ys2, rfl, h⟩, ?_⟩
        refine ifkS (J := fun σ' H'' => ∃ jj : Nat, σ' = [some (.str z), some (.int (i : Int)), some (.str ⟨#[mark]⟩), some (.ref l), some (.int (jj : Int))] ∧ H'' = H' ∧ ((jj = j ∧ ¬ (mark = 34 ∧ c = 92)) ∨ (jj = j + 1 ∧ mark = 34 ∧ c = 92))) ?_ fun rest => ?_
        rotate_left
        · refine ⟨_, rfl, rfl, _, rfl, ?_⟩
          by_cases h34 : mark = 34
          · rw [decide_eq_true (show V.str ⟨#[mark]⟩ = V.str "\"" from by rw [h34]; rfl)]
            refine iteT ?_
            refine ⟨_, rfl, _, rfl, z, _, c, rfl, rfl, small, atI_nat hc, rfl, _, rfl, ?_⟩
            by_cases h92 : c = 92
            · rw [decide_eq_true (show V.str ⟨#[c]⟩ = V.str "\\" from by rw [h92]; rfl)]
              refine iteT ?_
              refine ⟨_, rfl, _, _, rfl, rfl, ?_⟩
              exact rest _ _ ⟨j + 1, rfl, rfl, .inr ⟨rfl, h34, h92⟩⟩
            · rw [decide_eq_false (show ¬ V.str ⟨#[c]⟩ = V.str "\\" from str1_ne h92)]
              refine iteF ?_
              exact rest _ _ ⟨j, rfl, rfl, .inl ⟨rfl, fun h => h92 h.2⟩⟩
          · rw [decide_eq_false (show ¬ V.str ⟨#[mark]⟩ = V.str "\"" from str1_ne h34)]
            refine iteF ?_
            refine iteF ?_
            exact rest _ _ ⟨j, rfl, rfl, .inl ⟨rfl, fun h => h34 h.1⟩⟩
        · rintro σ' H'' ⟨jj, rfl, rfl, hjj⟩
          refine ⟨_, rfl, .inl ⟨rfl, _, SqL.of el⟩, _, rfl, _, rfl, _, rfl, _, rfl, _, _, rfl, rfl, _, rfl, z, rfl, small, l, _, _, rfl, rfl, el, small1000 (by rw [List.length_map, List.length_map]; omega), ?_⟩
          rw [cut_one]
          refine ⟨_, rfl, _, _, rfl, rfl, jj + 1, ys ++ [(z.cps.toList.drop jj).take 1], by omega, rfl, ?_, fun b o h => ?_, by rw [List.length_append, List.length_singleton]; omega, by omega, fun y hy => ?_, ?_⟩
          · rw [upd_same, List.map_append, List.map_append] <;> rfl
          · rw [upd_ne (ne_of_none h hl)]
            exact s _ _ h
          · rcases List.mem_append.mp hy with h | h
            · exact y1 y h
            · rw [List.mem_singleton.mp h, List.length_take]
              omega
          · rw [e, List.flatten_append, List.flatten_singleton]
            rcases hjj with ⟨rfl, hq⟩ | ⟨rfl, hq⟩
            · rw [rq_one hc hcm hq, show (z.cps.toList.drop jj).take 1 = [c] from by
                obtain ⟨hi, e⟩ := List.getElem?_eq_some_iff.mp hc
                rw [List.drop_eq_getElem_cons hi, e] <;> rfl]
              cases rqL mark (z.cps.toList.drop (jj + 1)) with
              | none => rfl
              | some p =>
                show some (ys.flatten ++ c :: p.1, _ + (p.2 + 1)) = some ((ys.flatten ++ [c]) ++ p.1, _ + p.2)
                rw [List.append_assoc, show jj - (i + 1) + (p.2 + 1) = jj + 1 - (i + 1) + p.2 from by omega] <;> rfl
            · by_cases hlast : j + 1 < z.length
              · obtain ⟨d2, hd2⟩ : ∃ d2, z.cps.toList[j + 1]? = some d2 := ⟨_, List.getElem?_eq_getElem (by omega)⟩
                rw [rq_two hc hd2 hcm hq, show (z.cps.toList.drop (j + 1)).take 1 = [d2] from by
                  obtain ⟨hi, e⟩ := List.getElem?_eq_some_iff.mp hd2
                  rw [List.drop_eq_getElem_cons hi, e] <;> rfl]
                cases rqL mark (z.cps.toList.drop (j + 2)) with
                | none => rfl
                | some p =>
                  show some (ys.flatten ++ d2 :: p.1, _ + (p.2 + 2)) = some ((ys.flatten ++ [d2]) ++ p.1, _ + p.2)
                  rw [List.append_assoc, show j - (i + 1) + (p.2 + 2) = j + 1 + 1 - (i + 1) + p.2 from by omega] <;> rfl
              · rw [rq_last hc (by omega) hcm hq, rq_end (cs := z.cps.toList) (j := j + 1 + 1) (by omega)] <;> rfl
    · rw [decide_eq_false (show ¬ (j : Int) < (z.length : Int) from by omega)]
      refine iteF ?_
      refine iteF ?_
      refine ⟨_, rfl, _, rfl, z, rfl, small, _, _, rfl, rfl, _, rfl, ?_⟩
      rw [rq_end (cs := z.cps.toList) (j := j) (by omega)] at e
      rw [show decide ((z.length : Int) ≤ (j : Int)) = true from decide_eq_true (by omega)]
      refine iteT ?_
      refine ⟨_, rfl, by show 1 ≤ 1000; decide, fun a' ha' => ?_⟩
      refine init1_use TL (List.mem_singleton_self _) ha' fun d hdn => ?_
      exact kE e d _ s hdn
end
end FL
/-! ## LX3 -/
set_option Elab.async false
set_option linter.all false
set_option maxRecDepth 100000
set_option maxHeartbeats 4000000
/-! the lexer: a part of a token -/
namespace FL
open PySem L2
abbrev sReadPart : Stmt := top 16
theorem scReadPart : FnScope ["line", "start", "character"] ["line", "start"] (defScope sReadPart) := ⟨rfl, rfl, rfl, by decide +kernel, rfl, by decide +kernel, by decide +kernel⟩
/-- what a part stands for, and how many places it takes -/
def rpL : List Nat → Option (List Nat × Nat)
  | [] => none
  | c :: r => if c = 34 ∨ c = 39 then (rqL c r).map fun p => (p.1, p.2 + 1) else if c = 92 then (match r with
    | [] => none
    | d :: _ => some ([d], 2)) else some ([c], 1)
theorem rp_q {cs : List Nat} {i c : Nat} (h : cs[i]? = some c) (q : c = 34 ∨ c = 39) : rpL (cs.drop i) = (rqL c (cs.drop (i + 1))).map fun p => (p.1, p.2 + 1) := by
  obtain ⟨hi, e⟩ := List.getElem?_eq_some_iff.mp h
  rw [List.drop_eq_getElem_cons hi, e]
  unfold rpL
  dsimp only
  rw [if_pos q]
theorem rp_c {cs : List Nat} {i c : Nat} (h : cs[i]? = some c) (q : ¬ (c = 34 ∨ c = 39)) (n : c ≠ 92) : rpL (cs.drop i) = some ([c], 1) := by
  obtain ⟨hi, e⟩ := List.getElem?_eq_some_iff.mp h
  rw [List.drop_eq_getElem_cons hi, e]
  unfold rpL
  dsimp only
  rw [if_neg q, if_neg n]
theorem rp_e {cs : List Nat} {i c : Nat} (h : cs[i]? = some c) (q : ¬ (c = 34 ∨ c = 39)) (n : c = 92) (l : cs.length = i + 1) : rpL (cs.drop i) = none := by
  obtain ⟨hi, e⟩ := List.getElem?_eq_some_iff.mp h
  rw [List.drop_eq_getElem_cons hi, e, List.drop_of_length_le (by omega)]
  unfold rpL
  dsimp only
  rw [if_neg q, if_pos n]
theorem rp_d {cs : List Nat} {i c d : Nat} (h : cs[i]? = some c) (q : ¬ (c = 34 ∨ c = 39)) (n : c = 92) (h2 : cs[i + 1]? = some d) : rpL (cs.drop i) = some ([d], 2) := by
  obtain ⟨hi, e⟩ := List.getElem?_eq_some_iff.mp h
  obtain ⟨hi2, e2⟩ := List.getElem?_eq_some_iff.mp h2
  rw [List.drop_eq_getElem_cons hi, e, List.drop_eq_getElem_cons hi2, e2]
  unfold rpL
  dsimp only
  rw [if_neg q, if_pos n]
theorem rqE_le {mark : Nat} : ∀ {r : List Nat} {b : Bool} {x : List Nat} {n : Nat}, rqE mark b r = some (x, n) → 1 ≤ n ∧ n ≤ r.length ∧ x.length ≤ n
  | [], true, _, _, h => nomatch h
  | [], false, _, _, h => nomatch h
  | d :: r, true, x, n, h => by
    rw [rqE_t] at h
    cases e : rqE mark false r with
    | none => rw [e] at h; cases h
    | some p =>
      rw [e] at h
      obtain ⟨y, m⟩ := p
      obtain ⟨rfl, rfl⟩ : d :: y = x ∧ m + 1 = n := by cases h; exact ⟨rfl, rfl⟩
      have := rqE_le e
      rw [List.length_cons, List.length_cons]
      omega
  | c :: r, false, x, n, h => by
    rw [rqE_f] at h
    by_cases hc : c = mark
    · rw [if_pos hc] at h
      cases h
      rw [List.length_cons, List.length_nil]
      omega
    · rw [if_neg hc] at h
      by_cases hq : mark = 34 ∧ c = 92
      · rw [if_pos hq] at h
        cases e : rqE mark true r with
        | none => rw [e] at h; cases h
        | some p =>
          rw [e] at h
          obtain ⟨y, m⟩ := p
          obtain ⟨rfl, rfl⟩ : y = x ∧ m + 1 = n := by cases h; exact ⟨rfl, rfl⟩
          have := rqE_le e
          rw [List.length_cons]
          omega
      · rw [if_neg hq] at h
        cases e : rqE mark false r with
        | none => rw [e] at h; cases h
        | some p =>
          rw [e] at h
          obtain ⟨y, m⟩ := p
          obtain ⟨rfl, rfl⟩ : c :: y = x ∧ m + 1 = n := by cases h; exact ⟨rfl, rfl⟩
          have := rqE_le e
          rw [List.length_cons, List.length_cons]
          omega
theorem rpL_le {r : List Nat} {x : List Nat} {n : Nat} (h : rpL r = some (x, n)) : 1 ≤ n ∧ n ≤ r.length ∧ x.length ≤ n := by
  cases r with
  | nil => cases h
  | cons c r =>
    unfold rpL at h
    dsimp only at h
    by_cases q : c = 34 ∨ c = 39
    · rw [if_pos q] at h
      cases e : rqL c r with
      | none => rw [e] at h; cases h
      | some p =>
        rw [e] at h
        obtain ⟨y, m⟩ := p
        obtain ⟨rfl, rfl⟩ : y = x ∧ m + 1 = n := by cases h; exact ⟨rfl, rfl⟩
        have := rqE_le e
        rw [List.length_cons]
        omega
    · rw [if_neg q] at h
      by_cases n92 : c = 92
      · rw [if_pos n92] at h
        cases r with
        | nil => cases h
        | cons d r =>
          cases h
          simp only [List.length_cons, List.length_nil]
          omega
      · rw [if_neg n92] at h
        cases h
        simp only [List.length_cons, List.length_nil]
        omega
section
variable {P : Program} {w : World} {K : PySem.W.Frag} {mg : Str → Option Value} {base : Heap}
def spReadP (K : PySem.W.Frag) (CL : Addr) : Sp := fun vs H Q E => ∃ (z : Str) (i c : Nat), vs = [.str z, .int (i : Int)] ∧ z.length ≤ 1000 ∧ z.cps.toList[i]? = some c ∧
  (rpL (z.cps.toList.drop i) = none → ∀ d H', Same H H' → H' d = none → E (.ref CL) (some d) (upd H' d (.xd [("index", .int (i : Int))]))) ∧
  (∀ x n, rpL (z.cps.toList.drop i) = some (x, n) → ∀ t H', Same H H' → SqT K H' t [.str (tS x), .int ((i + n : Nat) : Int)] → Q (.ref t) H')
theorem ok_readP {CL fI : Addr} {fdI : FuncData} (TL : ErI K mg "LineError" CL fI ["index"]) (GLineErrorInit : FnOk P w K mg base CX0 1 fI fdI ["self", "index"] (spInit1 K CL "index")) (bLineErrorInit : Binds K fdI ["self", "index"] [])
    (D : Dn K mg "read_part" sReadPart ["line", "start"]) (hlen : mg "len" = none) (OQ : Ok P w K mg base (L2.CX P w) 3 "read_quoted" ["line", "start"] (spReadQ K CL)) : Ok P w K mg base (L2.CX P w) 4 "read_part" ["line", "start"] (spReadP K CL) := by
  obtain ⟨fQ, fdQ, GReadQuoted, mReadQuoted, kReadQuoted, bReadQuoted⟩ := OQ
  refine D.okX scReadPart (fun vs H Q E h => ?_) (fun f cdv A outer s H vs Q E hr h => ?_)
  · obtain ⟨z, i, c, rfl, _⟩ := h
    rfl
  · obtain ⟨z, i, c, rfl, hz, hc, kE, kQ⟩ := h
    refine ⟨_, (pss_cons (ps_set (i := 2) scReadPart.nd rfl (Or.inl rfl) (pe_ix ix_str (pv 0) (pv 1) (fun _ _ => rfl)))
  (pss_cons (ps_if (pt_cmpR op_in_sign (pv 2) pe_str (by rfl)) (pss_one (ps_ret (pe_call GReadQuoted (hr.mono (by decide)) rfl mReadQuoted kReadQuoted bReadQuoted .nil (passes_call (takes_of rfl rfl rfl rfl) (fun _ _ _ _ h => h)) (pa_cons (pv 0) (pa_cons (pv 1) pa_nil))))) pss_nil)
  (pss_cons (ps_if (pt_cmpR op_ne (pv 2) pe_str (nomark _)) (pss_one (ps_ret (pe_tup (pa_cons (pv 2) (pa_cons (pe_op op_add (pv 1) pe_int) pa_nil))))) pss_nil)
  (pss_cons (ps_if (pt_cmpR op_eq (pe_op op_add (pv 1) pe_int) (pe_callB call_len_str (by rfl) hlen PySem.boot_len (pa_cons (pv 0) pa_nil)) (nomark _)) (pss_one (ps_raise rfl (takes_of rfl rfl rfl rfl) (pmk_oex TL.oe TL.iC TL.tI GLineErrorInit (hr.mono (by decide)) bLineErrorInit .nil (fun _ _ _ _ _ _ _ z => z.elim) rfl TL.gC (pa_cons (pv 1) pa_nil)))) pss_nil)
  (pss_one (ps_ret (pe_tup (pa_cons (pe_ix ix_str (pv 0) (pe_op op_add (pv 1) pe_int) (fun _ _ => rfl)) (pa_cons (pe_op op_add (pv 1) pe_int) pa_nil))))))))), ?_⟩
    have zl : z.cps.toList.length = z.length := by simp [Str.length]
    have small := Nat.le_of_lt (small1000 hz)
    obtain ⟨hic, _⟩ := List.getElem?_eq_some_iff.mp hc
    refine ⟨_, rfl, _, rfl, z, _, c, rfl, rfl, small, atI_nat hc, ?_⟩
    refine ⟨_, rfl, c, _, rfl, rfl, _, rfl, ?_⟩
    by_cases q : c = 34 ∨ c = 39
    · rw [show decide (c ∈ ("\"'" : Str).cps.toList) = true from decide_eq_true (by rcases q with rfl | rfl <;> decide)]
      refine iteT ?_
      refine ⟨_, rfl, _, rfl, z, i, c, rfl, hz, hc, fun e d H' s hd => kE (by rw [rp_q hc q, e]; rfl) d H' s hd, fun x n e t H' s ht => kQ x (n + 1) (by rw [rp_q hc q, e]; rfl) t H' s ?_⟩
      rw [show i + (n + 1) = i + 1 + n from by omega]
      exact ht
    · rw [show decide (c ∈ ("\"'" : Str).cps.toList) = false from decide_eq_false (fun h => q (by
        have h : c ∈ [34, 39] := h
        simp only [List.mem_cons, List.mem_nil_iff, or_false] at h
        exact h))]
      refine iteF ?_
      refine ⟨_, rfl, rfl, _, rfl, ?_⟩
      by_cases n : c = 92
      · rw [show (!decide (V.str ⟨#[c]⟩ = V.str "\\")) = false from by rw [decide_eq_true (show V.str ⟨#[c]⟩ = V.str "\\" from by rw [n]; rfl)]; rfl]
        refine iteF ?_
        refine ⟨_, rfl, _, _, rfl, rfl, _, rfl, z, rfl, small, rfl, _, rfl, ?_⟩
        by_cases hl : i + 1 = z.length
        · rw [decide_eq_true (show V.int ((i : Int) + 1) = V.int (z.length : Int) from congrArg V.int (by omega))]
          refine iteT ?_
          refine ⟨_, rfl, by show 1 ≤ 1000; decide, fun a' ha' => ?_⟩
          refine init1_use TL (List.mem_singleton_self _) ha' fun d hdn => ?_
          exact kE (rp_e hc q n (by omega)) d _ (fun _ _ h => h) hdn
        · rw [decide_eq_false (show ¬ V.int ((i : Int) + 1) = V.int (z.length : Int) from fun e => hl (by injection e; omega))]
          refine iteF ?_
          obtain ⟨d2, hd2⟩ : ∃ d2, z.cps.toList[i + 1]? = some d2 := ⟨_, List.getElem?_eq_getElem (by omega)⟩
          refine ⟨_, rfl, _, rfl, _, _, rfl, rfl, z, _, d2, rfl, rfl, small, atI_nat (j := i + 1) hd2, _, rfl, _, _, rfl, rfl, by show 2 ≤ sizeLine; decide, fun t ht => ?_⟩
          refine kQ _ _ (rp_d hc q n hd2) t _ (Same.new ht) ?_
          exact SqT.of upd_same
      · rw [show (!decide (V.str ⟨#[c]⟩ = V.str "\\")) = true from by rw [decide_eq_false (show ¬ V.str ⟨#[c]⟩ = V.str "\\" from str1_ne n)]; rfl]
        refine iteT ?_
        refine ⟨_, rfl, _, rfl, _, _, rfl, rfl, by show 2 ≤ sizeLine; decide, fun t ht => ?_⟩
        refine kQ _ _ (rp_c hc q n) t _ (Same.new ht) ?_
        exact SqT.of upd_same
end
end FL
/-! ## LX4 -/
set_option Elab.async false
set_option linter.all false
set_option maxRecDepth 100000
set_option maxHeartbeats 4000000
/-! the lexer: a token -/
namespace FL
open PySem L2
abbrev sReadToken : Stmt := top 15
theorem scReadToken : FnScope ["line", "start", "parts", "index", "part"] ["line", "start"] (defScope sReadToken) := ⟨rfl, rfl, rfl, by decide +kernel, rfl, by decide +kernel, by decide +kernel⟩
/-- what parts stand for, ahead of what follows -/
def preE (x : List Nat) : Except Nat (List Nat × Nat) → Except Nat (List Nat × Nat)
  | .ok (y, e) => .ok (x ++ y, e)
  | .error q => .error q
theorem preE_nil (r : Except Nat (List Nat × Nat)) : preE [] r = r := by
  cases r <;> rfl
theorem preE_app (x y : List Nat) (r : Except Nat (List Nat × Nat)) : preE x (preE y r) = preE (x ++ y) r := by
  cases r with
  | error q => rfl
  | ok p =>
    show Except.ok (x ++ (y ++ p.1), p.2) = Except.ok ((x ++ y) ++ p.1, p.2)
    rw [List.append_assoc]
/-- the token at an index, and the index behind it; or the index of the part that is none -/
def tokF : Nat → List Nat → Nat → Except Nat (List Nat × Nat)
  | 0, _, j => .ok ([], j)
  | f + 1, cs, j => match cs[j]? with
    | none => .ok ([], j)
    | some c => if c = 32 then .ok ([], j) else match rpL (cs.drop j) with
      | none => .error j
      | some p => preE p.1 (tokF f cs (j + p.2))
abbrev tokL (cs : List Nat) (j : Nat) : Except Nat (List Nat × Nat) := tokF (cs.length + 1) cs j
theorem tok_end {cs : List Nat} {j : Nat} (h : cs[j]? = none) : ∀ f, tokF f cs j = .ok ([], j)
  | 0 => rfl
  | f + 1 => by
    unfold tokF
    rw [h]
theorem tok_sp {cs : List Nat} {j : Nat} (h : cs[j]? = some 32) : ∀ f, tokF f cs j = .ok ([], j)
  | 0 => rfl
  | f + 1 => by
    unfold tokF
    rw [h]
    rfl
theorem tok_no {cs : List Nat} {j c f : Nat} (h : cs[j]? = some c) (n : c ≠ 32) (e : rpL (cs.drop j) = none) : tokF (f + 1) cs j = .error j := by
  unfold tokF
  rw [h]
  dsimp only
  rw [if_neg n, e]
theorem tok_more {cs : List Nat} {j c f n : Nat} {x : List Nat} (h : cs[j]? = some c) (nc : c ≠ 32) (e : rpL (cs.drop j) = some (x, n)) : tokF (f + 1) cs j = preE x (tokF f cs (j + n)) := by
  show (match cs[j]? with
    | none => Except.ok ([], j)
    | some c => if c = 32 then .ok ([], j) else match rpL (cs.drop j) with
      | none => .error j
      | some p => preE p.1 (tokF f cs (j + p.2))) = _
  rw [h]
  dsimp only
  rw [if_neg nc, e]
theorem sum_flat : ∀ ys : List (List Nat), ((ys.map tS).map (·.length)).sum = ys.flatten.length
  | [] => rfl
  | y :: ys => by
    have e : (tS y).length = y.length := by simp [tS, Str.length]
    rw [List.map_cons, List.map_cons, List.sum_cons, e, sum_flat ys, List.flatten_cons, List.length_append]
section
variable {P : Program} {w : World} {K : PySem.W.Frag} {mg : Str → Option Value} {base : Heap}
def spReadT (K : PySem.W.Frag) (CL : Addr) : Sp := fun vs H Q E => ∃ (z : Str) (i : Nat), vs = [.str z, .int (i : Int)] ∧ z.length ≤ 1000 ∧ i ≤ z.length ∧
  (∀ q, tokL z.cps.toList i = .error q → ∀ d H', Same H H' → H' d = none → E (.ref CL) (some d) (upd H' d (.xd [("index", .int (q : Int))]))) ∧
  (∀ x e, tokL z.cps.toList i = .ok (x, e) → ∀ t H', Same H H' → SqT K H' t [.str (tS x), .int (e : Int)] → Q (.ref t) H')
theorem ok_readT {CL : Addr}
    (D : Dn K mg "read_token" sReadToken ["line", "start"]) (hlen : mg "len" = none) (OP : Ok P w K mg base (L2.CX P w) 4 "read_part" ["line", "start"] (spReadP K CL)) : Ok P w K mg base (L2.CX P w) 5 "read_token" ["line", "start"] (spReadT K CL) := by
  obtain ⟨fP, fdP, GReadPart, mReadPart, kReadPart, bReadPart⟩ := OP
  refine D.okX scReadToken (fun vs H Q E h => ?_) (fun f cdv A outer s H vs Q E hr h => ?_)
  · obtain ⟨z, i, rfl, _⟩ := h
    rfl
  · obtain ⟨z, i, rfl, hz, hi, kE, kQ⟩ := h
    refine ⟨_, (pss_cons (ps_set (i := 2) scReadToken.nd rfl (Or.inl rfl) (pe_lst pa_nil))
  (pss_cons (ps_set (i := 3) scReadToken.nd rfl (Or.inl rfl) (pv 1))
  (pss_cons (ps_while (passes_of rfl) (PW.pt (pw_and (pt_cmpR op_lt (pv 3) (pe_callB call_len_str (by rfl) hlen PySem.boot_len (pa_cons (pv 0) pa_nil)) (nomark _)) (pw_and1 (pt_cmpR op_ne (pe_ix ix_str (pv 0) (pv 3) (fun _ _ => rfl)) pe_str (nomark _))))) (pss_cons (ps_asg (pe_call GReadPart (hr.mono (by decide)) rfl mReadPart kReadPart bReadPart .nil (passes_call (takes_of rfl rfl rfl rfl) (fun _ _ _ _ h => h)) (pa_cons (pv 0) (pa_cons (pv 3) pa_nil))) (pg_tup (by rfl) (pgs_cons (pg_name (i := 4) scReadToken.nd rfl (Or.inl rfl)) (pgs_cons (pg_name (i := 3) scReadToken.nd rfl (Or.inl rfl)) pgs_nil))))
  (pss_one (ps_expr (pe_bm PySem.F.plainAttrs_list PySem.F.slot_list_append PySem.F.type_list_append mt_append (pv 2) (pa_cons (pv 4) pa_nil))))))
  (pss_one (ps_ret (pe_tup (pa_cons (pe_join pe_str (pv 2)) (pa_cons (pv 3) pa_nil)))))))), ?_⟩
    have zl : z.cps.toList.length = z.length := by simp [Str.length]
    have small := Nat.le_of_lt (small1000 hz)
    refine ⟨by show 0 ≤ sizeLine; decide, fun l hl => ?_⟩
    refine ⟨_, rfl, ?_⟩
    show tSeq (tWhile _ _) _ _ [some (.str z), some (.int (i : Int)), some (.ref l), some (.int (i : Int)), none] _
    refine ⟨fun m σ H' => ∃ (j F : Nat) (ys : List (List Nat)) (x4 : Option V), m = z.length - j ∧ σ = [some (.str z), some (.int (i : Int)), some (.ref l), some (.int (j : Int)), x4] ∧ H' l = some (.lst ((ys.map tS).map V.str)) ∧ Same H H' ∧ ys.length + i ≤ j ∧ ys.flatten.length + i ≤ j ∧ j ≤ z.length ∧ z.length < j + F ∧ tokL z.cps.toList i = preE ys.flatten (tokF F z.cps.toList j),
      ⟨_, i, z.cps.toList.length + 1, [], none, rfl, rfl, upd_same, Same.new hl, by show 0 + i ≤ i; omega, by show 0 + i ≤ i; omega, hi, by omega, (preE_nil _).symm⟩, ?_⟩
    rintro m σ H' ⟨j, F, ys, x4, rfl, rfl, el, s, ly, lf, hj, hF, e⟩
    have fin : tokL z.cps.toList i = .ok (ys.flatten, j) → (tRet (tTup (tCons (tM1 (fun x xs H_1 Q => ∃ a p ys, x = V.str a ∧ xs = [V.ref p] ∧ (SqL K H_1 p (List.map V.str ys) ∨ SqT K H_1 p (List.map V.str ys)) ∧ (List.map (fun x => x.length) ys).sum + ys.length * a.length ≤ 16777216 ∧ Q (V.str (Txt.join a ys)) H_1) (tC (V.str "")) (tVar 2)) (tCons (tVar 3) tNil)))) { nx := fun x H' => Q V.non H', rt := Q } [some (.str z), some (.int (i : Int)), some (.ref l), some (.int (j : Int)), x4] H' := fun e' => by
      refine ⟨⟨_, rfl⟩, _, rfl, "", l, ys.map tS, rfl, rfl, .inl (SqL.of el), ?_, _, rfl, by show 2 ≤ sizeLine; decide, fun t ht => ?_⟩
      · have e0 : ("" : Str).length = 0 := rfl
        rw [sum_flat, e0, Nat.mul_zero]
        omega
      · rw [join_tS]
        exact kQ _ _ e' t _ (fun b o h => Same.new ht _ _ (s b o h)) (SqT.of upd_same)
    refine ⟨_, rfl, _, rfl, z, rfl, small, _, _, rfl, rfl, _, rfl, ?_⟩
    by_cases hjl : j < z.length
    · rw [decide_eq_true (show (j : Int) < (z.length : Int) from by omega)]
      refine iteT ?_
      obtain ⟨c, hc⟩ : ∃ c, z.cps.toList[j]? = some c := ⟨_, List.getElem?_eq_getElem (by omega)⟩
      refine ⟨_, rfl, _, rfl, z, _, c, rfl, rfl, small, atI_nat hc, rfl, _, rfl, ?_⟩
      by_cases h32 : c = 32
      · subst h32
        refine iteF ?_
        refine fin ?_
        rw [e, tok_sp hc]
        show Except.ok (ys.flatten ++ [], j) = _
        rw [List.append_nil]
      · rw [show (!decide (V.str ⟨#[c]⟩ = V.str " ")) = true from by rw [decide_eq_false (show ¬ V.str ⟨#[c]⟩ = V.str " " from str1_ne h32)]; rfl]
        refine iteT ?_
        obtain ⟨F', rfl⟩ : ∃ F', F = F' + 1 := ⟨F - 1, by omega⟩
        refine ⟨fun σ' H'' => ∃ (j2 F2 : Nat) (ys2 : List (List Nat)) (x4 : Option V), j < j2 ∧ σ' = [some (.str z), some (.int (i : Int)), some (.ref l), some (.int (j2 : Int)), x4] ∧ H'' l = some (.lst ((ys2.map tS).map V.str)) ∧ Same H H'' ∧ ys2.length + i ≤ j2 ∧ ys2.flatten.length + i ≤ j2 ∧ j2 ≤ z.length ∧ z.length < j2 + F2 ∧ tokL z.cps.toList i = preE ys2.flatten (tokF F2 z.cps.toList j2), fun σ' H'' ⟨j2, F2, ys2, x42, lt, h⟩ => ⟨_, by omega, j2, F2, ys2, x42, rfl, h⟩, ?_⟩
        refine ⟨_, rfl, _, rfl, z, j, c, rfl, hz, hc, fun en d H2 s2 hd => kE j (by rw [e, tok_no hc h32 en]; rfl) d H2 (fun b o h => s2 _ _ (s b o h)) hd, fun x n ex t H2 s2 ht => ?_⟩
        have ln := rpL_le ex
        rw [List.length_drop] at ln
        refine ⟨t, _, rfl, ht, rfl, _, _, rfl, _, _, rfl, rfl, ?_⟩
        have el2 := s2 _ _ el
        refine ⟨_, rfl, .inl ⟨rfl, _, SqL.of el2⟩, _, rfl, l, _, _, rfl, rfl, el2, small1000 (by rw [List.length_map, List.length_map]; omega), ?_⟩
        refine ⟨j + n, F', ys ++ [x], _, by omega, rfl, ?_, fun b o h => ?_, by rw [List.length_append, List.length_singleton]; omega, by rw [List.flatten_append, List.flatten_singleton, List.length_append]; omega, by omega, by omega, ?_⟩
        · rw [upd_same, List.map_append, List.map_append] <;> rfl
        · rw [upd_ne (ne_of_none h hl)]
          exact s2 _ _ (s _ _ h)
        · rw [e, tok_more hc h32 ex, preE_app, List.flatten_append, List.flatten_singleton]
    · rw [decide_eq_false (show ¬ (j : Int) < (z.length : Int) from by omega)]
      refine iteF ?_
      refine iteF ?_
      refine fin ?_
      rw [e, tok_end (List.getElem?_eq_none (by omega))]
      show Except.ok (ys.flatten ++ [], j) = _
      rw [List.append_nil]
end
end FL
/-! ## LX5 -/
set_option Elab.async false
set_option linter.all false
set_option maxRecDepth 100000
set_option maxHeartbeats 4000000
/-! the lexer: a line (check_line's promise is still owed) -/
namespace FL
open PySem L2
abbrev sSplitLine : Stmt := top 8
theorem scSplitLine : FnScope ["line", "tokens", "index", "token"] ["line"] (defScope sSplitLine) := ⟨rfl, rfl, rfl, by decide +kernel, rfl, by decide +kernel, by decide +kernel⟩
theorem blanksN_le : ∀ cs : List Nat, blanksN cs ≤ cs.length
  | [] => Nat.le_refl _
  | c :: cs => by
    unfold blanksN
    split
    · rw [List.length_cons]
      exact Nat.succ_le_succ (blanksN_le cs)
    · exact Nat.zero_le _
theorem blk_le {cs : List Nat} {i : Nat} (h : i ≤ cs.length) : i ≤ blk cs i ∧ blk cs i ≤ cs.length := by
  have := blanksN_le (cs.drop i)
  rw [List.length_drop] at this
  unfold blk
  omega
theorem blanksN_at : ∀ cs : List Nat, cs[blanksN cs]? ≠ some 32
  | [] => fun h => nomatch h
  | c :: cs => by
    unfold blanksN
    by_cases h : c = 32
    · rw [if_pos h, List.getElem?_cons_succ]
      exact blanksN_at cs
    · rw [if_neg h, List.getElem?_cons_zero]
      exact fun e => h (Option.some.inj e)
theorem blk_at {cs : List Nat} {i : Nat} : cs[blk cs i]? ≠ some 32 := by
  have := blanksN_at (cs.drop i)
  rw [List.getElem?_drop] at this
  exact this
theorem tok_le {cs : List Nat} : ∀ {f j : Nat} {x : List Nat} {e : Nat}, j ≤ cs.length → tokF f cs j = .ok (x, e) → j ≤ e ∧ e ≤ cs.length ∧ x.length + j ≤ e
  | 0, j, x, e, hj, h => by
    cases h
    exact ⟨Nat.le_refl _, hj, by rw [List.length_nil]; omega⟩
  | f + 1, j, x, e, hj, h => by
    cases hc : cs[j]? with
    | none =>
      rw [tok_end hc] at h
      cases h
      exact ⟨Nat.le_refl _, hj, by rw [List.length_nil]; omega⟩
    | some c =>
      by_cases h32 : c = 32
      · subst h32
        rw [tok_sp hc] at h
        cases h
        exact ⟨Nat.le_refl _, hj, by rw [List.length_nil]; omega⟩
      · cases ep : rpL (cs.drop j) with
        | none =>
          rw [tok_no hc h32 ep] at h
          cases h
        | some p =>
          obtain ⟨y, n⟩ := p
          rw [tok_more hc h32 ep] at h
          have ln := rpL_le ep
          rw [List.length_drop] at ln
          cases et : tokF f cs (j + n) with
          | error q => rw [et] at h; cases h
          | ok r =>
            obtain ⟨u, e2⟩ := r
            rw [et] at h
            obtain ⟨rfl, rfl⟩ : y ++ u = x ∧ e2 = e := by cases h; exact ⟨rfl, rfl⟩
            have := tok_le (by omega) et
            rw [List.length_append]
            omega
theorem tok_lt {cs : List Nat} {f j c : Nat} {x : List Nat} {e : Nat} (hc : cs[j]? = some c) (n : c ≠ 32) (h : tokF (f + 1) cs j = .ok (x, e)) : j < e := by
  have hj := (List.getElem?_eq_some_iff.mp hc).1
  cases ep : rpL (cs.drop j) with
  | none =>
    rw [tok_no hc n ep] at h
    cases h
  | some p =>
    obtain ⟨y, m⟩ := p
    rw [tok_more hc n ep] at h
    have ln := rpL_le ep
    rw [List.length_drop] at ln
    cases et : tokF f cs (j + m) with
    | error q => rw [et] at h; cases h
    | ok r =>
      obtain ⟨u, e2⟩ := r
      rw [et] at h
      obtain ⟨rfl, rfl⟩ : y ++ u = x ∧ e2 = e := by cases h; exact ⟨rfl, rfl⟩
      have := tok_le (by omega) et
      omega
/-- tokens, ahead of what follows -/
def preS (xs : List (List Nat)) : Except Nat (List (List Nat)) → Except Nat (List (List Nat))
  | .ok ys => .ok (xs ++ ys)
  | .error q => .error q
theorem preS_nil (r : Except Nat (List (List Nat))) : preS [] r = r := by
  cases r <;> rfl
theorem preS_app (x y : List (List Nat)) (r : Except Nat (List (List Nat))) : preS x (preS y r) = preS (x ++ y) r := by
  cases r with
  | error q => rfl
  | ok p =>
    show Except.ok (x ++ (y ++ p)) = Except.ok ((x ++ y) ++ p)
    rw [List.append_assoc]
/-- the tokens from an index on that stands behind blanks -/
def splF : Nat → List Nat → Nat → Except Nat (List (List Nat))
  | 0, _, _ => .ok []
  | f + 1, cs, j => if j < cs.length then (match tokL cs j with
    | .error q => .error q
    | .ok p => preS [p.1] (splF f cs (blk cs p.2))) else .ok []
theorem spl_end {cs : List Nat} {j : Nat} (h : ¬ j < cs.length) : ∀ f, splF f cs j = .ok []
  | 0 => rfl
  | f + 1 => by
    unfold splF
    rw [if_neg h]
theorem spl_no {cs : List Nat} {f j q : Nat} (h : j < cs.length) (e : tokL cs j = .error q) : splF (f + 1) cs j = .error q := by
  unfold splF
  rw [if_pos h, e]
theorem spl_more {cs : List Nat} {f j e : Nat} {x : List Nat} (h : j < cs.length) (et : tokL cs j = .ok (x, e)) : splF (f + 1) cs j = preS [x] (splF f cs (blk cs e)) := by
  show (if j < cs.length then (match tokL cs j with
    | .error q => Except.error q
    | .ok p => preS [p.1] (splF f cs (blk cs p.2))) else .ok []) = _
  rw [if_pos h, et]
/-- the tokens of a text whose characters are those of lines -/
def splL (cs : List Nat) : Except Nat (List (List Nat)) := splF (cs.length + 1) cs (blk cs 0)
/-- the characters of lines: from the blank to the tilde, but for the percent sign -/
def lineCs : List Nat := ((List.range 95).map (· + 32)).filter (· ≠ 37)
/-- the first index at which a line cannot have its character -/
def badFrom : Nat → List Nat → Option Nat
  | _, [] => none
  | i, c :: cs => if 200 ≤ i ∨ c ∉ lineCs then some i else badFrom (i + 1) cs
theorem badFrom_len : ∀ {cs : List Nat} {i : Nat}, i ≤ 200 → badFrom i cs = none → i + cs.length ≤ 200
  | [], i, h, _ => h
  | c :: cs, i, h, e => by
    unfold badFrom at e
    by_cases q : 200 ≤ i ∨ c ∉ lineCs
    · rw [if_pos q] at e
      cases e
    · rw [if_neg q] at e
      have := badFrom_len (by omega) e
      rw [List.length_cons]
      omega
def lineBad : V → Option Nat
  | .str z => badFrom 0 z.cps.toList
  | _ => some 0
/-- what is handed to the lexer: a text, or something plain that is none -/
def LineIn (K : PySem.W.Frag) (H : Hp) (v : V) : Prop := (∃ z, v = .str z ∧ z.length ≤ 100000) ∨ v = .non ∨ (∃ b, v = .bl b) ∨ (∃ i, v = .int i) ∨ ∃ a xs, v = .ref a ∧ SqL K H a xs
section
variable {P : Program} {w : World} {K : PySem.W.Frag} {mg : Str → Option Value} {base : Heap}
def spCkL (K : PySem.W.Frag) (CL : Addr) : Sp := fun vs H Q E => ∃ v, vs = [v] ∧ LineIn K H v ∧
  (∀ q, lineBad v = some q → ∀ d H', Same H H' → H' d = none → E (.ref CL) (some d) (upd H' d (.xd [("index", .int (q : Int))]))) ∧ (lineBad v = none → ∀ H', Same H H' → Q .non H')
def spSplit (K : PySem.W.Frag) (CL : Addr) : Sp := fun vs H Q E => ∃ v, vs = [v] ∧ LineIn K H v ∧
  (∀ q, lineBad v = some q → ∀ d H', Same H H' → H' d = none → E (.ref CL) (some d) (upd H' d (.xd [("index", .int (q : Int))]))) ∧
  (∀ z, v = .str z → lineBad v = none → (∀ q, splL z.cps.toList = .error q → ∀ d H', Same H H' → H' d = none → E (.ref CL) (some d) (upd H' d (.xd [("index", .int (q : Int))]))) ∧
    ∀ ws, splL z.cps.toList = .ok ws → ∀ l H', Same H H' → H l = none → H' l = some (.lst ((ws.map tS).map V.str)) → Q (.ref l) H')
theorem ok_split {CL : Addr} (D : Dn K mg "split_line" sSplitLine ["line"]) (hlen : mg "len" = none) (OC : Ok P w K mg base (L2.CX P w) 3 "check_line" ["line"] (spCkL K CL)) (OB : Ok P w K mg base CX0 1 "index_behind_blanks" ["line", "start"] spBlk) (OT : Ok P w K mg base (L2.CX P w) 5 "read_token" ["line", "start"] (spReadT K CL)) :
    Ok P w K mg base (L2.CX P w) 6 "split_line" ["line"] (spSplit K CL) := by
  obtain ⟨fC, fdC, GCheckLine, mCheckLine, kCheckLine, bCheckLine⟩ := OC
  obtain ⟨fB, fdB, GIndexBehindBlanks, mIndexBehindBlanks, kIndexBehindBlanks, bIndexBehindBlanks⟩ := OB
  obtain ⟨fT, fdT, GReadToken, mReadToken, kReadToken, bReadToken⟩ := OT
  refine D.okX scSplitLine (fun vs H Q E h => ?_) (fun f cdv A outer s H vs Q E hr h => ?_)
  · obtain ⟨v, rfl, _⟩ := h
    rfl
  · obtain ⟨v, rfl, hv, kE, kQ⟩ := h
    refine ⟨_, (pss_cons (ps_expr (pe_call GCheckLine (hr.mono (by decide)) rfl mCheckLine kCheckLine bCheckLine .nil (passes_call (takes_of rfl rfl rfl rfl) (fun _ _ _ _ h => h)) (pa_cons (pv 0) pa_nil)))
  (pss_cons (ps_set (i := 1) scSplitLine.nd rfl (Or.inl rfl) (pe_lst pa_nil))
  (pss_cons (ps_set (i := 2) scSplitLine.nd rfl (Or.inl rfl) (pe_call GIndexBehindBlanks (hr.mono (by decide)) rfl mIndexBehindBlanks kIndexBehindBlanks bIndexBehindBlanks .nil pass0 (pa_cons (pv 0) (pa_cons pe_int pa_nil))))
  (pss_cons (ps_while (passes_of rfl) (pt_cmpR op_lt (pv 2) (pe_callB call_len_str (by rfl) hlen PySem.boot_len (pa_cons (pv 0) pa_nil)) (nomark _)) (pss_cons (ps_asg (pe_call GReadToken (hr.mono (by decide)) rfl mReadToken kReadToken bReadToken .nil (passes_call (takes_of rfl rfl rfl rfl) (fun _ _ _ _ h => h)) (pa_cons (pv 0) (pa_cons (pv 2) pa_nil))) (pg_tup (by rfl) (pgs_cons (pg_name (i := 3) scSplitLine.nd rfl (Or.inl rfl)) (pgs_cons (pg_name (i := 2) scSplitLine.nd rfl (Or.inl rfl)) pgs_nil))))
  (pss_cons (ps_expr (pe_bm PySem.F.plainAttrs_list PySem.F.slot_list_append PySem.F.type_list_append mt_append (pv 1) (pa_cons (pv 3) pa_nil)))
  (pss_one (ps_set (i := 2) scSplitLine.nd rfl (Or.inl rfl) (pe_call GIndexBehindBlanks (hr.mono (by decide)) rfl mIndexBehindBlanks kIndexBehindBlanks bIndexBehindBlanks .nil pass0 (pa_cons (pv 0) (pa_cons (pv 2) pa_nil))))))))
  (pss_one (ps_ret (pv 1))))))), ?_⟩
    refine ⟨_, rfl, v, rfl, hv, kE, fun good H1 s1 => ?_⟩
    obtain ⟨z, rfl⟩ : ∃ z, v = .str z := by
      rcases hv with ⟨z, rfl, _⟩ | rfl | ⟨b, rfl⟩ | ⟨i, rfl⟩ | ⟨a, xs, rfl, _⟩
      · exact ⟨z, rfl⟩
      all_goals cases good
    obtain ⟨kE, kQ⟩ := kQ z rfl good
    have zl : z.cps.toList.length = z.length := by simp [Str.length]
    have hz : z.length ≤ 200 := by
      have := badFrom_len (Nat.zero_le _) (show badFrom 0 z.cps.toList = none from good)
      omega
    have small := Nat.le_of_lt (small1000 (show z.length ≤ 1000 by omega))
    refine ⟨by show 0 ≤ sizeLine; decide, fun l hl => ?_⟩
    have hl0 : H l = none := by
      cases e : H l with
      | none => rfl
      | some o => rw [s1 _ _ e] at hl; cases hl
    have b0 := blk_le (cs := z.cps.toList) (i := 0) (Nat.zero_le _)
    refine ⟨_, rfl, z, 0, rfl, Nat.zero_le _, by omega, ?_⟩
    show tSeq (tWhile _ _) _ _ [some (.str z), some (.ref l), some (.int (blk z.cps.toList 0 : Int)), none] _
    refine ⟨fun m σ H' => ∃ (j F : Nat) (ws : List (List Nat)) (x4 : Option V), m = z.length - j ∧ σ = [some (.str z), some (.ref l), some (.int (j : Int)), x4] ∧ H' l = some (.lst ((ws.map tS).map V.str)) ∧ Same H H' ∧ ws.length ≤ j ∧ j ≤ z.length ∧ z.length < j + F ∧ z.cps.toList[j]? ≠ some 32 ∧ splL z.cps.toList = preS ws (splF F z.cps.toList j),
      ⟨_, blk z.cps.toList 0, z.cps.toList.length + 1, [], none, rfl, rfl, upd_same, fun b o h => Same.new hl _ _ (s1 _ _ h), Nat.zero_le _, by omega, by omega, blk_at, (preS_nil _).symm⟩, ?_⟩
    rintro m σ H' ⟨j, F, ws, x4, rfl, rfl, el, s, lw, hj, hF, n32, e⟩
    refine ⟨_, rfl, _, rfl, z, rfl, small, _, _, rfl, rfl, _, rfl, ?_⟩
    by_cases hjl : j < z.length
    · rw [decide_eq_true (show (j : Int) < (z.length : Int) from by omega)]
      refine iteT ?_
      obtain ⟨c, hc⟩ : ∃ c, z.cps.toList[j]? = some c := ⟨_, List.getElem?_eq_getElem (by omega)⟩
      have c32 : c ≠ 32 := fun h => n32 (by rw [hc, h])
      obtain ⟨F', rfl⟩ : ∃ F', F = F' + 1 := ⟨F - 1, by omega⟩
      refine ⟨fun σ' H'' => ∃ (j2 F2 : Nat) (ws2 : List (List Nat)) (x4 : Option V), j < j2 ∧ σ' = [some (.str z), some (.ref l), some (.int (j2 : Int)), x4] ∧ H'' l = some (.lst ((ws2.map tS).map V.str)) ∧ Same H H'' ∧ ws2.length ≤ j2 ∧ j2 ≤ z.length ∧ z.length < j2 + F2 ∧ z.cps.toList[j2]? ≠ some 32 ∧ splL z.cps.toList = preS ws2 (splF F2 z.cps.toList j2), fun σ' H'' ⟨j2, F2, ws2, x42, lt, h⟩ => ⟨_, by omega, j2, F2, ws2, x42, rfl, h⟩, ?_⟩
      refine ⟨_, rfl, _, rfl, z, j, rfl, by omega, hj, fun q eq d H2 s2 hd => kE q (by rw [e, spl_no (by omega) eq]; rfl) d H2 (fun b o h => s2 _ _ (s b o h)) hd, fun x en ex t H2 s2 ht => ?_⟩
      have le := tok_le (by omega) ex
      have lt := tok_lt hc c32 ex
      have lb := blk_le (cs := z.cps.toList) (i := en) le.2.1
      refine ⟨t, _, rfl, ht, rfl, _, _, rfl, _, _, rfl, rfl, ?_⟩
      have el2 := s2 _ _ el
      refine ⟨_, rfl, .inl ⟨rfl, _, SqL.of el2⟩, _, rfl, l, _, _, rfl, rfl, el2, small1000 (by rw [List.length_map, List.length_map]; omega), ?_⟩
      refine ⟨_, rfl, _, rfl, z, en, rfl, by omega, by omega, ?_⟩
      refine ⟨blk z.cps.toList en, F', ws ++ [x], _, by omega, rfl, ?_, fun b o h => ?_, by rw [List.length_append, List.length_singleton]; omega, by omega, by omega, blk_at, ?_⟩
      · rw [upd_same, List.map_append, List.map_append] <;> rfl
      · rw [upd_ne (ne_of_none h hl0)]
        exact s2 _ _ (s _ _ h)
      · rw [e, spl_more (by omega) ex, preS_app]
    · rw [decide_eq_false (show ¬ (j : Int) < (z.length : Int) from by omega)]
      refine iteF ?_
      refine ⟨_, rfl, ?_⟩
      refine kQ ws ?_ l _ s hl0 el
      rw [e, spl_end (by omega)]
      show Except.ok (ws ++ []) = _
      rw [List.append_nil]
end
end FL
/-! ## LX0 -/
set_option Elab.async false
set_option linter.all false
set_option maxRecDepth 100000
set_option maxHeartbeats 4000000
/-! for i, c in enumerate(s), s a text -/
namespace FL
open PySem L2 PySem.Spec PyProof.Rows
/-- the text x, each character in a new pair -/
def ItES (x : Str) : It :=
  ⟨fun i _ => i < x.cps.size, fun i H v H' => ∃ T c, v = .ref T ∧ H T = none ∧ H' = upd H T (.tup [.int (i : Nat), .str ⟨#[c]⟩]) ∧ x.cps[i]? = some c, fun i _ => i = x.cps.size⟩
theorem iterT_ne (x : Str) : strIterType x ≠ "enumerate" := by
  unfold strIterType
  split <;> decide
theorem turnES {P : Program} {w : World} {K : PySem.W.Frag} {es : List Expr} {kk : Nat} {tp : Pos} (x : Str) (t : Tok) (e it : Addr) : Turn P w K (.Tuple es kk tp) (ItES x) [e, it] e (fun i h => (∃ old, IsEnum h e it ((i : Nat) : Int) old) ∧ h.IsStrIter it (strIterType x) x t i) where
  mem := List.mem_cons_self
  obj := fun i h st b hb => by
    obtain ⟨⟨_, he⟩, o, ho, _, hd⟩ := st
    rcases List.mem_cons.mp hb with z | z
    · exact z ▸ ⟨_, he, fun v q => nomatch q⟩
    · exact List.mem_singleton.mp z ▸ ⟨o, ho, fun v q => by rw [hd] at q; cases q⟩
  keep := fun i h h' st k => ⟨st.1.imp fun _ q => k e List.mem_cons_self _ q, st.2.imp fun o q => ⟨k it (List.mem_cons_of_mem _ List.mem_cons_self) o q.1, q.2⟩⟩
  item := by
    intro X hP hw hK hc i pins s σ H E I hf st hg
    subst hP hw hK
    obtain ⟨⟨old, he⟩, hit⟩ := st
    have nei : e ≠ it := fun z => by
      obtain ⟨o1, h1, c1, _⟩ := id hit
      rw [← z, show s.heap.get? e = _ from he] at h1
      cases h1
      have c1 : Value.type "enumerate" = Value.type (strIterType x) := c1
      injection c1 with c1
      exact iterT_ne x c1.symm
    have lt : i < x.cps.size := hg
    have le : e < s.heap.objs.size := Heap.lt_size he
    have li : it < s.heap.objs.size := by
      obtain ⟨_, q, _⟩ := id hit
      exact Heap.lt_size q
    refine wpAny_pyNext_enum_itemD (Draws.text (by exact I.ok.hd hc) it x t) he hit lt nei (fun z => nei (List.mem_singleton.mp z)) fun y h1 tk hy ho st1 hT _ kp => ?_
    obtain ⟨c, u, hcx, rfl⟩ := hy
    refine ⟨_, rfl, wpAny_letOwnedTupleGo_enum (s := { s with heap := h1, toks := tk + 1 }) ho fun h2 he2 sb => ?_⟩
    have at2 : h2.get? s.heap.objs.size = _ := (sb.2 _ (Nat.ne_of_gt le)).trans hT
    have ok : ObjOk X.prog X.w (upd H s.heap.objs.size (.tup [.int (i : Nat), .str ⟨#[c]⟩])) h2 s.heap.objs.size (.tup [.int (i : Nat), .str ⟨#[c]⟩]) :=
      ⟨by show 2 ≤ sizeLine; decide, [.int i tk, .str ⟨#[c]⟩ u], .cons ⟨_, rfl⟩ (.cons ⟨_, rfl⟩ .nil), ⟨_, at2, rfl, _, rfl⟩⟩
    have I2 : Inv X pins σ (upd H s.heap.objs.size (.tup [.int (i : Nat), .str ⟨#[c]⟩])) { s with heap := h2, toks := tk + 1 } :=
      I.turnedNew (ch := [e, it]) (fun b ob hb q => (sb.2 b fun z => hb (z ▸ List.mem_cons_self)).trans (kp b ob (fun z => hb (z ▸ List.mem_cons_self)) (fun z => hb (z ▸ List.mem_cons_of_mem _ List.mem_cons_self)) q)) hf (Nat.le_refl _) ok
    refine ⟨.ref s.heap.objs.size, _, I2, rfl, ⟨_, c, rfl, I.hok.fresh (Nat.le_refl _), rfl, hcx⟩, ⟨⟨.str ⟨#[c]⟩ u, ?_⟩, st1.imp fun o q => ⟨(sb.2 it nei.symm).trans q.1, q.2⟩⟩, fun b hb => ?_⟩
    · rw [show ((i + 1 : Nat) : Int) = (i : Int) + 1 by omega]
      exact he2
    · have lb : b < s.heap.objs.size := by
        rcases List.mem_cons.mp hb with z | z
        · exact z ▸ le
        · exact List.mem_singleton.mp z ▸ li
      rw [upd_ne (Nat.ne_of_lt lb)]
      exact (hf b hb).1
  done := by
    intro X hP hw hK hc i pins s σ H E I hf st hg
    subst hP hw hK
    obtain ⟨⟨old, he⟩, hit⟩ := st
    obtain ⟨f0, f1, f2, f3, f4, f5⟩ := hf it (List.mem_cons_of_mem _ List.mem_cons_self)
    have hg : i = x.cps.size := hg
    subst hg
    exact wpAny_pyNext_enum_endD (Draws.text (by exact I.ok.hd hc) it x t) he hit fun h' eb => ⟨rfl, I.turned (t' := s.toks) (fun b o hb q => eb b o hb q) f0 f1 f3 f4 f5⟩
  self := fun A i s Q E st h => wpAny_pyIter_enum st.1.choose_spec h
theorem walkES {x : Str} : Walk (ItES x) x.cps.size (fun _ => True) (YPair (fun i => some (.int (i : Nat))) (fun i => (x.cps[i]?).map fun c => .str ⟨#[c]⟩)) :=
  ⟨fun i _ hi _ => hi, fun _ _ => rfl, fun i H v H' _ _ ⟨T, c, h1, h2, h3, h4⟩ => ⟨T, .int (i : Nat), .str ⟨#[c]⟩, h1, h2, h3, rfl, by show (x.cps[i]?).map _ = _; rw [h4]; rfl⟩⟩
def iEnumS (ta : TA) : TI := fun σ H R => ta σ H fun vs H1 => ∃ x, vs = [.str x] ∧ R (ItES x) H1
theorem pi_enumS {X : Cx} {e : Expr} {ta : TA} {p pos tp : Pos} {es : List Expr} {kk : Nat} (hg : Gl X "enumerate") (hm : X.mg "enumerate" = none) (ha : PA X [e] ta) (one : starEach [e] X.env = [(false, eval e X.env)] := by rfl) :
    PI X (.Tuple es kk tp) (.Call (.Name "enumerate" p) [e] [] pos) (iEnumS ta) := by
  refine ⟨fun pins s σ H R I h => Call_ (ld_blt I hg hm boot_enumerate (PyProof.Rows.callWith_type1 (thn (ha.run pos pins s σ H _ I h) fun us s1 ⟨vs, H1, J, r1, x, ex, q⟩ => ?_) one rfl))⟩
  subst ex
  obtain ⟨u, rfl, r⟩ := vals1 r1
  obtain ⟨t, rfl⟩ := r
  refine callEnum (begins_text x t) trivial fun h2 he ht kp => wpAny_pyIter_enum he ?_
  have J2 : Inv X pins σ H1 { s1 with heap := h2 } := J.kept (t' := s1.toks) kp
  refine ⟨s1.heap.objs.size + 1, [s1.heap.objs.size + 1, s1.heap.objs.size], _, _, H1, rfl, J2, turnES x t (s1.heap.objs.size + 1) s1.heap.objs.size, ⟨⟨.none, he⟩, ⟨_, ht, rfl, rfl⟩⟩, fun b hb => ?_, q⟩
  have le : s1.heap.objs.size ≤ b := by
    rcases List.mem_cons.mp hb with z | z
    · exact z ▸ Nat.le_succ _
    · exact List.mem_singleton.mp z ▸ Nat.le_refl _
  exact J.fpOk le (J.hok.fresh le)
end FL
/-! ## LX6 -/
set_option Elab.async false
set_option linter.all false
set_option maxRecDepth 100000
set_option maxHeartbeats 4000000
/-! the lexer: check_line -/
namespace FL
open PySem L2
abbrev sCheckLine : Stmt := top 11
theorem scCheckLine : FnScope ["line", "index", "character"] ["line"] (defScope sCheckLine) := ⟨rfl, rfl, rfl, by decide +kernel, rfl, by decide +kernel, by decide +kernel⟩
structure TxL (mg : Str → Option Value) : Prop where
  isinstance : mg "isinstance" = none
  str : mg "str" = none
  enumerate : mg "enumerate" = none
  cMOST_CHARACTERS : GI mg "MOST_CHARACTERS" 200
  cLINE_CHARACTERS : GS mg "LINE_CHARACTERS" (tS lineCs)
theorem bad_yes {cs : List Nat} {b i c : Nat} (h : cs[i]? = some c) (q : 200 ≤ b + i ∨ c ∉ lineCs) (hb : ∀ j c, j < i → cs[j]? = some c → ¬ (200 ≤ b + j ∨ c ∉ lineCs)) : badFrom b cs = some (b + i) := by
  induction cs generalizing b i with
  | nil => cases h
  | cons d cs ih =>
    cases i with
    | zero =>
      cases h
      exact if_pos q
    | succ i =>
      show (if 200 ≤ b + 0 ∨ d ∉ lineCs then some b else badFrom (b + 1) cs) = _
      rw [if_neg (hb 0 d (Nat.zero_lt_succ _) rfl), ih (b := b + 1) (i := i) h (by rwa [show b + 1 + i = b + (i + 1) from by omega]) fun j c hj hc => by
        have := hb (j + 1) c (Nat.succ_lt_succ hj) hc
        rwa [show b + (j + 1) = b + 1 + j from by omega] at this]
      rw [show b + 1 + i = b + (i + 1) from by omega]
theorem bad_no {cs : List Nat} {b : Nat} (hb : ∀ j c, cs[j]? = some c → ¬ (200 ≤ b + j ∨ c ∉ lineCs)) : badFrom b cs = none := by
  induction cs generalizing b with
  | nil => rfl
  | cons d cs ih =>
    show (if 200 ≤ b + 0 ∨ d ∉ lineCs then some b else badFrom (b + 1) cs) = _
    rw [if_neg (hb 0 d rfl)]
    exact ih fun j c hc => by
      have := hb (j + 1) c hc
      rwa [show b + (j + 1) = b + 1 + j from by omega] at this
theorem sqL_ty {K : PySem.W.Frag} {H : Hp} {a : Addr} {xs : List V} (q : SqL K H a xs) : TyX K H (.ref a) (.type "list") := by
  rcases q with (s | ⟨o, s⟩) | ⟨o, its, n, e, c, _⟩
  · exact .base (.lst s)
  · exact .base (.frz s)
  · exact .kList e c
section
variable {P : Program} {w : World} {K : PySem.W.Frag} {mg : Str → Option Value} {base : Heap}
theorem ok_checkLine {CL fI : Addr} {fdI : FuncData} (T : TxL mg) (TL : ErI K mg "LineError" CL fI ["index"]) (GLineErrorInit : FnOk P w K mg base CX0 1 fI fdI ["self", "index"] (spInit1 K CL "index")) (bLineErrorInit : Binds K fdI ["self", "index"] [])
    (D : Dn K mg "check_line" sCheckLine ["line"]) : Ok P w K mg base (L2.CX P w) 3 "check_line" ["line"] (spCkL K CL) := by
  refine D.okX scCheckLine (fun vs H Q E h => ?_) (fun f cdv A outer s H vs Q E hr h => ?_)
  · obtain ⟨v, rfl, _⟩ := h
    rfl
  · obtain ⟨v, rfl, hv, kE, kQ⟩ := h
    refine ⟨_, (pss_cons (ps_if (pt_not (pt_val (pe_callB call_isi (by rfl) T.isinstance (by decide +kernel) (pa_cons (pv 0) (pa_cons (pe_bltn (v := .ty "str") (by rfl) T.str (by decide +kernel) rfl) pa_nil))))) (pss_one (ps_raise rfl (takes_of rfl rfl rfl rfl) (pmk_oex TL.oe TL.iC TL.tI GLineErrorInit (hr.mono (by decide)) bLineErrorInit .nil (fun _ _ _ _ _ _ _ z => z.elim) rfl TL.gC (pa_cons pe_int pa_nil)))) pss_nil)
  (pss_one (ps_for (passes_of rfl) rfl (pi_enumS (by rfl) T.enumerate (pa_cons (pv 0) pa_nil)) (pg_tup (by rfl) (pgs_cons (pg_name (i := 1) scCheckLine.nd rfl (Or.inl rfl)) (pgs_cons (pg_name (i := 2) scCheckLine.nd rfl (Or.inl rfl)) pgs_nil)))
  (pss_one (ps_if (PW.pt (pw_or (pt_cmpR op_ge (pv 1) (pe_gi T.cMOST_CHARACTERS) (nomark _)) (pw_or1 (pt_cmpR op_notIn_sign (pv 2) (pe_gs T.cLINE_CHARACTERS) (by rfl))))) (pss_one (ps_raise rfl (takes_of rfl rfl rfl rfl) (pmk_oex TL.oe TL.iC TL.tI GLineErrorInit (hr.mono (by decide)) bLineErrorInit .nil (fun _ _ _ _ _ _ _ z => z.elim) rfl TL.gC (pa_cons (pv 1) pa_nil)))) pss_nil))))), ?_⟩
    rcases hv with ⟨z, rfl, hz⟩ | hv
    rotate_left
    · obtain ⟨d, ht, hs, eb⟩ : ∃ d : PyData, TyX K H v (.type (tyN d)) ∧ isSt d = false ∧ lineBad v = some 0 := by
        rcases hv with rfl | ⟨b, rfl⟩ | ⟨i, rfl⟩ | ⟨a, xs, rfl, q⟩
        · exact ⟨.none, .base .non, rfl, rfl⟩
        · exact ⟨.bool b, .base (.bl b), rfl, rfl⟩
        · exact ⟨.int i, .base (.int i), rfl, rfl⟩
        · exact ⟨.list [], sqL_ty q, rfl, rfl⟩
      refine ⟨_, rfl, _, _, _, _, _, rfl, .ty _, ht, isi_str d, _, rfl, ?_⟩
      rw [hs]
      refine iteT ?_
      refine ⟨by show 1 ≤ 1000; decide, fun a' ha' => ?_⟩
      refine init1_use TL (List.mem_singleton_self _) ha' fun d hdn => ?_
      exact kE 0 eb d _ (fun _ _ h => h) hdn
    refine ⟨_, rfl, _, _, _, _, _, rfl, .ty _, .base (.str z), isi_str (.str z), _, rfl, ?_⟩
    refine iteF ?_
    refine ⟨_, rfl, z, rfl, ?_⟩
    refine for_it (walkES (x := z)) (fun i σ Hi => ∃ x1 x2, σ = [some (.str z), x1, x2] ∧ Same H Hi ∧ ∀ j c, j < i → z.cps.toList[j]? = some c → ¬ (200 ≤ 0 + j ∨ c ∉ lineCs)) ⟨none, none, rfl, fun _ _ h => h, fun _ _ h => absurd h (Nat.not_lt_zero _)⟩ (fun _ _ _ _ _ => trivial) ?_ ?_
    · rintro i v σ Hi Hi' hi ⟨x1, x2, rfl, s, hb⟩ ⟨T', x, y, rfl, hT', rfl, hx, hy⟩
      cases hx
      obtain ⟨c, hc, rfl⟩ : ∃ c, z.cps.toList[i]? = some c ∧ y = .str ⟨#[c]⟩ := by
        have hy : (z.cps[i]?).map (fun c => V.str ⟨#[c]⟩) = some y := hy
        cases e : z.cps[i]? with
        | none => rw [e] at hy; cases hy
        | some c =>
          rw [e] at hy
          cases hy
          exact ⟨c, by rw [Array.getElem?_toList]; exact e, rfl⟩
      have s' : Same H (upd Hi T' (.tup [.int (i : Nat), .str ⟨#[c]⟩])) := fun b o h => Same.new hT' _ _ (s b o h)
      refine ⟨T', _, rfl, SqT.of upd_same, rfl, _, _, rfl, _, _, rfl, rfl, ?_⟩
      refine ⟨_, rfl, _, _, rfl, rfl, _, rfl, ?_⟩
      by_cases q1 : 200 ≤ i
      · rw [show decide ((200 : Int) ≤ ((i : Nat) : Int)) = true from decide_eq_true (by omega)]
        refine iteT ?_
        refine iteT ?_
        refine ⟨_, rfl, by show 1 ≤ 1000; decide, fun a' ha' => ?_⟩
        refine init1_use TL (List.mem_singleton_self _) ha' fun d hdn => ?_
        refine kE i ?_ d _ s' hdn
        have := bad_yes (b := 0) hc (.inl (by omega)) hb
        rwa [Nat.zero_add] at this
      · rw [show decide ((200 : Int) ≤ ((i : Nat) : Int)) = false from decide_eq_false (by omega)]
        refine iteF ?_
        refine ⟨_, rfl, c, _, rfl, rfl, _, rfl, ?_⟩
        by_cases q2 : c ∈ lineCs
        · rw [show decide (c ∈ (tS lineCs).cps.toList) = true from decide_eq_true q2]
          refine iteF ?_
          refine ⟨_, _, rfl, s', fun j c' hj hc' => ?_⟩
          rcases Nat.lt_succ_iff_lt_or_eq.mp hj with h | rfl
          · exact hb j c' h hc'
          · rw [hc] at hc'
            cases hc'
            intro h
            rcases h with h | h
            · omega
            · exact h q2
        · rw [show decide (c ∈ (tS lineCs).cps.toList) = false from decide_eq_false q2]
          refine iteT ?_
          refine ⟨_, rfl, by show 1 ≤ 1000; decide, fun a' ha' => ?_⟩
          refine init1_use TL (List.mem_singleton_self _) ha' fun d hdn => ?_
          refine kE i ?_ d _ s' hdn
          have := bad_yes (b := 0) hc (.inr q2) hb
          rwa [Nat.zero_add] at this
    · rintro σ Hi ⟨x1, x2, rfl, s, hb⟩
      refine kQ (bad_no (b := 0) fun j c hc => hb j c ?_ hc) _ s
      have := (List.getElem?_eq_some_iff.mp hc).1
      rwa [Array.length_toList] at this
end
end FL
/-! ## VX1 -/
set_option Elab.async false
set_option linter.all false
set_option maxRecDepth 100000
set_option maxHeartbeats 4000000
/-! the lexer: is_token -/
namespace FL
open PySem L2 GxR
abbrev sIsToken : Stmt := top 13
theorem scIsToken : FnScope ["token", "character"] ["token"] (defScope sIsToken) := ⟨rfl, rfl, rfl, by decide +kernel, rfl, by decide +kernel, by decide +kernel⟩
structure TxT (mg : Str → Option Value) : Prop extends TxV mg where
  cMOST_CHARACTERS : GI mg "MOST_CHARACTERS" 200
  cLINE_CHARACTERS : GS mg "LINE_CHARACTERS" (tS lineCs)
theorem TxT.l {mg : Str → Option Value} (T : TxT mg) : TxL mg := ⟨T.isinstance, T.str, T.enumerate, T.cMOST_CHARACTERS, T.cLINE_CHARACTERS⟩
theorem str1_is {a : Nat} {x : Str} {b : Nat} (e : x = ⟨#[b]⟩) : decide (V.str ⟨#[a]⟩ = V.str x) = decide (a = b) := by
  subst e
  by_cases h : a = b
  · subst h
    rw [decide_eq_true rfl, decide_eq_true rfl]
  · rw [decide_eq_false h, decide_eq_false (str1_ne h)]
def tokB : V → Bool
  | .str z => decide (z.length ≤ 200) && z.cps.toList.all fun c => decide (c ∈ lineCs)
  | _ => false
section
variable {P : Program} {w : World} {K : PySem.W.Frag} {mg : Str → Option Value} {base : Heap}
def spTok (K : PySem.W.Frag) (Ps : List Addr) : Sp := fun vs H Q _ => ∃ v, vs = [v] ∧ LineIn K H v ∧ Tb Ps H ∧ ∀ H', Ex Ps H H' → Q (.bl (tokB v)) H'
theorem ok_token {Ps : List Addr} {c P1 : Addr} (D : DnC K mg "is_token" sIsToken ["token"] c) (T : TxT mg) (TB : TabB base mg c P1) (hP : P1 ∈ Ps) : Ok P w K mg base CX0 7 "is_token" ["token"] (spTok K Ps) := by
  refine D.ok scIsToken (fun vs H Q E h => ?_) (fun f A outer s H vs Q E hr h => ?_)
  · obtain ⟨v, rfl, _⟩ := h
    rfl
  · obtain ⟨v, rfl, hv, hT, k⟩ := h
    refine ⟨_, (pss_cons (ps_if (PW.pt (pw_or (pt_not (pt_val (pe_callB call_isi (by rfl) T.isinstance (by decide +kernel) (pa_cons (pv 0) (pa_cons (pe_bltn (v := .ty "str") (by rfl) T.str (by decide +kernel) rfl) pa_nil))))) (pw_or1 (pt_cmpR op_gt (pe_callB call_len_str (by rfl) T.len PySem.boot_len (pa_cons (pv 0) pa_nil)) (pe_gi T.cMOST_CHARACTERS) (nomark _))))) (pss_one (ps_ret pe_bl)) pss_nil)
  (pss_one (ps_ret (pe_allG (k := 0) (own := [("character", 1)]) (hr.mono (by decide)) rfl scIsToken.nd (by rfl) T.all (by decide +kernel) TB rfl ⟨rfl, rfl, by decide +kernel, rfl, rfl⟩ (blkOk_by (own := [("character", 1)]) (N := ["token", "character"]) (sc := defScope sIsToken) (by decide +kernel)) (pi_str (pv 0)) (fun _ _ _ _ _ => by exact (pg_name (i := 1) scIsToken.nd rfl (Or.inl rfl))) (fun _ _ _ _ _ hk => by exact (pe_cmpR op_in_sign (pv 1) (pe_gs T.cLINE_CHARACTERS) (by rfl))))))), ?_⟩
    rcases hv with ⟨z, rfl, hz⟩ | hv
    rotate_left
    · obtain ⟨d, ht, hs, eb⟩ : ∃ d : PyData, TyX K H v (.type (tyN d)) ∧ isSt d = false ∧ tokB v = false := by
        rcases hv with rfl | ⟨b, rfl⟩ | ⟨i, rfl⟩ | ⟨a, xs, rfl, q⟩
        · exact ⟨.none, .base .non, rfl, rfl⟩
        · exact ⟨.bool b, .base (.bl b), rfl, rfl⟩
        · exact ⟨.int i, .base (.int i), rfl, rfl⟩
        · exact ⟨.list [], sqL_ty q, rfl, rfl⟩
      refine ⟨_, rfl, _, _, _, _, _, rfl, .ty _, ht, isi_str d, _, rfl, ?_⟩
      rw [hs]
      refine iteT ?_
      refine iteT ?_
      rw [eb] at k
      exact k _ (Ex.refl hT)
    · refine ⟨_, rfl, _, _, _, _, _, rfl, .ty _, .base (.str z), isi_str (.str z), _, rfl, ?_⟩
      refine iteF ?_
      refine ⟨_, rfl, z, rfl, Nat.le_trans hz (by decide), _, _, rfl, rfl, _, rfl, ?_⟩
      have e0 : tokB (.str z) = (decide (z.length ≤ 200) && z.cps.toList.all fun c => decide (c ∈ lineCs)) := rfl
      by_cases q2 : z.length ≤ 200
      · rw [decide_eq_false (show ¬ (200 : Int) < (z.length : Int) by omega)]
        rw [decide_eq_true q2, Bool.true_and] at e0
        refine iteF ?_
        refine ⟨_, rfl, z, rfl, hT P1 hP, fun H2 t2 => ?_⟩
        have x2 := Ex.tab hT hP t2
        refine gAll_str (fun i H' => H' = H2 ∧ (z.cps.toList.take i).all (fun c => decide (c ∈ lineCs)) = true) ⟨rfl, rfl⟩ ?_ ?_
        · rintro i ch H' hch ⟨rfl, ha⟩
          refine ⟨rfl, _, rfl, ch, tS lineCs, rfl, rfl, _, rfl, ?_⟩
          have hch' : z.cps.toList[i]? = some ch := by rw [Array.getElem?_toList]; exact hch
          by_cases q3 : ch ∈ lineCs
          · rw [show decide (ch ∈ (tS lineCs).cps.toList) = true from decide_eq_true q3]
            refine iteT ?_
            refine ⟨rfl, ?_⟩
            rw [take_more' hch', List.all_append, ha]
            simpa using q3
          · rw [show decide (ch ∈ (tS lineCs).cps.toList) = false from decide_eq_false q3]
            refine iteF ?_
            have : tokB (.str z) = false := by
              rw [e0, List.all_eq_false]
              exact ⟨ch, List.mem_of_getElem? hch', by simpa using q3⟩
            rw [this] at k
            exact k _ x2
        · rintro H' ⟨rfl, ha⟩
          have : tokB (.str z) = true := by
            rw [e0]
            have e : z.cps.toList.take z.cps.size = z.cps.toList := List.take_of_length_le (by simp)
            rw [e] at ha
            exact ha
          rw [this] at k
          exact k _ x2
      · rw [decide_eq_true (show (200 : Int) < (z.length : Int) by omega)]
        rw [decide_eq_false q2, Bool.false_and] at e0
        rw [e0] at k
        refine iteT ?_
        exact k _ (Ex.refl hT)
end
end FL
/-! ## L13 -/
set_option Elab.async false
set_option linter.all false
set_option maxRecDepth 100000
set_option maxHeartbeats 4000000
/-! what walks a list or a tuple -/
namespace FL
open PySem L2 GxR SrtO PyProof.Rows
/-- a list or a tuple -/
abbrev SqS (K : PySem.W.Frag) (H : Hp) (a : Addr) (xs : List V) : Prop := SqL K H a xs ∨ SqT K H a xs
theorem SqS.same {K : PySem.W.Frag} {H H' : Hp} {a : Addr} {xs : List V} (s : Same H H') (h : SqS K H a xs) : SqS K H' a xs := by
  rcases h with h | h
  · exact .inl (sqL_same s h)
  · exact .inr (TS.same s _ _ h)
theorem SqS.ez {K : PySem.W.Frag} {L : Addr} {q : Str} {Ps : List Addr} {H H' : Hp} (t : Tz L q Ps H) (z : Ez L q Ps H H') {a : Addr} {xs : List V} (h : SqS K H a xs) : SqS K H' a xs := by
  rcases h with h | h
  · exact .inl (z.sqL t h)
  · exact .inr (z.ts t _ _ h)
/-- what stood at a as a list or a tuple stands -/
def Kp (K : PySem.W.Frag) (a : Addr) (H H' : Hp) : Prop := ∀ ys, (SqL K H a ys → SqL K H' a ys) ∧ (SqT K H a ys → SqT K H' a ys)
theorem Kp.same {K : PySem.W.Frag} {a : Addr} {H H' : Hp} (s : Same H H') : Kp K a H H' := fun ys => ⟨sqL_same s, TS.same s a ys⟩
theorem Kp.ez {K : PySem.W.Frag} {L : Addr} {q : Str} {Ps : List Addr} {H H' : Hp} (t : Tz L q Ps H) (z : Ez L q Ps H H') {a : Addr} : Kp K a H H' := fun ys => ⟨z.sqL t, z.ts t a ys⟩
def iSeq (K : PySem.W.Frag) (tl : TE) : TI := fun σ H R => tl σ H fun x H1 => ∃ a, x = .ref a ∧ ((∃ xs, SqL K H1 a xs ∧ R (Itl K a) H1) ∨ (∃ xs, SqT K H1 a xs ∧ R (Itt K a) H1))
theorem pi_seq {X : Cx} {K : PySem.W.Frag} (eK : X.K = K) {tg l : Expr} {tl : TE} (hl : PE X l tl) : PI X tg l (iSeq K tl) := by
  subst eK
  refine ⟨fun pins s σ H R I h => thn (hl.run pins s σ H _ I h) fun v s1 hh => ?_⟩
  obtain ⟨x, H1, J, rx, a, ex, w⟩ := hh
  subst ex
  obtain rfl : v = Value.ref a := rx
  have new := J.hok.fresh (Nat.le_refl s1.heap.objs.size)
  have fp : ∀ b ∈ [s1.heap.objs.size], FpOk X pins H1 b := fun b hb => by
    rw [List.mem_singleton.mp hb]
    exact J.fpOk (Nat.le_refl _) new
  have psh : ∀ {o' : Obj} (b : Addr) (o : Obj), s1.heap.get? b = some o → (s1.heap.push o').get? b = some o := fun b o e => Heap.get?_push_of_some _ e
  rcases w with ⟨xs, hx, w⟩ | ⟨xs, hx, w⟩
  · obtain ⟨its, _, pl, _⟩ := J.list hx
    exact wpAny_pyIter_list pl.isList ⟨_, [s1.heap.objs.size], _, _, H1, rfl, J.kept (t' := s1.toks) psh, turn_list a _, ⟨_, Heap.get?_push_size _ rfl, rfl, rfl⟩, fp, w⟩
  · obtain ⟨its, _, pl, _⟩ := J.tuple hx
    exact wpAny_pyIter_tuple (show s1.heap.IsTuple a its.toArray from pl) ⟨_, [s1.heap.objs.size], _, _, H1, rfl, J.kept (t' := s1.toks) psh, turn_tuple a _, ⟨_, Heap.get?_push_size _ rfl, rfl, rfl⟩, fp, w⟩
section
variable {K : PySem.W.Frag} {a : Addr} {xs : List V} {H : Hp}
theorem for_seqS {g : TG} {tb : L2.TS} {D : Ends} {σ : L2.St} (hs : SqS K H a xs) (Pv : Nat → L2.St → Hp → Prop) (h0 : Pv 0 σ H) (hG : ∀ i σ H', i ≤ xs.length → Pv i σ H' → Kp K a H H')
    (st : ∀ i x σ H', i < xs.length → Pv i σ H' → xs[i]? = some x → g x σ H' fun σ2 H2 => tb { D with nx := Pv (i + 1), ct := Pv (i + 1), bk := D.nx } σ2 H2) (hd : ∀ σ H, Pv xs.length σ H → D.nx σ H) :
    (∃ ys, SqL K H a ys ∧ ∃ W : Nat → Nat → L2.St → Hp → Prop, (∃ m, W 0 m σ H) ∧ ∀ i m σ H, W i m σ H →
      ((Itl K a).stop i H ∧ D.nx σ H) ∨ ((Itl K a).go i H ∧ ∃ N : L2.St → Hp → Prop, (∀ σ' H', N σ' H' → ∃ m', m' < m ∧ W (i + 1) m' σ' H') ∧ ∀ x H', (Itl K a).yld i H x H' → g x σ H' fun σ2 H2 => tb { D with nx := N, ct := N, bk := D.nx } σ2 H2)) ∨
    (∃ ys, SqT K H a ys ∧ ∃ W : Nat → Nat → L2.St → Hp → Prop, (∃ m, W 0 m σ H) ∧ ∀ i m σ H, W i m σ H →
      ((Itt K a).stop i H ∧ D.nx σ H) ∨ ((Itt K a).go i H ∧ ∃ N : L2.St → Hp → Prop, (∀ σ' H', N σ' H' → ∃ m', m' < m ∧ W (i + 1) m' σ' H') ∧ ∀ x H', (Itt K a).yld i H x H' → g x σ H' fun σ2 H2 => tb { D with nx := N, ct := N, bk := D.nx } σ2 H2)) := by
  rcases hs with hs | hs
  · refine .inl ⟨xs, hs, for_it (walk_list (xs := xs)) Pv h0 (fun i σ H' hi p => (hG i σ H' hi p xs).1 hs) (fun i x σ H1 H2 hi p y => ?_) hd⟩
    obtain ⟨rfl, y⟩ := y
    exact st i x σ _ hi p y
  · refine .inr ⟨xs, hs, for_it (walk_tup (xs := xs)) Pv h0 (fun i σ H' hi p => (hG i σ H' hi p xs).2 hs) (fun i x σ H1 H2 hi p y => ?_) hd⟩
    obtain ⟨rfl, y⟩ := y
    exact st i x σ _ hi p y
theorem lc_seqS {g : TG} {tt : TT} {te : TE} {vs : List Nat} {σ : L2.St} {Qd : Addr → Hp → Prop} (hs : SqS K H a xs) (Pv : Addr → Nat → Hp → Prop) (h0 : ∀ D, H D = none → Pv D 0 (upd H D (.lst []))) (hG : ∀ D i H', H D = none → i ≤ xs.length → Pv D i H' → Kp K a H H')
    (st : ∀ D i x H', H D = none → i < xs.length → Pv D i H' → xs[i]? = some x → g x (wipe σ vs) H' fun σ2 H2 => wipe σ2 vs = wipe σ vs ∧ tt σ2 H2 fun b H3 =>
      if b = true then te σ2 H3 fun y H4 => ∃ acc, H4 D = some (.lst acc) ∧ acc.length < sizeLine ∧ Pv D (i + 1) (upd H4 D (.lst (acc ++ [y]))) else Pv D (i + 1) H3) (hd : ∀ D H', H D = none → Pv D xs.length H' → Qd D H') :
    (∃ ys, SqL K H a ys ∧ ∀ D, H D = none → ∃ W : Nat → Nat → Hp → Prop, (∃ m, W 0 m (upd H D (.lst []))) ∧ ∀ i m H, W i m H →
      ((Itl K a).stop i H ∧ Qd D H) ∨ ((Itl K a).go i H ∧ ∃ Nx : Hp → Prop, (∀ H', Nx H' → ∃ m', m' < m ∧ W (i + 1) m' H') ∧ ∀ x H', (Itl K a).yld i H x H' → g x (wipe σ vs) H' fun σ2 H2 => wipe σ2 vs = wipe σ vs ∧ tt σ2 H2 fun b H3 =>
        if b = true then te σ2 H3 fun y H4 => ∃ acc, H4 D = some (.lst acc) ∧ acc.length < sizeLine ∧ Nx (upd H4 D (.lst (acc ++ [y]))) else Nx H3)) ∨
    (∃ ys, SqT K H a ys ∧ ∀ D, H D = none → ∃ W : Nat → Nat → Hp → Prop, (∃ m, W 0 m (upd H D (.lst []))) ∧ ∀ i m H, W i m H →
      ((Itt K a).stop i H ∧ Qd D H) ∨ ((Itt K a).go i H ∧ ∃ Nx : Hp → Prop, (∀ H', Nx H' → ∃ m', m' < m ∧ W (i + 1) m' H') ∧ ∀ x H', (Itt K a).yld i H x H' → g x (wipe σ vs) H' fun σ2 H2 => wipe σ2 vs = wipe σ vs ∧ tt σ2 H2 fun b H3 =>
        if b = true then te σ2 H3 fun y H4 => ∃ acc, H4 D = some (.lst acc) ∧ acc.length < sizeLine ∧ Nx (upd H4 D (.lst (acc ++ [y]))) else Nx H3)) := by
  rcases hs with hs | hs
  · refine .inl ⟨xs, hs, fun D hD => lc_it (walk_list (xs := xs)) (Pv D) (h0 D hD) (fun i H' hi p => (hG D i H' hD hi p xs).1 hs) (fun i x H1 H2 hi p y => ?_) fun H' p => hd D H' hD p⟩
    obtain ⟨rfl, y⟩ := y
    exact st D i x _ hD hi p y
  · refine .inr ⟨xs, hs, fun D hD => lc_it (walk_tup (xs := xs)) (Pv D) (h0 D hD) (fun i H' hi p => (hG D i H' hD hi p xs).2 hs) (fun i x H1 H2 hi p y => ?_) fun H' p => hd D H' hD p⟩
    obtain ⟨rfl, y⟩ := y
    exact st D i x _ hD hi p y
end
end FL
/-! ## VX2 -/
set_option Elab.async false
set_option linter.all false
set_option maxRecDepth 100000
set_option maxHeartbeats 4000000
/-! values: integers and words that a text represents -/
namespace FL
open PySem L2 GxR NumText
structure TxN (mg : Str → Option Value) : Prop extends TxT mg where
  cDIGITS : GS mg "DIGITS" "0123456789"
  cMOST_DIGITS : GI mg "MOST_DIGITS" 4
/-- without a minus sign ahead -/
def dsOf : List Nat → List Nat
  | 45 :: r => r
  | l => l
def digB (ds : List Nat) : Bool := decide (1 ≤ ds.length) && decide (ds.length ≤ 4) && ds.all fun c => decide (48 ≤ c ∧ c ≤ 57)
/-- the integer that a text represents -/
def intL (cs : List Nat) : Option Int :=
  if digB (dsOf cs) = true then
    if (dsOf cs).head? = some 48 ∧ cs ≠ [48] then none
    else some (if cs.head? = some 45 then -((digitsVal (dsOf cs) : Nat) : Int) else ((digitsVal (dsOf cs) : Nat) : Int))
  else none
def optI : Option Int → V
  | none => .non
  | some n => .int n
theorem remove_dash (z : Str) : (Txt.removeprefix z "-").cps.toList = dsOf z.cps.toList := by
  have e : Txt.removeprefix z "-" = Txt.affix z (if Builtin.Str.subAt z "-" 0 then some (1, z.length) else none) := rfl
  rw [e, StrLaws.subAt_eq, List.drop_zero]
  cases hz : z.cps.toList with
  | nil => 
    rw [if_neg (by decide)]
    exact hz
  | cons c r =>
    have hl : z.length = r.length + 1 := by
      have : z.cps.toList.length = z.length := by simp [Str.length]
      rw [← this, hz] <;> rfl
    by_cases h : c = 45
    · subst h
      rw [if_pos (by rfl)]
      show (if z.length - 1 == z.length then z else Builtin.Str.strSub z 1 z.length).cps.toList = r
      rw [if_neg (by rw [hl]; simp)]
      show (z.cps.extract 1 z.length).toList = r
      rw [Array.toList_extract, hz]
      show List.take (z.length - 1) r = r
      rw [List.take_of_length_le (by omega)]
    · rw [if_neg (by
        show ¬ ([c] == [45]) = true
        simpa using h)]
      show z.cps.toList = _
      rw [hz]
      unfold dsOf
      split
      · rename_i h2
        cases h2
        exact absurd rfl h
      · rfl
/-- the words that a text may stand for -/
def matchW (t : Str) (ws : List Str) : List Str := if t ∈ ws then [t] else ws.filter fun w => !decide (t = "") && Txt.startswith w t
theorem gAsg' {x : V} {i : Nat} {σ : L2.St} {H : Hp} {k : L2.St → Hp → Prop} (h : k (σ.set i (some x)) H) : gName i x σ H k := h
theorem seq_join' {t u : L2.TS} {D : Ends} {σ : L2.St} {H : Hp} (R : L2.St → Hp → Prop) (h : ∀ nx', (∀ σ' H', R σ' H' → nx' σ' H') → t { D with nx := nx' } σ H) (k : ∀ σ' H', R σ' H' → u D σ' H') : tSeq t u D σ H := h (u D) k
section
variable {P : Program} {w : World} {K : PySem.W.Frag} {mg : Str → Option Value} {base : Heap}
def spParseI (K : PySem.W.Frag) (Ps : List Addr) : Sp := fun vs H Q _ => ∃ z : Str, vs = [.str z] ∧ z.length ≤ 1000 ∧ Tb Ps H ∧ ∀ H', Ex Ps H H' → Q (optI (intL z.cps.toList)) H'
theorem dig_in (c : Nat) : decide (c ∈ ("0123456789" : Str).cps.toList) = decide (48 ≤ c ∧ c ≤ 57) := by
  show decide (c ∈ [48, 49, 50, 51, 52, 53, 54, 55, 56, 57]) = _
  rw [Bool.eq_iff_iff, decide_eq_true_iff, decide_eq_true_iff]
  simp only [List.mem_cons, List.mem_nil_iff, or_false]
  omega
theorem dsOf_45 {cs : List Nat} (h : cs.head? = some 45) : cs = 45 :: dsOf cs := by
  cases cs with
  | nil => cases h
  | cons c r =>
    cases h
    rfl
theorem dsOf_ne {cs : List Nat} (h : cs.head? ≠ some 45) : dsOf cs = cs := by
  unfold dsOf
  split
  · exact absurd rfl h
  · rfl
theorem dsOf_le (cs : List Nat) : (dsOf cs).length ≤ cs.length ∧ cs.length ≤ (dsOf cs).length + 1 := by
  by_cases h : cs.head? = some 45
  · have := dsOf_45 h
    have e : cs.length = (dsOf cs).length + 1 := by
      rw [← List.length_cons (a := 45), ← this]
    omega
  · rw [dsOf_ne h]
    omega
def spMatch (K : PySem.W.Frag) : Sp := fun vs H Q _ => ∃ (t : Str) (p : Addr) (ws : List Str), vs = [.str t, .ref p] ∧ SqS K H p (ws.map V.str) ∧ ws.length ≤ 100 ∧ ∀ l H', Same H H' → H l = none → H' l = some (.lst ((matchW t ws).map V.str)) → Q (.ref l) H'
end
end FL
/-! ## B1 -/
set_option Elab.async false
set_option linter.all false
set_option maxRecDepth 100000
set_option maxHeartbeats 4000000
/-! which sets satisfy clauses, as the program tells it -/
namespace FL
open PySem L2 GxR SrtO
def trN (l : Lit) (ns : List Str) : Bool := decide (l.1 ∈ ns) == l.2
theorem fitB_tr (c : Cl) (ns : List Str) : fitB c ns = (trN c.r1 ns || trN c.r2 ns) := by
  obtain ⟨w, a, b⟩ := c
  unfold fitB trN Cl.r1 Cl.r2
  cases w <;> simp only [Cw.t1, Cw.t2] <;> cases decide (a ∈ ns) <;> cases decide (b ∈ ns) <;> rfl
section
variable {P : Program} {w : World} {K : PySem.W.Frag} {mg : Str → Option Value} {base : Heap}
def spTrue (K : PySem.W.Frag) : Sp := fun vs H Q _ => ∃ (p a : Addr) (l : Lit) (ns : List Str), vs = [.ref p, .ref a] ∧ SqT K H p (litV l) ∧ SqS K H a (ns.map V.str) ∧ Q (.bl (trN l ns)) H
def spMet (K : PySem.W.Frag) : Sp := fun vs H Q _ => ∃ (v : V) (a : Addr) (c : Cl) (ns : List Str), vs = [v, .ref a] ∧ Dt K H v c.d ∧ SqS K H a (ns.map V.str) ∧ ∀ H', Same H H' → Q (.bl (fitB c ns)) H'
def spSatis (K : PySem.W.Frag) (Ps : List Addr) : Sp := fun vs H Q _ => ∃ (v : V) (a : Addr) (cs : List Cl) (ns : List Str), vs = [.ref a, v] ∧ Dt K H v (.tuple (cs.map Cl.d)) ∧ SqS K H a (ns.map V.str) ∧ cs.length ≤ 60 ∧ Tb Ps H ∧ ∀ H', Ex Ps H H' → Q (.bl (fitsB cs ns)) H'
theorem fits_take' {cs : List Cl} {ns : List Str} {i : Nat} {c : Cl} (h : cs[i]? = some c) : fitsB (cs.take (i + 1)) ns = (fitsB (cs.take i) ns && fitB c ns) := fits_take h
theorem Ex.of_same {Ps : List Addr} {H H' : Hp} (t : Tb Ps H) (s : Same H H') : Ex Ps H H' := ⟨fun b o _ e => s b o e, fun P hP => by
  obtain ⟨ps, e, r⟩ := t P hP
  exact ⟨ps, s _ _ e, r⟩⟩
theorem Ex.sqL {Ps : List Addr} {H H' : Hp} (t : Tb Ps H) (a : Ex Ps H H') {p : Addr} {xs : List V} (h : SqL K H p xs) : SqL K H' p xs := by
  rcases h with h | h
  · refine .inl ?_
    rcases h with h | ⟨o, h⟩
    · exact .inl (a.same _ _ (t.no h (fun _ z => by cases z)) h)
    · exact .inr ⟨o, a.same _ _ (t.no h (fun _ z => by cases z)) h⟩
  · exact .inr h
theorem SqS.ex {Ps : List Addr} {H H' : Hp} (t : Tb Ps H) (x : Ex Ps H H') {a : Addr} {xs : List V} (h : SqS K H a xs) : SqS K H' a xs := by
  rcases h with h | h
  · exact .inl (Ex.sqL t x h)
  · exact .inr (Ex.ts t x _ _ h)
end
end FL
/-! ## Q1 -/
set_option Elab.async false
set_option linter.all false
set_option maxRecDepth 100000
set_option maxHeartbeats 4000000
/-! the search gives the least chain: mathematics -/
namespace FL
open PySem L2 GxR SrtO
theorem ltK_irr (x : List Lit) : ltK x x = false := by
  unfold ltK
  rw [if_pos rfl, ltC_irr]
theorem ltK_tri (x y : List Lit) : ltK x y = true ∨ x = y ∨ ltK y x = true := by
  unfold ltK
  by_cases h : x.length = y.length
  · rw [if_pos h, if_pos h.symm]
    exact ltC_tri x y
  · rw [if_neg h, if_neg (Ne.symm h)]
    rcases Nat.lt_or_gt_of_ne h with z | z
    · exact .inl (decide_eq_true z)
    · exact .inr (.inr (decide_eq_true z))
theorem ltK_trans {x y z : List Lit} (h1 : ltK x y = true) (h2 : ltK y z = true) : ltK x z = true := by
  unfold ltK at *
  by_cases a : x.length = y.length
  · rw [if_pos a] at h1
    by_cases b : y.length = z.length
    · rw [if_pos b] at h2
      rw [if_pos (a.trans b)]
      exact ltC_trans h1 h2
    · rw [if_neg b] at h2
      rw [if_neg (fun q => b (a.symm.trans q)), a]
      exact h2
  · rw [if_neg a] at h1
    have h1 := of_decide_eq_true h1
    by_cases b : y.length = z.length
    · rw [if_neg (fun q => a (q.trans b.symm))]
      exact decide_eq_true (by omega)
    · rw [if_neg b] at h2
      have h2 := of_decide_eq_true h2
      rw [if_neg (by omega)]
      exact decide_eq_true (by omega)
/-- not greater -/
abbrev LeK (c d : List Lit) : Prop := ltK d c = false
theorem LeK.of_lt {c d : List Lit} (h : ltK c d = true) : LeK c d := by
  cases q : ltK d c with
  | false => exact q
  | true => exact absurd (ltK_trans h q) (by rw [ltK_irr]; decide)
theorem LeK.refl (c : List Lit) : LeK c c := ltK_irr c
theorem LeK.cases {c d : List Lit} (h : LeK c d) : ltK c d = true ∨ c = d := by
  rcases ltK_tri c d with z | z | z
  · exact .inl z
  · exact .inr z
  · rw [show ltK d c = false from h] at z; cases z
theorem LeK.trans {a b c : List Lit} (h1 : LeK a b) (h2 : LeK b c) : LeK a c := by
  rcases h1.cases with z1 | z1
  · rcases h2.cases with z2 | z2
    · exact LeK.of_lt (ltK_trans z1 z2)
    · exact z2 ▸ h1
  · exact z1 ▸ h2
theorem ltC_app : ∀ {c d : List Lit} (x y : Lit), c.length = d.length → ltC c d = true → ltC (c ++ [x]) (d ++ [y]) = true
  | [], [], _, _, _, h => nomatch h
  | [], _ :: _, _, _, e, _ => nomatch e
  | _ :: _, [], _, _, e, _ => nomatch e
  | a :: c, b :: d, x, y, e, h => by
    rw [List.cons_append, List.cons_append]
    unfold ltC at h ⊢
    by_cases q : a = b
    · rw [if_pos q] at h ⊢
      exact ltC_app x y (Nat.succ.inj e) h
    · rw [if_neg q] at h ⊢
      exact h
theorem ltC_app1 : ∀ (c : List Lit) {x y : Lit}, x ≠ y → ltL x y = true → ltC (c ++ [x]) (c ++ [y]) = true
  | [], x, y, ne, h => by
    show ltC [x] [y] = true
    unfold ltC
    rw [if_neg ne]
    exact h
  | a :: c, x, y, ne, h => by
    rw [List.cons_append, List.cons_append]
    unfold ltC
    rw [if_pos rfl]
    exact ltC_app1 c ne h
theorem ltK_app {c d : List Lit} (x y : Lit) (h : ltK c d = true) : ltK (c ++ [x]) (d ++ [y]) = true := by
  unfold ltK at *
  rw [List.length_append, List.length_append, List.length_singleton, List.length_singleton]
  by_cases e : c.length = d.length
  · rw [if_pos e] at h
    rw [if_pos (by rw [e])]
    exact ltC_app x y e h
  · rw [if_neg e] at h
    rw [if_neg (by omega)]
    have := of_decide_eq_true h
    exact decide_eq_true (by omega)
theorem ltK_app1 (c : List Lit) {x y : Lit} (ne : x ≠ y) (h : ltL x y = true) : ltK (c ++ [x]) (c ++ [y]) = true := by
  unfold ltK
  rw [if_pos (by rw [List.length_append, List.length_append] <;> rfl)]
  exact ltC_app1 c ne h
theorem ltK_longer (c : List Lit) (x y z : Lit) : ltK (c ++ [x]) (c ++ [y] ++ [z]) = true := by
  unfold ltK
  rw [if_neg (by simp)]
  exact decide_eq_true (by simp)
theorem LeK.app {c d : List Lit} (x : Lit) (h : LeK c d) : LeK (c ++ [x]) (d ++ [x]) := by
  rcases h.cases with z | z
  · exact LeK.of_lt (ltK_app x x z)
  · rw [z]; exact LeK.refl _
/-- a chain from one of S to l -/
inductive Pth (es : List Edge) (S : Lit → Prop) : List Lit → Lit → Prop
  | one {s : Lit} : S s → Pth es S [s] s
  | snoc {c : List Lit} {l x : Lit} : Pth es S c l → (l, x) ∈ es → Pth es S (c ++ [x]) x
theorem Pth.last {es : List Edge} {S : Lit → Prop} {c : List Lit} {l : Lit} (h : Pth es S c l) : c.getLast? = some l := by
  cases h with
  | one => rfl
  | snoc => simp
theorem nextE_mem {es : List Edge} {l x : Lit} : x ∈ nextE es l ↔ (l, x) ∈ es := by
  unfold nextE
  rw [List.mem_map]
  constructor
  · rintro ⟨e, he, rfl⟩
    obtain ⟨h1, h2⟩ := List.mem_filter.mp he
    have : e.1 = l := of_decide_eq_true h2
    rw [← this]
    exact h1
  · intro h
    exact ⟨(l, x), List.mem_filter.mpr ⟨h, decide_eq_true rfl⟩, rfl⟩
theorem chG_snoc (m : Chains) (f x : Lit) (c : List Lit) : chG (m ++ [(f, c)]) x = (chG m x).or (if f = x then some c else none) := by
  unfold chG
  rw [List.find?_append]
  cases m.find? fun y => decide (y.1 = x) with
  | some y => rfl
  | none =>
    rw [Option.none_or, List.find?_cons]
    by_cases h : f = x
    · rw [show decide ((f, c).1 = x) = true from decide_eq_true h, if_pos h] <;> rfl
    · rw [show decide ((f, c).1 = x) = false from decide_eq_false h, if_neg h] <;> rfl
/-- the turns of one literal's steps -/
def Turned (m : Chains) (q ch fs : List Lit) (s : Chains × List Lit) : Prop := ∃ nw : List Lit, s.2 = q ++ nw ∧ (nw.Pairwise fun a b => a ≠ b ∧ ltL a b = true) ∧ (∀ k ∈ nw, k ∈ fs ∧ chG m k = none) ∧
  (∀ x, chG s.1 x = if x ∈ nw then some (ch ++ [x]) else chG m x) ∧ ∀ x ∈ fs, (chG s.1 x).isSome = true
theorem turned_step {m : Chains} {q ch fs : List Lit} {s : Chains × List Lit} {f : Lit} (h : Turned m q ch fs s) (hs : ∀ k ∈ fs, ltL f k = false) : Turned m q ch (fs ++ [f]) (visit ch s f) := by
  obtain ⟨nw, h1, h2, h3, h4, h5⟩ := h
  unfold visit
  by_cases hv : (chG s.1 f).isSome = true
  · rw [if_pos hv]
    refine ⟨nw, h1, h2, fun k hk => ⟨List.mem_append_left _ (h3 k hk).1, (h3 k hk).2⟩, h4, fun x hx => ?_⟩
    rcases List.mem_append.mp hx with hx | hx
    · exact h5 x hx
    · rw [List.mem_singleton.mp hx]; exact hv
  · rw [if_neg hv]
    have hn : chG s.1 f = none := by simpa using hv
    have hf : f ∉ nw := fun z => by rw [h4 f, if_pos z] at hn; cases hn
    have hm : chG m f = none := by rw [h4 f, if_neg hf] at hn; exact hn
    have h4' : ∀ x, chG (s.1 ++ [(f, ch ++ [f])]) x = if x ∈ nw ++ [f] then some (ch ++ [x]) else chG m x := fun x => by
      rw [chG_snoc, h4 x]
      by_cases e : f = x
      · subst e
        rw [if_neg hf, hm, if_pos rfl, if_pos (List.mem_append_right _ List.mem_cons_self)] <;> rfl
      · rw [if_neg e, Option.or_none]
        by_cases z : x ∈ nw
        · rw [if_pos z, if_pos (List.mem_append_left _ z)]
        · rw [if_neg z, if_neg (fun y => by
            rcases List.mem_append.mp y with y | y
            · exact z y
            · exact e (List.mem_singleton.mp y).symm)]
    refine ⟨nw ++ [f], by rw [h1, List.append_assoc], ?_, fun k hk => ?_, h4', fun x hx => ?_⟩
    · refine List.pairwise_append.mpr ⟨h2, List.pairwise_singleton _ _, fun a ha b hb => ?_⟩
      rw [List.mem_singleton.mp hb]
      have ne : a ≠ f := fun z => hf (z ▸ ha)
      refine ⟨ne, ?_⟩
      rcases ltL_tri a f with z | z | z
      · exact z
      · exact absurd z ne
      · rw [hs a (h3 a ha).1] at z; cases z
    · rcases List.mem_append.mp hk with hk | hk
      · exact ⟨List.mem_append_left _ (h3 k hk).1, (h3 k hk).2⟩
      · rw [List.mem_singleton.mp hk]
        exact ⟨List.mem_append_right _ List.mem_cons_self, hm⟩
    · rw [h4' x]
      rcases List.mem_append.mp hx with hx | hx
      · have := h5 x hx
        rw [h4 x] at this
        split
        · rfl
        · rename_i z
          rw [if_neg (fun y => z (List.mem_append_left _ y))] at this
          exact this
      · rw [List.mem_singleton.mp hx, if_pos (List.mem_append_right _ List.mem_cons_self)] <;> rfl
theorem turned_fold {m : Chains} {q ch : List Lit} : ∀ (gs : List Lit) (fs : List Lit) (s : Chains × List Lit), Srtd ltL (fs ++ gs) → Turned m q ch fs s → Turned m q ch (fs ++ gs) (gs.foldl (visit ch) s)
  | [], fs, s, _, h => by rw [List.append_nil]; exact h
  | f :: gs, fs, s, hs, h => by
    have hf : ∀ k ∈ fs, ltL f k = false := fun k hk => (List.pairwise_append.mp hs).2.2 k hk f List.mem_cons_self
    have := turned_fold gs (fs ++ [f]) (visit ch s f) (by rw [List.append_assoc]; exact hs) (turned_step h hf)
    rw [List.append_assoc] at this
    exact this
structure MI (es : List Edge) (S : Lit → Prop) (m : Chains) (q : List Lit) : Prop where
  qnd : q.Nodup
  qm : ∀ l ∈ q, (chG m l).isSome = true
  pth : ∀ l c, chG m l = some c → Pth es S c l
  exp : ∀ l c, chG m l = some c → l ∉ q → ∀ x, (l, x) ∈ es → ∃ cx, chG m x = some cx ∧ LeK cx (c ++ [x])
  st : ∀ s, S s → chG m s = some [s]
  ord : q.Pairwise fun a b => ∀ ca cb, chG m a = some ca → chG m b = some cb → ltK ca cb = true
  bnd : ∀ x cx, chG m x = some cx → ∀ l ∈ q, ∀ cl, chG m l = some cl → ∀ y, LeK cx (cl ++ [y])
theorem MI.pop {es : List Edge} {S : Lit → Prop} {m : Chains} {l : Lit} {q ch : List Lit} (h : MI es S m (l :: q)) (hc : chG m l = some ch) {s : Chains × List Lit} (t : Turned m q ch (srt (nextE es l)) s) : MI es S s.1 s.2 := by
  obtain ⟨nw, h1, h2, h3, h4, h5⟩ := t
  have hin : ∀ x, x ∈ srt (nextE es l) ↔ (l, x) ∈ es := fun x => (srt_perm _).mem_iff.trans nextE_mem
  obtain ⟨n1, n2⟩ := List.nodup_cons.mp h.qnd
  obtain ⟨o1, o2⟩ := List.pairwise_cons.mp h.ord
  have old : ∀ {x c}, chG m x = some c → chG s.1 x = some c := fun {x c} e => by
    rw [h4 x, if_neg (fun z => by rw [(h3 x z).2] at e; cases e)]
    exact e
  have cls : ∀ {x c}, chG s.1 x = some c → (x ∈ nw ∧ c = ch ++ [x]) ∨ chG m x = some c := fun {x c} e => by
    rw [h4 x] at e
    by_cases z : x ∈ nw
    · rw [if_pos z] at e
      exact .inl ⟨z, (Option.some.inj e).symm⟩
    · rw [if_neg z] at e
      exact .inr e
  have qold : ∀ {k c}, k ∈ q → chG s.1 k = some c → chG m k = some c := fun {k c} hk e => by
    rcases cls e with ⟨z, _⟩ | z
    · have := h.qm k (List.mem_cons_of_mem _ hk)
      rw [(h3 k z).2] at this
      cases this
    · exact z
  have nnew : ∀ {k c}, k ∈ nw → chG s.1 k = some c → c = ch ++ [k] := fun {k c} hk e => by
    rw [h4 k, if_pos hk] at e
    exact (Option.some.inj e).symm
  rw [h1]
  refine ⟨?_, fun k hk => ?_, fun x c e => ?_, fun k c e hk x hx => ?_, fun s' hs' => old (h.st s' hs'), ?_, fun x cx e k hk ck ek y => ?_⟩
  · refine List.nodup_append.mpr ⟨n2, h2.imp fun z => z.1, fun a ha b hb e => ?_⟩
    have := h.qm a (List.mem_cons_of_mem _ ha)
    rw [e, (h3 b hb).2] at this
    cases this
  · rcases List.mem_append.mp hk with hk | hk
    · obtain ⟨c, hc'⟩ := Option.isSome_iff_exists.mp (h.qm k (List.mem_cons_of_mem _ hk))
      rw [old hc'] <;> rfl
    · rw [h4 k, if_pos hk] <;> rfl
  · rcases cls e with ⟨z, rfl⟩ | z
    · exact .snoc (h.pth l ch hc) ((hin x).mp (h3 x z).1)
    · exact h.pth x c z
  · have hk1 : k ∉ q := fun z => hk (List.mem_append_left _ z)
    have hk2 : k ∉ nw := fun z => hk (List.mem_append_right _ z)
    have em : chG m k = some c := by
      rcases cls e with ⟨z, _⟩ | z
      · exact absurd z hk2
      · exact z
    by_cases ekl : k = l
    · subst ekl
      rw [hc] at em
      cases em
      obtain ⟨cx, ecx⟩ := Option.isSome_iff_exists.mp (h5 x ((hin x).mpr hx))
      refine ⟨cx, ecx, ?_⟩
      rcases cls ecx with ⟨_, rfl⟩ | z
      · exact LeK.refl _
      · exact h.bnd x cx z k List.mem_cons_self _ hc x
    · obtain ⟨cx, ecx, le⟩ := h.exp k c em (fun z => by
        rcases List.mem_cons.mp z with z | z
        · exact ekl z
        · exact hk1 z) x hx
      exact ⟨cx, old ecx, le⟩
  · refine List.pairwise_append.mpr ⟨?_, ?_, fun a ha b hb ca cb ea eb => ?_⟩
    · exact List.Pairwise.imp_of_mem (fun {a b} ha hb z ca cb ea eb => z ca cb (qold ha ea) (qold hb eb)) o2
    · refine List.Pairwise.imp_of_mem (fun {a b} ha hb z ca cb ea eb => ?_) h2
      rw [nnew ha ea, nnew hb eb]
      exact ltK_app1 ch z.1 z.2
    · have ea' := qold ha ea
      rw [nnew hb eb]
      rcases (h.bnd a ca ea' l List.mem_cons_self ch hc b).cases with z | z
      · exact z
      · have l1 := (h.pth a ca ea').last
        rw [z] at l1
        simp at l1
        have := h.qm a (List.mem_cons_of_mem _ ha)
        rw [← l1, (h3 b hb).2] at this
        cases this
  · rcases List.mem_append.mp hk with hk | hk
    · have ek' := qold hk ek
      rcases cls e with ⟨_, rfl⟩ | z
      · exact LeK.of_lt (ltK_app x y (o1 k hk ch ck hc ek'))
      · exact h.bnd x cx z k (List.mem_cons_of_mem _ hk) ck ek' y
    · rw [nnew hk ek]
      rcases cls e with ⟨_, rfl⟩ | z
      · exact LeK.of_lt (ltK_longer ch x k y)
      · exact (h.bnd x cx z l List.mem_cons_self ch hc k).trans (LeK.of_lt (by
          unfold ltK
          rw [if_neg (by simp)]
          exact decide_eq_true (by simp)))
theorem MI.fin {es : List Edge} {S : Lit → Prop} {m mf : Chains} {q : List Lit} (h : Bfs es q m mf) : MI es S m q → MI es S mf [] := by
  induction h with
  | done m => exact id
  | @pop l q m mf ch hc _ ih =>
    intro hi
    refine ih (hi.pop hc ?_)
    have t0 : Turned m q ch [] (m, q) := ⟨[], by rw [List.append_nil], .nil, (fun _ z => nomatch z), (fun x => by rw [if_neg (fun z => nomatch z)]), fun _ z => nomatch z⟩
    have := turned_fold (srt (nextE es l)) [] (m, q) (by rw [List.nil_append]; exact srt_srtd _) t0
    rw [List.nil_append] at this
    exact this
theorem MI.least {es : List Edge} {S : Lit → Prop} {mf : Chains} (h : MI es S mf []) {d : List Lit} {l : Lit} (p : Pth es S d l) : ∃ c, chG mf l = some c ∧ LeK c d := by
  induction p with
  | one s => exact ⟨_, h.st _ s, LeK.refl _⟩
  | @snoc c l x _ e ih =>
    obtain ⟨cl, e1, l1⟩ := ih
    obtain ⟨cx, e2, l2⟩ := h.exp l cl e1 (fun z => nomatch z) x e
    exact ⟨cx, e2, l2.trans (l1.app x)⟩
end FL
/-! ## Q2 -/
set_option Elab.async false
set_option linter.all false
set_option maxRecDepth 100000
set_option maxHeartbeats 4000000
/-! the least chain, from several starts to several goals -/
namespace FL
open PySem L2 GxR SrtO
theorem ltC_nil (c : List Lit) : ltC c [] = false := by cases c <;> rfl
theorem chG_one (a x : Lit) (c : List Lit) : chG [(a, c)] x = if a = x then some c else none := by
  have := chG_snoc [] a x c
  rw [List.nil_append] at this
  rw [this] <;> rfl
theorem pth_pos {es : List Edge} {S : Lit → Prop} {c : List Lit} {l : Lit} (h : Pth es S c l) : 1 ≤ c.length := by
  cases h <;> simp
/-- one start -/
theorem MI.one (es : List Edge) (s : Lit) : MI es (· ∈ [s]) (initM [s]) [s] := by
  have e : initM [s] = [(s, [s])] := rfl
  rw [e]
  refine ⟨by simp, fun l hl => ?_, fun l c h => ?_, fun l c h hl => ?_, fun s' hs => ?_, List.pairwise_singleton _ _, fun x cx h l hl cl h2 y => ?_⟩
  · rw [chG_one, if_pos (List.mem_singleton.mp hl).symm] <;> rfl
  · rw [chG_one] at h
    by_cases q : s = l
    · rw [if_pos q] at h
      cases h
      exact q ▸ .one (List.mem_singleton_self s)
    · rw [if_neg q] at h; cases h
  · rw [chG_one] at h
    by_cases q : s = l
    · exact absurd (List.mem_singleton.mpr q.symm) hl
    · rw [if_neg q] at h; cases h
  · rw [chG_one, if_pos (List.mem_singleton.mp hs).symm, List.mem_singleton.mp hs]
  · rw [chG_one] at h h2
    split at h
    · split at h2
      · cases h
        cases h2
        refine LeK.of_lt ?_
        unfold ltK
        rw [if_neg (by simp)]
        exact decide_eq_true (by simp)
      · cases h2
    · cases h
/-- two different starts in order -/
theorem MI.two (es : List Edge) {s t : Lit} (ne : s ≠ t) (hl : ltL s t = true) : MI es (fun l => l = s ∨ l = t) (initM [s, t]) [s, t] := by
  have e : initM [s, t] = [(s, [s])] ++ [(t, [t])] := by
    show putM (putM [] s [s]) t [t] = _
    have e1 : putM [] s [s] = [(s, [s])] := rfl
    rw [e1, putM_new _ (by rw [chG_one, if_neg ne] <;> rfl)]
  have ch : ∀ x, chG (initM [s, t]) x = if x = s ∨ x = t then some [x] else none := fun x => by
    rw [e, chG_snoc, chG_one]
    by_cases q1 : s = x
    · subst q1
      rw [if_pos rfl, Option.some_or, if_pos (.inl rfl)]
    · rw [if_neg q1, Option.none_or]
      by_cases q2 : t = x
      · subst q2
        rw [if_pos rfl, if_pos (.inr rfl)]
      · rw [if_neg q2, if_neg (fun z => z.elim (fun y => q1 y.symm) fun y => q2 y.symm)]
  refine ⟨by simp [ne], fun l hl => ?_, fun l c h => ?_, fun l c h hl' => ?_, fun s' hs => ?_, ?_, fun x cx h l hl cl h2 y => ?_⟩
  · rw [ch, if_pos (by simpa using hl)] <;> rfl
  · rw [ch] at h
    split at h
    · rename_i z
      cases h
      exact .one z
    · cases h
  · rw [ch] at h
    split at h
    · rename_i z
      exact absurd (by simpa using z) hl'
    · cases h
  · rw [ch, if_pos hs]
  · refine List.pairwise_cons.mpr ⟨fun b hb ca cb ea eb => ?_, List.pairwise_singleton _ _⟩
    rw [List.mem_singleton.mp hb] at eb
    rw [ch, if_pos (.inl rfl)] at ea
    rw [ch, if_pos (.inr rfl)] at eb
    cases ea
    cases eb
    exact ltK_app1 [] ne hl
  · rw [ch] at h h2
    split at h
    · split at h2
      · cases h
        cases h2
        refine LeK.of_lt ?_
        unfold ltK
        rw [if_neg (by simp)]
        exact decide_eq_true (by simp)
      · cases h2
    · cases h
theorem visit_no {ch : List Lit} {s : Chains × List Lit} {f : Lit} (h : (chG s.1 f).isSome = true) : visit ch s f = s := by
  unfold visit
  rw [if_pos h]
theorem fold_no {ch : List Lit} {s : Chains × List Lit} : ∀ {fs : List Lit}, (∀ f ∈ fs, (chG s.1 f).isSome = true) → fs.foldl (visit ch) s = s
  | [], _ => rfl
  | f :: fs, h => by
    rw [List.foldl_cons, visit_no (h f List.mem_cons_self)]
    exact fold_no fun g hg => h g (List.mem_cons_of_mem _ hg)
theorem visit_qr (ch : List Lit) (m : Chains) (q r : List Lit) (f : Lit) : visit ch (m, r ++ q) f = ((visit ch (m, q) f).1, r ++ (visit ch (m, q) f).2) := by
  unfold visit
  split
  · rfl
  · show (_, _) = (_, _)
    rw [List.append_assoc]
theorem fold_qr (ch : List Lit) (r : List Lit) : ∀ (fs : List Lit) (m : Chains) (q : List Lit), fs.foldl (visit ch) (m, r ++ q) = ((fs.foldl (visit ch) (m, q)).1, r ++ (fs.foldl (visit ch) (m, q)).2)
  | [], _, _ => rfl
  | f :: fs, m, q => by
    rw [List.foldl_cons, List.foldl_cons, visit_qr]
    exact fold_qr ch r fs _ _
/-- the same start twice -/
theorem bfs_twice {es : List Edge} {l : Lit} {m mf : Chains} (h : Bfs es [l, l] m mf) : Bfs es [l] m mf := by
  cases h with
  | @pop _ _ _ _ ch hc h1 =>
    refine .pop hc ?_
    have t0 : Turned m [] ch [] (m, []) := ⟨[], by rw [List.append_nil], .nil, (fun _ z => nomatch z), (fun x => by rw [if_neg (fun z => nomatch z)]), fun _ z => nomatch z⟩
    have t1 := turned_fold (srt (nextE es l)) [] (m, []) (by rw [List.nil_append]; exact srt_srtd _) t0
    rw [List.nil_append] at t1
    have eq := fold_qr ch [l] (srt (nextE es l)) m []
    rw [List.append_nil] at eq
    rw [eq] at h1
    generalize (srt (nextE es l)).foldl (visit ch) (m, []) = s at t1 h1
    obtain ⟨nw, _, _, h3, h4, h5⟩ := t1
    have hl : chG s.1 l = some ch := by
      rw [h4 l, if_neg (fun z => by rw [(h3 l z).2] at hc; cases hc)]
      exact hc
    have h1' : Bfs es (l :: s.2) s.1 mf := h1
    cases h1' with
    | @pop _ _ _ _ ch2 hc2 h2 =>
      rw [fold_no (s := (s.1, s.2)) h5] at h2
      exact h2
theorem srt_one (a : Lit) : srt [a] = [a] := rfl
theorem srt_two (a b : Lit) : srt [a, b] = if ltL b a = true then [b, a] else [a, b] := rfl
/-- c is the least of the chains from ls to ms -/
def Least (es : List Edge) (ls ms : List Lit) (c : List Lit) : Prop := (∃ g ∈ ms, Pth es (· ∈ ls) c g) ∧ ∀ d, (∃ g ∈ ms, Pth es (· ∈ ls) d g) → LeK c d
theorem Least.uniq {es : List Edge} {ls ms : List Lit} {c d : List Lit} (h1 : Least es ls ms c) (h2 : Least es ls ms d) : c = d := by
  rcases (h1.2 d h2.1).cases with z | z
  · have := h2.2 c h1.1
    rw [show ltK c d = false from this] at z
    cases z
  · exact z
theorem pth_mono {es : List Edge} {S T : Lit → Prop} (h : ∀ l, S l → T l) {c : List Lit} {l : Lit} (p : Pth es S c l) : Pth es T c l := by
  induction p with
  | one s => exact .one (h _ s)
  | snoc _ e ih => exact .snoc ih e
theorem MI.map {es : List Edge} {S T : Lit → Prop} {m : Chains} {q : List Lit} (h : ∀ l, S l ↔ T l) (i : MI es S m q) : MI es T m q := by
  have e : S = T := funext fun l => propext (h l)
  exact e ▸ i
/-- the search from one or two starts -/
theorem bfs_least2 {es : List Edge} {a b : Lit} {mf : Chains} (h : Bfs es (srt [a, b]) (initM (srt [a, b])) mf) : MI es (· ∈ [a, b]) mf [] := by
  by_cases e : a = b
  · subst e
    have e1 : srt [a, a] = [a, a] := by rw [srt_two]; split <;> rfl
    rw [e1] at h
    have e2 : initM [a, a] = initM [a] := by
      show putM (putM [] a [a]) a [a] = _
      have e1 : putM [] a [a] = [(a, [a])] := rfl
      rw [e1]
      unfold putM
      rw [chG_any, chG_one, if_pos rfl, if_pos (show (some [a]).isSome = true from rfl)]
      show [if a = a then (a, [a]) else (a, [a])] = _
      rw [if_pos rfl] <;> rfl
    rw [e2] at h
    exact ((MI.one es a).map (T := (· ∈ [a, a])) fun l => by simp).fin (bfs_twice h)
  · rw [srt_two] at h
    by_cases hl : ltL b a = true
    · rw [if_pos hl] at h
      exact ((MI.two es (fun z => e z.symm) hl).map (T := (· ∈ [a, b])) fun l => by simp [or_comm]).fin h
    · rw [if_neg hl] at h
      have hl2 : ltL a b = true := by
        rcases ltL_tri a b with z | z | z
        · exact z
        · exact absurd z e
        · exact absurd z hl
      exact ((MI.two es e hl2).map (T := (· ∈ [a, b])) fun l => by simp).fin h
theorem bfs_least1 {es : List Edge} {a : Lit} {mf : Chains} (h : Bfs es [a] (initM [a]) mf) : MI es (· ∈ [a]) mf [] := (MI.one es a).fin h
end FL
/-! ## Q2b -/
set_option Elab.async false
set_option linter.all false
set_option maxRecDepth 100000
set_option maxHeartbeats 4000000
/-! the least chain from any starts -/
namespace FL
open PySem L2 GxR SrtO
/-- a queue without what was expanded and what comes again -/
inductive Dd : List Lit → List Lit → List Lit → Prop
  | nil (s : List Lit) : Dd s [] []
  | skip {s q q' : List Lit} {l : Lit} : l ∈ s → Dd s q q' → Dd s (l :: q) q'
  | keep {s q q' : List Lit} {l : Lit} : l ∉ s → Dd (l :: s) q q' → Dd s (l :: q) (l :: q')
theorem Dd.self : ∀ (q s : List Lit), q.Nodup → (∀ k ∈ q, k ∉ s) → Dd s q q
  | [], s, _, _ => .nil s
  | l :: q, s, nd, h => .keep (h l List.mem_cons_self) (Dd.self q (l :: s) (List.nodup_cons.mp nd).2 fun k hk z => by
      rcases List.mem_cons.mp z with z | z
      · exact (List.nodup_cons.mp nd).1 (z ▸ hk)
      · exact h k (List.mem_cons_of_mem _ hk) z)
theorem Dd.app {nw : List Lit} (nd : nw.Nodup) {s q q' : List Lit} (h : Dd s q q') : (∀ k ∈ nw, k ∉ s ∧ k ∉ q) → Dd s (q ++ nw) (q' ++ nw) := by
  induction h with
  | nil s => exact fun hn => Dd.self nw s nd fun k hk => (hn k hk).1
  | skip hl _ ih => exact fun hn => .skip hl (ih fun k hk => ⟨(hn k hk).1, fun z => (hn k hk).2 (List.mem_cons_of_mem _ z)⟩)
  | @keep s q q' l hl _ ih => exact fun hn => .keep hl (ih fun k hk => ⟨fun z => by
      rcases List.mem_cons.mp z with z | z
      · exact (hn k hk).2 (by rw [z]; exact List.mem_cons_self)
      · exact (hn k hk).1 z, fun z => (hn k hk).2 (List.mem_cons_of_mem _ z)⟩)
theorem Dd.ex : ∀ (q s : List Lit), ∃ q', Dd s q q' ∧ q'.Nodup ∧ q'.Sublist q ∧ ∀ x, x ∈ q' ↔ x ∈ q ∧ x ∉ s
  | [], s => ⟨[], .nil s, .nil, .slnil, fun x => by simp⟩
  | l :: q, s => by
    by_cases hl : l ∈ s
    · obtain ⟨q', h1, h2, h3, h4⟩ := Dd.ex q s
      refine ⟨q', .skip hl h1, h2, .cons _ h3, fun x => ⟨fun h => ⟨List.mem_cons_of_mem _ ((h4 x).mp h).1, ((h4 x).mp h).2⟩, fun ⟨h, n⟩ => ?_⟩⟩
      rcases List.mem_cons.mp h with h | h
      · exact absurd (h ▸ hl) n
      · exact (h4 x).mpr ⟨h, n⟩
    · obtain ⟨q', h1, h2, h3, h4⟩ := Dd.ex q (l :: s)
      refine ⟨l :: q', .keep hl h1, List.nodup_cons.mpr ⟨fun h => ((h4 l).mp h).2 List.mem_cons_self, h2⟩, .cons_cons _ h3, fun x => ?_⟩
      constructor
      · intro h
        rcases List.mem_cons.mp h with h | h
        · rw [h]; exact ⟨List.mem_cons_self, hl⟩
        · have := (h4 x).mp h
          exact ⟨List.mem_cons_of_mem _ this.1, fun z => this.2 (List.mem_cons_of_mem _ z)⟩
      · rintro ⟨h, n⟩
        by_cases e : x = l
        · rw [e]; exact List.mem_cons_self
        · rcases List.mem_cons.mp h with h | h
          · exact absurd h e
          · exact List.mem_cons_of_mem _ ((h4 x).mpr ⟨h, fun z => by
              rcases List.mem_cons.mp z with z | z
              · exact e z
              · exact n z⟩)
theorem bfs_dd {es : List Edge} {q : List Lit} {m mf : Chains} (h : Bfs es q m mf) : ∀ s q', Dd s q q' → (∀ l ∈ s, (chG m l).isSome = true ∧ ∀ x, (l, x) ∈ es → (chG m x).isSome = true) → (∀ l ∈ q, (chG m l).isSome = true) → Bfs es q' m mf := by
  induction h with
  | done m =>
    intro s q' d _ _
    cases d
    exact .done m
  | @pop l q m mf ch hc hb ih =>
    intro s q' d hs hq
    have eqr := fold_qr ch q (srt (nextE es l)) m []
    rw [List.append_nil] at eqr
    have t0 : Turned m [] ch [] (m, []) := ⟨[], by rw [List.append_nil], .nil, (fun _ z => nomatch z), (fun x => by rw [if_neg (fun z => nomatch z)]), fun _ z => nomatch z⟩
    have t1 := turned_fold (srt (nextE es l)) [] (m, []) (by rw [List.nil_append]; exact srt_srtd _) t0
    rw [List.nil_append] at t1
    have hin : ∀ x, x ∈ srt (nextE es l) ↔ (l, x) ∈ es := fun x => (srt_perm _).mem_iff.trans nextE_mem
    rw [eqr] at ih hb
    have eqr2 : ∀ r : List Lit, (srt (nextE es l)).foldl (visit ch) (m, r) = (((srt (nextE es l)).foldl (visit ch) (m, [])).1, r ++ ((srt (nextE es l)).foldl (visit ch) (m, [])).2) := fun r => by
      have := fold_qr ch r (srt (nextE es l)) m []
      rw [List.append_nil] at this
      exact this
    cases d with
    | skip hl d =>
      have e := fold_no (ch := ch) (s := (m, ([] : List Lit))) (fs := srt (nextE es l)) fun f hf => (hs l hl).2 f ((hin f).mp hf)
      rw [e] at ih
      have := ih s q' (by rw [List.append_nil]; exact d) hs (fun k hk => by rw [List.append_nil] at hk; exact hq k (List.mem_cons_of_mem _ hk))
      exact this
    | @keep _ _ q2 _ hl d =>
      refine .pop hc ?_
      rw [eqr2 q2]
      generalize hS : (srt (nextE es l)).foldl (visit ch) (m, []) = S at t1 ih
      obtain ⟨nw, h1, h2, h3, h4, h5⟩ := t1
      rw [List.nil_append] at h1
      have old : ∀ {x}, (chG m x).isSome = true → (chG S.1 x).isSome = true := fun {x} e => by
        rw [h4 x]
        split
        · rfl
        · exact e
      refine ih (l :: s) (q2 ++ S.2) (d.app (by rw [h1]; exact h2.imp fun z => z.1) fun k hk => ?_) (fun k hk => ?_) (fun k hk => ?_)
      · rw [h1] at hk
        have nk := (h3 k hk).2
        refine ⟨fun z => ?_, fun z => ?_⟩
        · rcases List.mem_cons.mp z with z | z
          · rw [z, hc] at nk; cases nk
          · have := (hs k z).1
            rw [nk] at this; cases this
        · have := hq k (List.mem_cons_of_mem _ z)
          rw [nk] at this; cases this
      · rcases List.mem_cons.mp hk with z | z
        · rw [z]
          refine ⟨old (by rw [hc] <;> rfl), fun x hx => h5 x ((hin x).mpr hx)⟩
        · exact ⟨old (hs k z).1, fun x hx => old ((hs k z).2 x hx)⟩
      · rcases List.mem_append.mp hk with z | z
        · exact old (hq k (List.mem_cons_of_mem _ z))
        · rw [h1] at z
          rw [h4 k, if_pos z] <;> rfl
theorem chG_cons (x : Lit × List Lit) (m : Chains) (l : Lit) : chG (x :: m) l = if x.1 = l then some x.2 else chG m l := by
  unfold chG
  rw [List.find?_cons]
  by_cases h : x.1 = l
  · rw [decide_eq_true h, if_pos h] <;> rfl
  · rw [decide_eq_false h, if_neg h]
theorem chG_put (m : Chains) (l : Lit) (c : List Lit) (x : Lit) : chG (putM m l c) x = if l = x then some c else chG m x := by
  unfold putM
  rw [chG_any]
  by_cases h : (chG m l).isSome = true
  · rw [if_pos h]
    induction m with
    | nil => cases h
    | cons y m ih =>
      rw [List.map_cons, chG_cons]
      by_cases e : y.1 = l
      · rw [if_pos e]
        by_cases e2 : l = x
        · rw [if_pos e2]
          show (if y.1 = x then some c else _) = some c
          rw [if_pos (e.trans e2)]
        · rw [if_neg e2]
          show (if y.1 = x then some c else _) = _
          rw [if_neg (fun z => e2 (e.symm.trans z)), chG_cons, if_neg (fun z => e2 (e.symm.trans z))]
          by_cases h2 : (chG m l).isSome = true
          · rw [ih h2, if_neg e2]
          · have : (m.map fun x => if x.1 = l then (x.1, c) else x) = m := by
              rw [← chG_any] at h2
              have h3 : ∀ z ∈ m, z.1 ≠ l := fun z hz q => h2 (List.any_eq_true.mpr ⟨z, hz, decide_eq_true q⟩)
              have h4 : (m.map fun x => if x.1 = l then (x.1, c) else x) = m.map id := List.map_congr_left fun z hz => if_neg (h3 z hz)
              rw [h4, List.map_id]
            rw [this]
      · rw [if_neg e, chG_cons]
        have h2 : (chG m l).isSome = true := by
          rw [chG_cons, if_neg e] at h
          exact h
        by_cases e2 : y.1 = x
        · rw [if_pos e2, if_neg (fun z => e (e2.trans z.symm)), if_pos e2]
        · rw [if_neg e2, ih h2, if_neg e2]
  · rw [if_neg h, chG_snoc]
    by_cases e : l = x
    · rw [if_pos e, if_pos e]
      have : chG m x = none := by rw [← e]; simpa using h
      rw [this] <;> rfl
    · rw [if_neg e, if_neg e, Option.or_none]
theorem init_chG : ∀ (q : List Lit) (m : Chains) (x : Lit), chG (q.foldl init1 m) x = if x ∈ q then some [x] else chG m x
  | [], m, x => by rw [if_neg (fun z => nomatch z)] <;> rfl
  | l :: q, m, x => by
    rw [List.foldl_cons, init_chG q]
    unfold init1
    rw [chG_put]
    by_cases h : x ∈ q
    · rw [if_pos h, if_pos (List.mem_cons_of_mem _ h)]
    · rw [if_neg h]
      by_cases e : l = x
      · rw [if_pos e, if_pos (by rw [e]; exact List.mem_cons_self), e]
      · rw [if_neg e, if_neg (fun z => by
          rcases List.mem_cons.mp z with z | z
          · exact e z.symm
          · exact h z)]
/-- starts in order, each once -/
theorem MI.many (es : List Edge) {q : List Lit} {m : Chains} (nd : q.Nodup) (st : Srtd ltL q) (ch : ∀ x, chG m x = if x ∈ q then some [x] else none) : MI es (· ∈ q) m q := by
  refine ⟨nd, fun l hl => by rw [ch, if_pos hl] <;> rfl, fun l c h => ?_, fun l c h hl' => ?_, fun s' hs => by rw [ch, if_pos hs], ?_, fun x cx h l hl cl h2 y => ?_⟩
  · rw [ch] at h
    split at h
    · rename_i z
      cases h
      exact .one z
    · cases h
  · rw [ch, if_neg hl'] at h
    cases h
  · have pw : q.Pairwise fun a b => a ≠ b ∧ ltL b a = false := by
      have h1 : q.Pairwise fun a b => a ≠ b := nd
      exact h1.and st
    refine List.Pairwise.imp_of_mem (fun {a b} ha hb z ca cb ea eb => ?_) pw
    rw [ch, if_pos ha] at ea
    rw [ch, if_pos hb] at eb
    cases ea
    cases eb
    refine ltK_app1 [] z.1 ?_
    rcases ltL_tri a b with w | w | w
    · exact w
    · exact absurd w z.1
    · rw [z.2] at w; cases w
  · rw [ch, if_pos hl] at h2
    cases h2
    rw [ch] at h
    split at h
    · cases h
      refine LeK.of_lt ?_
      unfold ltK
      rw [if_neg (by simp)]
      exact decide_eq_true (by simp)
    · cases h
theorem bfs_leastN {es : List Edge} {ls : List Lit} {mf : Chains} (h : Bfs es (srt ls) (initM (srt ls)) mf) : MI es (· ∈ ls) mf [] := by
  obtain ⟨q', d, nd, sl, hm⟩ := Dd.ex (srt ls) []
  have ci : ∀ x, chG (initM (srt ls)) x = if x ∈ srt ls then some [x] else none := fun x => by
    unfold initM
    rw [init_chG] <;> rfl
  have h2 := bfs_dd h [] q' d (fun _ z => nomatch z) (fun l hl => by rw [ci, if_pos hl] <;> rfl)
  have mem : ∀ x, x ∈ q' ↔ x ∈ ls := fun x => (hm x).trans ⟨fun z => (srt_perm ls).mem_iff.mp z.1, fun z => ⟨(srt_perm ls).mem_iff.mpr z, fun w => nomatch w⟩⟩
  have mi : MI es (· ∈ q') (initM (srt ls)) q' := MI.many es nd ((srt_srtd ls).sublist sl) fun x => by
    rw [ci]
    by_cases z : x ∈ q'
    · rw [if_pos z, if_pos ((srt_perm ls).mem_iff.mpr ((mem x).mp z))]
    · rw [if_neg z, if_neg (fun w => z ((mem x).mpr ((srt_perm ls).mem_iff.mp w)))]
  exact (mi.map (T := (· ∈ ls)) mem).fin h2
theorem argBest_least (cs : List (List Lit)) : ∀ k, ∀ j, j ≤ k → LeK (cs.getD (PySem.argBest (btK cs) k) []) (cs.getD j [])
  | 0, j, h => by
    have : j = 0 := by omega
    rw [this]
    exact LeK.refl _
  | k + 1, j, h => by
    have ih := argBest_least cs k
    unfold PySem.argBest
    cases q : btK cs (k + 1) (PySem.argBest (btK cs) k) with
    | true =>
      rw [if_pos rfl]
      by_cases e : j = k + 1
      · rw [e]; exact LeK.refl _
      · exact (LeK.of_lt q).trans (ih j (by omega))
    | false =>
      rw [if_neg (by decide)]
      by_cases e : j = k + 1
      · rw [e]; exact q
      · exact ih j (by omega)
/-- the best of what was found is the least chain -/
theorem found_least {es : List Edge} {ls ms : List Lit} {mf : Chains} {c : List Lit} (h : MI es (· ∈ ls) mf []) (hc : (found mf ms)[PySem.argBest (btK (found mf ms)) ((found mf ms).length - 1)]? = some c) : Least es ls ms c := by
  have mem : ∀ {d}, d ∈ found mf ms → ∃ g ∈ ms, chG mf g = some d := fun {d} hd => List.mem_filterMap.mp hd
  refine ⟨?_, ?_⟩
  · obtain ⟨g, hg, e⟩ := mem (List.mem_of_getElem? hc)
    exact ⟨g, hg, h.pth g c e⟩
  · rintro d ⟨g, hg, p⟩
    obtain ⟨c2, e2, l2⟩ := h.least p
    have hm : c2 ∈ found mf ms := List.mem_filterMap.mpr ⟨g, hg, e2⟩
    obtain ⟨j, hj⟩ := List.getElem?_of_mem hm
    have hjl := (List.getElem?_eq_some_iff.mp hj).1
    have := argBest_least (found mf ms) ((found mf ms).length - 1) j (by omega)
    rw [List.getD_eq_getElem?_getD, List.getD_eq_getElem?_getD, hc, hj] at this
    exact LeK.trans this l2
theorem found_none {es : List Edge} {ls ms : List Lit} {mf : Chains} (h : MI es (· ∈ ls) mf []) (hc : found mf ms = []) : ∀ c, ¬ Least es ls ms c := by
  rintro c ⟨⟨g, hg, p⟩, _⟩
  obtain ⟨c2, e2, _⟩ := h.least p
  have hm : c2 ∈ found mf ms := List.mem_filterMap.mpr ⟨g, hg, e2⟩
  rw [hc] at hm
  cases hm
/-- the least chain from ls to ms, or None -/
def ChainAt (K : PySem.W.Frag) (H : Hp) (es : List Edge) (ls ms : List Lit) (y : V) : Prop := (y = .non ∧ ∀ c, ¬ ∃ g ∈ ms, Pth es (· ∈ ls) c g) ∨
  ∃ ch a bs, y = .ref a ∧ Least es ls ms ch ∧ H a = some (.lst (bs.map V.ref)) ∧ LitsA K H bs ch
theorem found_none2 {es : List Edge} {ls ms : List Lit} {mf : Chains} (h : MI es (· ∈ ls) mf []) (hc : found mf ms = []) : ∀ c, ¬ ∃ g ∈ ms, Pth es (· ∈ ls) c g := by
  rintro c ⟨g, hg, p⟩
  obtain ⟨c2, e2, _⟩ := h.least p
  have hm : c2 ∈ found mf ms := List.mem_filterMap.mpr ⟨g, hg, e2⟩
  rw [hc] at hm
  cases hm
theorem chain_use {K : PySem.W.Frag} {L : Addr} {q : Str} {Ps : List Addr} {H : Hp} {es : List Edge} {ls ms : List Lit} {mf : Chains} {Q : VK} (hB : Bfs es (srt ls) (initM (srt ls)) mf) (k : ∀ y H', Ez L q Ps H H' → ChainAt K H' es ls ms y → Q y H') :
    (found mf ms = [] → ∀ H', Ez L q Ps H H' → Q .non H') ∧ (∀ a bs ch H', (found mf ms)[PySem.argBest (btK (found mf ms)) ((found mf ms).length - 1)]? = some ch → Ez L q Ps H H' → H' a = some (.lst (bs.map V.ref)) → LitsA K H' bs ch → Q (.ref a) H') :=
  ⟨fun e H' z => k .non H' z (.inl ⟨rfl, found_none2 (bfs_leastN hB) e⟩), fun a bs ch H' hc z e hl => k _ H' z (.inr ⟨ch, a, bs, rfl, found_least (bfs_leastN hB) hc, e, hl⟩)⟩
end FL
/-! ## M8b -/
set_option Elab.async false
set_option linter.all false
set_option maxRecDepth 100000
set_option maxHeartbeats 4000000
/-! contradiction, of every grammar -/
namespace FL
open PySem L2 GxR SrtO
theorem gets_chain {cs : List Cl} {ls ms : List Lit} : Gets cs ls ms ↔ ∃ c, ∃ g ∈ ms, Pth (edges cs) (· ∈ ls) c g := by
  have f1 : ∀ {c : List Lit} {l : Lit}, Pth (edges cs) (· ∈ ls) c l → Reach (edges cs) (· ∈ ls) l := fun {c l} h => by
    induction h with
    | one s => exact .base s
    | snoc _ e ih => exact .step ih e
  have f2 : ∀ {l : Lit}, Reach (edges cs) (· ∈ ls) l → ∃ c, Pth (edges cs) (· ∈ ls) c l := fun {l} h => by
    induction h with
    | base s => exact ⟨_, .one s⟩
    | step _ e ih =>
      obtain ⟨c, h⟩ := ih
      exact ⟨_, .snoc h e⟩
  exact ⟨fun ⟨g, hg, h⟩ => let ⟨c, hc⟩ := f2 h; ⟨c, g, hg, hc⟩, fun ⟨c, g, hg, h⟩ => ⟨g, hg, f1 h⟩⟩
section
variable {P : Program} {w : World} {K : PySem.W.Frag} {mg : Str → Option Value} {base : Heap}
def spRefutG (K : PySem.W.Frag) (L : Addr) (Ps : List Addr) : Sp := fun vs H Q _ => ∃ (v : V) (p : Addr) (l : Lit) (cs : List Cl), vs = [v, .ref p] ∧ Dt K H v (.tuple (cs.map Cl.d)) ∧ cs.length ≤ 60 ∧ SqT K H p (litV l) ∧ Tz L qMin Ps H ∧
  ∀ y H', Ez L qMin Ps H H' → ChainAt K H' (edges cs) [l] [neg l] y → Q y H'
/-- what contradiction answers: the chains of the first option that has both -/
def ContraAt (K : PySem.W.Frag) (H : Hp) (g : Gr) (y : V) : Prop := (y = .non ∧ ∀ n ∈ g.names, ¬ Both g.cls n) ∨
  ∃ (i : Nat) (n : Str) (t a b : Addr) (ba bb : List Addr) (c1 c2 : List Lit), y = .ref t ∧ g.names[i]? = some n ∧ (∀ m ∈ g.names.take i, ¬ Both g.cls m) ∧ Both g.cls n ∧ SqT K H t [.ref a, .ref b] ∧
    Least (edges g.cls) [(n, false)] [(n, true)] c1 ∧ H a = some (.lst (ba.map V.ref)) ∧ LitsA K H ba c1 ∧ Least (edges g.cls) [(n, true)] [(n, false)] c2 ∧ H b = some (.lst (bb.map V.ref)) ∧ LitsA K H bb c2
def spContraG (K : PySem.W.Frag) (L : Addr) (Ps : List Addr) : Sp := fun vs H Q _ => ∃ (v : V) (g : Gr), vs = [v] ∧ Dt K H v g.d ∧ GrOk g ∧ Tz L qMin Ps H ∧ ∀ y H', Ez L qMin Ps H H' → ContraAt K H' g y → Q y H'
/-- check_satisfiable: raises where some option has both chains -/
def spSatX (K : PySem.W.Frag) (L : Addr) (Ps : List Addr) (CU : Addr) : Sp := fun vs H Q E => ∃ (v : V) (g : Gr), vs = [v] ∧ Dt K H v g.d ∧ GrOk g ∧ Tz L qMin Ps H ∧
  ((∀ n ∈ g.names, ¬ Both g.cls n) → ∀ H', Ez L qMin Ps H H' → Q .non H') ∧ ((∃ n ∈ g.names, Both g.cls n) → ∀ H', Ez L qMin Ps H H' → E (.ref CU) none H')
end
end FL
/-! ## U0 -/
set_option Elab.async false
set_option linter.all false
set_option maxRecDepth 100000
set_option maxHeartbeats 4000000
namespace FL
open PySem L2 GxR SrtO
section
variable {P : Program} {w : World} {K : PySem.W.Frag} {mg : Str → Option Value} {base : Heap}
/-- a promise that nothing is raised -/
theorem FnOk.calm {k : Nat} {f : Addr} {fd : FuncData} {ps : List Str} {sp : Sp} (F : FnOk P w K mg base (L2.CX P w) k f fd ps sp) : FnOk P w K mg base CX0 k f fd ps (fun vs H Q _ => sp vs H Q E0) := by
  refine ⟨fun vs H Q E h => F.len vs H Q E0 h, fun A outer s H args us vs Q E hr e0 hb hv h => ?_⟩
  refine codeAny_mono (F.run A outer s H args us vs Q E0 hr e0 hb hv h) fun r s' hq => ?_
  cases r with
  | error e =>
    obtain ⟨_, _, _, _, _, _, _, _, _, _, _, _, z⟩ := hq
    exact z.elim
  | ok fl => cases fl <;> exact hq
theorem Ok.calm {k : Nat} {x : Str} {ps : List Str} {sp : Sp} (O : Ok P w K mg base (L2.CX P w) k x ps sp) : Ok P w K mg base CX0 k x ps (fun vs H Q _ => sp vs H Q E0) := by
  obtain ⟨f, fd, F, m, kp, b⟩ := O
  exact ⟨f, fd, FnOk.calm F, m, kp, b⟩
theorem Ok.imp {CX : CXT} {k : Nat} {x : Str} {ps : List Str} {sp sp' : Sp} (O : Ok P w K mg base CX k x ps sp) (h : ∀ vs H Q E, sp' vs H Q E → sp vs H Q E) : Ok P w K mg base CX k x ps sp' := by
  obtain ⟨f, fd, F, m, kp, b⟩ := O
  exact ⟨f, fd, F.imp h, m, kp, b⟩
theorem tSeqAsg {te : TE} {g : TG} {u : L2.TS} {D : Ends} {σ : L2.St} {H : Hp} : tSeq (tAsg te g) u D σ H = te σ H fun x H1 => g x σ H1 (u D) := rfl
theorem gAsg {x : V} {i : Nat} {σ : L2.St} {H : Hp} {k : L2.St → Hp → Prop} (h : k (σ.set i (some x)) H) : gName i x σ H k := h
/-- what follows a statement is shown once for all its ways -/
theorem ts_join {tb : L2.TS} {D : Ends} {σ : L2.St} {H : Hp} (R : L2.St → Hp → Prop) (h : ∀ nx', (∀ σ' H', R σ' H' → nx' σ' H') → tb { D with nx := nx' } σ H) (k : ∀ σ' H', R σ' H' → D.nx σ' H') : tb D σ H := h D.nx k
theorem seq_join {t u : L2.TS} {D : Ends} {σ : L2.St} {H : Hp} (R : L2.St → Hp → Prop) (h : ∀ nx', (∀ σ' H', R σ' H' → nx' σ' H') → t { D with nx := nx' } σ H) (k : ∀ σ' H', R σ' H' → u D σ' H') : tSeq t u D σ H := h (u D) k
/-- what follows a value -/
theorem te_join {te : TE} {σ : L2.St} {H : Hp} {Q : VK} (R : V → Hp → Prop) (h : ∀ Q', (∀ x H', R x H' → Q' x H') → te σ H Q') (k : ∀ x H', R x H' → Q x H') : te σ H Q := h Q k
end
end FL
/-! ## VX3 -/
set_option Elab.async false
set_option linter.all false
set_option maxRecDepth 100000
set_option maxHeartbeats 4000000
/-! values: what a text represents, and how a value is written -/
namespace FL
open PySem L2 GxR NumText
def valW : Kd → Str → Option V
  | .non, _ => none
  | .word, t => some (.str t)
  | .int lo hi, t => match intL t.cps.toList with
    | some n => if lo ≤ n ∧ n ≤ hi then some (.int n) else none
    | none => none
  | .choice ws, t => match matchW t ws with
    | [w] => some (.str w)
    | _ => none
def optV : Option V → V
  | none => .non
  | some v => v
section
variable {P : Program} {w : World} {K : PySem.W.Frag} {mg : Str → Option Value} {base : Heap}
theorem dt_int {H : Hp} {v : V} {lo hi : Int} (h : Dt K H v (Kd.int lo hi).d) : ∃ p, v = .ref p ∧ SqT K H p [.str "int", .int lo, .int hi] := by
  cases h with
  | @tup p xs ds hs hp =>
    obtain rfl := Dts.kint hp
    exact ⟨p, rfl, hs⟩
theorem dt_word {H : Hp} {v : V} (h : Dt K H v Kd.word.d) : ∃ p, v = .ref p ∧ SqT K H p [.str "word"] := by
  cases h with
  | @tup p xs ds hs hp =>
    cases hp with
    | cons a b =>
      cases a
      cases b
      exact ⟨p, rfl, hs⟩
theorem dt_choice {H : Hp} {v : V} {ws : List Str} (h : Dt K H v (Kd.choice ws).d) : ∃ p q, v = .ref p ∧ SqT K H p [.str "choice", .ref q] ∧ SqT K H q (ws.map V.str) := by
  cases h with
  | @tup p xs ds hs hp =>
    obtain ⟨v, rfl, hv⟩ := Dts.kchoice hp
    cases hv with
    | @tup q xs ds hq hp =>
      obtain rfl := Dts.unstr hp
      exact ⟨p, q, rfl, hs, hq⟩
theorem numI (o : Option Int) (lo hi : Int) : numB (match o with | none => .none | some n => .int n) lo hi = match o with | none => false | some n => decide (lo ≤ n) && decide (n ≤ hi) := by
  cases o <;> rfl
def spRepr (K : PySem.W.Frag) (Ps : List Addr) : Sp := fun vs H Q _ => ∃ (v : V) (kd : Kd) (t : Str), vs = [v, .str t] ∧ Dt K H v kd.d ∧ KdOk kd ∧ kd ≠ .non ∧ t.length ≤ 1000 ∧ Tb Ps H ∧ ∀ H', Ex Ps H H' → Q (optV (valW kd t)) H'
/-- what a token represents, of what is handed in -/
def resV (kd : Kd) : V → Option V
  | .str z => if tokB (.str z) = true then valW kd z else none
  | _ => none
theorem tokB_str {v : V} (h : tokB v = true) : ∃ z, v = .str z ∧ z.length ≤ 200 := by
  cases v with
  | str z =>
    unfold tokB at h
    rw [Bool.and_eq_true, decide_eq_true_iff] at h
    exact ⟨z, rfl, h.1⟩
  | _ => cases h
def spParseV (K : PySem.W.Frag) (Ps : List Addr) (CV : Addr) : Sp := fun vs H Q E => ∃ (v tv : V) (kd : Kd), vs = [v, tv] ∧ Dt K H v kd.d ∧ KdOk kd ∧ kd ≠ .non ∧ LineIn K H tv ∧ Tb Ps H ∧
  (resV kd tv = none → ∀ H', Ex Ps H H' → E (.ref CV) none H') ∧ (∀ y, resV kd tv = some y → ∀ H', Ex Ps H H' → Q y H')
theorem LineIn.ex {Ps : List Addr} {H H' : Hp} {v : V} (t : Tb Ps H) (x : Ex Ps H H') (h : LineIn K H v) : LineIn K H' v := by
  rcases h with h | h | h | h | ⟨a, xs, e, q⟩
  · exact .inl h
  · exact .inr (.inl h)
  · exact .inr (.inr (.inl h))
  · exact .inr (.inr (.inr (.inl h)))
  · exact .inr (.inr (.inr (.inr ⟨a, xs, e, x.sqL t q⟩)))
theorem valW_some {kd : Kd} {z : Str} {y : V} (h : valW kd z = some y) : y ≠ .non := by
  cases kd with
  | non => cases h
  | word =>
    cases h
    exact fun e => nomatch e
  | int lo hi =>
    have h : (match intL z.cps.toList with
      | some n => if lo ≤ n ∧ n ≤ hi then some (V.int n) else none
      | none => none) = some y := h
    split at h
    · split at h
      · cases h
        exact fun e => nomatch e
      · cases h
    · cases h
  | choice ws =>
    have h : (match matchW z ws with
      | [w] => some (V.str w)
      | _ => none) = some y := h
    split at h
    · cases h
      exact fun e => nomatch e
    · cases h
/-- a value of an option of a kind -/
def ValOk : Kd → V → Prop
  | .int lo hi, .int n => lo ≤ n ∧ n ≤ hi
  | .choice ws, .str s => s ∈ ws
  | .word, .str s => tokB (.str s) = true
  | .non, .bl b => b = true
  | _, _ => False
def spIsVal (K : PySem.W.Frag) (Ps : List Addr) : Sp := fun vs H Q _ => ∃ (v y : V) (kd : Kd), vs = [v, y] ∧ Dt K H v kd.d ∧ KdOk kd ∧ ValOk kd y ∧ Tb Ps H ∧ ∀ H', Ex Ps H H' → Q (.bl true) H'
/-- how a value is written -/
def txtV : V → Str
  | .int n => Str.ofString (toString n)
  | .str s => s
  | _ => ""
theorem call_or {X : Cx} {f : Value} {r1 r2 : List V → Hp → VK → Prop} (a : CallR X f r1) (b : CallR X f r2) : CallR X f (fun xs H Q => r1 xs H Q ∨ r2 xs H Q) := fun pins s σ H xs us Q I r h => h.elim (a pins s σ H xs us Q I r) (b pins s σ H xs us Q I r)
theorem call_str_is {X : Cx} : CallR X (.type "str") (fun xs H Q => (∃ i : Int, xs = [.int i] ∧ i.natAbs.log2 < 1920 ∧ Q (.str (Str.ofString (toString i))) H) ∨ ∃ a, xs = [.str a] ∧ Q (.str a) H) := call_or call_str_int SkE.call_str_str
theorem log_small {n : Int} (h : n.natAbs ≤ 10000) : n.natAbs.log2 < 1920 := by
  have := Nat.log2_le_self n.natAbs
  by_cases h2 : n.natAbs < 1920
  · omega
  · have h3 : n.natAbs.log2 < 14 := by
      rw [Nat.log2_lt (by omega)]
      omega
    omega
def spFmt (K : PySem.W.Frag) (Ps : List Addr) : Sp := fun vs H Q _ => ∃ (v y : V) (kd : Kd), vs = [v, y] ∧ Dt K H v kd.d ∧ KdOk kd ∧ kd ≠ .non ∧ ValOk kd y ∧ Tb Ps H ∧ ∀ H', Ex Ps H H' → Q (.str (txtV y)) H'
end
end FL
/-! ## Z1 -/
set_option Elab.async false
set_option linter.all false
set_option maxRecDepth 100000
set_option maxHeartbeats 4000000
/-! the script, locked through the law's run -/
namespace FL
open PySem L2 GxR
def spLaw (K : PySem.W.Frag) (Ps : List Addr) : Sp := fun vs H Q _ => ∃ (a : Addr) (ns : List Int), vs = [.ref a] ∧ SqL K H a (ns.map V.int) ∧ ns.length ≤ 63 ∧ (∀ P ∈ Ps, H P = some (.tbl #[])) ∧ ∀ H', Q (.bl true) H'
def spLawF (K : PySem.W.Frag) (Ps : List Addr) : Sp := fun vs H Q _ => ∃ (a : Addr) (ns : List Int), vs = [.ref a] ∧ SqF K H a (ns.map V.int) ∧ ns.length ≤ 63 ∧ (∀ P ∈ Ps, H P = some (.tbl #[])) ∧ ∀ H', Q (.bl true) H'
theorem freeze {P : Program} {w : World} {K : PySem.W.Frag} {mg : Str → Option Value} {base : Heap} {k : Nat} {f : Addr} {fd : FuncData} {ps : List Str} {Ps : List Addr} (hl : ps.length = 1) (F : FnOk P w K mg base CX0 k f fd ps (spLawF K Ps)) : FnOk P w K mg base CX0 k f fd ps (spLaw K Ps) := by
  refine ⟨fun vs H Q E h => ?_, fun A outer s H args us vs Q E hr e0 hb hv h => ?_⟩
  · obtain ⟨a, ns, rfl, _⟩ := h
    exact hl.symm
  · obtain ⟨a, ns, rfl, hs, hn, hT, q⟩ := h
    rcases hs with (hs | ⟨o, hs⟩) | hs
    · obtain ⟨hz, its, n, rv, ho⟩ := e0.hok a _ hs
      generalize hob : ({ cls := .type "list", data := .seq its.toArray n } : Obj) = ob at ho
      have ne : ∀ {b : Addr} {u : HO}, H b = some u → (∀ xs, u ≠ .lst xs) → b ≠ a := fun {b u} e nu z => by
        rw [z, hs] at e
        exact nu _ (Option.some.inj e).symm
      have nn : ∀ {b : Addr}, H b = none → b ≠ a := fun {b} e z => by rw [z, hs] at e; cases e
      have e1 : Env0 P w K mg base A outer s (upd H a (.frz ob (.lst (ns.map V.int)))) := by
        refine ⟨e0.frames, e0.mod, fun b o e => ⟨(e0.bs b o e).1, by rw [upd_ne (nn (e0.bs b o e).2)]; exact (e0.bs b o e).2⟩, e0.bsz, e0.funs, fun b hb => by rw [upd_ne (nn (e0.frf b hb))]; exact e0.frf b hb, fun b u e => ?_, e0.bare⟩
        by_cases z : b = a
        · rw [z, upd_same] at e
          cases e
          rw [z]
          exact ⟨ho, hz, its, n, rv, by rw [ho, ← hob]⟩
        · rw [upd_ne z] at e
          exact (e0.hok b u e).stay (fun c v _ q => q) (fun c q => by rw [upd_ne (ne q (fun _ z => by cases z))]; exact q) fun c xs q => by rw [upd_ne (ne q (fun _ z => by cases z))]; exact q
      refine codeAny_mono (F.run A outer s _ args us [.ref a] Q E hr e1 hb hv ⟨a, ns, rfl, .inl ⟨ob, upd_same⟩, hn, fun P hP => by rw [upd_ne (ne (hT P hP) (fun _ z => by cases z))]; exact hT P hP, q⟩) fun r s' hq => ?_
      cases r with
      | error e => exact hq
      | ok fl =>
        cases fl with
        | ret u =>
          obtain ⟨v, H', os, bare, un, hok, rv', hQ⟩ := hq
          have nn2 : ∀ {b : Addr}, H b = none → upd H a (.frz ob (.lst (ns.map V.int))) b = none := fun {b} e => by rw [upd_ne (nn e)]; exact e
          refine ⟨v, H', os, bare, ⟨fun b o e n => un.keep b o e (nn2 n), fun b o e n => un.slot b o e (nn2 n), fun b o e n => un.free b o e (nn2 n), un.there, fun b xs e => un.tups b xs ?_, fun b o u e => un.frzs b o u ?_, fun b ps e => un.tbls b ps ?_⟩, hok, rv', hQ⟩
          · rw [upd_ne (ne e (fun _ z => by cases z))]; exact e
          · rw [upd_ne (ne e (fun _ z => by cases z))]; exact e
          · rw [upd_ne (ne e (fun _ z => by cases z))]; exact e
        | next => exact hq
        | brk => exact hq
        | cont => exact hq
    · exact F.run A outer s H args us _ Q E hr e0 hb hv ⟨a, ns, rfl, .inl ⟨o, hs⟩, hn, hT, q⟩
    · exact F.run A outer s H args us _ Q E hr e0 hb hv ⟨a, ns, rfl, .inr fun _ => .inr hs, hn, hT, q⟩
end FL
/-! ## L11 -/
set_option Elab.async false
set_option linter.all false
set_option maxRecDepth 100000
set_option maxHeartbeats 4000000
/-! {k: v} of one literal; xs != [] -/
namespace FL
open PySem L2 PySem.Spec PyProof.Rows SeqAt
variable {X : Cx}
def rNeEmp (K : PySem.W.Frag) : R2 := fun x y H Q => ∃ a b xs, x = .ref a ∧ y = .ref b ∧ SqL K H a xs ∧ SqL K H b [] ∧ Q (.bl (!xs.isEmpty)) H
theorem op_neEmp (hu : X.A.units + 64 < cLine) : OpR X (compareOp .NotEq) (rNeEmp X.K) := by
  intro pins s σ H x y v u Q I rx ry h
  obtain ⟨a, b, xs, rfl, rfl, ha, hb, q⟩ := h
  obtain rfl : v = Value.ref a := rx
  obtain rfl : u = Value.ref b := ry
  obtain ⟨its, r, pl, _⟩ := I.list ha
  obtain ⟨its2, r2, pl2, _⟩ := I.list hb
  cases r2
  have lx : its.length = xs.length := r.length.symm
  change wpAny _ _ (richCompare .NotEq (.ref a) (.ref b)) _ _ _
  cases xs with
  | nil =>
    cases r
    exact RcNeAt.lists (e := fun _ => true) pl.isList pl2.isList rfl (by omega) (fun j h1 _ => absurd h1 (Nat.not_lt_zero _)) _ _ _ _ ⟨.bl false, H, I, rfl, q⟩
  | cons x xs =>
    refine RcNeAt.lists_lengths pl.isList pl2.isList ?_ (by omega) _ _ _ _ ⟨.bl true, H, I, rfl, q⟩
    rw [List.length_cons] at lx
    rw [bne_iff_ne, List.size_toArray, lx]
    exact Nat.succ_ne_zero _
def tLDisp (P : Program) (w : World) (K : PySem.W.Frag) (tk tv : TE) : TE := fun σ H Q => ∀ p H', H p = none → H' p = some (LdO P w p []) → (∀ b, b ≠ p → H' b = H b) → tPairs [(tk, tv)] σ H' fun ps H2 =>
  ∃ y v b l, ps = [(y, v)] ∧ y = .ref b ∧ Ld P w K H2 p [] ∧ SqT K H2 b (litV l) ∧ ∀ H3, LdPut P w K H2 p [] l v H3 → Q (.ref p) H3
theorem pe_ldisp {k v : Expr} {pos : Pos} {tk tv : TE} (hu : X.A.units + 64 < cLine) (hk : PE X k tk) (hv : PE X v tv) : PE X (.Dict [some k] [v] pos) (tLDisp X.prog X.w X.K tk tv) := by
  refine ⟨fun pins s σ H Q I q => ?_⟩
  have I1 := I.laid (a := s.heap.objs.size) (o := LdO X.prog X.w s.heap.objs.size []) (h' := s.heap.push { cls := .type "dict", data := .dict #[] }) (t' := s.toks) (fun _ _ q => Heap.get?_push_of_some _ q) (Nat.le_refl _) (ld_empty s.heap I.big)
  have P1 : PPs X pos [some k] [v] [(tk, tv)] := pps_cons hk hv pps_nil
  have q1 := q _ _ (I.hok.fresh (Nat.le_refl _)) (upd_same (o := LdO X.prog X.w s.heap.objs.size [])) fun b hb => upd_ne hb
  rw [arm_eval_Dict, zip_pairTrees [some k] [v] X.env pos rfl rfl, dictDisplay_pairs _ (fun z => by have := congrArg List.length z; rw [pairTrees_length [some k] [v] X.env pos rfl rfl] at this; cases this) (by rw [pairTrees_length [some k] [v] X.env pos rfl rfl]; first | (show 1 < 17; decide) | (show 1 ≤ 15; decide))]
  refine wpAny_bind (wpAny_standAt (wpAny_bind (wpAny_subDictH (knd := LKind X.prog X.w) (by show X.A.units < cLine; omega) (by rw [pairTrees_length [some k] [v] X.env pos rfl rfl]; first | (show 1 < 17; decide) | (show 1 ≤ 15; decide)) (thn (P1.run pins _ σ _ _ I1 q1) fun ws s2 ⟨ps, H2, I2, rel, y, z, b, l, ep, ey, d, hb, fin⟩ => ?_))))
  · subst ep
    subst ey
    cases rel with
    | @cons p1 p2 _ _ h t =>
      cases t
      obtain ⟨u, r⟩ := p2
      obtain ⟨h1, h2⟩ := h
      obtain rfl : u = Value.ref b := h1
      obtain ⟨xs, rr, dd, hd, hz⟩ := ld_at I2 d
      cases rr
      refine ⟨[(lk l, b, r)], ⟨rfl, rfl, lit_key I2 hb, trivial⟩, dd, fun h' tk' dd' sb => wpAny_pure ?_⟩
      obtain ⟨H3, hp, I3⟩ := ld_put (t' := tk') I2 d .nil (by show 0 < sizeLine; decide) hd hb h2 sb dd'
      exact ⟨.ref s.heap.objs.size, H3, I3, rfl, fin H3 hp⟩
theorem at_nat {α : Type} {xs : List α} {i : Nat} {v : α} (h : xs[i]? = some v) : atI xs (0 + (i : Int)) = some v := by
  have hi := (List.getElem?_eq_some_iff.mp h).1
  unfold atI ixN
  rw [if_pos (by omega), if_pos (by omega)]
  show xs[(0 + (i : Int)).toNat]? = _
  rw [show (0 + (i : Int)).toNat = i by omega]
  exact h
end FL
/-! ## L14 -/
set_option Elab.async false
set_option linter.all false
set_option maxRecDepth 100000
set_option maxHeartbeats 4000000
/-! rules with the written part by name -/
namespace FL
open PySem L2 GxR SrtO
def rEqEmp (K : PySem.W.Frag) : R2 := fun x y H Q => ∃ a b xs, x = .ref a ∧ y = .ref b ∧ SqL K H a xs ∧ SqL K H b [] ∧ Q (.bl xs.isEmpty) H
theorem op_eqEmp {X : Cx} (hu : X.A.units + 64 < cLine) : OpR X (compareOp .Eq) (rEqEmp X.K) := by
  intro pins s σ H x y v u Q I rx ry h
  obtain ⟨a, b, xs, rfl, rfl, ha, hb, q⟩ := h
  obtain rfl : v = Value.ref a := rx
  obtain rfl : u = Value.ref b := ry
  obtain ⟨its, r, pl, _⟩ := I.list ha
  obtain ⟨its2, r2, pl2, _⟩ := I.list hb
  cases r2
  have lx : its.length = xs.length := r.length.symm
  change wpAny _ _ (richCompare .Eq (.ref a) (.ref b)) _ _ _
  cases xs with
  | nil =>
    cases r
    exact SeqAt.RcAt.lists (e := fun _ => true) pl.isList pl2.isList rfl (by omega) (fun j h1 _ => absurd h1 (Nat.not_lt_zero _)) _ _ _ _ ⟨.bl true, H, I, rfl, q⟩
  | cons x xs =>
    refine SeqAt.RcAt.lists_lengths pl.isList pl2.isList ?_ (by omega) _ _ _ _ ⟨.bl false, H, I, rfl, q⟩
    rw [List.length_cons] at lx
    rw [bne_iff_ne, List.size_toArray, lx]
    exact Nat.succ_ne_zero _
theorem pi_listK {X : Cx} {K : PySem.W.Frag} (hK : X.K = K) {tg l : Expr} {tl : TE} (hl : PE X l tl) : PI X tg l (iList K tl) := hK ▸ pi_list hl
theorem op_in_seqK {X : Cx} {K : PySem.W.Frag} (hK : X.K = K) : OpR X (compareOp .In) (rIn K false) := hK ▸ op_in_seq
theorem op_notIn_seqK {X : Cx} {K : PySem.W.Frag} (hK : X.K = K) : OpR X (compareOp .NotIn) (rIn K true) := hK ▸ op_notIn_seq
theorem op_eqEmpK {X : Cx} {K : PySem.W.Frag} (hK : X.K = K) (hu : X.A.units + 64 < cLine) : OpR X (compareOp .Eq) (rEqEmp K) := hK ▸ op_eqEmp hu
theorem op_neEmpK {X : Cx} {K : PySem.W.Frag} (hK : X.K = K) (hu : X.A.units + 64 < cLine) : OpR X (compareOp .NotEq) (rNeEmp K) := hK ▸ op_neEmp hu
end FL
/-! ## P12d -/
set_option Elab.async false
set_option linter.all false
set_option maxRecDepth 100000
set_option maxHeartbeats 4000000
namespace FL
open PySem L2 GxR SrtO
theorem Bfs.det {es : List Edge} : ∀ {q : List Lit} {m a b : Chains}, Bfs es q m a → Bfs es q m b → a = b := by
  intro q m a b h
  induction h with
  | done m => 
    intro h2
    cases h2
    rfl
  | pop hc _ ih =>
    intro h2
    cases h2 with
    | pop hc2 h2 =>
      rw [hc] at hc2
      cases Option.some.inj hc2
      exact ih h2
theorem init_one (l : Lit) : srt [l] = [l] := rfl
theorem ix_seqK {X : Cx} {K : PySem.W.Frag} (eK : X.K = K) : IxR X (rIx K) := by
  subst eK
  exact ix_seq
section
variable {P : Program} {w : World} {K : PySem.W.Frag} {mg : Str → Option Value} {base : Heap}
theorem dpLen {H : Hp} : ∀ {vs : List V} {ds : List PyData}, DpAll K H vs ds → vs.length = ds.length
  | _, _, .nil => rfl
  | _, _, .cons _ t => congrArg (· + 1) (dpLen t)
theorem dpAt {H : Hp} : ∀ {vs : List V} {ds : List PyData} {i : Nat}, DpAll K H vs ds → i < ds.length → ∃ v d, vs[i]? = some v ∧ ds[i]? = some d ∧ Dp K H v d
  | _, _, _, .nil, h => absurd h (Nat.not_lt_zero _)
  | _, _, 0, .cons a _, _ => ⟨_, _, rfl, rfl, a⟩
  | _, _, i + 1, .cons _ t, h => dpAt (i := i) t (Nat.lt_of_succ_lt_succ h)
mutual
theorem dpSame {H H' : Hp} (s : Same H H') : ∀ {v : V} {d : PyData}, Dp K H v d → Dp K H' v d
  | _, _, .non => .non
  | _, _, .bl b => .bl b
  | _, _, .int i => .int i
  | _, _, .str x => .str x
  | _, _, .lst q r => .lst (sqL_same s q) (dpsSame s r)
  | _, _, .tup q r => .tup (TS.same s _ _ q) (dpsSame s r)
theorem dpsSame {H H' : Hp} (s : Same H H') : ∀ {vs : List V} {ds : List PyData}, DpAll K H vs ds → DpAll K H' vs ds
  | _, _, .nil => .nil
  | _, _, .cons a t => .cons (dpSame s a) (dpsSame s t)
end
/-- data of lists and tuples, not deeper than n -/
def flatN : Nat → PyData → Prop
  | _, .none => True
  | _, .bool _ => True
  | _, .int _ => True
  | _, .str _ => True
  | 0, _ => False
  | n + 1, .list ds => ds.length ≤ 1000 ∧ ∀ d ∈ ds, flatN n d
  | n + 1, .tuple ds => ds.length ≤ 1000 ∧ ∀ d ∈ ds, flatN n d
  | _, .dict _ => False
end
end FL
/-! ## N8a -/
set_option Elab.async false
set_option linter.all false
set_option maxRecDepth 100000
set_option maxHeartbeats 4000000
namespace FL
open PySem L2 GxR SrtO
section
variable {P : Program} {w : World} {K : PySem.W.Frag} {mg : Str → Option Value} {base : Heap}
mutual
theorem dt_dp {H : Hp} : ∀ {v : V} {d : PyData}, Dt K H v d → Dp K H v d
  | _, _, .non => .non
  | _, _, .bl b => .bl b
  | _, _, .int i => .int i
  | _, _, .str x => .str x
  | _, _, .tup s p => .tup s (dts_dp p)
theorem dts_dp {H : Hp} : ∀ {vs : List V} {ds : List PyData}, Paired (Dt K H) vs ds → DpAll K H vs ds
  | _, _, .nil => .nil
  | _, _, .cons a t => .cons (dt_dp a) (dts_dp t)
end
theorem flat_strsN (n : Nat) : ∀ ws : List Str, ∀ d ∈ ws.map PyData.str, flatN n d := fun ws d hd => by
  obtain ⟨x, _, rfl⟩ := List.mem_map.mp hd
  cases n <;> trivial
theorem flat_kd {k : Kd} (h : KdOk k) (n : Nat) : flatN (n + 2) k.d := by
  cases k with
  | non => trivial
  | word => exact ⟨by show 1 ≤ 1000; decide, fun d hd => by rw [List.mem_singleton.mp hd]; trivial⟩
  | int lo hi => exact ⟨by show 3 ≤ 1000; decide, fun d hd => by
      rcases List.mem_cons.mp hd with rfl | hd
      · trivial
      · rcases List.mem_cons.mp hd with rfl | hd
        · trivial
        · rw [List.mem_singleton.mp hd]; trivial⟩
  | choice ws => exact ⟨by show 2 ≤ 1000; decide, fun d hd => by
      rcases List.mem_cons.mp hd with rfl | hd
      · trivial
      · rw [List.mem_singleton.mp hd]
        refine ⟨?_, flat_strsN n ws⟩
        rw [List.length_map]
        have := h.2.1
        omega⟩
theorem flat_opts {os : List Opt} (h12 : os.length ≤ 12) (hk : ∀ o ∈ os, KdOk o.kind) (n : Nat) : flatN (n + 4) (.tuple (os.map Opt.d)) := by
  refine ⟨by rw [List.length_map]; omega, fun d hd => ?_⟩
  obtain ⟨o, ho, rfl⟩ := List.mem_map.mp hd
  refine ⟨by show 3 ≤ 1000; decide, fun d hd => ?_⟩
  rcases List.mem_cons.mp hd with rfl | hd
  · trivial
  · rcases List.mem_cons.mp hd with rfl | hd
    · trivial
    · rw [List.mem_singleton.mp hd]
      exact flat_kd (hk o ho) n
theorem flat_cls (cs : List Cl) (h : cs.length ≤ 60) (n : Nat) : flatN (n + 2) (.tuple (cs.map Cl.d)) := by
  refine ⟨by rw [List.length_map]; omega, fun d hd => ?_⟩
  obtain ⟨c, _, rfl⟩ := List.mem_map.mp hd
  refine ⟨by show 3 ≤ 1000; decide, fun d hd => ?_⟩
  rcases List.mem_cons.mp hd with rfl | hd
  · cases n <;> trivial
  · rcases List.mem_cons.mp hd with rfl | hd
    · cases n <;> trivial
    · rw [List.mem_singleton.mp hd]
      cases n <;> trivial
theorem flat_gr {g : Gr} (h12 : g.opts.length ≤ 12) (hk : ∀ o ∈ g.opts, KdOk o.kind) (h : g.cls.length ≤ 60) : flatN 6 g.d := by
  refine ⟨by show 3 ≤ 1000; decide, fun d hd => ?_⟩
  rcases List.mem_cons.mp hd with rfl | hd
  · exact flat_opts h12 hk 1
  · rcases List.mem_cons.mp hd with rfl | hd
    · refine ⟨by show 2 ≤ 1000; decide, fun d hd => ?_⟩
      rcases List.mem_cons.mp hd with rfl | hd
      · trivial
      · rw [List.mem_singleton.mp hd]; trivial
    · rw [List.mem_singleton.mp hd]
      exact flat_cls g.cls h 3
end
end FL
/-! ## M14a -/
set_option Elab.async false
set_option linter.all false
set_option maxRecDepth 100000
set_option maxHeartbeats 4000000
/-! sets as data -/
namespace FL
open PySem L2 GxR SrtO
theorem eqv_txts : ∀ {xs ys : List Str}, PyData.eqvAll (xs.map PyData.str) (ys.map PyData.str) = true → xs = ys
  | [], [], _ => rfl
  | [], _ :: _, h => by simp [PyData.eqvAll] at h
  | _ :: _, [], h => by simp [PyData.eqvAll] at h
  | x :: xs, y :: ys, h => by
    rw [List.map_cons, List.map_cons, PyData.eqvAll, Bool.and_eq_true] at h
    have e : x = y := by
      have := h.1
      simp only [PyData.eqv] at this
      exact eq_of_beq this
    rw [e, eqv_txts h.2]
theorem shpNames {g : Gr} (ok : GrOk g) {ns : List Str} (h : ∀ n ∈ ns, n ∈ g.names) : Shp 1 (.list (ns.map PyData.str)) := .lst fun d hd => by
  obtain ⟨n, hn, rfl⟩ := List.mem_map.mp hd
  exact .str (okL_of ok (l := (n, true)) (h n hn))
theorem op_notInDK {X : Cx} {K : PySem.W.Frag} (eK : X.K = K) (hu : X.A.units + 65 < cLine) : OpR X (compareOp .NotIn) (rNotInD K) := by
  subst eK
  exact op_notInD hu
theorem op_inDK {X : Cx} {K : PySem.W.Frag} (eK : X.K = K) (hu : X.A.units + 65 < cLine) : OpR X (compareOp .In) (rInD K) := by
  subst eK
  exact op_inD hu
section
variable {P : Program} {w : World} {K : PySem.W.Frag} {mg : Str → Option Value} {base : Heap}
theorem any_sets {mss : List (List Str)} {s : List Str} (hs : Shp 1 (.list (s.map PyData.str))) : ((mss.map fun c => PyData.list (c.map PyData.str)).any fun z => PyData.eqv z (.list (s.map PyData.str))) = decide (s ∈ mss) := by
  rw [Bool.eq_iff_iff, List.any_eq_true, decide_eq_true_iff]
  constructor
  · rintro ⟨z, hz, e⟩
    obtain ⟨c, hc, rfl⟩ := List.mem_map.mp hz
    simp only [PyData.eqv] at e
    rw [← eqv_txts e]
    exact hc
  · intro h
    exact ⟨_, List.mem_map_of_mem h, hs.refl⟩
theorem dp_nls {H : Hp} : ∀ {bs : List Addr} {mss : List (List Str)}, NlsA H bs mss → DpAll K H (bs.map V.ref) (mss.map fun c => PyData.list (c.map PyData.str))
  | _, _, .nil => .nil
  | _, _, .cons h t => .cons (dp_txts h) (dp_nls t)
end
end FL
/-! ## VX4 -/
set_option Elab.async false
set_option linter.all false
set_option maxRecDepth 100000
set_option maxHeartbeats 4000000
/-! values: the shortest text of a value -/
namespace FL
open PySem L2 GxR NumText
theorem cut_hd0 {z : Str} {j : Nat} (h : j ≤ z.length) : cutS z none (some (j : Int)) = tS (z.cps.toList.take j) := by
  unfold cutS
  rw [HT.sIx_nat, HT.sIx_none, Nat.min_eq_left h, List.drop_zero] <;> rfl
/-- the first n characters -/
def hdS (z : Str) (n : Nat) : Str := tS (z.cps.toList.take n)
/-- how many of the first characters stand for the word alone, from i on -/
def shortF (w : Str) (ws : List Str) : Nat → Nat → Str
  | 0, _ => w
  | n + 1, i => if matchW (hdS w i) ws = [w] then hdS w i else shortF w ws n (i + 1)
def shortB (w : Str) (ws : List Str) : Str := shortF w ws (w.length - 1) 1
/-- texts that a comparison of data may see -/
def okT (z : Str) : Prop := PyData.strOk z = true
theorem shpStrs {n : Nat} {ws : List Str} (h : ∀ x ∈ ws, okT x) : Shp (n + 1) (.list (ws.map PyData.str)) := .lst fun d hd => by
  obtain ⟨x, hx, rfl⟩ := List.mem_map.mp hd
  exact .str (h x hx)
theorem matchW_mem {t : Str} {ws : List Str} {x : Str} (h : x ∈ matchW t ws) : x ∈ ws := by
  unfold matchW at h
  split at h
  · rw [List.mem_singleton.mp h]
    assumption
  · exact (List.mem_filter.mp h).1
theorem matchW_len {t : Str} {ws : List Str} : (matchW t ws).length ≤ ws.length := by
  unfold matchW
  split
  · rename_i h
    exact List.length_pos_of_mem h
  · exact List.length_filter_le _ _
section
variable {P : Program} {w : World} {K : PySem.W.Frag} {mg : Str → Option Value} {base : Heap}
def spShB (K : PySem.W.Frag) : Sp := fun vs H Q _ => ∃ (z : Str) (p : Addr) (ws : List Str), vs = [.str z, .ref p] ∧ SqS K H p (ws.map V.str) ∧ ws.length ≤ 100 ∧ z.length ≤ 1000 ∧ okT z ∧ (∀ x ∈ ws, okT x) ∧ ∀ H', Same H H' → Q (.str (shortB z ws)) H'
theorem strs_eqv {a b : List Str} (ha : ∀ x ∈ a, okT x) (hb : ∀ x ∈ b, okT x) : PyData.eqv (.list (a.map PyData.str)) (.list (b.map PyData.str)) = decide (a = b) := by
  rw [Bool.eq_iff_iff, decide_eq_true_iff]
  constructor
  · intro e
    simp only [PyData.eqv] at e
    exact eqv_txts e
  · intro h
    subst h
    exact (shpStrs (n := 0) ha).refl
def shortV (kd : Kd) (y : V) : Str := match kd with
  | .choice ws => shortB (txtV y) ws
  | _ => txtV y
def spShV (K : PySem.W.Frag) (Ps : List Addr) : Sp := fun vs H Q _ => ∃ (v y : V) (kd : Kd), vs = [v, y] ∧ Dt K H v kd.d ∧ KdOk kd ∧ kd ≠ .non ∧ ValOk kd y ∧ Tb Ps H ∧ ∀ H', Ex Ps H H' → Q (.str (shortV kd y)) H'
theorem textB_ok {x : Str} (h : textB abc x = true) : okT x ∧ x.length ≤ 12 := by
  unfold textB at h
  rw [Bool.and_eq_true, Bool.and_eq_true, decide_eq_true_iff, decide_eq_true_iff, List.all_eq_true] at h
  refine ⟨?_, h.2.1⟩
  have small : ∀ c ∈ abc.cps.toList, c < 0x110000 := by decide +kernel
  show x.cps.all (fun c => decide (c < 0x110000)) = true
  rw [← Array.all_toList, List.all_eq_true]
  exact fun c hc => decide_eq_true (small c (of_decide_eq_true (h.2.2 c hc)))
end
end FL
/-! ## VX5 -/
set_option Elab.async false
set_option linter.all false
set_option maxRecDepth 100000
set_option maxHeartbeats 4000000
/-! how small integers are written, and read -/
namespace FL
open PySem L2 GxR NumText
/-- the digits of a number -/
abbrev numC (m : Nat) : List Nat := (Nat.toDigits 10 m).map Char.toNat
def numB4 (m : Nat) : Bool := decide (intL (numC m) = some (m : Int)) && (decide (m = 0) || decide (intL (45 :: numC m) = some (-(m : Int)))) && (numC m).all (fun c => decide (c ∈ lineCs)) && decide ((numC m).length ≤ 4) && decide (1 ≤ (numC m).length)
theorem numB4_all : (List.range 100).all numB4 = true := by decide +kernel
theorem numC_pos (m : Nat) : (Str.ofString (toString ((m : Nat) : Int))).cps.toList = numC m := PySem.W.KIN.signs_num m
theorem ofString_toList (s : String) : (Str.ofString s).cps.toList = s.toList.map Char.toNat := PyProof.Rows.signs_ofString s
theorem numC_neg {m : Nat} (h : m ≠ 0) : (Str.ofString (toString (-(m : Int)))).cps.toList = 45 :: numC m := by
  obtain ⟨k, rfl⟩ : ∃ k, m = k + 1 := ⟨m - 1, by omega⟩
  rw [ofString_toList]
  show (("-" ++ Nat.repr (k + 1) : String).toList).map Char.toNat = _
  rw [String.toList_append, List.map_append, Nat.toList_repr]
  rfl
theorem num_small {n : Int} (h0 : -99 ≤ n) (h1 : n ≤ 99) : intL (Str.ofString (toString n)).cps.toList = some n ∧ (∀ c ∈ (Str.ofString (toString n)).cps.toList, c ∈ lineCs) ∧ (Str.ofString (toString n)).length ≤ 5 ∧ 1 ≤ (Str.ofString (toString n)).length := by
  have lz : ∀ z : Str, z.length = z.cps.toList.length := fun z => by simp [Str.length]
  rw [lz]
  have all := List.all_eq_true.mp numB4_all
  by_cases hn : 0 ≤ n
  · obtain ⟨m, rfl⟩ := Int.eq_ofNat_of_zero_le hn
    have a := all m (List.mem_range.mpr (by omega))
    unfold numB4 at a
    simp only [Bool.and_eq_true, decide_eq_true_iff, List.all_eq_true] at a
    obtain ⟨⟨⟨⟨a1, a2⟩, a3⟩, a4⟩, a5⟩ := a
    have e := numC_pos m
    rw [e]
    exact ⟨a1, a3, by omega, a5⟩
  · obtain ⟨m, rfl⟩ : ∃ m : Nat, n = -(m : Int) := ⟨n.natAbs, by omega⟩
    have hm : m ≠ 0 := by omega
    have a := all m (List.mem_range.mpr (by omega))
    unfold numB4 at a
    simp only [Bool.and_eq_true, Bool.or_eq_true, decide_eq_true_iff, List.all_eq_true] at a
    obtain ⟨⟨⟨⟨a1, a2⟩, a3⟩, a4⟩, a5⟩ := a
    rw [numC_neg hm]
    refine ⟨?_, fun c hc => ?_, by rw [List.length_cons]; omega, by rw [List.length_cons]; omega⟩
    · rcases a2 with a2 | a2
      · exact absurd a2 hm
      · exact a2
    · rcases List.mem_cons.mp hc with rfl | hc
      · decide +kernel
      · exact a3 c hc
/-- kinds as the laws draw them -/
def KdSm (k : Kd) : Prop := KdOk k ∧ match k with
  | .int lo hi => -15 ≤ lo ∧ hi ≤ 64
  | _ => True
/-- a value as the laws draw it: its text is a short token, and means it -/
structure ValD (kd : Kd) (y : V) : Prop where
  ok : ValOk kd y
  tok : tokB (.str (txtV y)) = true
  len : (txtV y).length ≤ 12
  back : valW kd (txtV y) = some y
  str : okT (txtV y)
theorem okT_line {z : Str} (h : ∀ c ∈ z.cps.toList, c ∈ lineCs) : okT z := by
  have small : ∀ c ∈ lineCs, c < 0x110000 := by decide +kernel
  show z.cps.all (fun c => decide (c < 0x110000)) = true
  rw [← Array.all_toList, List.all_eq_true]
  exact fun c hc => decide_eq_true (small c (h c hc))
theorem tokB_of {z : Str} (l : z.length ≤ 200) (h : ∀ c ∈ z.cps.toList, c ∈ lineCs) : tokB (.str z) = true := by
  show (decide (z.length ≤ 200) && z.cps.toList.all fun c => decide (c ∈ lineCs)) = true
  rw [decide_eq_true l, Bool.true_and, List.all_eq_true]
  exact fun c hc => decide_eq_true (h c hc)
theorem valD_int {lo hi n : Int} (k : KdSm (.int lo hi)) (h : lo ≤ n ∧ n ≤ hi) : ValD (.int lo hi) (.int n) := by
  have k2 : -15 ≤ lo ∧ hi ≤ 64 := k.2
  obtain ⟨a1, a2, a3, a4⟩ := num_small (n := n) (by omega) (by omega)
  refine ⟨h, tokB_of (by show (Str.ofString (toString n)).length ≤ 200; omega) a2, by show (Str.ofString (toString n)).length ≤ 12; omega, ?_, okT_line a2⟩
  show (match intL (Str.ofString (toString n)).cps.toList with
    | some n => if lo ≤ n ∧ n ≤ hi then some (V.int n) else none
    | none => none) = some (V.int n)
  rw [a1]
  exact if_pos h
theorem abc_line : ∀ c ∈ abc.cps.toList, c ∈ lineCs := by decide +kernel
theorem textB_mem {x : Str} (h : textB abc x = true) : ∀ c ∈ x.cps.toList, c ∈ lineCs := by
  unfold textB at h
  rw [Bool.and_eq_true, Bool.and_eq_true, decide_eq_true_iff, decide_eq_true_iff, List.all_eq_true] at h
  exact fun c hc => abc_line c (of_decide_eq_true (h.2.2 c hc))
theorem valD_choice {ws : List Str} (k : KdSm (.choice ws)) {z : Str} (h : z ∈ ws) : ValD (.choice ws) (.str z) := by
  obtain ⟨c1, c2, c3, c4⟩ := k.1
  have l := (textB_ok (c3 z h)).2
  refine ⟨h, tokB_of (by show z.length ≤ 200; omega) (textB_mem (c3 z h)), l, ?_, (textB_ok (c3 z h)).1⟩
  show (match matchW z ws with
    | [w] => some (V.str w)
    | _ => none) = some (V.str z)
  rw [show matchW z ws = [z] from if_pos h]
theorem valD_word {cs : List Nat} (l : cs.length ≤ 12) (h : ∀ c ∈ cs, c ∈ lineCs) : ValD .word (.str (tS cs)) := by
  have lz : (tS cs).length = cs.length := by simp [tS, Str.length]
  have t := tokB_of (z := tS cs) (by omega) h
  exact ⟨t, t, by show (tS cs).length ≤ 12; omega, rfl, okT_line h⟩
end FL
/-! ## LX7 -/
set_option Elab.async false
set_option linter.all false
set_option maxRecDepth 100000
set_option maxHeartbeats 4000000
/-! the error of a line; the law's own characters and words -/
namespace FL
open PySem L2
abbrev sLineErrorInit : Stmt := meth 2 0
theorem scLineErrorInit : FnScope ["self", "index"] ["self", "index"] (defScope sLineErrorInit) := ⟨rfl, rfl, rfl, by decide +kernel, rfl, by decide +kernel, by decide +kernel⟩
abbrev sSigns : Stmt := top 22
theorem scSigns : FnScope [] [] (defScope sSigns) := ⟨rfl, rfl, rfl, by decide +kernel, rfl, by decide +kernel, by decide +kernel⟩
abbrev sWord : Stmt := top 23
theorem scWord : FnScope ["_law_row", "_law_most", "_law_some", "_law_k"] ["_law_row", "_law_most"] (defScope sWord) := ⟨rfl, rfl, rfl, by decide +kernel, rfl, by decide +kernel, by decide +kernel⟩
section
variable {P : Program} {w : World} {K : PySem.W.Frag} {mg : Str → Option Value} {base : Heap}
theorem ok_initLine {C fI : Addr} {fd : FuncData} (F : Fun K "__init__" "LineError.__init__" sLineErrorInit fI fd) : FnOk P w K mg base CX0 1 fI fd ["self", "index"] (spInit1 K C "index") := by
  refine F.ok scLineErrorInit (fun vs H Q E h => ?_) (fun cdv A outer s H vs Q E hr h => ?_)
  · obtain ⟨a, v, rfl, _⟩ := h
    rfl
  · obtain ⟨a, v, rfl, oe, no, ha, k⟩ := h
    refine ⟨_, (pss_one (ps_ost (pv 0) (pv 1))), ?_⟩
    exact ⟨_, rfl, _, rfl, a, C, rfl, oe, no, .inl ⟨ha, fun d hd nd => k d hd nd⟩⟩
def spSigns : Sp := fun vs H Q _ => vs = [] ∧ Q (.str (tS lineCs)) H
theorem ok_signs (D : Dn K mg "_law_signs" sSigns []) : Ok P w K mg base CX0 1 "_law_signs" [] spSigns := by
  refine D.ok scSigns (fun vs H Q E h => ?_) (fun f cdv A outer s H vs Q E hr h => ?_)
  · obtain ⟨rfl, _⟩ := h
    rfl
  · obtain ⟨rfl, k⟩ := h
    refine ⟨_, (pss_one (ps_ret pe_str)), ?_⟩
    have e : (" !\"#$&'()*+,-./0123456789:;<=>?@ABCDEFGHIJKLMNOPQRSTUVWXYZ[\\]^_`abcdefghijklmnopqrstuvwxyz{|}~" : Str) = tS lineCs := by decide +kernel
    show Q (.str (" !\"#$&'()*+,-./0123456789:;<=>?@ABCDEFGHIJKLMNOPQRSTUVWXYZ[\\]^_`abcdefghijklmnopqrstuvwxyz{|}~" : Str)) H
    rw [e]
    exact k
end
end FL
/-! ## G7 -/
set_option Elab.async false
set_option linter.all false
set_option maxRecDepth 100000
set_option maxHeartbeats 4000000
/-! the second generator: the row that numbers are taken from, where nothing is handed to int (k41) -/
namespace FL
open PySem L2
abbrev sTaken : Stmt := top 20
theorem scTaken : FnScope ["_law_row", "_law_many", "_law_found", "_law_cell"] ["_law_row", "_law_many"] (defScope sTaken) := ⟨rfl, rfl, rfl, by decide +kernel, rfl, by decide +kernel, by decide +kernel⟩
section
variable {P : Program} {w : World} {K : PySem.W.Frag} {mg : Str → Option Value} {base : Heap}
theorem ok_taken41 (D : Dn K mg "_law_taken" sTaken ["_law_row", "_law_many"]) (T : TxA mg) : Ok P w K mg base CX0 1 "_law_taken" ["_law_row", "_law_many"] (spNext K) := by
  refine D.ok scTaken (fun vs H Q E h => ?_) (fun f cdv A outer s H vs Q E hr h => ?_)
  · obtain ⟨d, n, rfl, _⟩ := h
    rfl
  · obtain ⟨d, n, rfl, ⟨a, ns, p, m, r, hd, hS, hlen, hp, hm, hr0⟩, hn, hn2, k⟩ := h
    have hnN : n ≠ 0 := by omega
    have hnA : n.natAbs < 1073741824 := by omega
    have keep : ∀ {p m r : Int}, 0 ≤ p → 0 ≤ m → 0 ≤ r → DiceAt K (upd H d (.lst [.ref a, .int p, .int m, .int r])) d := fun h1 h2 h3 =>
      ⟨a, ns, _, _, _, upd_same, hS.upd (Loose.lst hd), hlen, h1, h2, h3⟩
    refine ⟨_, (pss_cons (ps_if (pt_cmpR op_gt (pe_ix ix_list (pv 0) pe_int (fun _ _ => rfl)) pe_int (nomark _)) (pss_cons (ps_set (i := 2) scTaken.nd rfl (Or.inl rfl) (pe_op op_mod (pe_callTy call_int1 (by rfl) T.int (by decide +kernel) (pa_cons (pe_ix ix_list (pv 0) pe_int (fun _ _ => rfl)) pa_nil)) (pv 1)))
  (pss_cons (ps_asg (pe_op op_fdivN (pe_ix ix_list (pv 0) pe_int (fun _ _ => rfl)) (pv 1)) (pg_sub (pv 0) pe_int set_list))
  (pss_one (ps_ret (pv 2))))) pss_nil)
  (pss_cons (ps_asg (pe_op op_add (pe_ix ix_list (pv 0) pe_int (fun _ _ => rfl)) pe_int) (pg_sub (pv 0) pe_int set_list))
  (pss_cons (ps_if (pt_cmpR op_gt (pe_ix ix_list (pv 0) pe_int (fun _ _ => rfl)) (pe_callB call_len_seq (by rfl) T.len PySem.boot_len (pa_cons (pe_ix ix_list (pv 0) pe_int (fun _ _ => rfl)) pa_nil)) (nomark _)) (pss_cons (ps_asg (pe_op op_mod (pe_op op_add (pe_op op_mul (pe_ix ix_list (pv 0) pe_int (fun _ _ => rfl)) pe_int) pe_int) pe_int) (pg_sub (pv 0) pe_int set_list))
  (pss_one (ps_ret (pe_op op_mod (pe_op op_fdiv (pe_ix ix_list (pv 0) pe_int (fun _ _ => rfl)) pe_int) (pv 1))))) pss_nil)
  (pss_cons (ps_set (i := 3) scTaken.nd rfl (Or.inl rfl) (pe_ix ix_list (pe_ix ix_list (pv 0) pe_int (fun _ _ => rfl)) (pe_op op_sub (pe_ix ix_list (pv 0) pe_int (fun _ _ => rfl)) pe_int) (fun _ _ => rfl)))
  (pss_cons (ps_asg (pe_op op_mod (pe_op op_add (pe_op op_add (pe_op op_mul (pe_ix ix_list (pv 0) pe_int (fun _ _ => rfl)) pe_int) (pv 3)) pe_int) pe_int) (pg_sub (pv 0) pe_int set_list))
  (pss_cons (ps_if (pt_cmpR op_ge (pv 3) (pe_op op_pow pe_int pe_int) (nomark _)) (pss_one (ps_asg (pe_op op_fdivN (pv 3) (pv 1)) (pg_sub (pv 0) pe_int set_list))) pss_nil)
  (pss_one (ps_ret (pe_op op_mod (pe_callTy call_int1 (by rfl) T.int (by decide +kernel) (pa_cons (pv 3) pa_nil)) (pv 1)))))))))), ?_⟩
    refine ⟨_, rfl, d, _, 3, _, rfl, rfl, SqL.of hd, rfl, _, _, rfl, rfl, _, rfl, ?_⟩
    refine ite2 (fun h => ?_) (fun h => ?_)
    · refine ⟨_, rfl, d, _, 3, _, rfl, rfl, SqL.of hd, rfl, .inl ⟨_, rfl, ?_⟩⟩
      refine ⟨_, rfl, _, _, rfl, rfl, hn, ?_⟩
      refine ⟨_, rfl, d, _, 3, _, rfl, rfl, SqL.of hd, rfl, _, rfl, _, _, rfl, rfl, ⟨hnN, hnA⟩, ?_⟩
      refine ⟨_, rfl, d, _, 3, 3, rfl, rfl, hd, rfl, _, rfl, ?_⟩
      refine k _ _ (Int.emod_nonneg _ hnN) (Int.emod_lt_of_pos _ hn) (keep hp hm ?_) sameD_upd
      exact Int.fdiv_nonneg hr0 (by omega)
    · refine ⟨_, rfl, d, _, 1, _, rfl, rfl, SqL.of hd, rfl, _, _, rfl, rfl, ?_⟩
      refine ⟨_, rfl, d, _, 1, 1, rfl, rfl, hd, rfl, ?_⟩
      refine ⟨_, rfl, d, _, 1, _, rfl, rfl, SqL.of upd_same, rfl, ?_⟩
      have hS1 : ∀ {o}, SqL K (upd H d o) a (ns.map V.int) := fun {o} => (hS.upd (Loose.lst hd)).seq
      refine ⟨_, rfl, d, _, 0, _, rfl, rfl, SqL.of upd_same, rfl, a, _, rfl, .inl hS1, _, _, rfl, rfl, _, rfl, ?_⟩
      refine ite2 (fun h2 => ?_) (fun h2 => ?_)
      · refine ⟨_, rfl, d, _, 2, _, rfl, rfl, SqL.of upd_same, rfl, _, _, rfl, rfl, .inr ⟨by decide, by decide⟩, _, _, rfl, rfl, _, _, rfl, rfl, (by show (0:Int) < 2147483647; decide), ?_⟩
        refine ⟨_, rfl, d, _, 2, 2, rfl, rfl, upd_same, rfl, ?_⟩
        refine ⟨_, rfl, d, _, 2, _, rfl, rfl, SqL.of upd_same, rfl, _, _, rfl, rfl, ⟨by decide, by decide⟩, _, rfl, _, _, rfl, rfl, hn, ?_⟩
        rw [upd_upd]
        exact k _ _ (Int.emod_nonneg _ hnN) (Int.emod_lt_of_pos _ hn) (keep (by omega) (Int.emod_nonneg _ (by decide)) hr0) sameD_upd
      · rw [List.length_map] at h2
        have h3 : p.toNat < ns.length := by
          have : ¬ (ns.length : Int) < p + 1 := fun z => h2 (decide_eq_true z)
          omega
        refine ⟨_, rfl, d, _, 0, _, rfl, rfl, SqL.of upd_same, rfl, ?_⟩
        refine ⟨_, rfl, d, _, 1, _, rfl, rfl, SqL.of upd_same, rfl, _, _, rfl, rfl, ?_⟩
        refine ⟨a, _, _, .int (ns[p.toNat]), rfl, rfl, hS1, ?_, ?_⟩
        · have e : p + 1 - 1 = ((p.toNat : Nat) : Int) := by omega
          rw [e]
          refine atI_nat ?_
          rw [List.getElem?_map, List.getElem?_eq_getElem h3] <;> rfl
        refine ⟨_, rfl, d, _, 2, _, rfl, rfl, SqL.of upd_same, rfl, _, _, rfl, rfl, .inr ⟨by decide, by decide⟩, _, rfl, _, _, rfl, rfl, _, _, rfl, rfl, _, _, rfl, rfl, (by show (0:Int) < 2147483647; decide), ?_⟩
        refine ⟨_, rfl, d, _, 2, 2, rfl, rfl, upd_same, rfl, ?_⟩
        refine ⟨_, rfl, _, _, rfl, rfl, ⟨by decide, by decide, by decide⟩, _, _, rfl, rfl, _, rfl, ?_⟩
        refine ite2 (fun h4 => ?_) (fun h4 => ?_)
        · refine ⟨_, rfl, _, rfl, _, _, rfl, rfl, ⟨hnN, hnA⟩, ?_⟩
          refine ⟨_, rfl, d, _, 3, 3, rfl, rfl, upd_same, rfl, ?_⟩
          refine ⟨_, rfl, .inl ⟨_, rfl, _, rfl, _, _, rfl, rfl, hn, ?_⟩⟩
          rw [upd_upd, upd_upd]
          refine k _ _ (Int.emod_nonneg _ hnN) (Int.emod_lt_of_pos _ hn) (keep (by omega) (Int.emod_nonneg _ (by decide)) ?_) sameD_upd
          have := of_decide_eq_true h4
          exact Int.fdiv_nonneg (by have e : ((10:Int) ^ (18:Int).toNat) = 1000000000000000000 := by decide
                                    omega) (by omega)
        · refine ⟨_, rfl, .inl ⟨_, rfl, _, rfl, _, _, rfl, rfl, hn, ?_⟩⟩
          rw [upd_upd]
          exact k _ _ (Int.emod_nonneg _ hnN) (Int.emod_lt_of_pos _ hn) (keep (by omega) (Int.emod_nonneg _ (by decide)) hr0) sameD_upd
end
end FL
/-! ## LX8 -/
set_option Elab.async false
set_option linter.all false
set_option maxRecDepth 100000
set_option maxHeartbeats 4000000
/-! the law's words -/
namespace FL
open PySem L2
def wordsL : List (List Nat) := [[97, 98], [32, 39, 34, 92], [97, 32, 39, 34, 92, 98], [45, 61, 97], lineCs]
theorem wordsL_ok : ∀ w ∈ wordsL, 1 ≤ w.length ∧ w.length ≤ 94 ∧ ∀ c ∈ w, c ∈ lineCs := by decide +kernel
theorem wordsL_eq : ([V.str "ab", V.str " '\"\\", V.str "a '\"\\b", V.str "-=a", V.str (tS lineCs)] : List V) = wordsL.map fun w => V.str (tS w) := by rfl
section
variable {P : Program} {w : World} {K : PySem.W.Frag} {mg : Str → Option Value} {base : Heap}
/-- a text of characters of lines -/
def LineT (z : Str) : Prop := ∀ c ∈ z.cps.toList, c ∈ lineCs
def spWord (K : PySem.W.Frag) : Sp := fun vs H Q _ => ∃ (d : Addr) (m : Nat), vs = [.ref d, .int (m : Int)] ∧ DiceAt K H d ∧ m ≤ 100 ∧ ∀ (cs : List Nat) (H' : Hp), cs.length ≤ m → (∀ c ∈ cs, c ∈ lineCs) → DiceAt K H' d → SameD d H H' → Q (.str (tS cs)) H'
theorem ok_word (D : Dn K mg "_law_word" sWord ["_law_row", "_law_most"]) (T : TxB mg) (OT : Ok P w K mg base CX0 1 "_law_taken" ["_law_row", "_law_many"] (spNext K)) (OS : Ok P w K mg base CX0 1 "_law_signs" [] spSigns) : Ok P w K mg base CX0 2 "_law_word" ["_law_row", "_law_most"] (spWord K) := by
  obtain ⟨fT, fdT, GTaken, mTaken, kTaken, bTaken⟩ := OT
  obtain ⟨fS, fdS, GSigns, mSigns, kSigns, bSigns⟩ := OS
  refine D.ok scWord (fun vs H Q E h => ?_) (fun f cdv A outer s H vs Q E hr h => ?_)
  · obtain ⟨d, m, rfl, _⟩ := h
    rfl
  · obtain ⟨d, m, rfl, hd, hm, k⟩ := h
    refine ⟨_, (pss_cons (ps_set (i := 2) scWord.nd rfl (Or.inr rfl) (pe_ix ix_list (pe_lst (pa_cons pe_str (pa_cons pe_str (pa_cons pe_str (pa_cons pe_str (pa_cons (pe_call0 GSigns (hr.mono (by decide)) rfl mSigns kSigns bSigns .nil pass0) pa_nil)))))) (pe_call GTaken (hr.mono (by decide)) rfl mTaken kTaken bTaken .nil pass0 (pa_cons (pv 0) (pa_cons pe_int pa_nil))) (fun _ _ => rfl)))
  (pss_one (ps_ret (pe_join pe_str (pe_lc (own := [("_law_k", 3)]) (g := gName 3) (by rfl) scWord.nd (pi_range1 (by rfl) T.range (pa_cons (pe_call GTaken (hr.mono (by decide)) rfl mTaken kTaken bTaken .nil pass0 (pa_cons (pv 0) (pa_cons (pe_op op_add (pv 1) pe_int) pa_nil))) pa_nil)) (blkOk_by (own := [("_law_k", 3)]) (N := ["_law_row", "_law_most", "_law_some", "_law_k"]) (sc := defScope sWord) (by decide +kernel)) (fun _ _ _ _ _ => by exact (pg_name (i := 3) scWord.nd rfl (Or.inl rfl))) (fun _ _ _ _ _ => by exact pts_nil) (fun _ _ _ _ _ => by exact (pe_ix ix_str (pv 2) (pe_call GTaken (hr.mono (by decide)) rfl mTaken kTaken bTaken .nil pass0 (pa_cons (pv 0) (pa_cons (pe_callB call_len_str (by rfl) T.len PySem.boot_len (pa_cons (pv 2) pa_nil)) pa_nil))) (fun _ _ => rfl)))))))), ?_⟩
    refine ⟨rfl, by show 5 ≤ sizeLine; decide, fun l hl => ?_⟩
    rw [wordsL_eq]
    have S1 : SameD d H (upd H l (.lst (wordsL.map fun w => V.str (tS w)))) := SameD.new hl
    have d1 : DiceAt K (upd H l (.lst (wordsL.map fun w => V.str (tS w)))) d := hd.nw hl
    have nl : l ≠ d := hd.nf hl
    refine ⟨_, rfl, d, 5, rfl, d1, by decide, by decide, fun r H2 r0 r5 d2 S2 => ?_⟩
    obtain ⟨r, rfl⟩ := Int.eq_ofNat_of_zero_le r0
    obtain ⟨u, hu⟩ : ∃ u, wordsL[r]? = some u := ⟨_, List.getElem?_eq_getElem (by show r < 5; omega)⟩
    obtain ⟨u1, u2, u3⟩ := wordsL_ok u (List.mem_of_getElem? hu)
    have el2 := S2 l _ nl upd_same
    refine ⟨l, _, _, .str (tS u), rfl, rfl, SqL.of el2, atI_nat (by rw [List.getElem?_map, hu] <;> rfl), ?_⟩
    refine ⟨⟨_, rfl⟩, _, rfl, _, rfl, _, _, rfl, rfl, d, _, rfl, d2, by omega, by omega, fun n H3 n0 n1 d3 S3 => ⟨n, rfl, by omega, by omega, fun D4 hD4 => ?_⟩⟩
    obtain ⟨n, rfl⟩ := Int.eq_ofNat_of_zero_le n0
    refine lc_range (lo := 0) (n := ((n : Nat) : Int).toNat) (fun i Hi => ∃ ys : List (List Nat), Hi D4 = some (.lst ((ys.map tS).map V.str)) ∧ ys.length = i ∧ (∀ y ∈ ys, y.length ≤ 1 ∧ ∀ c ∈ y, c ∈ lineCs) ∧ DiceAt K Hi d ∧ SameD d H3 Hi) ⟨[], upd_same, rfl, (fun _ h => nomatch h), d3.nw hD4, SameD.new hD4⟩ ?_ ?_
    · rintro i Hi hi ⟨ys, e, le, hy, di, si⟩
      refine ⟨rfl, ?_⟩
      unfold tYes
      refine iteT ?_
      have lu : (tS u).length = u.length := by simp [tS, Str.length]
      refine ⟨_, rfl, _, rfl, _, rfl, tS u, rfl, Nat.le_of_lt (small1000 (by omega)), d, _, rfl, di, by omega, by omega, fun q H5 q0 q1 d5 S5 => ?_⟩
      obtain ⟨q, rfl⟩ := Int.eq_ofNat_of_zero_le q0
      obtain ⟨c, hc⟩ : ∃ c, u[q]? = some c := ⟨_, List.getElem?_eq_getElem (by omega)⟩
      refine ⟨tS u, _, c, rfl, rfl, Nat.le_of_lt (small1000 (by omega)), atI_nat (by show u[q]? = _; exact hc), ?_⟩
      have nD : D4 ≠ d := d3.nf hD4
      have e5 := S5 D4 _ nD e
      refine ⟨_, e5, small1000 (by rw [List.length_map, List.length_map]; omega), ys ++ [[c]], ?_, by rw [List.length_append, le] <;> rfl, fun y hy' => ?_, d5.wr (Ne.symm nD) (Loose.lst e5), fun b o hb h => ?_⟩
      · rw [upd_same, List.map_append, List.map_append] <;> rfl
      · rcases List.mem_append.mp hy' with h | h
        · exact hy y h
        · rw [List.mem_singleton.mp h]
          exact ⟨Nat.le_refl _, fun c' hc' => by rw [List.mem_singleton.mp hc']; exact u3 c (List.mem_of_getElem? hc)⟩
      · rw [upd_ne (ne_of_none h hD4)]
        exact S5 b o hb (si b o hb h)
    · rintro H6 ⟨ys, e, le, hy, d6, S6⟩
      refine ⟨"", D4, ys.map tS, rfl, rfl, .inl (SqL.of e), ?_, ?_⟩
      · have := sum_one fun y h => (hy y h).1
        have e0 : ("" : Str).length = 0 := rfl
        rw [e0, Nat.mul_zero]
        omega
      · rw [join_tS]
        refine k ys.flatten H6 ?_ (fun c hc => ?_) d6 (((S1.trans S2).trans S3).trans S6)
        · have := sum_one fun y h => (hy y h).1
          rw [sum_flat] at this
          omega
        · obtain ⟨y, hy1, hy2⟩ := List.mem_flatten.mp hc
          exact (hy y hy1).2 c hy2
end
end FL
/-! ## VX6 -/
set_option Elab.async false
set_option linter.all false
set_option maxRecDepth 100000
set_option maxHeartbeats 4000000
/-! kinds, values and their reading, as the laws have them -/
namespace FL
open PySem L2 GxR NumText

section
variable {P : Program} {w : World} {K : PySem.W.Frag} {mg : Str → Option Value} {base : Heap}
abbrev sevenW : List Str := ["fast", "full", "f", "slow", "s", "sl", "off"]
theorem sevenW_ok : (List.range 6).all (fun i => (List.range 4).all fun j => (let ws := (sevenW.drop i).take (1 + j); decide (1 ≤ ws.length) && decide (ws.length ≤ 8) && ws.all (fun x => textB abc x) && decide ws.Nodup)) = true := by decide +kernel
theorem sevenW_kd {i j : Nat} (hi : i < 6) (hj : j < 4) : KdSm (.choice ((sevenW.drop i).take (1 + j))) := by
  have a := List.all_eq_true.mp (List.all_eq_true.mp sevenW_ok i (List.mem_range.mpr hi)) j (List.mem_range.mpr hj)
  dsimp only at a
  simp only [Bool.and_eq_true, decide_eq_true_iff, List.all_eq_true] at a
  exact ⟨⟨a.1.1.1, a.1.1.2, fun x hx => a.1.2 x hx, a.2⟩, trivial⟩
def spKindV (K : PySem.W.Frag) : Sp := fun vs H Q _ => ∃ d : Addr, vs = [.ref d] ∧ DiceAt K H d ∧
  ∀ (k : Kd) (v : V) (H' : Hp), KdSm k → Dt K H' v k.d → DiceAt K H' d → SameD d H H' → Q v H'
theorem cut_hdG {z : Str} {j : Nat} : cutS z none (some (j : Int)) = tS (z.cps.toList.take j) := by
  have zl : z.cps.toList.length = z.length := by simp [Str.length]
  unfold cutS
  rw [HT.sIx_nat, HT.sIx_none, List.drop_zero]
  show (⟨_⟩ : Str) = ⟨_⟩
  congr 2
  by_cases h : j ≤ z.length
  · rw [Nat.min_eq_left h]; rfl
  · rw [Nat.min_eq_right (by omega), Nat.sub_zero, List.take_of_length_le (by omega), List.take_of_length_le (by omega)]
theorem cut_tlG {z : Str} {j : Nat} : cutS z (some (j : Int)) none = tS (z.cps.toList.drop j) := by
  have zl : z.cps.toList.length = z.length := by simp [Str.length]
  unfold cutS
  rw [HT.sIx_nat, HT.sIx_none]
  by_cases h : j ≤ z.length
  · rw [Nat.min_eq_left h, List.take_of_length_le (by rw [List.length_drop]; omega)]
  · rw [Nat.min_eq_right (by omega), Nat.sub_self, List.take_zero, List.drop_of_length_le (by omega)]
theorem inV_len {n : Nat} : inV (.int (n : Int)) [.int 1, .int 2, .int 3, .int 4] = (decide (1 ≤ n) && decide (n ≤ 4)) := by
  have e : ∀ k : Int, eqV (.int k) (.int (n : Int)) = decide (k = (n : Int)) := fun k => by
    show (k == (n : Int)) = _
    rw [Bool.eq_iff_iff, decide_eq_true_iff]
    exact beq_iff_eq
  show (eqV (.int 1) _ || (eqV (.int 2) _ || (eqV (.int 3) _ || (eqV (.int 4) _ || false)))) = _
  rw [e, e, e, e, Bool.eq_iff_iff]
  simp only [Bool.or_eq_true, Bool.and_eq_true, decide_eq_true_iff, Bool.false_eq_true, or_false]
  omega
/-- what the laws' own reader says: the value in a list, or an empty list -/
def valL : Option V → List V
  | none => []
  | some y => [y]
def spDigits (K : PySem.W.Frag) : Sp := fun vs H Q _ => ∃ z : Str, vs = [.str z] ∧ z.length ≤ 1000 ∧ ∀ l H', Same H H' → H l = none → H' l = some (.lst (valL ((intL z.cps.toList).map V.int))) → Q (.ref l) H'
def spValue (K : PySem.W.Frag) : Sp := fun vs H Q _ => ∃ (v : V) (kd : Kd) (t : Str), vs = [v, .str t] ∧ Dt K H v kd.d ∧ KdOk kd ∧ kd ≠ .non ∧ t.length ≤ 1000 ∧ ∀ l H', Same H H' → H l = none → H' l = some (.lst (valL (valW kd t))) → Q (.ref l) H'
def spDrawn (K : PySem.W.Frag) : Sp := fun vs H Q _ => ∃ (d : Addr) (v : V) (kd : Kd), vs = [.ref d, v] ∧ DiceAt K H d ∧ Dt K H v kd.d ∧ KdSm kd ∧
  (kd = .non → Q (.bl true) H) ∧ ∀ y H', kd ≠ .non → ValD kd y → DiceAt K H' d → SameD d H H' → Q y H'
end
end FL
/-! ## VX8 -/
set_option Elab.async false
set_option linter.all false
set_option maxRecDepth 100000
set_option maxHeartbeats 4000000
/-! values as data; the least of the beginnings that mean a value -/
namespace FL
open PySem L2 GxR NumText PySem.W
theorem valW_cases {kd : Kd} {z : Str} {y : V} (h : valW kd z = some y) : (∃ n, y = .int n) ∨ ∃ s, y = .str s := by
  cases kd with
  | non => cases h
  | word =>
    cases h
    exact .inr ⟨_, rfl⟩
  | int lo hi =>
    have h : (match intL z.cps.toList with
      | some n => if lo ≤ n ∧ n ≤ hi then some (V.int n) else none
      | none => none) = some y := h
    split at h
    · split at h
      · cases h
        exact .inl ⟨_, rfl⟩
      · cases h
    · cases h
  | choice ws =>
    have h : (match matchW z ws with
      | [w] => some (V.str w)
      | _ => none) = some y := h
    split at h
    · cases h
      exact .inr ⟨_, rfl⟩
    · cases h
/-- a value as plain data -/
def dV : V → PyData
  | .int n => .int n
  | .str s => .str s
  | _ => .none
/-- an integer, or a text that data may hold -/
def VOk (y : V) : Prop := (∃ n, y = .int n) ∨ ∃ s, y = .str s ∧ okT s
theorem valW_ok {kd : Kd} {z : Str} {y : V} (ok : KdOk kd) (oz : okT z) (h : valW kd z = some y) : VOk y := by
  rcases valW_cases h with ⟨n, rfl⟩ | ⟨s, rfl⟩
  · exact .inl ⟨n, rfl⟩
  · refine .inr ⟨s, rfl, ?_⟩
    cases kd with
    | non => cases h
    | word =>
      cases h
      exact oz
    | int lo hi =>
      have h : (match intL z.cps.toList with
        | some n => if lo ≤ n ∧ n ≤ hi then some (V.int n) else none
        | none => none) = some (V.str s) := h
      split at h
      · split at h
        · cases h
        · cases h
      · cases h
    | choice ws =>
      have h : (match matchW z ws with
        | [w] => some (V.str w)
        | _ => none) = some (V.str s) := h
      split at h
      · rename_i w e
        cases h
        exact (textB_ok (ok.2.2.1 s (matchW_mem (t := z) (by rw [e]; exact List.mem_singleton_self _)))).1
      · cases h
theorem shpV {n : Nat} {y : V} (h : VOk y) : Shp n (dV y) := by
  rcases h with ⟨n, rfl⟩ | ⟨s, rfl, o⟩
  · exact .int
  · exact .str o
theorem eqv_dV {a b : V} (ha : VOk a) (hb : VOk b) : PyData.eqv (dV a) (dV b) = decide (a = b) := by
  rcases ha with ⟨n, rfl⟩ | ⟨s, rfl, o⟩ <;> rcases hb with ⟨m, rfl⟩ | ⟨t, rfl, o2⟩
  · show PyData.eqv (.int n) (.int m) = _
    rw [eqv_ii, Bool.eq_iff_iff, decide_eq_true_iff, decide_eq_true_iff]
    exact ⟨fun h => by rw [h], fun h => by injection h⟩
  · rw [decide_eq_false (fun e => nomatch e)]
    show PyData.eqv (.int n) (.str t) = false
    simp [PyData.eqv]
  · rw [decide_eq_false (fun e => nomatch e)]
    show PyData.eqv (.str s) (.int m) = false
    simp [PyData.eqv]
  · show PyData.eqv (.str s) (.str t) = _
    simp only [PyData.eqv]
    rw [Bool.eq_iff_iff, beq_iff_eq, decide_eq_true_iff]
    exact ⟨fun h => by rw [h], fun h => by injection h⟩
theorem shpVL {o : Option V} (h : ∀ y, o = some y → VOk y) : Shp 1 (.list ((valL o).map dV)) := .lst fun d hd => by
  cases o with
  | none => cases hd
  | some y =>
    rw [List.mem_singleton.mp hd]
    exact shpV (h y rfl)
theorem eqv_VL {o : Option V} {y : V} (h : ∀ y, o = some y → VOk y) (hy : VOk y) : PyData.eqv (.list ((valL o).map dV)) (.list [dV y]) = decide (o = some y) := by
  cases o with
  | none =>
    rw [decide_eq_false (fun e => nomatch e)]
    simp [PyData.eqv, PyData.eqvAll, valL]
  | some x =>
    show PyData.eqv (.list [dV x]) (.list [dV y]) = _
    simp only [PyData.eqv, PyData.eqvAll, Bool.and_true]
    rw [eqv_dV (h x rfl) hy, Bool.eq_iff_iff, decide_eq_true_iff, decide_eq_true_iff]
    exact ⟨fun e => by rw [e], fun e => by injection e⟩
theorem hdS_len {w : Str} {n : Nat} (h : n ≤ w.length) : (hdS w n).length = n := by
  have zl : w.cps.toList.length = w.length := by simp [Str.length]
  show ((w.cps.toList.take n).toArray).size = n
  rw [List.size_toArray, List.length_take]
  omega
theorem hdS_all (w : Str) : hdS w w.length = w := by
  cases w with | mk a =>
  show (⟨(a.toList.take a.size).toArray⟩ : Str) = ⟨a⟩
  rw [List.take_of_length_le (by simp)]
/-- the beginnings, from the i-th on, that stand for the word alone -/
theorem shortF_min {w : Str} {ws : List Str} (hw : w ∈ ws) (p : Nat → Bool) (hp : ∀ k, p k = decide (matchW (hdS w k) ws = [w])) : ∀ (n i : Nat), i + n = w.length → ∃ rest : List Str, ((List.range' i (n + 1)).filter p).map (hdS w) = shortF w ws n i :: rest ∧ ∀ r ∈ rest, (shortF w ws n i).length < r.length
  | 0, i, e => by
    have e : i = w.length := by omega
    subst e
    have : p w.length = true := by
      rw [hp, hdS_all]
      exact decide_eq_true (if_pos hw)
    refine ⟨[], ?_, fun _ h => nomatch h⟩
    show ((List.range' w.length 1).filter p).map (hdS w) = [w]
    simp [List.range'_succ, this, hdS_all]
  | n + 1, i, e => by
    rw [List.range'_succ]
    by_cases h : matchW (hdS w i) ws = [w]
    · have e1 : shortF w ws (n + 1) i = hdS w i := if_pos h
      rw [e1, List.filter_cons, hp, decide_eq_true h, if_pos rfl, List.map_cons]
      refine ⟨_, rfl, fun r hr => ?_⟩
      obtain ⟨k, hk, rfl⟩ := List.mem_map.mp hr
      have hk := (List.mem_filter.mp hk).1
      rw [List.mem_range'_1] at hk
      rw [hdS_len (by omega), hdS_len (by omega)]
      omega
    · have e1 : shortF w ws (n + 1) i = shortF w ws n (i + 1) := if_neg h
      rw [e1, List.filter_cons, hp, decide_eq_false h, if_neg (by decide)]
      exact shortF_min hw p hp n (i + 1) (by omega)
theorem shortB_min {w : Str} {ws : List Str} (ok : KdOk (.choice ws)) (hw : w ∈ ws) (p : Nat → Bool) (hp : ∀ k, p k = decide (matchW (hdS w k) ws = [w])) : ∃ rest : List Str, ((List.range (w.length + 1)).filter p).map (hdS w) = shortB w ws :: rest ∧ ∀ r ∈ rest, (shortB w ws).length < r.length := by
  have tb := ok.2.2.1
  have l1 : ∀ x ∈ ws, 1 ≤ x.length := fun x hx => by
    have h := tb x hx
    unfold textB at h
    rw [Bool.and_eq_true, decide_eq_true_iff] at h
    exact h.1
  have lw := l1 w hw
  have e0 : hdS w 0 = "" := rfl
  have p0 : p 0 = false := by
    rw [hp, e0]
    refine decide_eq_false fun h => ?_
    have n0 : ("" : Str) ∉ ws := fun h => by
      have := l1 _ h
      exact absurd this (by decide)
    have : matchW "" ws = [] := by
      unfold matchW
      rw [if_neg n0]
      simp
    rw [this] at h
    cases h
  obtain ⟨rest, h1, h2⟩ := shortF_min hw p hp (w.length - 1) 1 (by omega)
  refine ⟨rest, ?_, h2⟩
  rw [List.range_eq_range', List.range'_succ, List.filter_cons, p0, if_neg (by decide)]
  rw [show w.length - 1 + 1 = w.length from by omega] at h1
  exact h1
theorem minP_first : ∀ (l : List Str) (a : Str), (∀ r ∈ l, a.length < r.length) → minP a l = a
  | [], _, _ => rfl
  | y :: l, a, h => by
    have h1 := h y List.mem_cons_self
    show minP (if ltP y a = true then y else a) l = a
    have : ltP y a = false := by
      unfold ltP
      rw [if_neg (by omega)]
      exact decide_eq_false (by omega)
    rw [this, if_neg (by decide)]
    exact minP_first l a fun r hr => h r (List.mem_cons_of_mem _ hr)
end FL
/-! ## LX9 -/
set_option Elab.async false
set_option linter.all false
set_option maxRecDepth 100000
set_option maxHeartbeats 4000000
/-! the law's own splitter, as a function of texts -/
namespace FL
open PySem L2
def optL : Option (List Nat) → List (List Nat)
  | none => []
  | some p => [p]
/-- what is left, whether a backslash stood last, the index, the token so far, the open mark (0: none) and its index, the tokens -/
def lawE : List Nat → Bool → Nat → Option (List Nat) → Nat → Nat → List (List Nat) → Except Nat (List (List Nat))
  | [], true, k, _, m, s, _ => .error (if m = 0 then k - 1 else s)
  | [], false, _, p, m, s, t => if m = 0 then .ok (t ++ optL p) else .error s
  | c :: r, true, k, p, m, s, t => lawE r false (k + 1) (some (p.getD [] ++ [c])) m s t
  | c :: r, false, k, p, m, s, t => if m = 0 ∧ c = 32 then lawE r false (k + 1) none 0 s (t ++ optL p)
    else if m = 0 ∧ (c = 39 ∨ c = 34) then lawE r false (k + 1) (some (p.getD [])) c k t
    else if c = m then lawE r false (k + 1) p 0 s t
    else if c = 92 ∧ m ≠ 39 then lawE r true (k + 1) p m s t
    else lawE r false (k + 1) (some (p.getD [] ++ [c])) m s t
theorem lawE_t (c : Nat) (r : List Nat) (k : Nat) (p : Option (List Nat)) (m s : Nat) (t : List (List Nat)) : lawE (c :: r) true k p m s t = lawE r false (k + 1) (some (p.getD [] ++ [c])) m s t := rfl
theorem lawE_f (c : Nat) (r : List Nat) (k : Nat) (p : Option (List Nat)) (m s : Nat) (t : List (List Nat)) : lawE (c :: r) false k p m s t = if m = 0 ∧ c = 32 then lawE r false (k + 1) none 0 s (t ++ optL p)
    else if m = 0 ∧ (c = 39 ∨ c = 34) then lawE r false (k + 1) (some (p.getD [])) c k t
    else if c = m then lawE r false (k + 1) p 0 s t
    else if c = 92 ∧ m ≠ 39 then lawE r true (k + 1) p m s t
    else lawE r false (k + 1) (some (p.getD [] ++ [c])) m s t := rfl
/-- inside quotation marks -/
theorem lawE_q {q : Nat} (hq : q = 34 ∨ q = 39) : ∀ (r : List Nat) (b : Bool) (k : Nat) (p : List Nat) (s : Nat) (t : List (List Nat)), lawE r b k (some p) q s t = match rqE q b r with
    | none => .error s
    | some y => lawE (r.drop y.2) false (k + y.2) (some (p ++ y.1)) 0 s t
  | [], true, k, p, s, t => by
    show Except.error (if q = 0 then k - 1 else s) = Except.error s
    rw [if_neg (by omega)]
  | [], false, k, p, s, t => by
    show (if q = 0 then _ else Except.error s) = Except.error s
    rw [if_neg (by omega)]
  | c :: r, true, k, p, s, t => by
    rw [lawE_t, rqE_t, lawE_q hq r false (k + 1) _ s t]
    show (match rqE q false r with
      | none => _
      | some y => lawE (r.drop y.2) false (k + 1 + y.2) (some ((p ++ [c]) ++ y.1)) 0 s t) = _
    cases rqE q false r with
    | none => rfl
    | some y =>
      show lawE (r.drop y.2) false (k + 1 + y.2) (some ((p ++ [c]) ++ y.1)) 0 s t = lawE (r.drop y.2) false (k + (y.2 + 1)) (some (p ++ c :: y.1)) 0 s t
      rw [List.append_assoc, show k + 1 + y.2 = k + (y.2 + 1) from by omega] <;> rfl
  | c :: r, false, k, p, s, t => by
    rw [lawE_f, rqE_f, if_neg (by omega), if_neg (by omega)]
    by_cases h1 : c = q
    · rw [if_pos h1, if_pos h1]
      show lawE r false (k + 1) (some p) 0 s t = lawE r false (k + 1) (some (p ++ [])) 0 s t
      rw [List.append_nil]
    · rw [if_neg h1, if_neg h1]
      by_cases h2 : q = 34 ∧ c = 92
      · rw [if_pos (show c = 92 ∧ q ≠ 39 from ⟨h2.2, by omega⟩), if_pos h2, lawE_q hq r true (k + 1) p s t]
        cases rqE q true r with
        | none => rfl
        | some y =>
          show lawE (r.drop y.2) false (k + 1 + y.2) (some (p ++ y.1)) 0 s t = lawE (r.drop y.2) false (k + (y.2 + 1)) (some (p ++ y.1)) 0 s t
          rw [show k + 1 + y.2 = k + (y.2 + 1) from by omega]
      · rw [if_neg (show ¬ (c = 92 ∧ q ≠ 39) from fun h => h2 ⟨by omega, h.1⟩), if_neg h2, lawE_q hq r false (k + 1) _ s t]
        cases rqE q false r with
        | none => rfl
        | some y =>
          show lawE (r.drop y.2) false (k + 1 + y.2) (some ((p ++ [c]) ++ y.1)) 0 s t = lawE (r.drop y.2) false (k + (y.2 + 1)) (some (p ++ c :: y.1)) 0 s t
          rw [List.append_assoc, show k + 1 + y.2 = k + (y.2 + 1) from by omega] <;> rfl
/-- outside of quotation marks the index of the last mark does not matter -/
theorem lawE_s : ∀ (r : List Nat) (b : Bool) (k : Nat) (p : Option (List Nat)) (s s' : Nat) (t : List (List Nat)), lawE r b k p 0 s t = lawE r b k p 0 s' t
  | [], true, _, _, _, _, _ => rfl
  | [], false, _, _, _, _, _ => rfl
  | c :: r, true, k, p, s, s', t => by
    rw [lawE_t, lawE_t]
    exact lawE_s r false (k + 1) _ s s' t
  | c :: r, false, k, p, s, s', t => by
    rw [lawE_f, lawE_f]
    by_cases h1 : (0 : Nat) = 0 ∧ c = 32
    · rw [if_pos h1, if_pos h1]
      exact lawE_s r false (k + 1) _ s s' _
    rw [if_neg h1, if_neg h1]
    by_cases h2 : (0 : Nat) = 0 ∧ (c = 39 ∨ c = 34)
    · rw [if_pos h2, if_pos h2]
    rw [if_neg h2, if_neg h2]
    by_cases h3 : c = 0
    · rw [if_pos h3, if_pos h3]
      exact lawE_s r false (k + 1) _ s s' t
    rw [if_neg h3, if_neg h3]
    by_cases h4 : c = 92 ∧ (0 : Nat) ≠ 39
    · rw [if_pos h4, if_pos h4]
      exact lawE_s r true (k + 1) _ s s' t
    rw [if_neg h4, if_neg h4]
    exact lawE_s r false (k + 1) _ s s' t
end FL
/-! ## LX10 -/
set_option Elab.async false
set_option linter.all false
set_option maxRecDepth 100000
set_option maxHeartbeats 4000000
/-! the law's own splitter says what the lexer's functions say -/
namespace FL
open PySem L2
theorem lawE_p (c : Nat) (r : List Nat) (h32 : c ≠ 32) (h0 : c ≠ 0) (k : Nat) (p : Option (List Nat)) (s : Nat) (t : List (List Nat)) : lawE (c :: r) false k p 0 s t = match rpL (c :: r) with
    | none => .error k
    | some y => lawE ((c :: r).drop y.2) false (k + y.2) (some (p.getD [] ++ y.1)) 0 s t := by
  rw [lawE_f, if_neg (fun h => h32 h.2)]
  unfold rpL
  dsimp only
  by_cases q : c = 34 ∨ c = 39
  · rw [if_pos (show (0 : Nat) = 0 ∧ (c = 39 ∨ c = 34) from ⟨rfl, q.symm⟩), if_pos q, lawE_q q r false (k + 1) _ k t]
    show _ = match (rqE c false r).map (fun p : List Nat × Nat => (p.1, p.2 + 1)) with
      | none => Except.error k
      | some y => lawE ((c :: r).drop y.2) false (k + y.2) (some (p.getD [] ++ y.1)) 0 s t
    cases rqE c false r with
    | none => rfl
    | some y =>
      show lawE (r.drop y.2) false (k + 1 + y.2) (some (p.getD [] ++ y.1)) 0 k t = lawE (r.drop y.2) false (k + (y.2 + 1)) (some (p.getD [] ++ y.1)) 0 s t
      rw [show k + 1 + y.2 = k + (y.2 + 1) from by omega]
      exact lawE_s _ _ _ _ _ _ _
  · rw [if_neg (fun h => q h.2.symm), if_neg q, if_neg h0]
    by_cases n : c = 92
    · rw [if_pos (show c = 92 ∧ (0 : Nat) ≠ 39 from ⟨n, by decide⟩), if_pos n]
      cases r with
      | nil => rfl
      | cons d r => rfl
    · rw [if_neg (fun h => n h.1), if_neg n] <;> rfl
theorem drop_at {cs : List Nat} {j c : Nat} (h : cs[j]? = some c) : cs.drop j = c :: cs.drop (j + 1) := by
  obtain ⟨hi, e⟩ := List.getElem?_eq_some_iff.mp h
  rw [List.drop_eq_getElem_cons hi, e]
theorem drop_out {cs : List Nat} {j : Nat} (h : cs[j]? = none) : cs.drop j = [] := List.drop_of_length_le (List.getElem?_eq_none_iff.mp h)
theorem lawE_tok {cs : List Nat} (n0 : ∀ c ∈ cs, c ≠ 0) (s : Nat) (t : List (List Nat)) : ∀ (f j : Nat) (p : List Nat), lawE (cs.drop j) false j (some p) 0 s t = match tokF f cs j with
    | .error q => .error q
    | .ok y => lawE (cs.drop y.2) false y.2 (some (p ++ y.1)) 0 s t
  | 0, j, p => by
    show _ = lawE (cs.drop j) false j (some (p ++ [])) 0 s t
    rw [List.append_nil]
  | f + 1, j, p => by
    cases hc : cs[j]? with
    | none =>
      rw [tok_end hc]
      show _ = lawE (cs.drop j) false j (some (p ++ [])) 0 s t
      rw [List.append_nil]
    | some c =>
      by_cases h32 : c = 32
      · subst h32
        rw [tok_sp hc]
        show _ = lawE (cs.drop j) false j (some (p ++ [])) 0 s t
        rw [List.append_nil]
      · have h := lawE_p c (cs.drop (j + 1)) h32 (n0 c (List.mem_of_getElem? hc)) j (some p) s t
        rw [← drop_at hc] at h
        rw [h]
        cases ep : rpL (cs.drop j) with
        | none =>
          rw [tok_no hc h32 ep]
        | some y =>
          obtain ⟨x, n⟩ := y
          rw [tok_more hc h32 ep]
          show lawE ((cs.drop j).drop n) false (j + n) (some (p ++ x)) 0 s t = _
          rw [List.drop_drop, lawE_tok n0 s t f (j + n) (p ++ x)]
          cases tokF f cs (j + n) with
          | error q => rfl
          | ok z =>
            show lawE _ false z.2 (some ((p ++ x) ++ z.1)) 0 s t = lawE _ false z.2 (some (p ++ (x ++ z.1))) 0 s t
            rw [List.append_assoc]
theorem tok_stop {cs : List Nat} : ∀ {f j : Nat} {x : List Nat} {e : Nat}, cs.length < j + f → tokF f cs j = .ok (x, e) → cs[e]? = none ∨ cs[e]? = some 32
  | 0, j, x, e, hl, h => by
    cases h
    exact .inl (List.getElem?_eq_none (by omega))
  | f + 1, j, x, e, hl, h => by
    cases hc : cs[j]? with
    | none =>
      rw [tok_end hc] at h
      cases h
      exact .inl hc
    | some c =>
      by_cases h32 : c = 32
      · subst h32
        rw [tok_sp hc] at h
        cases h
        exact .inr hc
      · cases ep : rpL (cs.drop j) with
        | none =>
          rw [tok_no hc h32 ep] at h
          cases h
        | some p =>
          obtain ⟨y, n⟩ := p
          rw [tok_more hc h32 ep] at h
          have ln := rpL_le ep
          cases et : tokF f cs (j + n) with
          | error q => rw [et] at h; cases h
          | ok r =>
            obtain ⟨u, e2⟩ := r
            rw [et] at h
            obtain ⟨_, rfl⟩ : y ++ u = x ∧ e2 = e := by cases h; exact ⟨rfl, rfl⟩
            exact tok_stop (by omega) et
theorem lawE_blk {cs : List Nat} (s : Nat) (t : List (List Nat)) : ∀ (n j : Nat), cs.length < j + n → lawE (cs.drop j) false j none 0 s t = lawE (cs.drop (blk cs j)) false (blk cs j) none 0 s t
  | 0, j, h => by rw [blk_end (by omega)]
  | n + 1, j, h => by
    cases hc : cs[j]? with
    | none => rw [blk_end (List.getElem?_eq_none_iff.mp hc)]
    | some c =>
      by_cases h32 : c = 32
      · subst h32
        rw [blk_yes hc, ← lawE_blk s t n (j + 1) (by omega), drop_at hc, lawE_f, if_pos ⟨rfl, rfl⟩]
        show lawE _ false (j + 1) none 0 s (t ++ []) = _
        rw [List.append_nil]
      · rw [blk_no hc h32]
theorem lawE_spl {cs : List Nat} (n0 : ∀ c ∈ cs, c ≠ 0) (s : Nat) : ∀ (f j : Nat) (t : List (List Nat)), cs.length < j + f → j ≤ cs.length → cs[j]? ≠ some 32 → lawE (cs.drop j) false j none 0 s t = preS t (splF f cs j)
  | 0, j, t, h, hj, _ => absurd h (by omega)
  | f + 1, j, t, h, hj, n32 => by
    cases hc : cs[j]? with
    | none =>
      rw [drop_out hc, spl_end (by have := List.getElem?_eq_none_iff.mp hc; omega)] <;> rfl
    | some c =>
      have h32 : c ≠ 32 := fun e => n32 (by rw [hc, e])
      have hjl := (List.getElem?_eq_some_iff.mp hc).1
      have c0 := n0 c (List.mem_of_getElem? hc)
      have e1 : lawE (cs.drop j) false j none 0 s t = lawE (cs.drop j) false j (some []) 0 s t := by
        rw [drop_at hc, lawE_p c _ h32 c0, lawE_p c _ h32 c0] <;> rfl
      rw [e1, lawE_tok n0 s t (cs.length + 1) j []]
      cases et : tokL cs j with
      | error q =>
        rw [spl_no hjl et, show tokF (cs.length + 1) cs j = Except.error q from et] <;> rfl
      | ok y =>
        obtain ⟨x, e⟩ := y
        have le := tok_le hj et
        have lt := tok_lt hc h32 et
        rw [spl_more hjl et, show tokF (cs.length + 1) cs j = Except.ok (x, e) from et, preS_app]
        show lawE (cs.drop e) false e (some ([] ++ x)) 0 s t = _
        rw [List.nil_append]
        have lb := blk_le le.2.1
        rw [← lawE_spl n0 s f (blk cs e) (t ++ [x]) (by omega) lb.2 blk_at, ← lawE_blk s (t ++ [x]) (cs.length + 1) e (by omega)]
        rcases tok_stop (by omega) et with hn | hs
        · rw [drop_out hn]
          show Except.ok (t ++ [x]) = Except.ok ((t ++ [x]) ++ [])
          rw [List.append_nil]
        · rw [drop_at hs, lawE_f, lawE_f, if_pos ⟨rfl, rfl⟩, if_pos ⟨rfl, rfl⟩]
          show lawE _ false (e + 1) none 0 s (t ++ [x]) = lawE _ false (e + 1) none 0 s ((t ++ [x]) ++ [])
          rw [List.append_nil]
/-- the two splitters agree -/
theorem lawE_all {cs : List Nat} (n0 : ∀ c ∈ cs, c ≠ 0) : lawE cs false 0 none 0 0 [] = splL cs := by
  have h := lawE_blk (cs := cs) 0 [] (cs.length + 1) 0 (by omega)
  rw [List.drop_zero] at h
  have lb := blk_le (cs := cs) (Nat.zero_le _)
  rw [h, lawE_spl n0 0 (cs.length + 1) (blk cs 0) [] (by omega) lb.2 blk_at, preS_nil]
  rfl
end FL
/-! ## QM1 -/
set_option Elab.async false
set_option linter.all false
set_option maxRecDepth 100000
set_option maxHeartbeats 4000000
/-! quote: the mathematics -/
namespace FL
open PySem L2
/-- shorter, or of one length and smaller -/
def ltQ (a b : List Nat) : Bool := if a.length = b.length then decide (a < b) else decide (a.length < b.length)
theorem ltP_tS (a b : List Nat) : ltP (tS a) (tS b) = ltQ a b := by
  unfold ltP ltQ
  rw [show (tS a).length = a.length by simp [tS, Str.length], show (tS b).length = b.length by simp [tS, Str.length]]
theorem ltQ_irr (a : List Nat) : ltQ a a = false := by
  unfold ltQ
  rw [if_pos rfl]
  exact lt_irr a
theorem ltQ_len {a b : List Nat} (h : ltQ a b = false) : b.length ≤ a.length := by
  unfold ltQ at h
  by_cases e : a.length = b.length
  · omega
  · rw [if_neg e, decide_eq_false_iff_not] at h
    omega
theorem ltQ_of_len {a b : List Nat} (h : b.length < a.length) : ltQ a b = false := by
  unfold ltQ
  rw [if_neg (by omega), decide_eq_false_iff_not]
  omega
theorem ltQ_trans {a b c : List Nat} (h : ltQ a b = false) (h2 : ltQ b c = false) : ltQ a c = false := by
  have l1 := ltQ_len h
  have l2 := ltQ_len h2
  by_cases e : a.length = c.length
  · unfold ltQ at h h2 ⊢
    rw [if_pos (by omega), decide_eq_false_iff_not] at h h2
    rw [if_pos e, decide_eq_false_iff_not]
    exact List.not_lt.mpr (List.le_trans (List.not_lt.mp h2) (List.not_lt.mp h))
  · exact ltQ_of_len (by omega)
theorem ltQ_asymm {a b : List Nat} (h : ltQ a b = true) : ltQ b a = false := by
  unfold ltQ at h ⊢
  by_cases e : a.length = b.length
  · rw [if_pos e, decide_eq_true_iff] at h
    rw [if_pos e.symm, decide_eq_false_iff_not]
    exact List.lt_asymm h
  · rw [if_neg e, decide_eq_true_iff] at h
    rw [if_neg (fun z => e z.symm), decide_eq_false_iff_not]
    omega
theorem ltQ_anti {a b : List Nat} (h : ltQ a b = false) (h2 : ltQ b a = false) : a = b := by
  have l1 := ltQ_len h
  have l2 := ltQ_len h2
  have e : a.length = b.length := by omega
  unfold ltQ at h h2
  rw [if_pos e, decide_eq_false_iff_not] at h
  rw [if_pos e.symm, decide_eq_false_iff_not] at h2
  exact List.le_antisymm (List.not_lt.mp h2) (List.not_lt.mp h)
theorem ltQ_cons (x : Nat) (a b : List Nat) : ltQ (x :: a) (x :: b) = ltQ a b := by
  unfold ltQ
  have : (x :: a < x :: b) ↔ a < b := by rw [List.cons_lt_cons_iff]; simp
  by_cases e : a.length = b.length
  · rw [if_pos e, if_pos (by rw [List.length_cons, List.length_cons, e])]
    exact decide_eq_decide.mpr this
  · rw [if_neg e, if_neg (by rw [List.length_cons, List.length_cons]; omega)]
    rw [Bool.eq_iff_iff, decide_eq_true_iff, decide_eq_true_iff, List.length_cons, List.length_cons]
    omega
theorem ltQ_pre (p a b : List Nat) : ltQ (p ++ a) (p ++ b) = ltQ a b := by
  induction p with
  | nil => rfl
  | cons x p ih => rw [List.cons_append, List.cons_append, ltQ_cons, ih]
/-- x is the least of S -/
def Mn (x : List Nat) (S : List (List Nat)) : Prop := x ∈ S ∧ ∀ y ∈ S, ltQ y x = false
abbrev lesC (a b : List Nat) : List Nat := if ltQ b a = true then b else a
section
variable {x y : List Nat} {S T : List (List Nat)}
theorem Mn.uniq (h : Mn x S) (h2 : Mn y S) : x = y := ltQ_anti (h2.2 x h.1) (h.2 y h2.1)
theorem Mn.ext (h : Mn x S) (e : ∀ z, z ∈ S ↔ z ∈ T) : Mn x T := ⟨(e x).mp h.1, fun y hy => h.2 y ((e y).mpr hy)⟩
theorem Mn.one (x : List Nat) : Mn x [x] := ⟨List.mem_singleton.mpr rfl, fun y hy => by rw [List.mem_singleton.mp hy]; exact ltQ_irr x⟩
theorem Mn.pre (p : List Nat) (h : Mn x S) : Mn (p ++ x) (S.map (p ++ ·)) := ⟨List.mem_map.mpr ⟨x, h.1, rfl⟩, fun y hy => by
  obtain ⟨z, hz, rfl⟩ := List.mem_map.mp hy
  show ltQ (p ++ z) (p ++ x) = false
  rw [ltQ_pre]
  exact h.2 z hz⟩
theorem Mn.both (h : Mn x S) (h2 : Mn y T) : Mn (lesC x y) (S ++ T) := by
  unfold lesC
  cases e : ltQ y x with
  | true =>
    rw [if_pos rfl]
    refine ⟨List.mem_append_right _ h2.1, fun z hz => ?_⟩
    rcases List.mem_append.mp hz with hz | hz
    · exact ltQ_trans (h.2 z hz) (ltQ_asymm e)
    · exact h2.2 z hz
  | false =>
    rw [if_neg Bool.false_ne_true]
    refine ⟨List.mem_append_left _ h.1, fun z hz => ?_⟩
    rcases List.mem_append.mp hz with hz | hz
    · exact h.2 z hz
    · exact ltQ_trans (h2.2 z hz) e
/-- what is longer than some of S takes no part -/
theorem Mn.more (h : Mn x S) (l : ∀ z ∈ T, x.length < z.length) : Mn x (T ++ S) := ⟨List.mem_append_right _ h.1, fun z hz => by
  rcases List.mem_append.mp hz with hz | hz
  · exact ltQ_of_len (l z hz)
  · exact h.2 z hz⟩
theorem Mn.len (h : Mn x S) (hy : y ∈ S) : x.length ≤ y.length := ltQ_len (h.2 y hy)
end
def minC (a : List Nat) (l : List (List Nat)) : List Nat := l.foldl lesC a
theorem minC_mn : ∀ (l : List (List Nat)) (a : List Nat), Mn (minC a l) (a :: l)
  | [], a => Mn.one a
  | y :: l, a => by
    have h := minC_mn l (lesC a y)
    have e : lesC a y = a ∨ lesC a y = y := by
      unfold lesC
      split
      · exact .inr rfl
      · exact .inl rfl
    have hb := (Mn.one a).both (Mn.one y)
    refine ⟨?_, fun z hz => ?_⟩
    · show minC (lesC a y) l ∈ _
      rcases List.mem_cons.mp h.1 with h1 | h1
      · rw [h1]
        rcases e with e | e
        · rw [e]; exact List.mem_cons_self
        · rw [e]; exact List.mem_cons_of_mem _ List.mem_cons_self
      · exact List.mem_cons_of_mem _ (List.mem_cons_of_mem _ h1)
    · show ltQ z (minC (lesC a y) l) = false
      have top := h.2 (lesC a y) List.mem_cons_self
      rcases List.mem_cons.mp hz with rfl | hz
      · exact ltQ_trans (hb.2 z (by simp)) top
      rcases List.mem_cons.mp hz with rfl | hz
      · exact ltQ_trans (hb.2 z (by simp)) top
      · exact h.2 z (List.mem_cons_of_mem _ hz)
theorem minP_tS : ∀ (l : List (List Nat)) (a : List Nat), minP (tS a) (l.map tS) = tS (minC a l)
  | [], _ => rfl
  | y :: l, a => by
    show minP (if ltP (tS y) (tS a) = true then tS y else tS a) (l.map tS) = tS (minC (if ltQ y a = true then y else a) l)
    rw [ltP_tS]
    cases ltQ y a with
    | true => exact minP_tS l y
    | false => exact minP_tS l a
theorem minB_minP (a : Str) (l : List Str) : (a :: l).getD (argBest (btS (a :: l)) ((a :: l).length - 1)) "" = minP a l := by
  have h := (PySem.W.argBest_fold ltP "" a l l.length (Nat.le_refl _)).2
  rw [List.take_length] at h
  exact h
theorem minB_tS (a : List Nat) (l : List (List Nat)) : ((a :: l).map tS).getD (argBest (btS ((a :: l).map tS)) (((a :: l).map tS).length - 1)) "" = tS (minC a l) := by
  rw [List.map_cons, minB_minP, minP_tS]
/-! ### the program's steps -/
abbrev escC (c : Nat) : List Nat := [92, c]
abbrev inD (c : Nat) : Prop := c = 34 ∨ c = 92
abbrev spec (c : Nat) : Prop := c = 32 ∨ c = 39 ∨ c = 34 ∨ c = 92
def dblC (c : Nat) (d : List Nat) : List Nat := (if inD c then escC c else [c]) ++ d
def waysC (c : Nat) (o d : List Nat) : List (List Nat) := [34 :: dblC c d] ++ (if spec c then [] else [c :: o])
def outC (c : Nat) (o s d : List Nat) : List Nat := minC (escC c ++ o) (waysC c o d ++ (if c = 39 then [] else [[39, c] ++ s]))
def sinC (c : Nat) (o s d : List Nat) : List Nat := if c = 39 then 39 :: outC c o s d else minC (39 :: outC c o s d) [c :: s]
def douC (c : Nat) (o s d : List Nat) : List Nat := minC (34 :: outC c o s d) [dblC c d]
/-- outside, single, double behind a rest -/
def qAll : List Nat → List Nat × List Nat × List Nat
  | [] => ([], [39], [34])
  | c :: r => let q := qAll r; (outC c q.1 q.2.1 q.2.2, sinC c q.1 q.2.1 q.2.2, douC c q.1 q.2.1 q.2.2)
def qTx (cs : List Nat) : List Nat := if cs = [] then [34, 34] else (qAll cs).1
/-! ### the law's ways -/
def mkC (m : Nat) : List Nat := if m = 0 then [] else [m]
def opensC (m : Nat) : List Nat := if m = 0 then [0, 39, 34] else [0]
abbrev hereC (m o : Nat) : Nat := if m = 0 then o else m
abbrev plainC (h c : Nat) : Prop := (h = 0 ∧ ¬ spec c) ∨ (h = 39 ∧ c ≠ 39) ∨ (h = 34 ∧ ¬ inD c)
def formsC (h c : Nat) : List (List Nat) := (if h = 39 then [] else [escC c]) ++ (if plainC h c then [[c]] else [])
def partW (W : Nat → List (List Nat)) (o h : Nat) (f : List Nat) : List (List Nat) := (W h).map (fun t => mkC o ++ f ++ t) ++ (if h = 0 then [] else (W 0).map fun t => mkC o ++ f ++ mkC h ++ t)
def lawW : List Nat → Nat → List (List Nat)
  | [], m => [mkC m]
  | c :: r, m => (opensC m).flatMap fun o => (formsC (hereC m o) c).flatMap fun f => partW (lawW r) o (hereC m o) f
abbrev inS (r : List Nat) : List (List Nat) := lawW r 39 ++ (lawW r 0).map ([39] ++ ·)
abbrev inDD (r : List Nat) : List (List Nat) := lawW r 34 ++ (lawW r 0).map ([34] ++ ·)
theorem part0 (r : List Nat) (f : List Nat) : partW (lawW r) 0 0 f = (lawW r 0).map (f ++ ·) := by
  unfold partW mkC
  simp
theorem part39 (r : List Nat) (o : Nat) (f : List Nat) : partW (lawW r) o 39 f = (inS r).map ((mkC o ++ f) ++ ·) := by
  unfold partW
  rw [if_neg (by decide), List.map_append, List.map_map]
  congr 1
  refine List.map_congr_left fun t _ => ?_
  show mkC o ++ f ++ mkC 39 ++ t = (mkC o ++ f) ++ ([39] ++ t)
  rw [show mkC 39 = [39] from rfl, List.append_assoc (mkC o ++ f)]
theorem part34 (r : List Nat) (o : Nat) (f : List Nat) : partW (lawW r) o 34 f = (inDD r).map ((mkC o ++ f) ++ ·) := by
  unfold partW
  rw [if_neg (by decide), List.map_append, List.map_map]
  congr 1
  refine List.map_congr_left fun t _ => ?_
  show mkC o ++ f ++ mkC 34 ++ t = (mkC o ++ f) ++ ([34] ++ t)
  rw [show mkC 34 = [34] from rfl, List.append_assoc (mkC o ++ f)]
theorem lawW39 (c : Nat) (r : List Nat) : lawW (c :: r) 39 = if c = 39 then [] else (inS r).map ([c] ++ ·) := by
  show (opensC 39).flatMap _ = _
  rw [show opensC 39 = [0] from rfl, List.flatMap_cons, List.flatMap_nil, List.append_nil]
  show (formsC 39 c).flatMap (fun f => partW (lawW r) 0 39 f) = _
  unfold formsC
  rw [if_pos rfl, List.nil_append]
  by_cases e : c = 39
  · rw [if_neg (by intro h; rcases h with h | h | h <;> omega), if_pos e]
    rfl
  · rw [if_pos (.inr (.inl ⟨rfl, e⟩)), if_neg e, List.flatMap_cons, List.flatMap_nil, List.append_nil, part39]
    rfl
theorem lawW34 (c : Nat) (r : List Nat) : lawW (c :: r) 34 = (inDD r).map (escC c ++ ·) ++ if inD c then [] else (inDD r).map ([c] ++ ·) := by
  show (opensC 34).flatMap _ = _
  rw [show opensC 34 = [0] from rfl, List.flatMap_cons, List.flatMap_nil, List.append_nil]
  show (formsC 34 c).flatMap (fun f => partW (lawW r) 0 34 f) = _
  unfold formsC
  rw [if_neg (by decide)]
  by_cases e : inD c
  · rw [if_neg (fun h => h.elim (fun h => by omega) fun h => h.elim (fun h => by omega) fun h => h.2 e), if_pos e, List.append_nil, List.append_nil, List.flatMap_cons, List.flatMap_nil, List.append_nil, part34]
    rfl
  · rw [if_pos (.inr (.inr ⟨rfl, e⟩)), if_neg e, List.singleton_append, List.flatMap_cons, List.flatMap_cons, List.flatMap_nil, List.append_nil, part34, part34]
    rfl
theorem lawW0 (c : Nat) (r : List Nat) : lawW (c :: r) 0 = ((lawW r 0).map (escC c ++ ·) ++ if spec c then [] else (lawW r 0).map ([c] ++ ·)) ++ ((if c = 39 then [] else (inS r).map ([39, c] ++ ·)) ++ ((inDD r).map ([34, 92, c] ++ ·) ++ if inD c then [] else (inDD r).map ([34, c] ++ ·))) := by
  show (opensC 0).flatMap _ = _
  rw [show opensC 0 = [0, 39, 34] from rfl, List.flatMap_cons, List.flatMap_cons, List.flatMap_cons, List.flatMap_nil, List.append_nil]
  show (formsC 0 c).flatMap (fun f => partW (lawW r) 0 0 f) ++ ((formsC 39 c).flatMap (fun f => partW (lawW r) 39 39 f) ++ (formsC 34 c).flatMap (fun f => partW (lawW r) 34 34 f)) = _
  refine congr (congrArg _ ?_) (congr (congrArg _ ?_) ?_)
  · unfold formsC
    rw [if_neg (by decide)]
    by_cases e : spec c
    · rw [if_neg (fun h => h.elim (fun h => h.2 e) fun h => h.elim (fun h => by omega) fun h => by omega), if_pos e, List.append_nil, List.append_nil, List.flatMap_cons, List.flatMap_nil, List.append_nil, part0]
    · rw [if_pos (.inl ⟨rfl, e⟩), if_neg e, List.singleton_append, List.flatMap_cons, List.flatMap_cons, List.flatMap_nil, List.append_nil, part0, part0]
  · unfold formsC
    rw [if_pos rfl, List.nil_append]
    by_cases e : c = 39
    · rw [if_neg (by intro h; rcases h with h | h | h <;> omega), if_pos e]
      rfl
    · rw [if_pos (.inr (.inl ⟨rfl, e⟩)), if_neg e, List.flatMap_cons, List.flatMap_nil, List.append_nil, part39]
      rfl
  · unfold formsC
    rw [if_neg (by decide)]
    by_cases e : inD c
    · rw [if_neg (fun h => h.elim (fun h => by omega) fun h => h.elim (fun h => by omega) fun h => h.2 e), if_pos e, List.append_nil, List.append_nil, List.flatMap_cons, List.flatMap_nil, List.append_nil, part34]
      rfl
    · rw [if_pos (.inr (.inr ⟨rfl, e⟩)), if_neg e, List.singleton_append, List.flatMap_cons, List.flatMap_cons, List.flatMap_nil, List.append_nil, part34, part34]
      rfl
/-! ### the program's text is the least way -/
theorem dbl_mn {c : Nat} {r d : List Nat} (h : Mn d (inDD r)) : Mn (dblC c d) ((inDD r).map (escC c ++ ·) ++ if inD c then [] else (inDD r).map ([c] ++ ·)) := by
  unfold dblC
  by_cases e : inD c
  · rw [if_pos e, if_pos e, List.append_nil]
    exact h.pre _
  · rw [if_neg e, if_neg e]
    refine (h.pre [c]).more fun z hz => ?_
    obtain ⟨t, ht, rfl⟩ := List.mem_map.mp hz
    have := h.len ht
    simp only [List.length_append, List.length_cons, List.length_nil]
    omega
theorem minC4 {a x y z : List Nat} {A B C D : List (List Nat)} (h1 : Mn a A) (h2 : Mn x B) (h3 : Mn y C) (h4 : Mn z D) : Mn (minC a [x, y, z]) (((A ++ B) ++ C) ++ D) := ((h1.both h2).both h3).both h4
theorem minC3 {a x y : List Nat} {A B C : List (List Nat)} (h1 : Mn a A) (h2 : Mn x B) (h3 : Mn y C) : Mn (minC a [x, y]) ((A ++ B) ++ C) := (h1.both h2).both h3
theorem minC2 {a x : List Nat} {A B : List (List Nat)} (h1 : Mn a A) (h2 : Mn x B) : Mn (minC a [x]) (A ++ B) := h1.both h2
theorem out_mn {c : Nat} {r o s d : List Nat} (ho : Mn o (lawW r 0)) (hs : Mn s (inS r)) (hd : Mn d (inDD r)) : Mn (outC c o s d) (lawW (c :: r) 0) := by
  have a1 := ho.pre (escC c)
  have a2 := (dbl_mn (c := c) hd).pre [34]
  have a3 := ho.pre [c]
  have a4 := hs.pre [39, c]
  rw [lawW0]
  unfold outC waysC
  have e2 : ((inDD r).map (escC c ++ ·) ++ if inD c then [] else (inDD r).map ([c] ++ ·)).map ([34] ++ ·) = (inDD r).map ([34, 92, c] ++ ·) ++ if inD c then [] else (inDD r).map ([34, c] ++ ·) := by
    rw [List.map_append, List.map_map]
    congr 1
    by_cases e : inD c
    · rw [if_pos e, if_pos e]
      rfl
    · rw [if_neg e, if_neg e, List.map_map]
      rfl
  rw [e2] at a2
  by_cases e : spec c
  · by_cases e' : c = 39
    · rw [if_pos e, if_pos e', if_pos e, if_pos e']
      refine (minC2 a1 a2).ext fun z => ?_
      simp only [List.append_nil, List.nil_append]
    · rw [if_pos e, if_neg e', if_pos e, if_neg e']
      refine (minC3 a1 a2 a4).ext fun z => ?_
      simp only [List.append_nil, List.mem_append]
      constructor
      · rintro ((h | h) | h)
        · exact .inl h
        · exact .inr (.inr h)
        · exact .inr (.inl h)
      · rintro (h | h | h)
        · exact .inl (.inl h)
        · exact .inr h
        · exact .inl (.inr h)
  · have e' : c ≠ 39 := fun z => e (.inr (.inl z))
    rw [if_neg e, if_neg e', if_neg e, if_neg e']
    refine (minC4 a1 a2 a3 a4).ext fun z => ?_
    simp only [List.mem_append]
    constructor
    · rintro (((h | h) | h) | h)
      · exact .inl (.inl h)
      · exact .inr (.inr h)
      · exact .inl (.inr h)
      · exact .inr (.inl h)
    · rintro ((h | h) | h | h)
      · exact .inl (.inl (.inl h))
      · exact .inl (.inr h)
      · exact .inr h
      · exact .inl (.inl (.inr h))
theorem sin_mn {c : Nat} {r o s d : List Nat} (hO : Mn (outC c o s d) (lawW (c :: r) 0)) (hs : Mn s (inS r)) : Mn (sinC c o s d) (inS (c :: r)) := by
  unfold sinC inS
  rw [lawW39]
  by_cases e : c = 39
  · rw [if_pos e, if_pos e, List.nil_append]
    exact hO.pre [39]
  · rw [if_neg e, if_neg e]
    refine (minC2 (hO.pre [39]) (hs.pre [c])).ext fun z => ?_
    rw [List.mem_append, List.mem_append, Or.comm]
theorem dou_mn {c : Nat} {r o s d : List Nat} (hO : Mn (outC c o s d) (lawW (c :: r) 0)) (hd : Mn d (inDD r)) : Mn (douC c o s d) (inDD (c :: r)) := by
  unfold douC
  show Mn _ (lawW (c :: r) 34 ++ (lawW (c :: r) 0).map ([34] ++ ·))
  rw [lawW34]
  refine (minC2 (hO.pre [34]) (dbl_mn (c := c) hd)).ext fun z => ?_
  rw [List.mem_append, List.mem_append (s := _ ++ _), Or.comm]
theorem qAll_mn : ∀ r : List Nat, Mn (qAll r).1 (lawW r 0) ∧ Mn (qAll r).2.1 (inS r) ∧ Mn (qAll r).2.2 (inDD r)
  | [] => by
    refine ⟨Mn.one _, ?_, ?_⟩
    · show Mn [39] [[39], [39]]
      exact ⟨by simp, fun y hy => by simp at hy; rw [hy]; exact ltQ_irr _⟩
    · show Mn [34] [[34], [34]]
      exact ⟨by simp, fun y hy => by simp at hy; rw [hy]; exact ltQ_irr _⟩
  | c :: r => by
    obtain ⟨h1, h2, h3⟩ := qAll_mn r
    have hO := out_mn (c := c) h1 h2 h3
    exact ⟨hO, sin_mn hO h2, dou_mn hO h3⟩
end FL
/-! ## QM2 -/
set_option Elab.async false
set_option linter.all false
set_option maxRecDepth 100000
set_option maxHeartbeats 4000000
/-! quote: how long it is, and what it is split into -/
namespace FL
open PySem L2
theorem minC_le {a y : List Nat} {l : List (List Nat)} (h : y ∈ a :: l) : (minC a l).length ≤ y.length := (minC_mn l a).len h
/-- how many apostrophes, how many signs that want a backslash in double marks -/
abbrev nApo (r : List Nat) : Nat := r.countP (· = 39)
abbrev nBs (r : List Nat) : Nat := r.countP (fun c => c = 34 ∨ c = 92)
theorem qAll_sin : ∀ r : List Nat, (qAll r).1.length ≤ r.length + 2 + 3 * nApo r ∧ (qAll r).2.1.length ≤ r.length + 1 + 3 * nApo r
  | [] => ⟨by show 0 ≤ _; omega, by show 1 ≤ 0 + 1 + 3 * 0; omega⟩
  | c :: r => by
    obtain ⟨h1, h2⟩ := qAll_sin r
    show (outC c (qAll r).1 (qAll r).2.1 (qAll r).2.2).length ≤ _ ∧ (sinC c (qAll r).1 (qAll r).2.1 (qAll r).2.2).length ≤ _
    have o1 : (outC c (qAll r).1 (qAll r).2.1 (qAll r).2.2).length ≤ (escC c ++ (qAll r).1).length := minC_le List.mem_cons_self
    rw [List.length_append, show (escC c).length = 2 from rfl] at o1
    unfold nApo at h1 h2 ⊢
    rw [List.length_cons, List.countP_cons]
    by_cases e : c = 39
    · rw [if_pos (decide_eq_true e)]
      refine ⟨by omega, ?_⟩
      unfold sinC
      rw [if_pos e, List.length_cons]
      omega
    · rw [if_neg (by simp [e])]
      have o2 : (outC c (qAll r).1 (qAll r).2.1 (qAll r).2.2).length ≤ ([39, c] ++ (qAll r).2.1).length := minC_le (by rw [if_neg e]; simp)
      rw [List.length_append, show ([39, c] : List Nat).length = 2 from rfl] at o2
      refine ⟨by omega, ?_⟩
      unfold sinC
      rw [if_neg e]
      have : (minC (39 :: outC c (qAll r).1 (qAll r).2.1 (qAll r).2.2) [c :: (qAll r).2.1]).length ≤ (c :: (qAll r).2.1).length := minC_le (by simp)
      rw [List.length_cons] at this
      omega
theorem dblC_len (c : Nat) (d : List Nat) : (dblC c d).length = d.length + 1 + if inD c then 1 else 0 := by
  unfold dblC
  rw [List.length_append]
  by_cases e : inD c
  · rw [if_pos e, if_pos e]
    show 2 + _ = _
    omega
  · rw [if_neg e, if_neg e]
    show 1 + _ = _
    omega
theorem qAll_dou : ∀ r : List Nat, (qAll r).2.2.length ≤ r.length + 1 + nBs r
  | [] => by show 1 ≤ 0 + 1 + 0; omega
  | c :: r => by
    have h := qAll_dou r
    show (douC c (qAll r).1 (qAll r).2.1 (qAll r).2.2).length ≤ _
    have o1 : (douC c (qAll r).1 (qAll r).2.1 (qAll r).2.2).length ≤ (dblC c (qAll r).2.2).length := minC_le (by simp)
    rw [dblC_len] at o1
    unfold nBs at h ⊢
    rw [List.length_cons, List.countP_cons]
    by_cases e : inD c
    · rw [if_pos e] at o1
      rw [if_pos (decide_eq_true e)]
      omega
    · rw [if_neg e] at o1
      rw [if_neg (fun z => e (of_decide_eq_true z))]
      omega
theorem qAll_out2 {r : List Nat} (n : r ≠ []) : (qAll r).1.length ≤ r.length + 2 + nBs r := by
  cases r with
  | nil => exact absurd rfl n
  | cons c r =>
    have h := qAll_dou r
    show (outC c (qAll r).1 (qAll r).2.1 (qAll r).2.2).length ≤ _
    have o1 : (outC c (qAll r).1 (qAll r).2.1 (qAll r).2.2).length ≤ (34 :: dblC c (qAll r).2.2).length := minC_le (by unfold waysC; simp)
    rw [List.length_cons, dblC_len] at o1
    unfold nBs at h ⊢
    rw [List.length_cons, List.countP_cons]
    by_cases e : inD c
    · rw [if_pos e] at o1
      rw [if_pos (decide_eq_true e)]
      omega
    · rw [if_neg e] at o1
      rw [if_neg (fun z => e (of_decide_eq_true z))]
      omega
theorem apo_bs : ∀ r : List Nat, nApo r + nBs r ≤ r.length
  | [] => by show 0 + 0 ≤ 0; omega
  | c :: r => by
    have h := apo_bs r
    unfold nApo nBs at h ⊢
    rw [List.length_cons, List.countP_cons, List.countP_cons]
    by_cases e : c = 39
    · rw [if_pos (decide_eq_true e), if_neg (by rw [decide_eq_true_iff]; omega)]
      omega
    · rw [if_neg (by simp [e])]
      split <;> omega
theorem qTx_apo (r : List Nat) : (qTx r).length ≤ r.length + 2 + 3 * nApo r := by
  unfold qTx
  by_cases e : r = []
  · rw [if_pos e, e]
    show 2 ≤ 0 + 2 + 3 * 0
    omega
  · rw [if_neg e]
    exact (qAll_sin r).1
theorem qTx_bs (r : List Nat) : (qTx r).length ≤ r.length + 2 + nBs r := by
  unfold qTx
  by_cases e : r = []
  · rw [if_pos e, e]
    show 2 ≤ 0 + 2 + 0
    omega
  · rw [if_neg e]
    exact qAll_out2 e
theorem qTx_37 {r : List Nat} (h : r.length ≤ 20) : (qTx r).length ≤ 37 := by
  have h1 := qTx_apo r
  have h2 := qTx_bs r
  have h3 := apo_bs r
  omega
/-! ### the splitter reads a way as its token -/
theorem way_spl : ∀ (r : List Nat) (m : Nat) (y : List Nat), y ∈ lawW r m → m = 0 ∨ m = 39 ∨ m = 34 → (∀ c ∈ r, c ≠ 0) → ∀ (z : List Nat) (k : Nat) (p : Option (List Nat)) (s : Nat) (t : List (List Nat)), (m ≠ 0 → ∃ x, p = some x) →
    ∃ k' s', lawE (y ++ z) false k p m s t = lawE z false k' (if r = [] ∧ m = 0 then p else some (p.getD [] ++ r)) 0 s' t
  | [], m, y, hy, hm, _, z, k, p, s, t, hp => by
    have hy : y ∈ [mkC m] := hy
    rw [List.mem_singleton.mp hy]
    by_cases e : m = 0
    · subst e
      rw [if_pos ⟨rfl, rfl⟩]
      exact ⟨k, s, rfl⟩
    · obtain ⟨x, rfl⟩ := hp e
      rw [if_neg (fun h => e h.2)]
      unfold mkC
      rw [if_neg e]
      refine ⟨k + 1, s, ?_⟩
      show lawE (m :: z) false k (some x) m s t = _
      rw [lawE_f, if_neg (fun h => e h.1), if_neg (fun h => e h.1), if_pos rfl]
      show _ = lawE z false (k + 1) (some (x ++ [])) 0 s t
      rw [List.append_nil]
  | c :: r, m, y, hy, hm, h0, z, k, p, s, t, hp => by
    have c0 : c ≠ 0 := h0 c List.mem_cons_self
    have r0 : ∀ c ∈ r, c ≠ 0 := fun c hc => h0 c (List.mem_cons_of_mem _ hc)
    rw [if_neg (fun h => nomatch h.1)]
    obtain ⟨o, ho, hy⟩ := List.mem_flatMap.mp hy
    obtain ⟨f, hf, hy⟩ := List.mem_flatMap.mp hy
    -- the mark that opens
    have open1 : ∀ Z : List Nat, ∃ k1 p1 s1, lawE (mkC o ++ Z) false k p m s t = lawE Z false k1 p1 (hereC m o) s1 t ∧ p1.getD [] = p.getD [] ∧ (hereC m o ≠ 0 → ∃ x, p1 = some x) := fun Z => by
      by_cases e : m = 0
      · subst e
        have ho : o = 0 ∨ o = 39 ∨ o = 34 := by simpa [opensC] using ho
        rw [show hereC 0 o = o from if_pos rfl]
        unfold mkC
        by_cases eo : o = 0
        · subst eo
          rw [if_pos rfl]
          exact ⟨k, p, s, rfl, rfl, fun h => absurd rfl h⟩
        · rw [if_neg eo]
          refine ⟨k + 1, some (p.getD []), k, ?_, rfl, fun _ => ⟨_, rfl⟩⟩
          show lawE (o :: Z) false k p 0 s t = _
          rw [lawE_f, if_neg (by omega), if_pos ⟨rfl, by omega⟩]
      · have ho : o = 0 := by
          unfold opensC at ho
          rw [if_neg e] at ho
          exact List.mem_singleton.mp ho
        subst ho
        rw [show hereC m 0 = m from if_neg e]
        exact ⟨k, p, s, rfl, rfl, fun _ => hp e⟩
    have hh : hereC m o = 0 ∨ hereC m o = 39 ∨ hereC m o = 34 := by
      unfold hereC
      split
      · rename_i e
        subst e
        simpa [opensC] using ho
      · exact hm
    generalize hereC m o = h at hf hy open1 hh
    -- the sign itself
    have form1 : ∀ (Z : List Nat) (k1 : Nat) (p1 : Option (List Nat)) (s1 : Nat), ∃ k2, lawE (f ++ Z) false k1 p1 h s1 t = lawE Z false k2 (some (p1.getD [] ++ [c])) h s1 t := fun Z k1 p1 s1 => by
      unfold formsC at hf
      rcases List.mem_append.mp hf with hf | hf
      · by_cases e : h = 39
        · rw [if_pos e] at hf
          cases hf
        · rw [if_neg e] at hf
          rw [List.mem_singleton.mp hf]
          refine ⟨k1 + 1 + 1, ?_⟩
          show lawE (92 :: c :: Z) false k1 p1 h s1 t = _
          rw [lawE_f, if_neg (by omega), if_neg (by omega), if_neg (by omega), if_pos ⟨rfl, e⟩, lawE_t]
      · by_cases e : plainC h c
        · rw [if_pos e] at hf
          rw [List.mem_singleton.mp hf]
          refine ⟨k1 + 1, ?_⟩
          show lawE (c :: Z) false k1 p1 h s1 t = _
          have e : (h = 0 ∧ ¬ (c = 32 ∨ c = 39 ∨ c = 34 ∨ c = 92)) ∨ (h = 39 ∧ c ≠ 39) ∨ (h = 34 ∧ ¬ (c = 34 ∨ c = 92)) := e
          rw [lawE_f, if_neg (by omega), if_neg (by omega), if_neg (by omega), if_neg (by omega)]
        · rw [if_neg e] at hf
          cases hf
    unfold partW at hy
    rcases List.mem_append.mp hy with hy | hy
    · obtain ⟨t', ht, rfl⟩ := List.mem_map.mp hy
      obtain ⟨k1, p1, s1, e1, g1, _⟩ := open1 (f ++ (t' ++ z))
      obtain ⟨k2, e2⟩ := form1 (t' ++ z) k1 p1 s1
      obtain ⟨k3, s3, e3⟩ := way_spl r h t' ht hh r0 z k2 (some (p1.getD [] ++ [c])) s1 t (fun _ => ⟨_, rfl⟩)
      refine ⟨k3, s3, ?_⟩
      rw [List.append_assoc, List.append_assoc, e1, e2, e3, g1]
      by_cases q : r = [] ∧ h = 0
      · rw [if_pos q, q.1]
      · rw [if_neg q]
        show lawE z false k3 (some ((p.getD [] ++ [c]) ++ r)) 0 s3 t = _
        rw [List.append_assoc] <;> rfl
    · by_cases e : h = 0
      · rw [if_pos e] at hy
        cases hy
      · rw [if_neg e] at hy
        obtain ⟨t', ht, rfl⟩ := List.mem_map.mp hy
        obtain ⟨k1, p1, s1, e1, g1, _⟩ := open1 (f ++ (mkC h ++ (t' ++ z)))
        obtain ⟨k2, e2⟩ := form1 (mkC h ++ (t' ++ z)) k1 p1 s1
        have e4 : lawE (mkC h ++ (t' ++ z)) false k2 (some (p1.getD [] ++ [c])) h s1 t = lawE (t' ++ z) false (k2 + 1) (some (p1.getD [] ++ [c])) 0 s1 t := by
          unfold mkC
          rw [if_neg e]
          show lawE (h :: (t' ++ z)) false k2 _ h s1 t = _
          rw [lawE_f, if_neg (fun q => e q.1), if_neg (fun q => e q.1), if_pos rfl]
        obtain ⟨k3, s3, e3⟩ := way_spl r 0 t' ht (.inl rfl) r0 z (k2 + 1) (some (p1.getD [] ++ [c])) s1 t (fun q => absurd rfl q)
        refine ⟨k3, s3, ?_⟩
        rw [List.append_assoc, List.append_assoc, List.append_assoc, e1, e2, e4, e3, g1]
        by_cases q : r = []
        · rw [if_pos ⟨q, rfl⟩, q]
        · rw [if_neg (fun w => q w.1)]
          show lawE z false k3 (some ((p.getD [] ++ [c]) ++ r)) 0 s3 t = _
          rw [List.append_assoc] <;> rfl
theorem q_spl {r : List Nat} (h0 : ∀ c ∈ r, c ≠ 0) (z : List Nat) (k s : Nat) (t : List (List Nat)) : ∃ k' s', lawE (qTx r ++ z) false k none 0 s t = lawE z false k' (some r) 0 s' t := by
  unfold qTx
  by_cases e : r = []
  · rw [if_pos e, e]
    refine ⟨k + 1 + 1, k, ?_⟩
    show lawE (34 :: 34 :: z) false k none 0 s t = _
    rw [lawE_f, if_neg (by omega), if_pos ⟨rfl, .inr rfl⟩, lawE_f, if_neg (by omega), if_neg (by omega), if_pos rfl]
    rfl
  · rw [if_neg e]
    obtain ⟨k', s', h⟩ := way_spl r 0 _ (qAll_mn r).1.1 (.inl rfl) h0 z k none s t (fun q => absurd rfl q)
    rw [if_neg (fun w => e w.1)] at h
    exact ⟨k', s', h⟩
theorem q_one {r : List Nat} (h0 : ∀ c ∈ r, c ≠ 0) (n0 : ∀ c ∈ qTx r, c ≠ 0) : splL (qTx r) = .ok [r] := by
  rw [← lawE_all n0]
  obtain ⟨k', s', h⟩ := q_spl h0 [] 0 0 []
  rw [List.append_nil] at h
  rw [h]
  rfl
/-- the tokens of a line -/
def qLine (rs : List (List Nat)) : List Nat := TL.joinL [32] (rs.map qTx)
theorem qLine_spl : ∀ (rs : List (List Nat)), (∀ r ∈ rs, ∀ c ∈ r, c ≠ 0) → ∀ (k s : Nat) (t : List (List Nat)), lawE (qLine rs) false k none 0 s t = .ok (t ++ rs)
  | [], _, k, s, t => by
    show (if (0 : Nat) = 0 then Except.ok (t ++ optL none) else .error s) = .ok (t ++ [])
    rw [if_pos rfl]
    rfl
  | [r], h0, k, s, t => by
    obtain ⟨k', s', h⟩ := q_spl (h0 r List.mem_cons_self) [] k s t
    show lawE (qTx r) false k none 0 s t = _
    rw [List.append_nil] at h
    rw [h]
    rfl
  | r :: r2 :: rs, h0, k, s, t => by
    obtain ⟨k', s', h⟩ := q_spl (h0 r List.mem_cons_self) ([32] ++ qLine (r2 :: rs)) k s t
    show lawE (qTx r ++ ([32] ++ qLine (r2 :: rs))) false k none 0 s t = _
    rw [h]
    show lawE (32 :: qLine (r2 :: rs)) false k' (some r) 0 s' t = _
    rw [lawE_f, if_pos ⟨rfl, rfl⟩, qLine_spl (r2 :: rs) (fun x hx => h0 x (List.mem_cons_of_mem _ hx))]
    show Except.ok ((t ++ [r]) ++ (r2 :: rs)) = _
    rw [List.append_assoc] <;> rfl
theorem qLine_ok {rs : List (List Nat)} (h0 : ∀ r ∈ rs, ∀ c ∈ r, c ≠ 0) (n0 : ∀ c ∈ qLine rs, c ≠ 0) : splL (qLine rs) = .ok rs := by
  rw [← lawE_all n0, qLine_spl rs h0]
  rfl
/-! ### its signs are signs of lines -/
theorem way_mem : ∀ (r : List Nat) (m : Nat) (y : List Nat), y ∈ lawW r m → m = 0 ∨ m = 39 ∨ m = 34 → ∀ c ∈ y, c ∈ r ∨ c = 34 ∨ c = 39 ∨ c = 92
  | [], m, y, hy, hm, c, hc => by
    have hy : y ∈ [mkC m] := hy
    rw [List.mem_singleton.mp hy] at hc
    unfold mkC at hc
    by_cases e : m = 0
    · rw [if_pos e] at hc
      cases hc
    · rw [if_neg e] at hc
      rw [List.mem_singleton.mp hc]
      omega
  | d :: r, m, y, hy, hm, c, hc => by
    obtain ⟨o, ho, hy⟩ := List.mem_flatMap.mp hy
    obtain ⟨f, hf, hy⟩ := List.mem_flatMap.mp hy
    have ho' : o = 0 ∨ o = 39 ∨ o = 34 := by
      unfold opensC at ho
      split at ho
      · simpa using ho
      · exact .inl (List.mem_singleton.mp ho)
    have hh : hereC m o = 0 ∨ hereC m o = 39 ∨ hereC m o = 34 := by
      unfold hereC
      split
      · exact ho'
      · exact hm
    generalize hereC m o = h at hf hy hh
    have mk : ∀ {m : Nat}, (m = 0 ∨ m = 39 ∨ m = 34) → c ∈ mkC m → c ∈ d :: r ∨ c = 34 ∨ c = 39 ∨ c = 92 := fun {m} hm hc => by
      unfold mkC at hc
      by_cases e : m = 0
      · rw [if_pos e] at hc
        cases hc
      · rw [if_neg e] at hc
        rw [List.mem_singleton.mp hc]
        omega
    have fm : c ∈ f → c ∈ d :: r ∨ c = 34 ∨ c = 39 ∨ c = 92 := fun hc => by
      unfold formsC at hf
      rcases List.mem_append.mp hf with hf | hf
      · by_cases e : h = 39
        · rw [if_pos e] at hf
          cases hf
        · rw [if_neg e] at hf
          rw [List.mem_singleton.mp hf] at hc
          rcases List.mem_cons.mp hc with rfl | hc
          · exact .inr (.inr (.inr rfl))
          · rw [List.mem_singleton.mp hc]
            exact .inl List.mem_cons_self
      · by_cases e : plainC h d
        · rw [if_pos e] at hf
          rw [List.mem_singleton.mp hf] at hc
          rw [List.mem_singleton.mp hc]
          exact .inl List.mem_cons_self
        · rw [if_neg e] at hf
          cases hf
    have tl : ∀ {m' : Nat} {t' : List Nat}, t' ∈ lawW r m' → (m' = 0 ∨ m' = 39 ∨ m' = 34) → c ∈ t' → c ∈ d :: r ∨ c = 34 ∨ c = 39 ∨ c = 92 := fun {m' t'} ht hm' hc => by
      rcases way_mem r m' t' ht hm' c hc with h | h
      · exact .inl (List.mem_cons_of_mem _ h)
      · exact .inr h
    unfold partW at hy
    rcases List.mem_append.mp hy with hy | hy
    · obtain ⟨t', ht, rfl⟩ := List.mem_map.mp hy
      rcases List.mem_append.mp hc with hc | hc
      · rcases List.mem_append.mp hc with hc | hc
        · exact mk ho' hc
        · exact fm hc
      · exact tl ht hh hc
    · by_cases e : h = 0
      · rw [if_pos e] at hy
        cases hy
      · rw [if_neg e] at hy
        obtain ⟨t', ht, rfl⟩ := List.mem_map.mp hy
        rcases List.mem_append.mp hc with hc | hc
        · rcases List.mem_append.mp hc with hc | hc
          · rcases List.mem_append.mp hc with hc | hc
            · exact mk ho' hc
            · exact fm hc
          · exact mk hh hc
        · exact tl ht (.inl rfl) hc
theorem marksL : 34 ∈ lineCs ∧ 39 ∈ lineCs ∧ 92 ∈ lineCs ∧ 32 ∈ lineCs ∧ 0 ∉ lineCs := by decide +kernel
theorem qTx_mem {r : List Nat} (h : ∀ c ∈ r, c ∈ lineCs) : ∀ c ∈ qTx r, c ∈ lineCs := fun c hc => by
  obtain ⟨m1, m2, m3, m4, m5⟩ := marksL
  unfold qTx at hc
  by_cases e : r = []
  · rw [if_pos e] at hc
    rcases List.mem_cons.mp hc with rfl | hc
    · exact m1
    · rw [List.mem_singleton.mp hc]
      exact m1
  · rw [if_neg e] at hc
    rcases way_mem r 0 _ (qAll_mn r).1.1 (.inl rfl) c hc with h1 | rfl | rfl | rfl
    · exact h c h1
    · exact m1
    · exact m2
    · exact m3
theorem qLine_mem : ∀ {rs : List (List Nat)}, (∀ r ∈ rs, ∀ c ∈ r, c ∈ lineCs) → ∀ c ∈ qLine rs, c ∈ lineCs
  | [], _, c, hc => nomatch hc
  | [r], h, c, hc => qTx_mem (h r List.mem_cons_self) c hc
  | r :: r2 :: rs, h, c, hc => by
    have hc : c ∈ qTx r ++ ([32] ++ qLine (r2 :: rs)) := hc
    rcases List.mem_append.mp hc with hc | hc
    · exact qTx_mem (h r List.mem_cons_self) c hc
    rcases List.mem_append.mp hc with hc | hc
    · rw [List.mem_singleton.mp hc]
      exact marksL.2.2.2.1
    · exact qLine_mem (fun x hx => h x (List.mem_cons_of_mem _ hx)) c hc
theorem no0 {cs : List Nat} (h : ∀ c ∈ cs, c ∈ lineCs) : ∀ c ∈ cs, c ≠ 0 := fun c hc e => marksL.2.2.2.2 (e ▸ h c hc)
theorem qLine_len : ∀ {rs : List (List Nat)}, (∀ r ∈ rs, r.length ≤ 20) → (qLine rs).length ≤ 38 * rs.length
  | [], _ => Nat.zero_le _
  | [r], h => by
    have := qTx_37 (h r List.mem_cons_self)
    show (qTx r).length ≤ 38 * 1
    omega
  | r :: r2 :: rs, h => by
    have h1 := qTx_37 (h r List.mem_cons_self)
    have h2 := qLine_len (rs := r2 :: rs) (fun x hx => h x (List.mem_cons_of_mem _ hx))
    show (qTx r ++ ([32] ++ qLine (r2 :: rs))).length ≤ _
    rw [List.length_append, List.length_append, show (r :: r2 :: rs).length = (r2 :: rs).length + 1 from rfl, show ([32] : List Nat).length = 1 from rfl]
    omega
end FL
/-! ## RV1 -/
set_option Elab.async false
set_option linter.all false
set_option maxRecDepth 100000
set_option maxHeartbeats 2000000
/-! for c in reversed(a text) -/
namespace FL
open PySem L2 PySem.Spec PyProof.Rows RT
theorem norevS : typeLookup (.type "str") "__reversed__" = pure none := by rw [typeLookup_type, builtinLookup_eq_fast]; kernel_rfl
theorem getterS : typeLookup (.type "str") "__getitem__" = pure (some (.builtin "str.__getitem__")) := by rw [typeLookup_type, builtinLookup_eq_fast]; kernel_rfl
theorem str_no_dict : isSubtype (.type "str") (.type "dict") = pure false := by rw [isSubtype_type]; kernel_rfl
/-- the iterator I walks the text x backwards, place i is next -/
def BackS (h : Heap) (I : Addr) (x : Str) (t : Tok) (i : Int) : Prop := ∃ o, h.get? I = some o ∧ o.cls = .type "reversed" ∧ o.data = .fields #[.str x t, rawInt i]
section
variable {prog : Program} {w : World} {A : Around} {E : Value → Shared → Prop} {s : Shared} {x : Str} {t : Tok}
theorem BackS.ty {I : Addr} {i : Int} (b : BackS s.heap I x t i) : s.TypeIs (.ref I) "reversed" := b.elim fun o q => ⟨o, q.1, q.2.1⟩
theorem iter_back {I : Addr} {i : Int} {Q : Value → Shared → Prop} (b : BackS s.heap I x t i) (k : Q (.ref I) s) : wpAny (model prog w) A (pyIter (.ref I)) Q E s := by
  refine wpAny_pyIter_slot b.ty slot_rt_iter (wpAny_call_entry slot_rt_iter b.ty entry_rt_iter ?_ (args_rt_iter _))
  show wpAny _ _ (ret (.ref I)) _ _ s
  exact wpAny_pure ⟨_, rfl, "reversed", _, b.ty, slot_rt_next.lookup, k⟩
theorem make_back {Q : Value → Shared → Prop} (fits : x.length ≤ sizeLine)
    (k : Q (.ref s.heap.objs.size) { s with heap := s.heap.push { cls := .type "reversed", data := .fields #[.str x t, rawInt ((x.length : Int) - 1)] }, toks := s.toks + 1 + 1 }) :
    wpAny (model prog w) A (call (.type "reversed") [.str x t]) Q E s := by
  have ts := typeIs_str s x t
  have big : ¬ (x.length : Int) ≥ 2 ^ 63 := by
    have := sizeLine_eq
    omega
  refine callType_codes (Q₁ := fun v s₁ => s₁.TypeIs v "reversed" ∧ Q v s₁) called_rt (F.typeCall_reversed_1 _) F.entry_object_init ?_ fun v s₁ h => ⟨h.1, F.args_object_init_2 v _, object_init_meets called_rt.init.lookup called_rt.made (by decide) prog w A.in1 _ s₁ ⟨h.1, rfl, h.2⟩⟩
  refine codeAny_of_tree ?_
  show wpAny _ A.in1.in1 (checkBuiltinCall "reversed.__new__" ⟨[.type "reversed", .str x t], []⟩ >>= fun _ => again (.builtin "reversed.__new__" ⟨[.type "reversed", .str x t], []⟩)) _ _ s
  refine wpAny_bind (wpAny_of_eq (F.newCall_reversed_1 _) (wpAny_pure ⟨plainId_quiet F.plain_reversed_new _, codeAny_builtin F.entry_reversed_new ?_⟩))
  rw [Around.under_plainId F.plain_reversed_new _]
  unfold Builtin.«reversed.__new__»
  refine wpAny_bind (wpAny_of_eq (newClass_reversed _) ?_)
  try dsimp only
  refine wpAny_bind (wpAny_of_eq (a := ()) (by first | rfl | kernel_rfl) ?_)
  try dsimp only
  refine wpAny_bind (wpAny_of_eq (a := ()) (by first | rfl | kernel_rfl) ?_)
  try dsimp only
  refine wpAny_bind (wpAny_specialOf ts norevS ?_)
  try dsimp only
  refine wpAny_bind ?_
  wp_delta
  refine wpAny_bind (wpAny_isInstance (T := "str") (U := "dict") (b := false) ts str_no_dict ?_)
  try rw [if_neg Bool.false_ne_true]
  try dsimp only
  refine wpAny_bind (wpAny_specialOf ts getterS ?_)
  try dsimp only
  try rw [if_pos (by decide +kernel)]
  refine wpAny_pure ?_
  try rw [if_neg (by decide)]
  try dsimp only
  refine wpAny_bind (P.len_str big ?_)
  refine wpAny_bind (wpAny_of_eq (a := some ((x.length : Nat) : Int)) rfl ?_)
  try dsimp only
  refine wpAny_bind ?_
  show wpAny _ _ (newObj (.type "reversed") (.fields #[.str x t, rawInt ((x.length : Int) - 1)])) _ _ _
  refine wpAny_newObj_type ?_
  exact wpAny_pure ⟨⟨_, Heap.get?_push_size _ rfl, rfl⟩, k⟩
theorem next_back {I : Addr} {i c : Nat} {Q : Option Value → Shared → Prop} (b : BackS s.heap I x t (i : Int)) (hc : x.cps[i]? = some c) (fits : x.length ≤ sizeLine)
    (k : ∀ h' u tk, BackS h' I x t ((i : Int) - 1) → Heap.SameBut I s.heap h' → Q (some (.str ⟨#[c]⟩ u)) { s with heap := h', toks := tk }) : wpAny (model prog w) A (pyNext (.ref I)) Q E s := by
  obtain ⟨o, ho, hcl, hd⟩ := id b
  have ts := typeIs_str s x t
  have hi : i < x.length := (Array.getElem?_eq_some_iff.mp hc).1
  have sl := sizeLine_eq
  unfold pyNext
  refine wpAny_bind (wpAny_attempt (wpAny_callSpecial?_slot (name := Str.ofString "__next__") b.ty slot_rt_next (wpAny_call_entry slot_rt_next b.ty entry_rt_next ?_ (args_rt_next _))))
  unfold Builtin.«reversed.__next__»
  refine wpAny_bind (wpAny_of_eq (a := (Value.ref I, [])) rfl ?_)
  try dsimp only
  refine wpAny_bind (wpAny_field ho hd (x := .str x t) rfl ?_)
  try dsimp only
  refine wpAny_bind (wpAny_field ho hd (x := rawInt (i : Int)) rfl ?_)
  show wpAny _ _ (if (i : Int) < 0 then _ else _) _ _ s
  rw [if_neg (by omega)]
  try dsimp only
  refine wpAny_bind (wpAny_specialOf ts getterS ?_)
  try dsimp only
  try rw [if_neg (by decide)]
  try dsimp only
  refine wpAny_bind (wpAny_mkInt ?_)
  refine wpAny_bind (wpAny_attempt ?_)
  have fin : seqIndex? (i : Int) x.length = some i := seqIndex_of (by omega) (by omega)
  refine P.getItem_str (s := { s with toks := s.toks + 1 }) (c := c) (by rw [Bool.or_eq_false_iff]; exact ⟨decide_eq_false (by omega), decide_eq_false (by omega)⟩) (by rw [fin]; exact hc) ?_
  try dsimp only
  refine wpAny_bind (wpAny_field (s := { s with toks := s.toks + 1 + 1 }) ho hd (x := rawInt (i : Int)) rfl ?_)
  try dsimp only
  refine wpAny_bind (wpAny_setField (s := { s with toks := s.toks + 1 + 1 }) ho hd (by simp) ?_)
  have st : BackS (s.heap.update I (Obj.mapFields (·.setIfInBounds 1 (rawInt ((i : Int) - 1))))) I x t ((i : Int) - 1) :=
    ⟨_, Heap.get?_update_self _ ho (Obj.isFreed_of_fields (Obj.data_mapFields hd _)), (Obj.cls_mapFields ..).trans hcl, by rw [Obj.data_mapFields hd]; simp⟩
  first
    | exact wpAny_pure ⟨_, rfl, wpAny_pure (k _ _ _ st (Heap.SameBut.update ..))⟩
    | exact wpAny_bind (wpAny_pure (wpAny_pure ⟨_, rfl, wpAny_pure (k _ _ _ st (Heap.SameBut.update ..))⟩))
theorem end_back {I : Addr} {Q : Option Value → Shared → Prop} (hh : A.handled = none) (b : BackS s.heap I x t (-1)) (k : ∀ h', Heap.ExtBut I s.heap h' → Q none { s with heap := h' }) : wpAny (model prog w) A (pyNext (.ref I)) Q E s := by
  obtain ⟨o, ho, hcl, hd⟩ := id b
  unfold pyNext
  refine wpAny_bind (wpAny_attempt (wpAny_callSpecial?_slot (name := Str.ofString "__next__") b.ty slot_rt_next (wpAny_call_entry slot_rt_next b.ty entry_rt_next ?_ (args_rt_next _))))
  unfold Builtin.«reversed.__next__»
  refine wpAny_bind (wpAny_of_eq (a := (Value.ref I, [])) rfl ?_)
  try dsimp only
  refine wpAny_bind (wpAny_field ho hd (x := .str x t) rfl ?_)
  try dsimp only
  refine wpAny_bind (wpAny_field ho hd (x := rawInt (-1)) rfl ?_)
  show wpAny _ _ (if (-1 : Int) < 0 then _ else _) _ _ s
  rw [if_pos (by decide)]
  try dsimp only
  refine wpAny_bind (wpAny_rule ?_)
  refine wpAny_bind ?_
  wp_delta
  refine wpAny_bind (wpAny_setField ho hd (by simp) ?_)
  have g2 := Heap.get?_update_self (Obj.mapFields (·.setIfInBounds 1 (rawInt (-1)))) ho (Obj.isFreed_of_fields (Obj.data_mapFields hd _))
  refine wpAny_setField (s := { s with heap := s.heap.update I (Obj.mapFields (·.setIfInBounds 1 (rawInt (-1)))) }) g2 (Obj.data_mapFields hd _) (by simp) ?_
  try dsimp only
  first
    | show wpAny _ _ (newExc (.type "StopIteration") [] >>= _) _ _ _
    | (refine wpAny_bind ?_; show wpAny _ _ (newExc (.type "StopIteration") [] >>= _) _ _ _)
    | (refine wpAny_bind ?_; wp_delta; show wpAny _ _ (newExc (.type "StopIteration") [] >>= _) _ _ _)
  refine wpAny_bind ?_
  simp only [newExc, newTuple]
  refine wpAny_bind (wpAny_newObj_type ?_ (by size_fits))
  refine wpAny_bind (m := firstArgMember _ _) (wpAny_of_eq (a := Value.none) (by first | rfl | (simp only [firstArgMember]; rfl)) ?_)
  refine wpAny_newObj_type ?_ (by size_fits)
  simp only [raiseNew]
  refine wpAny_bind (wpAny_handled ?_)
  first | rw [show A.in1.handled = none from hh] | rw [hh]
  refine wpAny_bind (wpAny_pure (wpAny_throw ?_))
  refine wpAny_bind (wpAny_isInstance (T := "StopIteration") (b := true) ⟨_, Heap.get?_push_size _ rfl, rfl⟩ isSubtype_stop ?_)
  refine wpAny_pure (k _ ?_)
  refine ((?_ : Heap.ExtBut I s.heap _).push _).push _
  exact fun a oa ha e => (Heap.get?_update_other _ _ (Ne.symm ha)).trans ((Heap.get?_update_other _ _ (Ne.symm ha)).trans e)
end
/-- the signs of a text from its end on -/
def ItBack (x : Str) : It := ⟨fun i _ => i < x.cps.size, fun i H v H' => H' = H ∧ ∃ c, x.cps[x.cps.size - 1 - i]? = some c ∧ v = .str ⟨#[c]⟩, fun i _ => x.cps.size ≤ i⟩
theorem turn_back {P : Program} {w : World} {K : PySem.W.Frag} {tg : Expr} (I : Addr) (x : Str) (t : Tok) (fits : x.length ≤ sizeLine) : Turn P w K tg (ItBack x) [I] I (fun i h => i ≤ x.cps.size ∧ BackS h I x t ((x.cps.size : Int) - 1 - (i : Nat))) where
  mem := List.mem_singleton.mpr rfl
  obj := fun i h st b hb => by
    obtain rfl := List.mem_singleton.mp hb
    obtain ⟨_, o, e, _, d⟩ := st
    exact ⟨o, e, fun v z => by rw [d] at z; cases z⟩
  keep := fun i h h' st k => ⟨st.1, st.2.elim fun o q => ⟨o, k I (List.mem_singleton.mpr rfl) o q.1, q.2⟩⟩
  item := by
    intro X hP hw hK hc i pins s σ H E J hf st hg
    subst hP hw hK
    obtain ⟨f0, f1, f2, f3, f4, f5⟩ := hf I (List.mem_singleton.mpr rfl)
    have lt : i < x.cps.size := hg
    obtain ⟨c, hcx⟩ : ∃ c, x.cps[x.cps.size - 1 - i]? = some c := ⟨_, Array.getElem?_eq_getElem (by omega)⟩
    have b := st.2
    rw [show (x.cps.size : Int) - 1 - ((i : Nat) : Int) = ((x.cps.size - 1 - i : Nat) : Int) by omega] at b
    refine next_back b hcx fits fun h' u tk b' sb => ?_
    rw [show ((x.cps.size - 1 - i : Nat) : Int) - 1 = (x.cps.size : Int) - 1 - ((i + 1 : Nat) : Int) by omega] at b'
    have J1 : Inv X pins σ H { s with heap := h', toks := tk } := J.turned (fun b o hb e => (sb.2 b hb).trans e) f0 f1 f3 f4 f5
    obtain ⟨o, e, cc, d⟩ := id b'
    exact ⟨_, rfl, go_of (s := { s with heap := h', toks := tk }) e cc d (by decide) ⟨.str ⟨#[c]⟩, H, J1, ⟨u, rfl⟩, ⟨rfl, c, hcx, rfl⟩, ⟨lt, b'⟩, fun b hb => (hf b hb).1⟩⟩
  done := by
    intro X hP hw hK hc i pins s σ H E J hf st hg
    subst hP hw hK
    obtain ⟨f0, f1, f2, f3, f4, f5⟩ := hf I (List.mem_singleton.mpr rfl)
    have ge : x.cps.size ≤ i := hg
    have b := st.2
    rw [show (x.cps.size : Int) - 1 - ((i : Nat) : Int) = -1 by have := st.1; omega] at b
    exact end_back (J.ok.hd hc) b fun h' eb => ⟨rfl, J.turned (t' := s.toks) (fun b o hb e => eb b o hb e) f0 f1 f3 f4 f5⟩
  self := fun A i s Q E st h => iter_back st.2 h
def iBack (te : TE) : TI := fun σ H R => te σ H fun v H1 => ∃ x, v = .str x ∧ x.length ≤ sizeLine ∧ R (ItBack x) H1
theorem pi_back {X : Cx} {tg e : Expr} {te : TE} {p pos : Pos} (hg : Gl X "reversed") (hm : X.mg "reversed" = none) (he : PE X e te) (hs : starEach [e] X.env = (false, eval e X.env) :: starEach [] X.env := by rfl) : PI X tg (.Call (.Name "reversed" p) [e] [] pos) (iBack te) := by
  refine ⟨fun pins s σ H R I h => ?_⟩
  refine Call_ (ld_blt I hg hm PyProof.Rows.boot_reversed (PyProof.Rows.callWith_type1 (args_cons (thn (he.run pins s σ H _ I h) fun u s1 ⟨v, H1, I1, r1, q1⟩ => args_nil ?_) hs) hs rfl))
  obtain ⟨x, rfl, fits, q⟩ := q1
  obtain ⟨t, rfl⟩ := r1
  have e1 : ((x.length : Nat) : Int) - 1 = (x.cps.size : Int) - 1 - ((0 : Nat) : Int) := by
    show ((x.cps.size : Nat) : Int) - 1 = _
    omega
  have b0 : BackS (s1.heap.push { cls := .type "reversed", data := .fields #[.str x t, rawInt ((x.length : Int) - 1)] }) s1.heap.objs.size x t ((x.cps.size : Int) - 1 - ((0 : Nat) : Int)) := ⟨_, Heap.get?_push_size _ rfl, rfl, by rw [e1]⟩
  refine make_back fits (iter_back (x := x) (t := t) b0 ?_)
  exact pi_one (tk := s1.toks + 1 + 1) I1 _ (turn_back _ x t fits) ⟨Nat.zero_le _, b0⟩ q
theorem walk_back {z : Str} : Walk (ItBack z) z.cps.size (fun _ => True) (fun i H v H' => H' = H ∧ ∃ c, z.cps[z.cps.size - 1 - i]? = some c ∧ v = .str ⟨#[c]⟩) :=
  ⟨fun _ _ hi _ => hi, fun _ _ => Nat.le_refl _, fun _ _ _ _ _ _ y => y⟩
end FL
/-! ## X7 -/
set_option Elab.async false
set_option linter.all false
set_option maxRecDepth 100000
set_option maxHeartbeats 8000000
/-! what is told of an error -/
namespace FL
open PySem L2 LamX PySem.Spec PyProof.Rows
/-- the errors' classes stand at c 0 .. c 6, their base class at cF -/
structure Errs (K : PySem.W.Frag) (mg : Str → Option Value) (c fI : Nat → Addr) (cF : Addr) : Prop where
  e0 : ErI K mg "InvalidGrammar" (c 0) (fI 0) ["part", "index"]
  e1 : ErI K mg "UnknownOption" (c 1) (fI 1) ["name"]
  e2 : ErN K mg "InvalidClause" (c 2)
  e3 : ErI K mg "InvalidChain" (c 3) (fI 3) ["index"]
  e4 : ErN K mg "Unsatisfiable" (c 4)
  e5 : ErI K mg "Conflict" (c 5) (fI 5) ["chain"]
  e6 : ErN K mg "DifferentOptions" (c 6)
  gF : mg "FlagclauseError" = some (.ref cF)
  kit : ∀ i j, i < 7 → j < 7 → PySem.W.kitOne K (.ref (c i)) (.ref (c j)) = some (decide (i = j))
  ve : ∀ i, i < 7 → PySem.W.kitOne K (.ref (c i)) (.type "ValueError") = some true
  ex : ∀ i, i < 7 → PySem.W.exmOne K (.ref (c i)) (.ref cF) = some true
theorem Errs.ic {K : PySem.W.Frag} {mg : Str → Option Value} {c fI : Nat → Addr} {cF : Addr} (T : Errs K mg c fI cF) : ∀ i, i < 7 → ExcC K (c i)
  | 0, _ => T.e0.ic
  | 1, _ => T.e1.ic
  | 2, _ => T.e2.ic
  | 3, _ => T.e3.ic
  | 4, _ => T.e4.ic
  | 5, _ => T.e5.ic
  | 6, _ => T.e6.ic
  | i + 7, h => absurd h (by omega)
/-- an error's dict, if it has one, stands -/
def HD (d : Option Addr) (H : Hp) : Prop := ∀ dd, d = some dd → ∃ fs, H dd = some (.xd fs)
theorem HD.same {d : Option Addr} {H H' : Hp} (h : HD d H) (s : Same H H') : HD d H' := fun dd e => let ⟨fs, q⟩ := h dd e; ⟨fs, s _ _ q⟩
/-- what is told of the error i -/
def toldR (K : PySem.W.Frag) (d : Option Addr) (H : Hp) (Q : VK) : Nat → Prop
  | 0 => ∃ dd v u, d = some dd ∧ H dd = some (.xd [("index", u), ("part", v)]) ∧ ∀ t H', Same H H' → SqT K H' t [.str "error", .str "InvalidGrammar", v, u] → Q (.ref t) H'
  | 1 => ∃ dd v, d = some dd ∧ H dd = some (.xd [("name", v)]) ∧ ∀ t H', Same H H' → SqT K H' t [.str "error", .str "UnknownOption", v] → Q (.ref t) H'
  | 2 => ∀ t H', Same H H' → SqT K H' t [.str "error", .str "InvalidClause"] → Q (.ref t) H'
  | 3 => ∃ dd v, d = some dd ∧ H dd = some (.xd [("index", v)]) ∧ ∀ t H', Same H H' → SqT K H' t [.str "error", .str "InvalidChain", v] → Q (.ref t) H'
  | 4 => ∀ t H', Same H H' → SqT K H' t [.str "error", .str "Unsatisfiable"] → Q (.ref t) H'
  | 5 => ∃ dd v, d = some dd ∧ H dd = some (.xd [("chain", v)]) ∧ ∀ t H', Same H H' → SqT K H' t [.str "error", .str "Conflict", v] → Q (.ref t) H'
  | 6 => ∀ t H', Same H H' → SqT K H' t [.str "error", .str "DifferentOptions"] → Q (.ref t) H'
  | _ => False
def ToldE (K : PySem.W.Frag) (c : Nat → Addr) (cls : Value) (d : Option Addr) (H : Hp) (Q : VK) : Prop := ∃ i, i < 7 ∧ cls = .ref (c i) ∧ HD d H ∧ toldR K d H Q i
theorem takes_len {X : Cx} {W : WX} (tk : Takes X W) : Takes X (fun cls d σ H => σ.length = X.N.length → W cls d σ H) := fun u s' ⟨a, B, sI, pins, σ, H, cls, d, e, I, nb, up, sky, na, os, ag, w⟩ =>
  tk u s' ⟨a, B, sI, pins, σ, H, cls, d, e, I, nb, up, sky, na, os, ag, w I.len⟩
theorem len5 {α : Type} {l : List α} (h : l.length = 5) : ∃ a b c d e, l = [a, b, c, d, e] := by
  match l, h with
  | [a, b, c, d, e], _ => exact ⟨a, b, c, d, e, rfl⟩
def TTold (K : PySem.W.Frag) (c : Nat → Addr) : (XK → Hp → VK → Prop) → Hp → VK → Prop := fun tl H Q => tl (fun cls d H' => ToldE K c cls d H' Q) H Q
section
variable {P : Program} {w : World} {K : PySem.W.Frag} {mg : Str → Option Value} {base : Heap}
end
end FL
/-! ## X8 -/
set_option Elab.async false
set_option linter.all false
set_option maxRecDepth 100000
set_option maxHeartbeats 8000000
/-! _law_told(lambda: e): only the maker's table may have grown -/
namespace FL
open PySem L2 LamX PySem.Spec PyProof.Rows
def tLamE (P : Addr) (q : Str) (TT : (XK → Hp → VK → Prop) → Hp → VK → Prop) (t : XK → TE) : TE := fun σ H Q => TabS H P q ∧ ∀ H1, LamEx P q H H1 → TT (fun E H2 Q2 => t E σ H2 Q2) H1 Q
section
variable {X : Cx}
end
end FL
/-! ## X12 -/
set_option Elab.async false
set_option linter.all false
set_option maxRecDepth 100000
set_option maxHeartbeats 8000000
/-! _law_told(lambda a=0: e): one parameter, whose default is an int -/
namespace FL
open PySem L2 LamX PySem.Spec PyProof.Rows
structure LamD (N : List Str) (sc scope : Scope) : Prop where
  kind : scope.kind = .function
  co : scope.isCoroutine = false
  gen : scope.isGenerator = false
  own : ∀ y ∈ scope.names, y.2 ≠ .cell ∧ (y.2 = .local → y.1 ∉ N)
  free : ∀ y ∈ scope.names, y.2 = .free → sc.names.lookup y.1 = some .cell ∨ sc.names.lookup y.1 = some .free
def lamDB (N : List Str) (sc scope : Scope) : Bool :=
  decide (scope.kind = .function) && !scope.isCoroutine && !scope.isGenerator && scope.names.all fun y => !decide (y.2 = .cell) && (!decide (y.2 = .local) || !decide (y.1 ∈ N)) && (!decide (y.2 = .free) || decide (sc.names.lookup y.1 = some .cell) || decide (sc.names.lookup y.1 = some .free))
theorem lamD_by {N : List Str} {sc scope : Scope} (h : lamDB N sc scope = true) : LamD N sc scope := by
  unfold lamDB at h
  simp only [Bool.and_eq_true, Bool.or_eq_true, Bool.not_eq_true', decide_eq_true_eq, decide_eq_false_iff_not, List.all_eq_true] at h
  obtain ⟨⟨⟨h1, h2⟩, h3⟩, h4⟩ := h
  refine ⟨h1, h2, h3, fun y hy => ⟨(h4 y hy).1.1, fun e => ?_⟩, fun y hy e => ?_⟩
  · rcases (h4 y hy).1.2 with z | z
    · exact absurd e z
    · exact z
  · rcases (h4 y hy).2 with (z | z) | z
    · exact absurd e z
    · exact .inl z
    · exact .inr z
theorem LamD.has {X : Cx} {scope : Scope} (L : LamD X.N X.env.scope scope) (ok : X.Ok) : ∀ y ∈ scope.names, y.2 = .free → ∃ c, X.env.cells.lookup y.1 = some c := fun y hy e => by
  rcases L.free y hy e with k | k
  · exact ok.has _ (.inl k)
  · exact ok.has _ (.inr k)
section
variable {X : Cx} {pins : List (Addr × Obj)} {σ : L2.St} {H HZ : Hp} {s s1 : Shared}
theorem lam_start4 {A : Around} {outer : List Env} {E : XK} {scope : Scope} {f c' : Addr} {h₁ : Heap} {tk : Nat} {mm : Str → Option Value} {fp : List Addr} (hfp : ∀ y c, X.env.cells.lookup y = some c → c ∉ fp) (I : Inv X pins σ H s) (L : LamD X.N X.env.scope scope) (e0 : Env0 X.prog X.w X.K X.mg X.base A outer s1 HZ) (hd : A.handled = none)
    (un : Un (frs X.stack) fp H HZ s.heap s1.heap) (hns : h₁.Ns s1.heap.objs.size mm) (kp : ∀ b o, s1.heap.get? b = some o → h₁.get? b = some o) :
    Inv (lamCx X A outer s1 HZ E scope f c') [] σ HZ { s1 with heap := h₁, toks := tk } := by
  have hfree := L.has I.ok
  have cm : ∀ {y c}, (cloFrom X.env.cells scope.names []).lookup y = some c → X.env.cells.lookup y = some c := fun {y c} e => by
    rcases cloFrom_mem (PySem.mem_of_lookup e) with hm | ⟨h1, h2⟩
    · cases hm
    · obtain ⟨c1, hc⟩ := hfree _ h1 rfl
      have hc : X.env.cells.lookup y = some c1 := hc
      have e2 : c = c1 := by
        rw [h2, hc] <;> rfl
      rw [e2]
      exact hc
  have look : ∀ {y}, scope.names.lookup y = some .free → ∃ c, (cloFrom X.env.cells scope.names []).lookup y = some c := fun {y} hl => by
    have hy : (y, NameKind.free) ∈ scope.names := PySem.mem_of_lookup hl
    exact mem_lookup (cloFrom_has (cells := X.env.cells) (acc := []) hy)
  have cellK : ∀ {c : Addr} {v : Option Value}, c ∉ fp → H c = none → s.heap.IsCell c v → h₁.IsCell c v := fun {c v} hx n ⟨o, ho, hd⟩ => by
    obtain ⟨sl, q⟩ := un.any ho n hx
    exact ⟨_, kp _ _ q, hd⟩
  have noA : ∀ b : Addr, b ∉ (lamCx X A outer s1 HZ E scope f c').ex := fun b z => absurd (show b ∈ ([] : List Addr) from z) (by simp)
  refine ⟨⟨e0.mod, L.kind, rfl, rfl, Nat.le_refl _, fun y z c e1 e2 => I.ok.inj y z c (cm e1) (cm e2), fun y hy => ?_, fun y c z _ => ?_, fun _ => hd, Around.frames_deeper e0.frames, .inr ⟨rfl, rfl⟩, fun b z => absurd z (noA b), e0.bs, e0.bsz, fun b _ _ => noA b,
      fun b z => absurd z (noA b), e0.funs, e0.frf⟩,
    rfl, e0.bare, Un.kept kp, ⟨_, hns, fun i y v e1 e2 e3 => ?_⟩, fun y c e => ?_, e0.hok.fresh (Nat.le_refl _), fun y c e => ?_, fun q hq => absurd (show q ∈ ([] : List (Addr × Obj)) ++ [] from hq) (by simp), e0.hok.kept kp, I.len⟩
  · have hy : scope.names.lookup y = some .cell ∨ scope.names.lookup y = some .free := hy
    rcases hy with hy | hy
    · exact absurd rfl (L.own _ (PySem.mem_of_lookup hy)).1
    · exact look hy
  · have z : false = true := z
    cases z
  · have e1 : X.N[i]? = some y := e1
    have e3 : Vis scope y := e3
    rcases e3 with k | k | k
    · exact absurd (List.mem_of_getElem? e1) ((L.own _ (PySem.mem_of_lookup k)).2 rfl)
    · exact absurd rfl (L.own _ (PySem.mem_of_lookup k)).1
    · obtain ⟨m, hn, hl⟩ := I.loc
      have hvis : Vis X.env.scope y := (L.free _ (PySem.mem_of_lookup k) rfl).elim (fun k => .inr (.inl k)) (fun k => .inr (.inr k))
      obtain ⟨w', r, q⟩ := hl i y v e1 e2 hvis
      obtain ⟨c2, h2⟩ := look k
      refine ⟨w', r, .inr ⟨.inr k, c2, h2, ?_⟩⟩
      have c1 := cm h2
      rcases q with ⟨k', _⟩ | ⟨_, c3, e', z⟩
      · have k' : X.env.scope.names.lookup y = some .local := k'
        rcases L.free _ (PySem.mem_of_lookup k) rfl with k2 | k2 <;> rw [show X.env.scope.names.lookup y = _ from k2] at k' <;> cases k'
      · rw [c1] at e'
        cases e'
        exact cellK (hfp _ _ c1) (I.freeC y _ c1) z
  · obtain ⟨w', z⟩ := I.cell y c (cm e)
    exact ⟨w', cellK (hfp _ _ (cm e)) (I.freeC y c (cm e)) z⟩
  · obtain ⟨v, o, ho, hd⟩ := I.cell y c (cm e)
    exact un.free c o ho (I.freeC y c (cm e)) (hfp _ _ (cm e))
theorem lam_start3 {A : Around} {outer : List Env} {E : XK} {scope : Scope} {f c' : Addr} {h₁ : Heap} {tk : Nat} {mm : Str → Option Value} (I : Inv X pins σ H s) (L : LamD X.N X.env.scope scope) (e0 : Env0 X.prog X.w X.K X.mg X.base A outer s1 HZ) (hd : A.handled = none)
    (un : Un (frs X.stack) [] H HZ s.heap s1.heap) (hns : h₁.Ns s1.heap.objs.size mm) (kp : ∀ b o, s1.heap.get? b = some o → h₁.get? b = some o) :
    Inv (lamCx X A outer s1 HZ E scope f c') [] σ HZ { s1 with heap := h₁, toks := tk } := lam_start4 (fp := []) (fun _ _ _ z => nomatch z) I L e0 hd un hns kp
/-- the tuple of the default stands at T, no one writes it -/
abbrev dfT (T : Addr) (v : Value) (h : Heap) : Prop := h.get? T = some (PySem.W.kdv_tup [v])
theorem pe_act2 {CXg : CXT} {Eg : XK} {Ng : List Str} {qg : Str} {sg : Scope} {g f c' T : Addr} {cdg pm ctv doc dv : Value} {params : Arguments} {body : Expr} {scope : Scope} {k i : Nat} {a a0 : Str} {pn : List (Addr × Obj)} {xe : Value → Shared → Prop} {W : WX} {E : XK} {tb : TE} {p1 p2 : Pos}
    (I : Inv X pins σ H s) (L : LamD X.N X.env.scope scope) (hf : s.heap.get? f = some (PySem.W.kdv_obj "<lambda>" (X.env.qual ++ "<lambda>") params (.expr body) scope (cloFrom X.env.cells scope.names []) (.ref T) doc pm c' ctv)) (hfn : H f = none) (hfr : f ∉ frs X.stack)
    (hT : dfT T dv s.heap) (hTn : H T = none) (hTr : T ∉ frs X.stack) (hloc : scope.names.lookup a0 = some .local)
    (hbind : ∃ kk : Option (Array Value) → Sem (List (Str × Value)), bindArgs (PySem.W.kdv_fn "<lambda>" (X.env.qual ++ "<lambda>") params (.expr body) scope (cloFrom X.env.cells scope.names []) (.ref T) doc pm (.ref c') ctv) ⟨[], []⟩ = seqItems? (.ref T) >>= kk ∧ kk (some #[dv]) = pure [(a0, dv)])
    (tk : Takes ((cxOf CXg X.prog X.w X.K X.mg X.base Ng qg sg g cdg X.A X.stack s H Eg).tr pn xe) W) (hW : ∀ cls d σ' H', E cls d H' → W cls d σ' H') (hr : Room (k + 1) (X.A.deeper (envOfC qg sg s.heap.objs.size g cdg)))
    (hbody : ∀ (A : Around) (outer : List Env) (s : Shared) (H : Hp), Room k (A.deeper (lamEnv X scope s.heap.objs.size f c')) → PE (lamCx X A outer s H E scope f c') body tb)
    (hN : Ng[i]? = some a) (hv : Vis sg a) (hd : (a == ("__debug__" : Str)) = false := by decide) (hcd : (a == ("__classdict__" : Str)) = false := by decide) :
    PE ((cxOf CXg X.prog X.w X.K X.mg X.base Ng qg sg g cdg X.A X.stack s H Eg).tr pn xe) (.Call (.Name a p1) [] [] p2)
      (fun σZ HZ Q => σZ[i]? = some (some (.ref f)) ∧ HZ c' = some (CodeO c' (X.env.qual ++ "<lambda>")) ∧ tb σ HZ Q) := by
  refine ⟨fun pinsZ sZ σZ HZ Q IZ h => ?_⟩
  obtain ⟨hs, hc, ht⟩ := h
  refine wpAny_Call_Name_kw (thn ((pe_var (pos := p1) (i := i) hN hv hd hcd).run pinsZ sZ σZ HZ (fun v H1 => v = .ref f ∧ H1 = HZ) IZ ⟨.ref f, hs, rfl, rfl⟩) fun u s1 ⟨v, H1, I1, r1, q1⟩ => ?_)
  obtain ⟨ev, eH⟩ := q1
  subst ev
  rw [eH] at I1
  obtain rfl : u = Value.ref f := r1
  have of1 : s1.heap.get? f = some (PySem.W.kdv_obj "<lambda>" (X.env.qual ++ "<lambda>") params (.expr body) scope (cloFrom X.env.cells scope.names []) (.ref T) doc pm c' ctv) := I1.base.keep f _ hf hfn hfr (fun z => nomatch (show f ∈ ([] : List Addr) from z))
  have oT1 : s1.heap.get? T = some (PySem.W.kdv_tup [dv]) := I1.base.keep T _ hT hTn hTr (fun z => nomatch (show T ∈ ([] : List Addr) from z))
  refine PySem.W.callWith_F0 ⟨_, _, _, _, of1⟩ ?_
  have un : Un (frs X.stack) [] H HZ s.heap s1.heap := I1.base
  obtain ⟨⟨oc, vs, t, hoc, hdc, hvc⟩, _, _⟩ := I1.hok c' _ hc
  have rc : codeAny (model X.prog X.w) (X.A.deeper (envOfC qg sg s.heap.objs.size g cdg)) (.call (.ref f) ⟨[], []⟩) (L2.CR (L2.CX X.prog X.w) (envOfC qg sg s.heap.objs.size g cdg :: X.stack) X.prog X.w HZ s1 Q E) s1 := by
    obtain ⟨kk, hb1, hb2⟩ := hbind
    refine PySem.W.kla_callFunE hr.depth of1 rfl L.co L.gen rfl ⟨c', oc, vs, t, rfl, hoc, hdc, hvc⟩ ?_
    refine (BindsTo.of_defaults (s := s1) rfl oT1 rfl hb1 hb2) _ _ _ _ ?_
    refine wpAny_newFunctionEnv (fun y hy => (L.own y hy).1) (fun y hy => by rw [List.mem_singleton.mp hy]; exact hloc) (fun h₁ hns hsb => ⟨I1.nolimit.fresh _ hsb, ?_⟩) L.kind
    show codeAny _ _ (.expr body (lamEnv X scope s1.heap.objs.size f c')) _ _
    have kp : ∀ b o, s1.heap.get? b = some o → h₁.get? b = some o := fun b o e => hsb.extBut b o (Nat.ne_of_lt (Heap.lt_size e)) (Heap.get?_push_of_some _ e)
    have J : Inv (lamCx X (X.A.deeper (envOfC qg sg s.heap.objs.size g cdg)) (envOfC qg sg s.heap.objs.size g cdg :: X.stack) s1 HZ E scope f c') [] σ HZ { s1 with heap := h₁, toks := s1.toks + [(a0, dv)].length } :=
      lam_start3 I L I1.env0 hr.hd un hns kp
    refine PySem.W.kla_codeExpr (wpAny_mono ((hbody _ _ s1 HZ (hr.deeper _)).run [] _ _ HZ Q J ht) (fun v s' hq => ?_) fun e s' hq => hq)
    obtain ⟨w', H', J', rv, q⟩ := hq
    exact ⟨w', H', J'.os, J'.bare, J'.base, J'.hok, rv, q⟩
  have hx : Passes (L2.CX X.prog X.w) ((cxOf CXg X.prog X.w X.K X.mg X.base Ng qg sg g cdg X.A X.stack s H Eg).tr pn xe) E := passes_call tk hW
  refine wpAny_call (codeAny_mono rc fun r s' hq => ?_)
  cases r with
  | error e => exact hx pinsZ σZ HZ s1 e s' I1 hq
  | ok fl =>
    cases fl with
    | ret u => exact I1.after hq
    | next => exact False.elim hq
    | brk => exact False.elim hq
    | cont => exact False.elim hq
theorem lam_make4 {c P : Addr} {q : Str} {ps0 : Arguments} {bd e0 : Expr} {sc : Scope} {at0 : Pos} {i : Int} {Q : Value → Shared → Prop} (I : Inv X pins σ H s) (TB : LamX.TabB X.base X.mg c P) (hcode : X.env.code = .ref c) (eq : q = X.env.qual ++ "<lambda>") (hT : TabS H P q) (hdf : ps0.defaults = [e0]) (hkw : ps0.kw_defaults = [])
    (hfree : ∀ y ∈ sc.names, y.2 = .free → ∃ c, X.env.cells.lookup y.1 = some c) (hev : PE X e0 (tC (.int i)))
    (h : ∀ (f c' T : Addr) (pm ctv doc dv : Value) (H1 : Hp) (s' : Shared), Inv X pins σ H1 s' → LamEx P q H H1 → s'.heap.get? f = some (PySem.W.kdv_obj "<lambda>" q ps0 (.expr bd) sc (cloFrom X.env.cells sc.names []) (.ref T) doc pm c' ctv) → H1 f = none → f ∉ frs X.stack → H1 c' = some (CodeO c' q) → dfT T dv s'.heap → H1 T = none → T ∉ frs X.stack → Q (.ref f) s') :
    wpAny (model X.prog X.w) X.A (eval (.Lambda ps0 bd sc at0) X.env) Q X.xe s := by
  subst eq
  refine PySem.W.kdv_lam (by rw [hdf] <;> rfl) hkw ?_
  rw [hdf]
  refine PySem.W.kdv_all1 (wpAny_mono (hev.run pins s σ H (fun x H' => x = .int i ∧ H' = H) I ⟨rfl, rfl⟩) (fun v s ⟨x, H', I, rx, ex, eH⟩ => PySem.W.kdv_all0 ?_) fun _ _ z => z)
  rw [eH] at I
  rw [makeFunction_eq]
  simp only [List.zip_nil_right, List.filterMap_nil, List.isEmpty_nil, List.isEmpty_cons, if_true, pure_bind, Bool.false_eq_true, if_false]
  refine wpAny_bind (wpAny_newTextTuple ?_)
  have hTl : ∀ {b : Addr} {o : Obj}, s.heap.get? b = some o → (s.heap.push (PySem.W.kdv_tup [v])).get? b = some o := fun {b o} e => Heap.get?_push_of_some _ e
  have I0 : Inv X pins σ H { s with heap := s.heap.push (PySem.W.kdv_tup [v]) } := I.kept (t' := s.toks) fun b o e => hTl e
  have nT : H s.heap.objs.size = none := I.hok.fresh (Nat.le_refl _)
  have gT : (s.heap.push (PySem.W.kdv_tup [v])).get? s.heap.objs.size = some (PySem.W.kdv_tup [v]) := Heap.get?_push_size _ rfl
  have out0 : ∀ f, s.heap.objs.size ≤ f → f ∉ frs X.stack := fun f hf z => by
    have := I.stkSub _ z
    rcases List.mem_cons.mp this with e | e
    · exact absurd (Nat.lt_of_lt_of_le I.lt hf) (by rw [e]; exact Nat.lt_irrefl _)
    · exact I.nofs hf e
  have rT := out0 s.heap.objs.size (Nat.le_refl _)
  obtain ⟨ps, hP, tri, told⟩ := hT
  have gP : (s.heap.push (PySem.W.kdv_tup [v])).get? P = some { cls := .none, data := .fields ps } := I0.hok P _ hP
  have out : ∀ f, (s.heap.push (PySem.W.kdv_tup [v])).objs.size ≤ f → f ∉ frs X.stack := fun f hf => out0 f (Nat.le_trans (by rw [Heap.size_push]; exact Nat.le_succ _) hf)
  cases hc : codeAmong at0 ps.toList with
  | some cv =>
    obtain ⟨c', e, hco⟩ := told at0 cv hc
    subst e
    refine PySem.W.kdv_makeTailHit (mg := X.mg) (c := c) (P := P) (ps := ps) (closure_ok hfree) I0.ok.glob (I0.mod.glob.keeps I0.bk) hcode (TB.code.keeps I0.bk) gP tri hc (TB.bm.keeps I0.bk) fun ctv doc h2 tk kp hz => ?_
    refine h h2.objs.size c' s.heap.objs.size _ ctv doc _ H _ (I0.kept (t' := tk) fun b o e => Heap.get?_push_of_some _ (kp b o e)) ⟨fun _ _ _ e => e, ps, hP, tri, told⟩ (Heap.get?_push_size _ rfl) (I0.hok.fresh hz) (out _ hz) hco (Heap.get?_push_of_some _ (kp _ _ gT)) nT rT
  | none =>
    refine PySem.W.kdv_makeTail (mg := X.mg) (c := c) (P := P) (ps := ps) (closure_ok hfree) I0.ok.glob (I0.mod.glob.keeps I0.bk) hcode (TB.code.keeps I0.bk) gP tri hc TB.gP (TB.bm.keeps I0.bk) fun c' ctv doc h2 tk kp ge lt rec tab => ?_
    obtain ⟨c2, oc, vs, t2, e2, hoc, hd, hv⟩ := rec
    cases e2
    have z2 : (s.heap.push (PySem.W.kdv_tup [v])).objs.size ≤ h2.objs.size := Nat.le_trans ge (Nat.le_of_lt lt)
    have nC : H c' = none := I0.hok.fresh ge
    have nPC : P ≠ c' := ne_of_none hP nC
    have J := inv_table (t' := tk) (q := X.env.qual ++ "<lambda>") (more := #[rawInt at0.line, rawInt at0.col, .ref c']) (h' := h2.push (PySem.W.kdv_obj "<lambda>" (X.env.qual ++ "<lambda>") ps0 (.expr bd) sc (cloFrom X.env.cells sc.names []) (.ref s.heap.objs.size) doc ((X.mg "__name__").getD .none) c' ctv)) I0 hP
      (fun b o hb e => Heap.get?_push_of_some _ (kp b o hb e)) (Heap.get?_push_of_some _ tab) ge ⟨oc, vs, t2, Heap.get?_push_of_some _ hoc, hd, hv⟩
    have stay : ∀ b o, b ≠ P → H b = some o → upd (upd H P (.tbl (ps ++ #[rawInt at0.line, rawInt at0.col, .ref c']))) c' (CodeO c' (X.env.qual ++ "<lambda>")) b = some o := fun b o nb e => by
      rw [upd_ne (ne_of_none e nC), upd_ne nb]
      exact e
    have tl : (ps ++ #[rawInt at0.line, rawInt at0.col, .ref c']).toList = ps.toList ++ [rawInt at0.line, rawInt at0.col, .ref c'] := by simp
    have nTP : s.heap.objs.size ≠ P := fun z => by rw [z, hP] at nT; cases nT
    have sz : (s.heap.push (PySem.W.kdv_tup [v])).objs.size = s.heap.objs.size + 1 := Heap.size_push _ _
    refine h h2.objs.size c' s.heap.objs.size _ ctv doc _ _ _ J ⟨stay, _, by rw [upd_ne nPC, upd_same], by rw [tl]; exact PySem.TriplesOk_snoc _ _ _ _ tri, fun p' cv hcv => ?_⟩ (Heap.get?_push_size _ rfl) ?_ (out _ z2) upd_same (Heap.get?_push_of_some _ (kp _ _ nTP gT)) ?_ rT
    · rw [tl] at hcv
      rcases among_app _ tri hcv with z | z
      · obtain ⟨c0, e1, e2⟩ := told p' cv z
        exact ⟨c0, e1, stay _ _ (fun z => by rw [z, hP] at e2; exact codeO_ne ps (Option.some.inj e2).symm) e2⟩
      · exact ⟨c', z, upd_same⟩
    · rw [upd_ne (Nat.ne_of_gt lt), upd_ne (Nat.ne_of_gt (Nat.lt_of_lt_of_le (Heap.lt_size gP) z2))]
      exact I0.hok.fresh z2
    · rw [upd_ne (fun z => by rw [← z, sz] at ge; exact absurd ge (Nat.not_succ_le_self _)), upd_ne nTP]
      exact nT
end
section
variable {X : Cx}
end
end FL
/-! ## X13 -/
set_option Elab.async false
set_option linter.all false
set_option maxRecDepth 100000
set_option maxHeartbeats 8000000
/-! lambdas that are kept (in lists), and told of later -/
namespace FL
open PySem L2 LamX PySem.Spec PyProof.Rows
/-- a lambda: its parameters, body and scope, its parameter with a default -/
structure LSpec where
  ps0 : Arguments
  bd : Expr
  sc : Scope
  a : Option Str
/-! where a lambda stands in a def's body -/
def stAt (i : Nat) (b : List Stmt) : Stmt := b.getD i (.Pass ⟨0, 0, 0, 0⟩)
def stBody : Stmt → List Stmt
  | .For _ _ b _ _ => b
  | .If _ b _ _ => b
  | .While _ b _ _ => b
  | _ => []
def stElse : Stmt → List Stmt
  | .If _ _ b _ => b
  | _ => []
def stEx : Stmt → Expr
  | .Assign _ v _ => v
  | .Expr v _ => v
  | .Return (some v) _ => v
  | _ => .Name "" ⟨0, 0, 0, 0⟩
def exArg (i : Nat) : Expr → Expr
  | .List es _ => es.getD i (.Name "" ⟨0, 0, 0, 0⟩)
  | .Call _ es _ _ => es.getD i (.Name "" ⟨0, 0, 0, 0⟩)
  | _ => .Name "" ⟨0, 0, 0, 0⟩
def exRight : Expr → Expr
  | .BinOp _ _ r _ => r
  | _ => .Name "" ⟨0, 0, 0, 0⟩
def exLeft : Expr → Expr
  | .BinOp l _ _ _ => l
  | _ => .Name "" ⟨0, 0, 0, 0⟩
def lcOf (a : Option Str) : Expr → LSpec
  | .Lambda ps bd sc _ => ⟨ps, bd, sc, a⟩
  | e => ⟨default, e, default, a⟩
/-- the object of a lambda that is kept -/
def FnO (q : Str) (S : LSpec) (cl : List (Str × Addr)) (dV : Value) (f c' : Addr) : HO := .ext fun h => ∃ pm doc ctv, h.get? f = some (PySem.W.kdv_obj "<lambda>" q S.ps0 (.expr S.bd) S.sc cl dV doc pm c' ctv)
/-- the tuple of its default -/
def DfO (T : Addr) : HO := .ext fun h => ∃ dv, h.get? T = some (PySem.W.kdv_tup [dv])
def dfAt (H : Hp) (a : Option Str) (dV : Value) : Prop :=
  match a with
  | none => dV = .none
  | some _ => ∃ T, dV = .ref T ∧ H T = some (DfO T)
/-- the lambda S stands at f -/
def LamAt (H : Hp) (q : Str) (cells : List (Str × Addr)) (S : LSpec) (f : Addr) : Prop :=
  ∃ c' dV, H f = some (FnO q S (cloFrom cells S.sc.names []) dV f c') ∧ H c' = some (CodeO c' q) ∧ dfAt H S.a dV
theorem LamAt.stay {H H' : Hp} {q : Str} {cells : List (Str × Addr)} {S : LSpec} {f : Addr} (h : LamAt H q cells S f) (st : ∀ b φ, H b = some (.ext φ) → H' b = some (.ext φ)) : LamAt H' q cells S f := by
  obtain ⟨c', dV, h1, h2, h3⟩ := h
  refine ⟨c', dV, st _ _ h1, st _ _ h2, ?_⟩
  unfold dfAt at h3 ⊢
  split at h3
  · exact h3
  · obtain ⟨T, e, h4⟩ := h3
    exact ⟨T, e, st _ _ h4⟩
theorem LamAt.same {H H' : Hp} {q : Str} {cells : List (Str × Addr)} {S : LSpec} {f : Addr} (h : LamAt H q cells S f) (s : Same H H') : LamAt H' q cells S f := h.stay fun b φ e => s b _ e
theorem LamAt.ex {H H' : Hp} {P : Addr} {q q' : Str} {cells : List (Str × Addr)} {S : LSpec} {f : Addr} (h : LamAt H q cells S f) (hP : ∃ ps, H P = some (.tbl ps)) (s : LamEx P q' H H') : LamAt H' q cells S f := h.stay fun b φ e => s.same b _ (fun z => by
  obtain ⟨ps, hP⟩ := hP
  rw [z, hP] at e
  cases e) e
theorem LamAt.sameD {H H' : Hp} {d : Addr} {q : Str} {cells : List (Str × Addr)} {S : LSpec} {f : Addr} (h : LamAt H q cells S f) (hd : ∃ xs, H d = some (.lst xs)) (s : SameD d H H') : LamAt H' q cells S f := h.stay fun b φ e => s b _ (fun z => by
  obtain ⟨xs, hd⟩ := hd
  rw [z, hd] at e
  cases e) e
/-- what is bound when it is called without arguments -/
def LBind (S : LSpec) : Prop :=
  match S.a with
  | none => ∀ (q : Str) (cl : List (Str × Addr)) (doc pm cv ctv : Value), bindArgs (PySem.W.kdv_fn "<lambda>" q S.ps0 (.expr S.bd) S.sc cl .none doc pm cv ctv) ⟨[], []⟩ = pure []
  | some a0 => S.sc.names.lookup a0 = some .local ∧ ∀ (q : Str) (cl : List (Str × Addr)) (T : Addr) (doc pm cv ctv dv : Value), ∃ kk : Option (Array Value) → Sem (List (Str × Value)),
      bindArgs (PySem.W.kdv_fn "<lambda>" q S.ps0 (.expr S.bd) S.sc cl (.ref T) doc pm cv ctv) ⟨[], []⟩ = seqItems? (.ref T) >>= kk ∧ kk (some #[dv]) = pure [(a0, dv)]
structure LsOk (X : Cx) (k : Nat) (S : LSpec) (t : XK → TE) : Prop where
  L : LamD X.N X.env.scope S.sc
  b : LBind S
  body : ∀ (A : Around) (outer : List Env) (s : Shared) (H : Hp) (E : XK) (f c' : Addr), Room k (A.deeper (lamEnv X S.sc s.heap.objs.size f c')) → PE (lamCx X A outer s H E S.sc f c') S.bd (t E)
theorem pe_imp {X : Cx} {e : Expr} {t t' : TE} (h : ∀ σ H Q, t' σ H Q → t σ H Q) (p : PE X e t) : PE X e t' := ⟨fun pins s σ H Q I z => p.run pins s σ H Q I (h σ H Q z)⟩
section
variable {X : Cx} {pins : List (Addr × Obj)} {σ : L2.St} {H HZ : Hp} {s s1 : Shared}
/-- a state in which a lambda of the def of X may be begun, from what stood at (H, s) -/
def Begins0 (X : Cx) (H : Hp) (s : Shared) (σ : L2.St) (sc : Scope) : Prop := ∀ (A : Around) (outer : List Env) (E : XK) (f c' : Addr) (s1 : Shared) (HZ : Hp) (h₁ : Heap) (tk : Nat) (mm : Str → Option Value), Env0 X.prog X.w X.K X.mg X.base A outer s1 HZ → A.handled = none →
  Un (frs X.stack) [] H HZ s.heap s1.heap → h₁.Ns s1.heap.objs.size mm → (∀ b o, s1.heap.get? b = some o → h₁.get? b = some o) → Inv (lamCx X A outer s1 HZ E sc f c') [] σ HZ { s1 with heap := h₁, toks := tk }
theorem pe_actC {CXg : CXT} {Eg : XK} {Ng : List Str} {qg : Str} {sg : Scope} {g f : Addr} {cdg : Value} {S : LSpec} {k i : Nat} {a : Str} {pn : List (Addr × Obj)} {xe : Value → Shared → Prop} {W : WX} {E : XK} {t : XK → TE} {p1 p2 : Pos}
    (B : Begins0 X H s σ S.sc) (O : LsOk X k S t)
    (tk : Takes ((cxOf CXg X.prog X.w X.K X.mg X.base Ng qg sg g cdg X.A X.stack s H Eg).tr pn xe) W) (hW : ∀ cls d σ' H', E cls d H' → W cls d σ' H') (hr : Room (k + 1) (X.A.deeper (envOfC qg sg s.heap.objs.size g cdg)))
    (hN : Ng[i]? = some a) (hv : Vis sg a) (hd : (a == ("__debug__" : Str)) = false := by decide) (hcd : (a == ("__classdict__" : Str)) = false := by decide) :
    PE ((cxOf CXg X.prog X.w X.K X.mg X.base Ng qg sg g cdg X.A X.stack s H Eg).tr pn xe) (.Call (.Name a p1) [] [] p2)
      (fun σZ HZ Q => σZ[i]? = some (some (.ref f)) ∧ LamAt HZ (X.env.qual ++ "<lambda>") X.env.cells S f ∧ t E σ HZ Q) := by
  refine ⟨fun pinsZ sZ σZ HZ Q IZ h => ?_⟩
  obtain ⟨hs, hlam, ht⟩ := h
  refine wpAny_Call_Name_kw (thn ((pe_var (pos := p1) (i := i) hN hv hd hcd).run pinsZ sZ σZ HZ (fun v H1 => v = .ref f ∧ H1 = HZ) IZ ⟨.ref f, hs, rfl, rfl⟩) fun u s1 ⟨v, H1, I1, r1, q1⟩ => ?_)
  obtain ⟨ev, eH⟩ := q1
  subst ev
  rw [eH] at I1
  obtain rfl : u = Value.ref f := r1
  obtain ⟨c', dV, hF, hc, hD⟩ := hlam
  obtain ⟨⟨pm, doc, ctv, of1⟩, _, _⟩ := I1.hok f _ hF
  refine PySem.W.callWith_F0 ⟨_, _, _, _, of1⟩ ?_
  have un : Un (frs X.stack) [] H HZ s.heap s1.heap := I1.base
  have L := O.L
  obtain ⟨⟨oc, vs, tq, hoc, hdc, hvc⟩, _, _⟩ := I1.hok c' _ hc
  have rc : codeAny (model X.prog X.w) (X.A.deeper (envOfC qg sg s.heap.objs.size g cdg)) (.call (.ref f) ⟨[], []⟩) (L2.CR (L2.CX X.prog X.w) (envOfC qg sg s.heap.objs.size g cdg :: X.stack) X.prog X.w HZ s1 Q E) s1 := by
    refine PySem.W.kla_callFunE hr.depth of1 rfl L.co L.gen rfl ⟨c', oc, vs, tq, rfl, hoc, hdc, hvc⟩ ?_
    have key : ∀ binds : List (Str × Value), (∀ y ∈ binds, S.sc.names.lookup y.1 = some .local) → wpAny (model X.prog X.w) (X.A.deeper (envOfC qg sg s.heap.objs.size g cdg)).in1
        (newFunctionEnv S.sc mainGlobals (cloFrom X.env.cells S.sc.names []) binds ((X.env.qual ++ "<lambda>") ++ ".<locals>.") (some f) (.ref c') none builtinsNs)
        (fun env s₂ => s₂.heap.NoLimit ∧ codeAny (model X.prog X.w) (X.A.deeper (envOfC qg sg s.heap.objs.size g cdg)) (.expr S.bd env) (L2.CR (L2.CX X.prog X.w) (envOfC qg sg s.heap.objs.size g cdg :: X.stack) X.prog X.w HZ s1 Q E) s₂)
        (fun e s' => (L2.CR (L2.CX X.prog X.w) (envOfC qg sg s.heap.objs.size g cdg :: X.stack) X.prog X.w HZ s1 Q E) (.error e) s') s1 := fun binds hb => by
      refine wpAny_newFunctionEnv (fun y hy => (L.own y hy).1) hb (fun h₁ hns hsb => ⟨I1.nolimit.fresh _ hsb, ?_⟩) L.kind
      show codeAny _ _ (.expr S.bd (lamEnv X S.sc s1.heap.objs.size f c')) _ _
      have kp : ∀ b o, s1.heap.get? b = some o → h₁.get? b = some o := fun b o e => hsb.extBut b o (Nat.ne_of_lt (Heap.lt_size e)) (Heap.get?_push_of_some _ e)
      have J : Inv (lamCx X (X.A.deeper (envOfC qg sg s.heap.objs.size g cdg)) (envOfC qg sg s.heap.objs.size g cdg :: X.stack) s1 HZ E S.sc f c') [] σ HZ { s1 with heap := h₁, toks := s1.toks + binds.length } :=
        B _ _ _ _ _ _ _ _ _ _ I1.env0 hr.hd un hns kp
      refine PySem.W.kla_codeExpr (wpAny_mono ((O.body _ _ s1 HZ E f c' (hr.deeper _)).run [] _ _ HZ Q J ht) (fun v s' hq => ?_) fun e s' hq => hq)
      obtain ⟨w', H', J', rv, q⟩ := hq
      exact ⟨w', H', J'.os, J'.bare, J'.base, J'.hok, rv, q⟩
    have b := O.b
    cases ea : S.a with
    | none =>
      unfold LBind at b
      unfold dfAt at hD
      rw [ea] at b hD
      cases (show dV = .none from hD)
      rw [show bindArgs _ _ = pure [] from b _ _ _ _ _ _]
      refine wpAny_pure ?_
      exact key [] (fun y hy => nomatch hy)
    | some a0 =>
      unfold LBind at b
      unfold dfAt at hD
      rw [ea] at b hD
      obtain ⟨T, rfl, hT⟩ := (show ∃ T, dV = .ref T ∧ HZ T = some (DfO T) from hD)
      obtain ⟨⟨dv, oT⟩, _, _⟩ := I1.hok T _ hT
      obtain ⟨hloc, hb⟩ := b
      obtain ⟨kk, hb1, hb2⟩ := hb (X.env.qual ++ "<lambda>") (cloFrom X.env.cells S.sc.names []) T doc pm (.ref c') ctv dv
      refine (BindsTo.of_defaults (s := s1) rfl oT rfl hb1 hb2) _ _ _ _ ?_
      exact key [(a0, dv)] (fun y hy => by rw [List.mem_singleton.mp hy]; exact hloc)
  have hx : Passes (L2.CX X.prog X.w) ((cxOf CXg X.prog X.w X.K X.mg X.base Ng qg sg g cdg X.A X.stack s H Eg).tr pn xe) E := passes_call tk hW
  refine wpAny_call (codeAny_mono rc fun r s' hq => ?_)
  cases r with
  | error e => exact hx pinsZ σZ HZ s1 e s' I1 hq
  | ok fl =>
    cases fl with
    | ret u => exact I1.after hq
    | next => exact False.elim hq
    | brk => exact False.elim hq
    | cont => exact False.elim hq
/-- a lambda that is kept is made -/
def tLamK (P : Addr) (q : Str) (cells : List (Str × Addr)) (S : LSpec) : TE := fun _ H Q => TabS H P q ∧ ∀ f H1, LamEx P q H H1 → H f = none → LamAt H1 q cells S f → Q (.ref f) H1
theorem ObjOk_fn {Pg : Program} {w : World} {Hn : Hp} {h : Heap} {f : Addr} {q : Str} {S : LSpec} {cl : List (Str × Addr)} {dV doc pm ctv : Value} {c' : Addr} (e : h.get? f = some (PySem.W.kdv_obj "<lambda>" q S.ps0 (.expr S.bd) S.sc cl dV doc pm c' ctv)) : ObjOk Pg w Hn h f (FnO q S cl dV f c') :=
  ⟨⟨pm, doc, ctv, e⟩, ⟨_, e⟩, fun h1 h2 ⟨pm, doc, ctv, a⟩ st => ⟨pm, doc, ctv, st _ a⟩⟩
theorem ObjOk_df {Pg : Program} {w : World} {Hn : Hp} {h : Heap} {T : Addr} {dv : Value} (e : h.get? T = some (PySem.W.kdv_tup [dv])) : ObjOk Pg w Hn h T (DfO T) :=
  ⟨⟨dv, e⟩, ⟨_, e⟩, fun h1 h2 ⟨dv, a⟩ st => ⟨dv, st _ a⟩⟩
/-- its last part: the default's tuple stands, the function is made and known -/
theorem lam_keep {c P : Addr} {S : LSpec} {at0 : Pos} {fl : Nat} {dV : Value} {E Q : Value → Shared → Prop} (I : Inv X pins σ H s) (TB : LamX.TabB X.base X.mg c P) (hcode : X.env.code = .ref c) (hT : TabS H P (X.env.qual ++ "<lambda>")) (hD : dfAt H S.a dV)
    (hfree : ∀ y ∈ S.sc.names, y.2 = .free → ∃ c, X.env.cells.lookup y.1 = some c)
    (h : ∀ f H1 s', Inv X pins σ H1 s' → LamEx P (X.env.qual ++ "<lambda>") H H1 → H f = none → LamAt H1 (X.env.qual ++ "<lambda>") X.env.cells S f → Q (.ref f) s') :
    wpAny (model X.prog X.w) X.A (makeTail "<lambda>" (X.env.qual ++ "<lambda>") S.ps0 (.expr S.bd) S.sc X.env dV .none none at0 fl) Q E s := by
  obtain ⟨ps, hP, tri, told⟩ := hT
  have gP : s.heap.get? P = some { cls := .none, data := .fields ps } := I.hok P _ hP
  cases hc : codeAmong at0 ps.toList with
  | some cv =>
    obtain ⟨c', e, hco⟩ := told at0 cv hc
    subst e
    refine PySem.W.kdv_makeTailHit (mg := X.mg) (c := c) (P := P) (ps := ps) (closure_ok hfree) I.ok.glob (I.mod.glob.keeps I.bk) hcode (TB.code.keeps I.bk) gP tri hc (TB.bm.keeps I.bk) fun ctv doc h2 tk kp hz => ?_
    have nf : H h2.objs.size = none := I.hok.fresh hz
    have stay : ∀ b o, H b = some o → upd H h2.objs.size (FnO (X.env.qual ++ "<lambda>") S (cloFrom X.env.cells S.sc.names []) dV h2.objs.size c') b = some o := fun b o e => by
      rw [upd_ne (ne_of_none e nf)]
      exact e
    refine h h2.objs.size _ _ (I.laid (t' := tk) (fun b o e => Heap.get?_push_of_some _ (kp b o e)) hz (ObjOk_fn (Heap.get?_push_size _ rfl))) ⟨fun b o _ e => stay b o e, TabS.ext ⟨ps, hP, tri, told⟩ stay⟩ nf ⟨c', dV, upd_same, stay _ _ hco, ?_⟩
    unfold dfAt at hD ⊢
    split at hD
    · exact hD
    · obtain ⟨T, e, hT⟩ := hD
      exact ⟨T, e, stay _ _ hT⟩
  | none =>
    refine PySem.W.kdv_makeTail (mg := X.mg) (c := c) (P := P) (ps := ps) (closure_ok hfree) I.ok.glob (I.mod.glob.keeps I.bk) hcode (TB.code.keeps I.bk) gP tri hc TB.gP (TB.bm.keeps I.bk) fun c' ctv doc h2 tk kp ge lt rec tab => ?_
    obtain ⟨c2, oc, vs, t, e2, hoc, hd, hv⟩ := rec
    cases e2
    have z2 : s.heap.objs.size ≤ h2.objs.size := Nat.le_trans ge (Nat.le_of_lt lt)
    have nC : H c' = none := I.hok.fresh ge
    have nPC : P ≠ c' := ne_of_none hP nC
    have J := inv_table (t' := tk) (q := X.env.qual ++ "<lambda>") (more := #[rawInt at0.line, rawInt at0.col, .ref c']) (h' := h2) I hP
      (fun b o hb e => kp b o hb e) tab ge ⟨oc, vs, t, hoc, hd, hv⟩
    have nf : H h2.objs.size = none := I.hok.fresh z2
    have K2 := J.laid (a := h2.objs.size) (o := FnO (X.env.qual ++ "<lambda>") S (cloFrom X.env.cells S.sc.names []) dV h2.objs.size c') (t' := tk) (h' := h2.push (PySem.W.kdv_obj "<lambda>" (X.env.qual ++ "<lambda>") S.ps0 (.expr S.bd) S.sc (cloFrom X.env.cells S.sc.names []) dV doc ((X.mg "__name__").getD .none) c' ctv)) (fun b o e => Heap.get?_push_of_some _ e) (Nat.le_refl _) (ObjOk_fn (Heap.get?_push_size _ rfl))
    have nJ := J.hok.fresh (Nat.le_refl h2.objs.size)
    have stay : ∀ b o, b ≠ P → H b = some o → upd (upd (upd H P (.tbl (ps ++ #[rawInt at0.line, rawInt at0.col, .ref c']))) c' (CodeO c' (X.env.qual ++ "<lambda>"))) h2.objs.size (FnO (X.env.qual ++ "<lambda>") S (cloFrom X.env.cells S.sc.names []) dV h2.objs.size c') b = some o := fun b o nb e => by
      rw [upd_ne (ne_of_none e nf), upd_ne (ne_of_none e nC), upd_ne nb]
      exact e
    have nCf : c' ≠ h2.objs.size := Nat.ne_of_lt lt
    have nPf : P ≠ h2.objs.size := ne_of_none hP nf
    have eC : upd (upd (upd H P (.tbl (ps ++ #[rawInt at0.line, rawInt at0.col, .ref c']))) c' (CodeO c' (X.env.qual ++ "<lambda>"))) h2.objs.size (FnO (X.env.qual ++ "<lambda>") S (cloFrom X.env.cells S.sc.names []) dV h2.objs.size c') c' = some (CodeO c' (X.env.qual ++ "<lambda>")) := by
      rw [upd_ne nCf, upd_same]
    have tl : (ps ++ #[rawInt at0.line, rawInt at0.col, .ref c']).toList = ps.toList ++ [rawInt at0.line, rawInt at0.col, .ref c'] := by simp
    refine h h2.objs.size _ _ K2 ⟨stay, _, by rw [upd_ne nPf, upd_ne nPC, upd_same], by rw [tl]; exact PySem.TriplesOk_snoc _ _ _ _ tri, fun p' cv hcv => ?_⟩ nf ⟨c', dV, upd_same, eC, ?_⟩
    · rw [tl] at hcv
      rcases among_app _ tri hcv with z | z
      · obtain ⟨c0, e1, e2⟩ := told p' cv z
        exact ⟨c0, e1, stay _ _ (fun z => by rw [z, hP] at e2; exact codeO_ne ps (Option.some.inj e2).symm) e2⟩
      · exact ⟨c', z, eC⟩
    · unfold dfAt at hD ⊢
      split at hD
      · exact hD
      · obtain ⟨T, e, hT⟩ := hD
        exact ⟨T, e, stay _ _ (fun z => by
          rw [z, hP] at hT
          cases hT) hT⟩
theorem pe_lamK {c P : Addr} {cells : List (Str × Addr)} {q : Str} {ps0 : Arguments} {bd : Expr} {sc : Scope} {at0 : Pos} (S : LSpec) (hS : S = ⟨ps0, bd, sc, none⟩) (TB : LamX.TabB X.base X.mg c P) (hcode : X.env.code = .ref c) (eq : q = X.env.qual ++ "<lambda>") (ec : X.env.cells = cells) (hdf : ps0.defaults = []) (hkw : ps0.kw_defaults = [])
    (L : LamD X.N X.env.scope sc) : PE X (.Lambda ps0 bd sc at0) (tLamK P q cells S) := by
  subst eq ec hS
  refine ⟨fun pins s σ H Q I h => ?_⟩
  obtain ⟨hT, h⟩ := h
  have hdef : defaultsOf ps0 X.env = ([], []) := by
    rw [defaultsOf_eq, hdf, hkw] <;> rfl
  refine PySem.W.kla_eval hdef ?_
  rw [makeFunction_eq]
  simp only [List.zip_nil_right, List.filterMap_nil, List.isEmpty_nil, if_true, pure_bind]
  exact lam_keep (S := ⟨ps0, bd, sc, none⟩) I TB hcode hT rfl (L.has I.ok) fun f H1 s' J ex hn la => ⟨.ref f, H1, J, rfl, h f H1 ex hn la⟩
theorem pe_lamK2 {c P : Addr} {cells : List (Str × Addr)} {q : Str} {a0 : Str} {i : Int} {ps0 : Arguments} {bd e0 : Expr} {sc : Scope} {at0 : Pos} (S : LSpec) (hS : S = ⟨ps0, bd, sc, some a0⟩) (TB : LamX.TabB X.base X.mg c P) (hcode : X.env.code = .ref c) (eq : q = X.env.qual ++ "<lambda>") (ec : X.env.cells = cells) (hdf : ps0.defaults = [e0]) (hkw : ps0.kw_defaults = [])
    (hev : PE X e0 (tC (.int i))) (L : LamD X.N X.env.scope sc) : PE X (.Lambda ps0 bd sc at0) (tLamK P q cells S) := by
  subst eq ec hS
  refine ⟨fun pins s σ H Q I h => ?_⟩
  obtain ⟨hT, h⟩ := h
  refine PySem.W.kdv_lam (by rw [hdf] <;> rfl) hkw ?_
  rw [hdf]
  refine PySem.W.kdv_all1 (wpAny_mono (hev.run pins s σ H (fun x H' => x = .int i ∧ H' = H) I ⟨rfl, rfl⟩) (fun v s ⟨x, H', I, rx, ex, eH⟩ => PySem.W.kdv_all0 ?_) fun _ _ z => z)
  rw [eH] at I
  rw [makeFunction_eq]
  simp only [List.zip_nil_right, List.filterMap_nil, List.isEmpty_nil, List.isEmpty_cons, if_true, pure_bind, Bool.false_eq_true, if_false]
  refine wpAny_bind (wpAny_newTextTuple ?_)
  have nT : H s.heap.objs.size = none := I.hok.fresh (Nat.le_refl _)
  have I0 : Inv X pins σ (upd H s.heap.objs.size (DfO s.heap.objs.size)) { s with heap := s.heap.push (PySem.W.kdv_tup [v]) } := I.laid (t' := s.toks) (fun b o e => Heap.get?_push_of_some _ e) (Nat.le_refl _) (ObjOk_df (Heap.get?_push_size _ rfl))
  have stay : ∀ b o, H b = some o → upd H s.heap.objs.size (DfO s.heap.objs.size) b = some o := fun b o e => by
    rw [upd_ne (ne_of_none e nT)]
    exact e
  refine lam_keep (S := ⟨ps0, bd, sc, some a0⟩) I0 TB hcode (hT.ext stay) ⟨_, rfl, upd_same⟩ (L.has I.ok) fun f H1 s' J ex hn la => ⟨.ref f, H1, J, rfl, h f H1 ⟨fun b o hb e => ex.same b o hb (stay b o e), ex.tab⟩ ?_ la⟩
  cases q : H f with
  | none => rfl
  | some o => rw [stay f o q] at hn; cases hn
theorem lb_none {S : LSpec} (h : S.a = none) (b : ∀ (q : Str) (cl : List (Str × Addr)) (doc pm cv ctv : Value), bindArgs (PySem.W.kdv_fn "<lambda>" q S.ps0 (.expr S.bd) S.sc cl .none doc pm cv ctv) ⟨[], []⟩ = pure []) : LBind S := by
  unfold LBind
  rw [h]
  exact b
theorem lb_some {S : LSpec} {a0 : Str} (h : S.a = some a0) (l : S.sc.names.lookup a0 = some .local) (b : ∀ (q : Str) (cl : List (Str × Addr)) (T : Addr) (doc pm cv ctv dv : Value), ∃ kk : Option (Array Value) → Sem (List (Str × Value)),
      bindArgs (PySem.W.kdv_fn "<lambda>" q S.ps0 (.expr S.bd) S.sc cl (.ref T) doc pm cv ctv) ⟨[], []⟩ = seqItems? (.ref T) >>= kk ∧ kk (some #[dv]) = pure [(a0, dv)]) : LBind S := by
  unfold LBind
  rw [h]
  exact ⟨l, b⟩
theorem lso_nil {k : Nat} : ∀ p ∈ ([] : List (LSpec × (XK → TE))), LsOk X k p.1 p.2 := fun _ h => nomatch h
theorem lso_cons {k : Nat} {S : LSpec} {t : XK → TE} {Ss : List (LSpec × (XK → TE))} (h : LsOk X k S t) (r : ∀ p ∈ Ss, LsOk X k p.1 p.2) : ∀ p ∈ (S, t) :: Ss, LsOk X k p.1 p.2 := fun p hp => by
  rcases List.mem_cons.mp hp with rfl | hp
  · exact h
  · exact r p hp
/-- told of a lambda that was kept -/
def tToldG (K : PySem.W.Frag) (c : Nat → Addr) (q : Str) (cells : List (Str × Addr)) (Ss : List (LSpec × (XK → TE))) (ta : TA) : TE := fun σ H Q => ta σ H fun vs H1 => ∃ f S t, vs = [.ref f] ∧ (S, t) ∈ Ss ∧ LamAt H1 q cells S f ∧ TTold K c (fun E H2 Q2 => t E σ H2 Q2) H1 Q
end
end FL
/-! ## Y5a -/
set_option Elab.async false
set_option linter.all false
set_option maxRecDepth 100000
set_option maxHeartbeats 8000000
/-! what the law of the verdicts needs -/
namespace FL
open PySem L2 GxR SrtO
def rNeX (K : PySem.W.Frag) : R2 := fun x y H Q => rNeDA x y H Q ∨ rNeD K x y H Q
theorem op_neX {X : Cx} (hu : X.A.units + 64 < cLine) : OpR X (compareOp .NotEq) (rNeX X.K) := by
  intro pins s σ H x y v u Q I rx ry h
  rcases h with h | h
  · exact op_ne_dictA (Nat.lt_of_le_of_lt (Nat.le_add_right _ 64) hu) pins s σ H x y v u Q I rx ry h
  · exact op_neD hu pins s σ H x y v u Q I rx ry h
abbrev qLaw : Str := ("law" ++ ".<locals>." : Str) ++ "<lambda>"
/-- what a turn of the law has at hand; LL: the law's own table -/
structure T4 (K : PySem.W.Frag) (LL L : Addr) (Ps : List Addr) (d : Addr) (H : Hp) : Prop where
  dc : DiceAt K H d
  tz : Tz L qMin Ps H
  tl : LamX.TabS H LL qLaw
structure T4g (K : PySem.W.Frag) (LL L : Addr) (Ps : List Addr) (d : Addr) (v : V) (g : Gr) (a : Addr) (ns : List Str) (H : Hp) : Prop extends T4 K LL L Ps d H where
  gr : Dt K H v g.d
  gv : SqS K H a (ns.map V.str)
section
variable {K : PySem.W.Frag} {LL L : Addr} {Ps : List Addr} {d : Addr} {v : V} {g : Gr} {a : Addr} {ns : List Str} {H H' : Hp}
theorem tabS_ez {P : Addr} {q q' : Str} (t : LamX.TabS H P q') (tz : Tz L q Ps H) (n : P ∉ L :: Ps) (z : Ez L q Ps H H') : LamX.TabS H' P q' := by
  obtain ⟨ps, h1, h2, h3⟩ := t
  refine ⟨ps, z.ex.same _ _ n h1, h2, fun pos cv hc => ?_⟩
  obtain ⟨c, e1, e2⟩ := h3 pos cv hc
  exact ⟨c, e1, z.ex.same _ _ (tz.tb.no e2 (fun _ z => by unfold LamX.CodeO at z; cases z)) e2⟩
theorem T4.ez (A : T4 K LL L Ps d H) (n : LL ∉ L :: Ps) (z : Ez L qMin Ps H H') : T4 K LL L Ps d H' := ⟨DiceAt.ez A.tz z A.dc, z.tz, tabS_ez A.tl A.tz n z⟩
theorem T4.same (A : T4 K LL L Ps d H) (n : LL ∉ L :: Ps) (s : Same H H') : T4 K LL L Ps d H' := A.ez n (Ez.of_same A.tz s)
theorem tabS_sameD {P : Addr} {q : Str} {xs : List V} (t : LamX.TabS H P q) (e : H d = some (.lst xs)) (s : SameD d H H') : LamX.TabS H' P q := by
  obtain ⟨ps, h1, h2, h3⟩ := t
  have ne : ∀ {b : Addr} {u : HO}, H b = some u → (∀ xs, u ≠ .lst xs) → b ≠ d := fun {b u} z nu y => by
    rw [y, e] at z
    exact nu _ (Option.some.inj z).symm
  refine ⟨ps, s _ _ (ne h1 (fun _ z => by cases z)) h1, h2, fun pos cv hc => ?_⟩
  obtain ⟨c, e1, e2⟩ := h3 pos cv hc
  exact ⟨c, e1, s _ _ (ne e2 (fun _ z => by unfold LamX.CodeO at z; cases z)) e2⟩
theorem T4.sameD (A : T4 K LL L Ps d H) (D : DiceAt K H' d) (s : SameD d H H') : T4 K LL L Ps d H' := by
  obtain ⟨_, _, _, _, _, e, _⟩ := id A.dc
  exact ⟨D, A.tz.sameD e s, tabS_sameD A.tl e s⟩
theorem Tz.lam {q q' : Str} (t : Tz L q Ps H) (tl : LamX.TabS H LL q') (n : LL ∉ L :: Ps) (x : LamEx LL q' H H') : Tz L q Ps H' := by
  obtain ⟨ps, h1, h2, h3⟩ := t.tl
  obtain ⟨qs, g1, _⟩ := tl
  have nl : ∀ P ∈ L :: Ps, P ≠ LL := fun P hP z => n (z ▸ hP)
  refine ⟨fun P hP => ?_, ps, x.same _ _ (nl L List.mem_cons_self) h1, h2, fun pos cv hc => ?_⟩
  · obtain ⟨qs, z1, z2⟩ := t.tb P hP
    exact ⟨qs, x.same _ _ (nl P hP) z1, z2⟩
  · obtain ⟨c, e1, e2⟩ := h3 pos cv hc
    refine ⟨c, e1, x.same _ _ (fun z => ?_) e2⟩
    rw [z, g1] at e2
    unfold LamX.CodeO at e2
    cases e2
theorem tz_own (t : LamX.TabS H LL qLaw) : Tz LL qLaw [] H := ⟨fun P hP => by
  rw [List.mem_singleton.mp hP]
  obtain ⟨ps, h1, h2, _⟩ := t
  exact ⟨ps, h1, h2⟩, t⟩
theorem T4.lam (A : T4 K LL L Ps d H) (n : LL ∉ L :: Ps) (x : LamEx LL qLaw H H') : T4 K LL L Ps d H' := ⟨DiceAt.ez (tz_own A.tl) (Ez.of_lam (tz_own A.tl) x) A.dc, A.tz.lam A.tl n x, x.tab⟩
theorem T4g.ez (A : T4g K LL L Ps d v g a ns H) (n : LL ∉ L :: Ps) (z : Ez L qMin Ps H H') : T4g K LL L Ps d v g a ns H' := ⟨A.toT4.ez n z, A.gr.mono (z.ts A.tz), A.gv.ez A.tz z⟩
theorem T4g.same (A : T4g K LL L Ps d v g a ns H) (n : LL ∉ L :: Ps) (s : Same H H') : T4g K LL L Ps d v g a ns H' := A.ez n (Ez.of_same A.tz s)
theorem T4g.lam (A : T4g K LL L Ps d v g a ns H) (n : LL ∉ L :: Ps) (x : LamEx LL qLaw H H') : T4g K LL L Ps d v g a ns H' :=
  have z := Ez.of_lam (tz_own A.tl) x
  ⟨A.toT4.lam n x, A.gr.mono (z.ts (tz_own A.tl)), A.gv.ez (tz_own A.tl) z⟩
end
end FL
/-! ## X15 -/
set_option Elab.async false
set_option linter.all false
set_option maxRecDepth 100000
set_option maxHeartbeats 8000000
/-! what laws with lambdas need -/
namespace FL
open PySem L2 GxR SrtO
section
variable {K : PySem.W.Frag} {LL L : Addr} {Ps : List Addr} {d : Addr} {v : V} {g : Gr} {a : Addr} {ns : List Str} {H H' : Hp}
theorem sqS_sameD {ys : List V} (D : DiceAt K H d) (s : SameD d H H') (n : ∀ y ∈ ys, ∀ i, y ≠ .int i) (h : SqS K H a ys) : SqS K H' a ys := by
  rcases h with ((h | ⟨o, h⟩) | h) | h
  · exact .inl (.inl (.inl (s _ _ (D.ne h n) h)))
  · refine .inl (.inl (.inr ⟨o, s _ _ (fun z => ?_) h⟩))
    obtain ⟨_, _, _, _, _, e, _⟩ := D
    rw [z, e] at h
    cases h
  · exact .inl (.inr h)
  · exact .inr (s.ts D.loose _ _ h)
theorem T4g.sameD (A : T4g K LL L Ps d v g a ns H) (D : DiceAt K H' d) (s : SameD d H H') : T4g K LL L Ps d v g a ns H' :=
  ⟨A.toT4.sameD D s, A.gr.mono (s.ts A.dc.loose), sqS_sameD A.dc s noInt_str A.gv⟩
theorem LamAt.ez {q q' : Str} {cells : List (Str × Addr)} {S : LSpec} {f : Addr} (h : LamAt H q' cells S f) (t : Tz L q Ps H) (z : Ez L q Ps H H') : LamAt H' q' cells S f := h.stay fun b φ e => z.ex.same _ _ (t.tb.no e (fun _ z => nomatch z)) e
theorem LamAt.own {cells : List (Str × Addr)} {S : LSpec} {f : Addr} (h : LamAt H qLaw cells S f) (t : LamX.TabS H LL qLaw) (x : LamEx LL qLaw H H') : LamAt H' qLaw cells S f := h.ez (tz_own t) (Ez.of_lam (tz_own t) x)
end
section
variable {P : Program} {w : World} {K : PySem.W.Frag} {mg : Str → Option Value} {base : Heap}
theorem okFC {x : Str} {st : Stmt} {N ps : List Str} {k : Nat} {sp : Sp} {c f : Addr} {fd : FuncData} (F : Fun K x x st f fd) (hc : fd.code = .ref c) (S : FnScope N ps (defScope st)) (len : ∀ vs H Q E, sp vs H Q E → vs.length = ps.length)
    (hbody : ∀ (A : Around) (outer : List Env) (s : Shared) (H : Hp) (vs : List V) (Q : VK) (E : XK), Room k (A.deeper (PyProof.Rows.envOfC x (defScope st) s.heap.objs.size f (.ref c))) → sp vs H Q E →
      ∃ t, PSs (cxOf CX0 P w K mg base N x (defScope st) f (.ref c) A outer s H E).nox (defBody st) t ∧ t { nx := fun _ H' => Q .non H', rt := Q } (start N vs) H) : FnOk P w K mg base CX0 (k + 1) f fd ps sp := by
  obtain ⟨oc, od, kV, doc, pm, an, cdv, ct, osl, rfl, lk, hcd⟩ := F.ex
  have e : cdv = .ref c := hc
  subst e
  exact fn_of lk hcd S len fun A outer s H vs Q E hr hsp => by
    obtain ⟨t, h, q⟩ := hbody A outer s H vs Q E hr hsp
    exact ⟨t, h.nox, q⟩
/-- xs[lo:hi] of a list or a tuple -/
def rSlS (K : PySem.W.Frag) : V → Option Int → Option Int → Hp → VK → Prop := fun x lo hi H Q => rSlL K x lo hi H Q ∨ rSlA K x lo hi H Q
theorem sl_seqK {X : Cx} (eK : X.K = K) : SlR X (rSlS K) := by
  subst eK
  intro pins s σ H x v vl vu lo hi sl Q I rx hs pl pu h
  rcases h with h | h
  · exact sl_list pins s σ H x v vl vu lo hi sl Q I rx hs pl pu h
  · exact sl_tupA pins s σ H x v vl vu lo hi sl Q I rx hs pl pu h
theorem use_slS {H : Hp} {a : Addr} {xs : List V} {lo hi : Option Int} {Q : VK} (ha : SqS K H a xs) (k : ∀ b H', Same H H' → SqS K H' b (cutV xs lo hi) → Q (.ref b) H') : rSlS K (.ref a) lo hi H Q := by
  rcases ha with ha | ha
  · exact .inl ⟨a, xs, rfl, ha, fun p hp => k p _ (Same.new hp) (.inl (SqL.of upd_same))⟩
  · refine .inr ⟨a, xs, rfl, ha, fun e => k a H (fun _ _ h => h) (.inr ?_), fun _ p hp => k p _ (Same.new hp) (.inr (SqT.of upd_same))⟩
    have : cutV xs lo hi = xs := by
      unfold cutV
      rw [e.1, e.2]
      simp
    rw [this]
    exact ha
theorem cut_to {xs : List V} {j : Nat} (h : j ≤ xs.length) : cutV xs none (some (j : Int)) = xs.take j := by
  unfold cutV
  rw [HT.sIx_none, HT.sIx_nat, Nat.min_eq_left h, List.drop_zero, Nat.sub_zero]
theorem cut_from {xs : List V} {j : Nat} (h : j ≤ xs.length) : cutV xs (some (j : Int)) none = xs.drop j := by
  unfold cutV
  rw [HT.sIx_nat, HT.sIx_none, Nat.min_eq_left h]
  exact List.take_of_length_le (by rw [List.length_drop]; omega)
/-- a list or tuple that stood when p was new is not p -/
theorem SqS.freshWr {H0 H : Hp} {a p : Addr} {xs : List V} {o : HO} (h0 : SqS K H0 a xs) (hp : H0 p = none) (h : SqS K H a xs) : SqS K (upd H p o) a xs := by
  have fin : a ≠ p → SqS K (upd H p o) a xs := fun n => by
    rcases h with ((h | ⟨o', h⟩) | h) | ((h | ⟨o', h⟩) | h)
    · exact .inl (.inl (.inl ((upd_ne n).trans h)))
    · exact .inl (.inl (.inr ⟨o', (upd_ne n).trans h⟩))
    · exact .inl (.inr h)
    · exact .inr (.inl (.inl ((upd_ne n).trans h)))
    · exact .inr (.inl (.inr ⟨o', (upd_ne n).trans h⟩))
    · exact .inr (.inr h)
  rcases h0 with ((e | ⟨o', e⟩) | e) | ((e | ⟨o', e⟩) | e)
  · exact fin (ne_of_none e hp)
  · exact fin (ne_of_none e hp)
  · exact .inl (.inr e)
  · exact fin (ne_of_none e hp)
  · exact fin (ne_of_none e hp)
  · exact .inr (.inr e)
end
end FL
/-! ## N1 -/
set_option Elab.async false
set_option linter.all false
set_option maxRecDepth 100000
set_option maxHeartbeats 4000000
namespace FL
open PySem L2 GxR SrtO
section
variable {P : Program} {w : World} {K : PySem.W.Frag} {mg : Str → Option Value} {base : Heap}
def spNames (K : PySem.W.Frag) : Sp := fun vs H Q _ => ∃ (v : V) (g : Gr), vs = [v] ∧ Dt K H v g.d ∧ g.opts.length ≤ 12 ∧ ∀ D, H D = none → Q (.ref D) (upd H D (.lst (g.names.map V.str)))
end
end FL
/-! ## P9b -/
set_option Elab.async false
set_option linter.all false
set_option maxRecDepth 100000
set_option maxHeartbeats 4000000
namespace FL
open PySem L2 GxR SrtO
section
variable {P : Program} {w : World} {K : PySem.W.Frag} {mg : Str → Option Value} {base : Heap}
def spBoth (K : PySem.W.Frag) : Sp := fun vs H Q _ => ∃ (v : V) (c : Cl), vs = [v] ∧ Dt K H v c.d ∧ ∀ l a b H', Same H H' → H' l = some (.lst [.ref a, .ref b]) → SqT K H' a (litV c.r1) → SqT K H' b (litV c.r2) → Q (.ref l) H'
end
end FL
/-! ## KS1 -/
set_option Elab.async false
set_option linter.all false
set_option maxRecDepth 100000
set_option maxHeartbeats 8000000
/-! sorted(xs, key=f), where f gives of a list of texts its length and itself -/
namespace FL
open PySem L2 PySem.Spec PyProof.Rows Srt SrtO SeqAt LamX PySem.W
section
variable {X : Cx} {pins : List (Addr × Obj)} {σ : L2.St} {H : Hp} {s : Shared}
/-- an object of ours that nobody tracks is tracked from now on -/
theorem inv_adopt {a : Addr} {o : HO} (I : Inv X pins σ H s) (f : FpOk X pins H a) (there : ∃ u, s.heap.get? a = some u) (new : ObjOk X.prog X.w (upd H a o) s.heap a o) : Inv X pins σ (upd H a o) s := by
  obtain ⟨hn, hL, _, h1, h2, h3⟩ := f
  have ne : ∀ b u, H b = some u → b ≠ a := fun b u e => ne_of_none e hn
  have q := I.step (h' := s.heap) (H' := upd H a o) (g' := s.gens) (d' := s.drawn) (t' := s.toks) (ch := [a]) (fun b hb => ?_) (fun b o _ _ _ e _ => e) (fun b o _ _ _ e _ => ⟨o.slots, e⟩) (fun b o hc _ n => by rw [upd_ne (fun z => hc (by simp [z]))]; exact n)
    (fun b o _ e => ⟨o, e⟩) (fun b xs e => by rw [upd_ne (ne b _ e)]; exact e) (fun b o u e => by rw [upd_ne (ne b _ e)]; exact e) (fun b ps e => ⟨#[], by rw [upd_ne (ne b _ e), e]; simp⟩) (fun m hm => hm) (fun b u e => ?_) I.bare
  · exact q
  · have e : b = a := by simpa using hb
    subst e
    exact ⟨h1, hL, h2, h3⟩
  · by_cases hb : b = a
    · subst hb; rw [upd_same] at e; cases e; exact new
    · rw [upd_ne hb] at e
      exact (I.hok b u e).stay (fun c v _ q => q) (fun c q => by rw [upd_ne (ne c _ q)]; exact q) fun c xs q => by rw [upd_ne (ne c _ q)]; exact q
end
/-- the keys of lists of texts -/
abbrev KtsA (H : Hp) : List Addr → List (Addr × List Str) → Prop := Paired fun t p => H t = some (.tup [.int (p.2.length : Int), .ref p.1])
theorem KtsA.same {H H' : Hp} (s : Same H H') {ts : List Addr} {ps : List (Addr × List Str)} (h : KtsA H ts ps) : KtsA H' ts ps := Paired.mapP h fun _ _ z => s _ _ z
theorem nls_at {H : Hp} : ∀ {as : List Addr} {cs : List (List Str)} {i : Nat} {a : Addr}, NlsA H as cs → as[i]? = some a → ∃ c, cs[i]? = some c ∧ H a = some (.lst (c.map V.str))
  | _, _, _, _, .nil, h => nomatch h
  | _, _, 0, _, .cons a _, h => ⟨_, rfl, (Option.some.inj h) ▸ a⟩
  | _, _, i + 1, _, .cons _ r, h => nls_at (i := i) r h
section
variable {X : Cx} {pins : List (Addr × Obj)} {σ : L2.St} {A : Around} {f c' : Addr} {q : Str} {of : Obj} {H0 : Hp} {aL kS : Addr} {as : List Addr} {cs : List (List Str)}
/-- what stands while the keys are made -/
def KsAt (X : Cx) (pins : List (Addr × Obj)) (σ : L2.St) (H0 : Hp) (aL kS : Addr) (e1 : Nat) (as : List Addr) (cs : List (List Str)) (j : Nat) (s : Shared) : Prop :=
  ∃ H kA e kts, Inv X pins σ H s ∧ Same H0 H ∧ FpOk X pins H aL ∧ FpOk X pins H kS ∧ s.heap.get? aL = some (seqObj "list" #[] e1) ∧ s.heap.get? kS = some (seqObj "list" kA e) ∧ kA = (kts.map Value.ref).toArray ∧ KtsA H kts ((as.zip cs).take j)
theorem ks_step {e1 : Nat} {j : Nat} {x : Value} {s : Shared} {E : Value → Shared → Prop} {R : Shared → Prop} (KC : KeyCall X pins σ A f c' of q) (hfp : (f, of) ∈ pins) (hne : kS ≠ aL) (hc0 : H0 c' = some (CodeO c' q)) (hns : NlsA H0 as cs) (hz : as.length ≤ sizeLine)
    (hx : (as.map Value.ref)[j]? = some x) (h : KsAt X pins σ H0 aL kS e1 as cs j s) (k : ∀ s', KsAt X pins σ H0 aL kS e1 as cs (j + 1) s' → R s') :
    wpAny (model X.prog X.w) A (call (.ref f) [x]) (fun v s2 => wpAny (model X.prog X.w) A (Builtin.List.listUpdate (.ref kS) (·.push v)) (fun _ s3 => R s3) E s2) E s := by
  obtain ⟨H, kA, e, kts, I, s0, fL, fS, gL, gS, rfl, hk⟩ := h
  rw [List.getElem?_map] at hx
  cases haj : as[j]? with
  | none => rw [haj] at hx; cases hx
  | some aj =>
    rw [haj] at hx
    obtain rfl : Value.ref aj = x := Option.some.inj hx
    obtain ⟨c, hc, hac⟩ := nls_at hns haj
    have hj : j < as.length := (List.getElem?_eq_some_iff.mp haj).1
    have lcs : as.length = cs.length := Paired.length hns
    have I2 := I.pinned (fp := [aL, kS]) (fun b hb => by
      rcases List.mem_cons.mp hb with rfl | hb
      · exact fL
      · rw [List.mem_singleton.mp hb]; exact fS) (fun b hb => by
      rcases List.mem_cons.mp hb with rfl | hb
      · exact ⟨_, gL, fun v z => by cases z⟩
      · rw [List.mem_singleton.mp hb]; exact ⟨_, gS, fun v z => by cases z⟩)
    refine KC _ _ H aj (c.map V.str) _ _ I2 hfp (s0 _ _ hc0) (s0 _ _ hac) fun t s2 I3 nt => ?_
    have pin : ∀ b ∈ [aL, kS], ∀ o, s.heap.get? b = some o → s2.heap.get? b = some o ∧ upd H t (.tup [.int (c.map V.str).length, .ref aj]) b = none := fun b hb o e =>
      let z := I3.pin (b, o) (List.mem_append_right _ (List.mem_append_right _ (mem_pinsAt hb e)))
      ⟨z.1, z.2.1⟩
    obtain ⟨gL2, nL2⟩ := pin aL (by simp) _ gL
    obtain ⟨gS2, nS2⟩ := pin kS (by simp) _ gS
    have I4 : Inv X pins σ (upd H t (.tup [.int (c.map V.str).length, .ref aj])) s2 := I3.unpinned
    have sN : Same H (upd H t (.tup [.int (c.map V.str).length, .ref aj])) := Same.new nt
    have hkt : upd H t (.tup [.int (c.map V.str).length, .ref aj]) t = some (.tup [.int (c.length : Int), .ref aj]) := by rw [upd_same, List.length_map]
    have lk : kts.length = j := by
      rw [show kts.length = _ from Paired.length hk, List.length_take, List.length_zip]
      omega
    generalize upd H t (.tup [.int (c.map V.str).length, .ref aj]) = H2 at I4 nL2 nS2 sN hkt
    have hsz : (kts.map Value.ref).toArray.size = j := by simp [lk]
    refine listUpdate_at gS2 rfl ?_ (by rw [hsz]; omega) (by rw [Array.size_push, hsz]; omega)
    have s1 := Heap.SameBut.update s2.heap kS (Obj.mapSeq (·.push (.ref t)))
    obtain ⟨c2, hc2⟩ : ∃ c2, (s2.heap.update kS (Obj.mapSeq (·.push (.ref t)))).get? kS = some (seqObj "list" ((kts.map Value.ref).toArray.push (.ref t)) c2) := ⟨_, get?_update_seq gS2 (·.push (.ref t))⟩
    have I5 : Inv X pins σ H2 { s2 with heap := s2.heap.update kS (Obj.mapSeq (·.push (.ref t))), toks := s2.toks } := I4.turned (it := kS) (fun b o hb e => (s1.2 b hb).trans e) nS2 fS.2.1 fS.2.2.2.1 fS.2.2.2.2.1 fS.2.2.2.2.2
    refine k _ ⟨H2, _, c2, kts ++ [t], I5, Same.trans' s0 sN, FpOk.heap fL nL2, FpOk.heap fS nS2, (s1.2 aL hne.symm).trans gL2, hc2, by simp, ?_⟩
    have hzip : (as.zip cs)[j]? = some (aj, c) := by rw [List.getElem?_zip_eq_some]; exact ⟨haj, hc⟩
    rw [take_more' hzip]
    exact Paired.snoc (KtsA.same sN hk) hkt
theorem ks_sz {s : Shared} {H : Hp} (I : Inv X pins σ H s) (s0 : Same H0 H) : ∀ {kts : List Addr} {as : List Addr} {cs : List (List Str)}, NlsA H0 as cs → KtsA H kts (as.zip cs) → ∀ (i : Nat) (t : Addr), kts[i]? = some t → ∃ a c, as[i]? = some a ∧ cs[i]? = some c ∧ IsSz s.heap (.ref t) c ∧ H0 a = some (.lst (c.map V.str)) ∧ H t = some (.tup [.int (c.length : Int), .ref a])
  | _, _, _, .nil, .nil, _, _, h => nomatch h
  | _, _, _, .cons ha _, .cons hk _, 0, _, h => by
    cases Option.some.inj h
    exact ⟨_, _, rfl, rfl, isSz_of I (SqT.of hk) (s0 _ _ ha), ha, hk⟩
  | _, _, _, .cons _ ra, .cons _ rk, i + 1, t, h => ks_sz I s0 ra rk i t h
/-- the list is filled in their order, and tracked -/
theorem ks_tail {H : Hp} {s : Shared} {kts : List Addr} {e e1 : Nat} {st : SortSt} {Q : Value → Shared → Prop} {E : Value → Shared → Prop} (I : Inv X pins σ H s) (s0 : Same H0 H) (fL : FpOk X pins H aL) (fS : FpOk X pins H kS) (hne : kS ≠ aL) (hns : NlsA H0 as cs) (hk : KtsA H kts (as.zip cs)) (hz : as.length ≤ sizeLine)
    (gL : s.heap.get? aL = some (seqObj "list" #[] e1)) (gS : s.heap.get? kS = some (seqObj "list" (kts.map Value.ref).toArray e)) (hf : failedOf st = none)
    (hp : (arrOf st).toList.Perm ((kts.map Value.ref).zip (as.map Value.ref))) (hs : Srtd (lt2 fun v u => ltN (szAt s.heap v) (szAt s.heap u)) (arrOf st).toList)
    (k : ∀ Hn bs ms s', Same H0 Hn → Hn aL = none → Inv X pins σ (upd Hn aL (.lst (bs.map V.ref))) s' → NlsA Hn bs ms → ms.Perm cs → Srtd ltN ms → Q (.ref aL) s') :
    wpAny (model X.prog X.w) A (ksk_tail aL false e1 (.ref kS) st) (fun f s' => f = .done (.ret .none) ∧ Q (.ref aL) s') E s := by
  have lcs : as.length = cs.length := Paired.length hns
  have lkt : kts.length = as.length := by
    rw [show kts.length = _ from Paired.length hk, List.length_zip]
    omega
  have each : ∀ p ∈ (arrOf st).toList, ∃ t a c, p = (Value.ref t, Value.ref a) ∧ szAt s.heap p.1 = c ∧ H0 a = some (.lst (c.map V.str)) := fun p hpm => by
    obtain ⟨i, hi⟩ := List.getElem?_of_mem (hp.mem_iff.mp hpm)
    rw [List.getElem?_zip_eq_some, List.getElem?_map, List.getElem?_map] at hi
    obtain ⟨h1, h2⟩ := hi
    cases ht : kts[i]? with
    | none => rw [ht] at h1; cases h1
    | some t =>
      obtain ⟨a, c, ha, hc, sz, h0, _⟩ := ks_sz I s0 hns hk i t ht
      rw [ht] at h1
      rw [ha] at h2
      have e1 : Value.ref t = p.1 := Option.some.inj h1
      have e2 : Value.ref a = p.2 := Option.some.inj h2
      exact ⟨t, a, c, Prod.ext e1.symm e2.symm, by rw [← e1]; exact sz.at, h0⟩
  have eout : ((arrOf st).map (·.2)).toList = ((arrOf st).toList.map fun p => unref p.2).map Value.ref := by
    rw [Array.toList_map, List.map_map]
    refine List.map_congr_left fun p hpm => ?_
    obtain ⟨t, a, c, rfl, _⟩ := each p hpm
    rfl
  have hnl : NlsA H0 ((arrOf st).toList.map fun p => unref p.2) ((arrOf st).toList.map fun p => szAt s.heap p.1) := by
    refine paired_map fun p hpm => ?_
    obtain ⟨t, a, c, rfl, e, h0⟩ := each p hpm
    rw [e]
    exact h0
  have hperm : ((arrOf st).toList.map fun p => szAt s.heap p.1).Perm cs := by
    have := hp.map fun p : Keyed => szAt s.heap p.1
    refine this.trans ?_
    have e3 : ((kts.map Value.ref).zip (as.map Value.ref)).map (fun p : Keyed => szAt s.heap p.1) = cs := by
      have e4 : ((kts.map Value.ref).zip (as.map Value.ref)).map (fun p : Keyed => szAt s.heap p.1) = (((kts.map Value.ref).zip (as.map Value.ref)).map Prod.fst).map (szAt s.heap) := by rw [List.map_map] <;> rfl
      rw [e4, List.map_fst_zip (by rw [List.length_map, List.length_map]; omega), List.map_map]
      refine List.ext_getElem? fun i => ?_
      rw [List.getElem?_map]
      cases ht : kts[i]? with
      | none =>
        have := List.getElem?_eq_none_iff.mp ht
        exact (List.getElem?_eq_none_iff.mpr (by omega)).symm
      | some t =>
        obtain ⟨a, c, ha, hc, sz, _⟩ := ks_sz I s0 hns hk i t ht
        rw [hc]
        show some (szAt s.heap (.ref t)) = some c
        rw [sz.at]
    rw [e3]
  have hsort : Srtd ltN ((arrOf st).toList.map fun p => szAt s.heap p.1) := List.pairwise_map.mpr hs
  have hlen : ((arrOf st).map (·.2)).size = as.length := by
    rw [Array.size_map, ← Array.length_toList, hp.length_eq, List.length_zip, List.length_map, List.length_map]
    omega
  generalize ((arrOf st).toList.map fun p => unref p.2) = bs at eout hnl
  generalize ((arrOf st).toList.map fun p => szAt s.heap p.1) = ms at hnl hperm hsort
  have s1 := Heap.SameBut.update s.heap kS (Obj.mapSeq fun _ => (#[] : Array Value))
  have na1 : (s.heap.update kS (Obj.mapSeq fun _ => (#[] : Array Value))).get? aL = some (seqObj "list" #[] e1) := (s1.2 aL hne.symm).trans gL
  have s2 := Heap.SameBut.update (s.heap.update kS (Obj.mapSeq fun _ => (#[] : Array Value))) aL (Obj.mapSeq fun _ => (arrOf st).map (·.2))
  obtain ⟨c2, hc2⟩ : ∃ c2, ((s.heap.update kS (Obj.mapSeq fun _ => (#[] : Array Value))).update aL (Obj.mapSeq fun _ => (arrOf st).map (·.2))).get? aL = some (seqObj "list" ((arrOf st).map (·.2)) c2) :=
    ⟨_, get?_update_seq na1 fun _ => (arrOf st).map (·.2)⟩
  have I1 : Inv X pins σ H { s with heap := s.heap.update kS (Obj.mapSeq fun _ => (#[] : Array Value)), toks := s.toks } := I.turned (it := kS) (fun b o hb e => (s1.2 b hb).trans e) fS.1 fS.2.1 fS.2.2.2.1 fS.2.2.2.2.1 fS.2.2.2.2.2
  unfold ksk_tail
  try dsimp only
  refine wpAny_bind (listUpdate_at gS rfl ?_ (by rw [List.size_toArray, List.length_map]; omega) (Nat.zero_le _))
  refine wpAny_bind (wpAny_letGo ?_)
  refine wpAny_bind (seqEpoch_at na1 rfl ?_)
  refine wpAny_bind (listUpdate_at na1 rfl ?_ (Nat.zero_le _) (by simp only [Bool.false_eq_true, if_false]; rw [hlen]; omega))
  rw [hf]
  simp only [bne_self_eq_false, Bool.false_eq_true, if_false]
  have I2 : Inv X pins σ H { ({ s with heap := s.heap.update kS (Obj.mapSeq fun _ => (#[] : Array Value)), toks := s.toks } : Shared) with heap := (s.heap.update kS (Obj.mapSeq fun _ => (#[] : Array Value))).update aL (Obj.mapSeq fun _ => (arrOf st).map (·.2)), toks := s.toks } :=
    I1.turned (it := aL) (fun b o hb e => (s2.2 b hb).trans e) fL.1 fL.2.1 fL.2.2.2.1 fL.2.2.2.2.1 fL.2.2.2.2.2
  refine wpAny_pure ⟨rfl, k H bs ms _ s0 fL.1 (inv_adopt I2 fL ⟨_, hc2⟩ ?_) (hnl.same s0) hperm hsort⟩
  refine ⟨?_, ((arrOf st).map (·.2)).toList, c2, ?_, ?_⟩
  · rw [List.length_map]
    have := congrArg List.length eout
    rw [Array.length_toList, hlen, List.length_map] at this
    omega
  · rw [eout]
    exact vals_refs bs
  · rw [Array.toArray_toList]
    exact hc2
/-- behind the keys -/
theorem ks_end {e1 : Nat} {s : Shared} {Q : Value → Shared → Prop} {E : Value → Shared → Prop} (hu : A.units + 16 < cLine) (hne : kS ≠ aL) (hns : NlsA H0 as cs) (hz : as.length ≤ sizeLine) (h : KsAt X pins σ H0 aL kS e1 as cs as.length s)
    (k : ∀ Hn bs ms s', Same H0 Hn → Hn aL = none → Inv X pins σ (upd Hn aL (.lst (bs.map V.ref))) s' → NlsA Hn bs ms → ms.Perm cs → Srtd ltN ms → Q (.ref aL) s') :
    wpAny (model X.prog X.w) A (Builtin.List.listItems (.ref kS) >>= fun keys => ksk_end aL false (as.map Value.ref).toArray e1 (.ref kS) keys) (fun f s' => f = .done (.ret .none) ∧ Q (.ref aL) s') E s := by
  obtain ⟨H, kA, e, kts, I, s0, fL, fS, gL, gS, rfl, hk⟩ := h
  have lcs : as.length = cs.length := Paired.length hns
  have hk : KtsA H kts (as.zip cs) := by
    have e2 : (as.zip cs).take as.length = as.zip cs := List.take_of_length_le (by rw [List.length_zip]; omega)
    rw [e2] at hk
    exact hk
  have lkt : kts.length = as.length := by
    rw [show kts.length = _ from Paired.length hk, List.length_zip]
    omega
  refine wpAny_bind (listItems_at gS rfl ?_)
  have ez : ((kts.map Value.ref).toArray.zip (as.map Value.ref).toArray).toList = (kts.map Value.ref).zip (as.map Value.ref) := by simp
  have hall : ∀ v ∈ kts.map Value.ref, IsSz s.heap v (szAt s.heap v) := fun v hv => by
    obtain ⟨t, ht, rfl⟩ := List.mem_map.mp hv
    obtain ⟨i, hi⟩ := List.getElem?_of_mem ht
    obtain ⟨a, c, _, _, sz, _⟩ := ks_sz I s0 hns hk i t hi
    rw [sz.at]
    exact sz
  unfold ksk_end
  try dsimp only
  simp only [Bool.false_eq_true, if_false]
  by_cases h2 : (as.map Value.ref).toArray.size < 2
  · rw [if_pos h2, if_pos h2]
    refine wpAny_bind (wpAny_pure ?_)
    rw [StateT.run_pure]
    refine wpAny_bind (wpAny_pure ?_)
    try dsimp only
    have ea : (arrOf (SortSt.mk' general' ((kts.map Value.ref).toArray.zip (as.map Value.ref).toArray) #[] 7 none)).toList = (kts.map Value.ref).zip (as.map Value.ref) := ez
    refine ks_tail I s0 fL fS hne hns hk hz gL gS rfl (by rw [ea]) ?_ k
    rw [ea]
    have l2 : ((kts.map Value.ref).zip (as.map Value.ref)).length < 2 := by
      rw [List.size_toArray, List.length_map] at h2
      rw [List.length_zip, List.length_map, List.length_map]
      omega
    match (kts.map Value.ref).zip (as.map Value.ref), l2 with
    | [], _ => exact List.Pairwise.nil
    | [x], _ => exact List.pairwise_singleton _ _
    | x :: y :: r, h => exact absurd h (by simp)
  · rw [if_neg h2, if_neg h2]
    obtain ⟨fs, g1, g2, g3⟩ := firsts_sz (h := s.heap) (vs := kts.map Value.ref) hall
    have hl2 : 2 ≤ (kts.map Value.ref).length := by
      rw [List.size_toArray, List.length_map] at h2
      rw [List.length_map]
      omega
    refine wpAny_bind (PySem.W.kat_kind (T := .type "int") g1 (by omega) (fun f hm => ?_) (by rfl) ?_)
    · obtain ⟨x, t, rfl⟩ := g3 f hm
      exact PySem.W.Looks.now
    rw [show (Value.type "int" != Value.type "tuple") = true from by decide]
    have hP : AllL (fun p : Keyed => p.1 ∈ kts.map Value.ref) ((kts.map Value.ref).toArray.zip (as.map Value.ref).toArray).toList := fun p hm => by
      rw [ez] at hm
      exact (List.of_mem_zip hm).1
    refine wpAny_bind (wpAny_mono (wpS_sortO (st0 := SortSt.mk' (tuples' true) ((kts.map Value.ref).toArray.zip (as.map Value.ref).toArray) #[] 7 none)
      (Q := fun _ st' => Srtd (lt2 fun v u => ltN (szAt s.heap v) (szAt s.heap u)) (arrOf st').toList ∧ (arrOf st').toList.Perm ((kts.map Value.ref).zip (as.map Value.ref)) ∧ failedOf st' = none) (swo2 (Swo.pull swoN (szAt s.heap))) (sz_cmp hu hall) rfl hP rfl rfl fun st' a1 a2 a3 => ⟨a1, ?_, a3⟩) ?_ fun _ _ e => e)
    · have := a2.perm
      rw [show (arrOf (SortSt.mk' (tuples' true) ((kts.map Value.ref).toArray.zip (as.map Value.ref).toArray) #[] 7 none)).toList = _ from ez] at this
      exact this
    rintro ⟨⟨⟩, st'⟩ s' ⟨rfl, hp1, hp2, hf⟩
    try dsimp only
    exact ks_tail I s0 fL fS hne hns hk hz gL gS hf hp2 hp1 k
end
end FL
/-! ## KS2 -/
set_option Elab.async false
set_option linter.all false
set_option maxRecDepth 100000
set_option maxHeartbeats 8000000
namespace FL
open PySem L2 PySem.Spec PyProof.Rows Srt SrtO SeqAt LamX PySem.W
section
variable {X : Cx} {pins : List (Addr × Obj)} {σ : L2.St} {A : Around} {f c' l : Addr} {q : Str} {of : Obj} {H : Hp} {s : Shared} {as : List Addr} {cs : List (List Str)}
theorem ks_call {Q E : Value → Shared → Prop} (hu : A.units + 64 < cLine) (KC : KeyCall X pins σ A.in1.in1 f c' of q) (I : L2.Inv X pins σ H s) (hfp : (f, of) ∈ pins) (hc : H c' = some (CodeO c' q)) (hl : H l = some (.lst (as.map V.ref))) (hns : NlsA H as cs)
    (k : ∀ d Hn bs ms s', Same H Hn → Hn d = none → L2.Inv X pins σ (upd Hn d (.lst (bs.map V.ref))) s' → NlsA Hn bs ms → ms.Perm cs → Srtd ltN ms → Q (.ref d) s') :
    wpAny (model X.prog X.w) A (call (.builtin "sorted") [.ref l] [(Str.ofString "key", .ref f)]) Q E s := by
  obtain ⟨its, rv, pl, hz⟩ := I.list (SqL.of hl)
  have e := refs_vals rv
  subst e
  rw [List.length_map] at hz
  have zl : (as.map Value.ref).length ≤ sizeLine := by rw [List.length_map]; exact hz
  refine sorted_of_sort (vs := as.map Value.ref) pl.isList zl (ksk_s1 _ _) (fun x => ksk_l1 _ _) fun E' => ?_
  rw [ksk_t1]
  have ha : s.heap.objs.size + 1 < (copyHeap s.heap (as.map Value.ref)).objs.size := Heap.lt_size (copyHeap_at s.heap (as.map Value.ref))
  obtain ⟨e1, ho1⟩ : ∃ e1, ((copyHeap s.heap (as.map Value.ref)).update (s.heap.objs.size + 1) (Obj.mapSeq fun _ => (#[] : Array Value))).get? (s.heap.objs.size + 1) = some (seqObj "list" #[] e1) := ⟨_, get?_update_seq (copyHeap_at s.heap (as.map Value.ref)) fun _ => #[]⟩
  have hkS : (((copyHeap s.heap (as.map Value.ref)).update (s.heap.objs.size + 1) (Obj.mapSeq fun _ => (#[] : Array Value))).push (seqObj "tuple" (as.map Value.ref).toArray 0)).objs.size = (copyHeap s.heap (as.map Value.ref)).objs.size + 1 := by rw [size_push', Heap.size_update]
  unfold ksk_tree
  refine wpAny_bind (listItems_at (copyHeap_at s.heap (as.map Value.ref)) rfl ?_)
  refine wpAny_bind (listUpdate_at (copyHeap_at s.heap (as.map Value.ref)) rfl ?_ (by rw [List.size_toArray]; exact zl) (Nat.zero_le _))
  refine wpAny_bind (seqEpoch_at ho1 rfl ?_)
  refine wpAny_bind (wpAny_newTuple ?_ (by show (as.map Value.ref).length ≤ _; exact zl))
  refine wpAny_bind (wpAny_newList ?_ (Nat.zero_le _))
  refine wpAny_holding ?_
  have k0 : ∀ b o, s.heap.get? b = some o → (sortingHeap (copyHeap s.heap (as.map Value.ref)) (s.heap.objs.size + 1) (as.map Value.ref)).get? b = some o := fun b o q =>
    sortingHeap_old (Nat.ne_of_lt (Nat.lt_succ_of_lt (Heap.lt_size q))) (copyHeap_old q)
  have I0 : L2.Inv X pins σ H { s with heap := sortingHeap (copyHeap s.heap (as.map Value.ref)) (s.heap.objs.size + 1) (as.map Value.ref), toks := s.toks } := I.kept k0
  have gL : (sortingHeap (copyHeap s.heap (as.map Value.ref)) (s.heap.objs.size + 1) (as.map Value.ref)).get? (s.heap.objs.size + 1) = some (seqObj "list" #[] e1) := Heap.get?_push_of_some _ (Heap.get?_push_of_some _ ho1)
  have gS : (sortingHeap (copyHeap s.heap (as.map Value.ref)) (s.heap.objs.size + 1) (as.map Value.ref)).get? (((copyHeap s.heap (as.map Value.ref)).update (s.heap.objs.size + 1) (Obj.mapSeq fun _ => (#[] : Array Value))).push (seqObj "tuple" (as.map Value.ref).toArray 0)).objs.size = some (seqObj "list" #[] 0) := Heap.get?_push_size _ rfl
  have zS : s.heap.objs.size ≤ (((copyHeap s.heap (as.map Value.ref)).update (s.heap.objs.size + 1) (Obj.mapSeq fun _ => (#[] : Array Value))).push (seqObj "tuple" (as.map Value.ref).toArray 0)).objs.size := by rw [hkS]; omega
  have nS : (((copyHeap s.heap (as.map Value.ref)).update (s.heap.objs.size + 1) (Obj.mapSeq fun _ => (#[] : Array Value))).push (seqObj "tuple" (as.map Value.ref).toArray 0)).objs.size ≠ s.heap.objs.size + 1 := by rw [hkS]; omega
  show wpAny (model X.prog X.w) A.in1.in1 (ksk_rest (s.heap.objs.size + 1) (.ref f) false (as.map Value.ref).toArray e1 (.ref (((copyHeap s.heap (as.map Value.ref)).update (s.heap.objs.size + 1) (Obj.mapSeq fun _ => (#[] : Array Value))).push (seqObj "tuple" (as.map Value.ref).toArray 0)).objs.size)) _ _ { s with heap := sortingHeap (copyHeap s.heap (as.map Value.ref)) (s.heap.objs.size + 1) (as.map Value.ref) }
  generalize (((copyHeap s.heap (as.map Value.ref)).update (s.heap.objs.size + 1) (Obj.mapSeq fun _ => (#[] : Array Value))).push (seqObj "tuple" (as.map Value.ref).toArray 0)).objs.size = kS at gS zS nS
  have base : KsAt X pins σ H (s.heap.objs.size + 1) kS e1 as cs 0 { s with heap := sortingHeap (copyHeap s.heap (as.map Value.ref)) (s.heap.objs.size + 1) (as.map Value.ref) } :=
    ⟨H, #[], 0, [], I0, fun _ _ h => h, I.fpOk (Nat.le_succ _) (I.hok.fresh (Nat.le_succ _)), I.fpOk zS (I.hok.fresh zS), gL, gS, rfl, .nil⟩
  unfold ksk_rest
  refine wpAny_bind (wpAny_rule ?_)
  first
    | rw [List.forIn_toArray]
    | (rw [← Array.forIn_toList]; simp only [List.toList_toArray])
    | rw [← Array.forIn_toList]
  refine wpAny_bind (ksk_fold (fun i s' => KsAt X pins σ H (s.heap.objs.size + 1) kS e1 as cs i s') (as.map Value.ref) 0 _ base ?step ?done)
  case step =>
    rintro j x s' hx hK
    simp only [Nat.zero_add] at hK ⊢
    refine wpAny_bind (wpAny_attempt (wpAny_mono (ks_step (E := fun _ _ => False) (R := fun s3 => KsAt X pins σ H (s.heap.objs.size + 1) kS e1 as cs (j + 1) s3) KC hfp nS hc hns hz hx hK fun s3 h3 => h3) (fun v s2 he => ?_) fun _ _ hF => hF.elim))
    try dsimp only
    exact wpAny_bind (wpAny_mono he (fun _ s3 hR => wpAny_pure ⟨rfl, hR⟩) fun _ _ hF => hF.elim)
  case done =>
    intro s' hK
    rw [List.length_map, Nat.zero_add] at hK
    refine ks_end (Q := Q) (by show A.units + 1 + 1 + 16 < cLine; omega) nS hns hz hK fun Hn bs ms s3 a b c d e f => k _ Hn bs ms s3 a b c d e f
end
/-- sorted(e, key=lambda x: (len(x), x)) of lists of texts -/
def tSortL (P : Addr) (q : Str) (te : TE) : TE := fun σ H Q => te σ H fun v H1 => ∃ l as cs, v = .ref l ∧ H1 l = some (.lst (as.map V.ref)) ∧ NlsA H1 as cs ∧ TabS H1 P q ∧
  ∀ H2, LamEx P q H1 H2 → ∀ d H3 bs ms, Same H2 H3 → H3 d = none → NlsA H3 bs ms → ms.Perm cs → Srtd ltN ms → Q (.ref d) (upd H3 d (.lst (bs.map V.ref)))
section
variable {X : Cx}
theorem NlsA.ext {P : Addr} {q : Str} {H H' : Hp} (t : TabS H P q) (x : LamEx P q H H') {as : List Addr} {cs : List (List Str)} (h : NlsA H as cs) : NlsA H' as cs := Paired.mapP h fun a c z => x.lst t z
theorem pe_sortLam {q : Str} {c P : Addr} {k : Nat} {e : Expr} {te tb : TE} {params : Arguments} {body : Expr} {scope : Scope} {N : List Str} {x : Str} {p pos lpos k1 : Pos} (hr : Room (k + 4) X.A) (hc : X.calm = true) (hg : Gl X "sorted") (hm : X.mg "sorted" = none) (ha : PA X [e] (tCons te tNil))
    (TB : LamX.TabB X.base X.mg c P) (hcode : X.env.code = .ref c) (eq : q = X.env.qual ++ "<lambda>") (S : FnScope N [x] scope) (hdef : defaultsOf params X.env = ([], []))
    (hbind : ∀ (q : Str) (cl : List (Str × Addr)) (pm cv ctv u : Value), bindArgs (PySem.W.kla_fn "<lambda>" q params body scope cl pm cv ctv) ⟨[u], []⟩ = pure ([x].zip [u]))
    (hbody : ∀ (f c' : Addr) (A : Around) (s : Shared) (H : Hp) (st : List Env), Room k (A.deeper (envOfC q scope s.heap.objs.size f (.ref c'))) → PE (cxOf C8.CX0 X.prog X.w X.K X.mg X.base N q scope f (.ref c') A st s H C8.E0) body tb)
    (htb : ∀ (a : Addr) (xs : List V) (H : Hp) (Q : VK), H a = some (.lst xs) → (∀ t, H t = none → Q (.ref t) (upd H t (.tup [.int xs.length, .ref a]))) → tb (L2.start N [.ref a]) H Q)
    (he : backTo pos (starEach [e] X.env) = (false, eval e X.env) :: backTo pos (starEach [] X.env) := by rfl) (hpl : (backTo pos (starEach [e] X.env)).any (·.1) = false := by rfl)
    (hall : (backToKw pos (keywordEach [⟨some "key", .Lambda params body scope lpos, k1⟩] X.env)).all (·.1.isSome) = true := by rfl) (hnone : (backToKw pos (keywordEach [⟨some "key", .Lambda params body scope lpos, k1⟩] X.env)).any (·.1.isNone) = false := by rfl) :
    PE X (.Call (.Name "sorted" p) [e] [⟨some "key", .Lambda params body scope lpos, k1⟩] pos) (tSortL P q te) := by
  refine ⟨fun pins s σ H Q I h => ?_⟩
  refine wpAny_Call_Name_kw (ld_blt I hg hm (by decide +kernel : bootBuiltins "sorted" = some (.builtin "sorted")) ?_)
  refine PyProof.Rows.callWith_kw (thn (ha.run pos pins s σ H (fun vs H1 => ∃ l as cs, vs = [.ref l] ∧ H1 l = some (.lst (as.map V.ref)) ∧ NlsA H1 as cs ∧ TabS H1 P q ∧
    ∀ H2, LamEx P q H1 H2 → ∀ d H3 bs ms, Same H2 H3 → H3 d = none → NlsA H3 bs ms → ms.Perm cs → Srtd ltN ms → Q (.ref d) (upd H3 d (.lst (bs.map V.ref)))) I ?_) fun us s1 hq => ?_) he hpl hall hnone
  · have mono : te σ H _ := h
    show te σ H fun v H1 => ∃ l as cs, [v] = [.ref l] ∧ _
    have e2 : (fun v H1 => ∃ l as cs, [v] = [V.ref l] ∧ H1 l = some (.lst (as.map V.ref)) ∧ NlsA H1 as cs ∧ TabS H1 P q ∧
      ∀ H2, LamEx P q H1 H2 → ∀ d H3 bs ms, Same H2 H3 → H3 d = none → NlsA H3 bs ms → ms.Perm cs → Srtd ltN ms → Q (.ref d) (upd H3 d (.lst (bs.map V.ref)))) =
      (fun v H1 => ∃ l as cs, v = V.ref l ∧ H1 l = some (.lst (as.map V.ref)) ∧ NlsA H1 as cs ∧ TabS H1 P q ∧
      ∀ H2, LamEx P q H1 H2 → ∀ d H3 bs ms, Same H2 H3 → H3 d = none → NlsA H3 bs ms → ms.Perm cs → Srtd ltN ms → Q (.ref d) (upd H3 d (.lst (bs.map V.ref)))) := by
      funext v H1
      refine propext ⟨fun ⟨l, as, cs, z, r⟩ => ⟨l, as, cs, by injection z, r⟩, fun ⟨l, as, cs, z, r⟩ => ⟨l, as, cs, by rw [z], r⟩⟩
    rw [e2]
    exact mono
  obtain ⟨vs, H1, I1, r1, l, as, cs, rfl, hl, hcs, hT, hq⟩ := hq
  obtain ⟨u, rfl, ru⟩ := vals1 r1
  obtain rfl : u = Value.ref l := ru
  show wpAny _ _ (evalAll ((do let v ← eval (.Lambda params body scope lpos) X.env; standAt pos; pure v) :: [])) _ _ s1
  have hnf : ∀ y ∈ scope.names, y.2 = .free → ∃ c, X.env.cells.lookup y.1 = some c := fun y hy e => absurd e (S.nofree y hy)
  have hclo : cloFrom X.env.cells scope.names [] = [] := by
    cases q : cloFrom X.env.cells scope.names [] with
    | nil => rfl
    | cons y ys =>
      have hm : (y.1, y.2) ∈ cloFrom X.env.cells scope.names [] := by rw [q]; exact List.mem_cons_self
      rcases cloFrom_mem hm with z | ⟨z, _⟩
      · cases z
      · exact absurd rfl (S.nofree _ z)
  refine wpAny_evalAll_cons (wpAny_bind (lam_make3 I1 TB hcode eq hT hdef hnf fun f c' pm ctv H2 s2 I2 eN hf hfn hfr hco => wpAny_bind (wpAny_standAt (wpAny_pure ?_))))
  refine wpAny_evalAll_nil ?_
  show wpAny _ _ (call (.builtin "sorted") [.ref l] [(Str.ofString "key", .ref f)]) _ _ s2
  have q1 := hq H2 eN
  generalize hof : PySem.W.kla_obj "<lambda>" q params body scope (cloFrom X.env.cells scope.names []) pm c' ctv = of at hf
  have gf3 : s2.heap.get? f = some of := hf
  have fL : f ≠ X.env.locals := fun z => by
    obtain ⟨m, ⟨o, es, ep, ho, hd, _⟩, _⟩ := I2.loc
    rw [← z, gf3] at ho
    cases ho
    rw [← hof] at hd
    cases hd
  have fF : f ∉ X.fs := fun z => by
    rcases I2.ok.stk with e | ⟨e, _⟩
    · exact hfr (by rw [e]; exact z)
    · refine hfr ?_
      rw [e]
      show f ∈ List.filterMap _ (_ :: _)
      rw [List.filterMap_cons]
      split
      · exact z
      · exact List.mem_cons_of_mem _ z
  have I4 : L2.Inv X (pins ++ [(f, of)]) σ H2 s2 := I2.pins_of fun p hp => by
    rcases List.mem_append.mp hp with hp | hp
    · exact I2.pin p (List.mem_append_right _ hp)
    · rw [List.mem_singleton.mp hp]
      exact ⟨gf3, hfn, fL, fF, fun v z => by rw [← hof] at z; cases z⟩
  have KC : KeyCall X (pins ++ [(f, of)]) σ X.A.in1.in1 f c' of q := fun pl s H a xs Q E J hfp hc ha hQ => by
    obtain ⟨gf, _⟩ := J.pin (f, of) (List.mem_append_right _ (List.mem_append_left _ hfp))
    rw [← hof, hclo] at gf
    have e0 := J.env0
    have e1 : Env0 X.prog X.w X.K X.mg X.base X.A.in1.in1 X.stack s H := ⟨e0.frames, e0.mod, e0.bs, e0.bsz, e0.funs, e0.frf, e0.hok, e0.bare⟩
    refine wpAny_mono (lam_call (v := V.ref a) (EE := fun _ _ => False) (Q := fun v H' => ∃ t, v = .ref t ∧ H t = none ∧ H' = upd H t (.tup [.int xs.length, .ref a])) (((hr.mono (by omega)).in1).in1) e1 J.nolimit gf hc S (hbind _ _ _ _ _ _) (show L2.RelV (V.ref a) (Value.ref a) from rfl) (fun A s H hr2 => hbody f c' A s H _ hr2) (htb a xs H _ ha fun t ht => ⟨t, rfl, ht, rfl⟩)) (fun u s' hce => ?_) fun _ _ z => z.elim
    obtain ⟨v, H', J', rv, t, ev, nt, eH⟩ := J.after hce
    subst ev eH
    obtain rfl : u = Value.ref t := rv
    exact hQ t s' J' nt
  refine ks_call (as := as) (cs := cs) (by have := hr.un; omega) KC I4 (List.mem_append_right _ (List.mem_singleton.mpr rfl)) hco (eN.lst hT hl) (hcs.ext hT eN) fun d Hn bs ms s' sH hd J hbs hpm hsm => ?_
  exact ⟨.ref d, _, J.pins_of fun p hp => J.pin p (List.mem_append_right _ (List.mem_append_left _ hp)), rfl, q1 d Hn bs ms sH hd hbs hpm hsm⟩
end
end FL
/-! ## S6 -/
set_option Elab.async false
set_option linter.all false
set_option maxRecDepth 100000
set_option maxHeartbeats 4000000
/-! all sets and those that fit, by the second generator's law -/
namespace FL
open PySem L2 GxR SrtO
section
variable {P : Program} {w : World} {K : PySem.W.Frag} {mg : Str → Option Value} {base : Heap}
/-- [option[0] for option in a tuple of options] -/
theorem lc_optnames {ix : Nat} {σ : L2.St} {H : Hp} {D p : Addr} {xs : List V} {os : List Opt} {Qd : Hp → Prop} (hq : SqT K H p xs) (hp : Dts K H xs (os.map Opt.d)) (l : os.length ≤ 100) (hix : ix < σ.length) (hD : H D = none) (k : Qd (upd H D (.lst ((os.map Opt.name).map V.str)))) :
    ∃ W : Nat → Nat → Hp → Prop, (∃ m, W 0 m (upd H D (.lst []))) ∧ ∀ i m H, W i m H →
      ((Itt K p).stop i H ∧ Qd H) ∨ ((Itt K p).go i H ∧ ∃ Nx : Hp → Prop, (∀ H', Nx H' → ∃ m', m' < m ∧ W (i + 1) m' H') ∧ ∀ x H', (Itt K p).yld i H x H' → gName ix x (wipe σ [ix]) H' fun σ2 H2 => wipe σ2 [ix] = wipe σ [ix] ∧ tYes σ2 H2 fun b H3 =>
        if b = true then tOp (rIxT K) (tVar ix) (tC (V.int 0)) σ2 H3 fun y H4 => ∃ acc, H4 D = some (.lst acc) ∧ acc.length < sizeLine ∧ Nx (upd H4 D (.lst (acc ++ [y]))) else Nx H3) := by
  have hl : xs.length = os.length := by rw [show xs.length = (os.map Opt.d).length from Paired.length hp, List.length_map]
  refine lc_it (walk_tup (xs := xs)) (fun i H' => H' = upd H D (.lst (((os.take i).map Opt.name).map V.str))) rfl ?_ ?_ ?_
  · rintro i H' _ rfl
    exact TS.new (K := K) hD _ _ hq
  · rintro i x H' H'' hi rfl ⟨rfl, hx⟩
    obtain ⟨o, ho, hv⟩ := Dts.at hp hx
    refine ⟨?_, ?_⟩
    · show ((σ.set ix none).set ix (some x)).set ix none = σ.set ix none
      simp
    unfold tYes
    refine iteT ?_
    have hv2 := hv.mono (TS.new (K := K) (o := .lst (((os.take i).map Opt.name).map V.str)) hD)
    cases hv2 with
    | @tup p2 xs2 ds2 hq2 hp2 =>
      obtain ⟨v, rfl, _⟩ := Dts.opt hp2
      refine ⟨.ref p2, ?_, p2, _, 0, _, rfl, rfl, hq2, rfl, _, upd_same, ?_, ?_⟩
      · show ((σ.set ix none).set ix (some (V.ref p2)))[ix]? = _
        rw [List.getElem?_set_self (by rw [List.length_set]; exact hix)]
      · rw [List.length_map, List.length_map]
        exact small1000 (by have := List.length_take_le i os; omega)
      · rw [upd_upd, take_more' ho, List.map_append, List.map_append] <;> rfl
  · rintro H' rfl
    rw [hl, List.take_length]
    exact k
def spFits6 (K : PySem.W.Frag) : Sp := fun vs H Q _ => ∃ (v : V) (cs : List Cl) (a : Addr) (ns : List Str), vs = [v, .ref a] ∧ Dt K H v (.tuple (cs.map Cl.d)) ∧ SqS K H a (ns.map V.str) ∧ ∀ H', Same H H' → Q (.bl (fitsB cs ns)) H'
end
end FL
/-! ## N5b -/
set_option Elab.async false
set_option linter.all false
set_option maxRecDepth 100000
set_option maxHeartbeats 4000000
/-! the accepted sets are one list -/
namespace FL
open PySem L2 GxR SrtO
theorem rising_all : ∀ (r : List Str) (x : Str), PyProof.Rows.risingS x r = true → (x :: r).Nodup → ∀ y ∈ r, ltT x y = true
  | [], x, _, _, y, h => nomatch h
  | z :: r, x, hr, hn, y, h => by
    unfold PyProof.Rows.risingS at hr
    rw [Bool.and_eq_true] at hr
    obtain ⟨h1, h2⟩ := hr
    have hxz : ltT x z = true := by
      rcases ltT_tri x z with q | q | q
      · exact q
      · exact absurd (q ▸ List.mem_cons_self) (List.nodup_cons.mp hn).1
      · have : Spec.ltCps z.cps.toList x.cps.toList = true := by rw [PyProof.Rows.ltCps_eq]; exact q
        rw [this] at h1
        cases h1
    rcases List.mem_cons.mp h with e | e
    · rw [e]; exact hxz
    · exact ltT_trans hxz (rising_all r z h2 (List.nodup_cons.mp hn).2 y e)
theorem sorted_pw : ∀ {ns : List Str}, PyProof.Rows.sortedS ns = true → ns.Nodup → ns.Pairwise fun a b => ltT a b = true
  | [], _, _ => .nil
  | x :: r, h, hn => .cons (rising_all r x h hn) (sorted_pw (ns := r) (by
      cases r with
      | nil => rfl
      | cons z r =>
        unfold PyProof.Rows.sortedS PyProof.Rows.risingS at h
        rw [Bool.and_eq_true] at h
        exact h.2) (List.nodup_cons.mp hn).2)
theorem sets_uniq {g : Gr} {a b : List (List Str)} (nd : g.names.Nodup) (ha : IsSets g a) (hb : IsSets g b) : a = b := by
  obtain ⟨s1, m1, p1, q1, r1, t1, rfl⟩ := ha
  obtain ⟨s2, m2, p2, q2, r2, t2, rfl⟩ := hb
  have n1 : s1.Nodup := p1.nodup_iff.mpr nd
  have n2 : s2.Nodup := p2.nodup_iff.mpr nd
  have e : s1 = s2 := by
    refine List.Perm.eq_of_pairwise (le := fun x y => ltT y x = false) (fun a b _ _ h1 h2 => ?_) ((sorted_pw q1 n1).imp fun {a b} h => ?_) ((sorted_pw q2 n2).imp fun {a b} h => ?_) (p1.trans p2.symm)
    · rcases ltT_tri a b with q | q | q
      · rw [q] at h2; cases h2
      · exact q
      · rw [q] at h1; cases h1
    all_goals
      cases q : ltT b a with
      | false => rfl
      | true => rw [← ltT_irr a, ltT_trans h q]
  subst e
  have em : m1 = m2 := by
    refine List.Perm.eq_of_pairwise (le := fun x y => ltN y x = false) (fun a b _ _ h1 h2 => ?_) t1 t2 (r1.trans r2.symm)
    rcases ltN_tri a b with q | q | q
    · rw [q] at h2; cases h2
    · exact q
    · rw [q] at h1; cases h1
  rw [em]
end FL
/-! ## C1 -/
set_option Elab.async false
set_option linter.all false
set_option maxRecDepth 100000
set_option maxHeartbeats 4000000
/-! itertools.combinations(list, k), at the library's level -/
namespace FL
open PySem L2 PySem.Spec PyProof.Rows
theorem mro_com : mroOf (.type "itertools.combinations") = pure [.type "itertools.combinations", .type "object"] := by rw [mroOf_type]; kernel_rfl
theorem lookup_com_new : typeLookup (.type "itertools.combinations") "__new__" = pure (some (.builtin "itertools.combinations.__new__")) := by rw [typeLookup_type, builtinLookup_eq_fast]; kernel_rfl
theorem slot_com_init : Slot "itertools.combinations" "__init__" "object.__init__" :=
  .of (owner := "object") (n := "__init__") (by rw [typeLookup_type, builtinLookup_eq_fast]; kernel_rfl) (by decide +kernel) (by decide +kernel) (by decide +kernel)
    (by first | exact .inl (by decide +kernel) | exact .inr (by decide +kernel)) (by rw [isSubtype_type]; kernel_rfl)
theorem sub_com : isSubtype (.type "itertools.combinations") (.type "itertools.combinations") = pure true := by rw [isSubtype_type]; kernel_rfl
theorem called_com : TypeCalled "itertools.combinations" "itertools.combinations.__new__" "object.__init__" :=
  ⟨by decide +kernel, by decide +kernel, ⟨_, _, mro_com⟩, madeBy_type mro_com lookup_com_new (by decide +kernel), by decide +kernel, sub_com, slot_com_init⟩
theorem typeCall_com_2 (a b : Value) : checkTypeCall "itertools.combinations" ⟨[a, b], []⟩ = pure () := by kernel_rfl
theorem newCall_com_2 (a b : Value) : checkBuiltinCall "itertools.combinations.__new__" ⟨[.type "itertools.combinations", a, b], []⟩ = pure () := by kernel_rfl
theorem entry_com_new : entryFor table "itertools.combinations.__new__" = some Builtin.«itertools.combinations.__new__» := entryFor_of_tree (by kernel_rfl)
theorem slot_com_iter : Slot "itertools.combinations" "__iter__" "itertools.combinations.__iter__" :=
  .of (owner := "itertools.combinations") (n := "__iter__") (by rw [typeLookup_type, builtinLookup_eq_fast]; kernel_rfl) (by decide +kernel) (by decide +kernel) (by decide +kernel)
    (by first | exact .inl (by decide +kernel) | exact .inr (by decide +kernel)) sub_com
theorem slot_com_next : Slot "itertools.combinations" "__next__" "itertools.combinations.__next__" :=
  .of (owner := "itertools.combinations") (n := "__next__") (by rw [typeLookup_type, builtinLookup_eq_fast]; kernel_rfl) (by decide +kernel) (by decide +kernel) (by decide +kernel)
    (by first | exact .inl (by decide +kernel) | exact .inr (by decide +kernel)) sub_com
theorem entry_com_iter : entryFor table "itertools.combinations.__iter__" = some Builtin.«dict_keyiterator.__iter__» :=
  entryFor_alias (id' := "dict_keyiterator.__iter__") (by kernel_rfl) (by first | rfl | decide +kernel | (unfold String.splitOn; simp +decide [String.splitOnAux])) (by decide +kernel) (by kernel_rfl)
theorem entry_com_next : entryFor table "itertools.combinations.__next__" = some Builtin.«itertools.combinations.__next__» := entryFor_of_tree (by kernel_rfl)
theorem owner_com : Manifest.owners.lookup (String.ofList "snoitanibmoc.slootreti".toList.reverse) = some Manifest.sig_itertools_combinations := by kernel_rfl
theorem args_com_iter (a : Value) : argsOk "itertools.combinations.__iter__" ⟨[a], []⟩ := by
  unfold argsOk; rw [signature?_of (id := "itertools.combinations.__iter__") (n := ['_', '_', 'r', 'e', 't', 'i', '_', '_']) (o := "snoitanibmoc.slootreti".toList) (by kernel_rfl) owner_com]; kernel_rfl
theorem args_com_next (a : Value) : argsOk "itertools.combinations.__next__" ⟨[a], []⟩ := by
  unfold argsOk; rw [signature?_of (id := "itertools.combinations.__next__") (n := ['_', '_', 't', 'x', 'e', 'n', '_', '_']) (o := "snoitanibmoc.slootreti".toList) (by kernel_rfl) owner_com]; kernel_rfl
theorem noDict_com : typeHasDict (.type "itertools.combinations") = false := by decide +kernel
def comFs (pool : Addr) (st : Int) (last : Value) (idx : List Nat) : List Value := [.ref pool, rawInt st, last] ++ idx.map fun (i : Nat) => rawInt i
/-- a combinations object -/
abbrev IsCom (h : Heap) (it pool : Addr) (st : Int) (last : Value) (idx : List Nat) : Prop := h.get? it = some { cls := .type "itertools.combinations", dict := none, data := .fields (comFs pool st last idx).toArray, slots := #[] }
/-- the next indices, below n -/
def nextC (n : Nat) (indices : List Nat) : Option (List Nat) :=
  match (List.range indices.length).reverse.find? fun i => indices.getD i 0 != i + n - indices.length with
  | none => none
  | some i => some (indices.take i ++ (List.range (indices.length - i)).map (indices.getD i 0 + 1 + ·))
end FL
/-! ## C2 -/
set_option Elab.async false
set_option linter.all false
set_option maxRecDepth 100000
set_option maxHeartbeats 4000000
set_option profiler true
set_option profiler.threshold 1000
namespace FL
open PySem L2 PySem.Spec PyProof.Rows
def ComNew (l : Addr) (vs : List Value) (k : Nat) (s : Shared) (R : Result → Shared → Prop) : Prop :=
  s.heap.IsList l vs.toArray ∧ vs.length ≤ sizeLine ∧ ∀ h' it pool, (∀ b o, s.heap.get? b = some o → h'.get? b = some o) → s.heap.objs.size ≤ it → s.heap.objs.size ≤ pool → it ≠ pool →
    IsCom h' it pool (if k > vs.length then 2 else 0) .none (List.range k) → h'.IsTuple pool vs.toArray → R (.ok (.ret (.ref it))) { s with heap := h' }
theorem meets_com_new (l : Addr) (vs : List Value) (k : Nat) (t : Tok) (h1 : k < 1048576) :
    Meets (Builtin.«itertools.combinations.__new__» ⟨[.type "itertools.combinations", .ref l, .int (k : Nat) t], []⟩)
      (fun _ R s => ComNew l vs k s R) :=
  .of_wp fun prog w A R s h => by
    have hsub := sub_com
    repeat (first
      | wp_step
      | simp only [List.head?_cons, Option.some_or, List.getElem?_cons_succ, List.getElem?_cons_zero, List.length_cons, List.length_nil, List.forIn_nil])
    rw [show ("itertools." ++ "combinations" : String) = "itertools.combinations" from by decide +kernel, hsub]
    refine wpAny_pure ?_
    repeat (first
      | wp_step
      | simp only [List.head?_cons, Option.some_or, List.getElem?_cons_succ, List.getElem?_cons_zero, List.length_cons, List.length_nil, List.forIn_nil])
    rw [if_neg (by
      have a : decide ((k : Int) < -2 ^ 63) = false := decide_eq_false (by omega)
      have b : decide ((k : Int) ≥ 2 ^ 63) = false := decide_eq_false (by omega)
      rw [a, b]
      decide)]
    refine wpAny_pure ?_
    obtain ⟨hp, g, dd, tk, os⟩ := s
    obtain ⟨hl, hz, h⟩ := h
    refine wpAny_bind (collect_list hl ?_ hz)
    have kp : ∀ b o, hp.get? b = some o → ((hp.push (seqObj "list" #[] 0)).update hp.objs.size (Obj.mapSeq (· ++ vs.toArray))).get? b = some o := fun b o e => by
      have lb := Heap.lt_size e
      rw [Heap.get?_update_ne _ _ _ _ (Nat.ne_of_lt lb)]
      exact Heap.get?_push_of_some _ e
    have hs : ((hp.push (seqObj "list" #[] 0)).update hp.objs.size (Obj.mapSeq (· ++ vs.toArray))).objs.size = hp.objs.size + 1 := by
      rw [Heap.size_update, size_push']
    generalize (hp.push (seqObj "list" #[] 0)).update hp.objs.size (Obj.mapSeq (· ++ vs.toArray)) = h2 at kp hs
    have hk : ((k : Int)).toNat = k := Int.toNat_natCast k
    rw [if_neg (by omega), if_neg (by
      unfold Builtin.Itertools.itTooMany
      rw [decide_eq_true_iff]
      omega)]
    refine wpAny_bind (wpAny_newTuple (wpAny_pure ?_) hz)
    rw [hk]
    dsimp only
    refine wpAny_bind ?_
    unfold Builtin.Itertools.itNewRecord
    rw [noDict_com, if_pos (by decide)]
    have sz3 : (h2.push { cls := .type "tuple", data := .seq vs.toArray }).objs.size = hp.objs.size + 2 := by rw [size_push', hs]
    refine wpAny_newObj_type ?_ ?_
    · refine wpAny_pure ⟨_, rfl, ?_⟩
      refine h _ _ h2.objs.size (fun b o e => ?_) ?_ ?_ ?_ ?_ ?_
      · exact Heap.get?_push_of_some _ (Heap.get?_push_of_some _ (kp b o e))
      · show hp.objs.size ≤ (h2.push _).objs.size
        rw [sz3]
        omega
      · show hp.objs.size ≤ h2.objs.size
        omega
      · show (h2.push _).objs.size ≠ h2.objs.size
        rw [sz3]
        omega
      · exact Heap.get?_push_size _ rfl
      · exact ⟨_, Heap.get?_push_of_some _ (Heap.get?_push_size _ rfl), rfl, _, rfl⟩
    · show (List.toArray _).size ≤ _
      rw [List.size_toArray, List.length_append, List.length_map, List.length_range]
      exact Nat.le_trans (show 3 + k ≤ 9000000 by omega) (by decide)
end FL
/-! ## C3 -/
set_option Elab.async false
set_option linter.all false
set_option maxRecDepth 100000
set_option maxHeartbeats 4000000
namespace FL
open PySem L2 PySem.Spec PyProof.Rows Builtin.Itertools
theorem com_nums (pool : Addr) (st : Int) (last : Value) (idx : List Nat) : ((comFs pool st last idx).toArray.toList.drop 3).map (fun | .int n _ => n.toNat | _ => 0) = idx := by
  show (idx.map fun (i : Nat) => rawInt i).map _ = idx
  rw [List.map_map]
  conv => rhs; rw [← List.map_id idx]
  exact List.map_congr_left fun i _ => Int.toNat_natCast i
theorem com_set1 (pool : Addr) (st st' : Int) (last : Value) (idx : List Nat) : (comFs pool st last idx).toArray.setIfInBounds 1 (rawInt st') = (comFs pool st' last idx).toArray := by
  rw [List.setIfInBounds_toArray] <;> rfl
theorem com_set2 (pool : Addr) (st : Int) (last last' : Value) (idx : List Nat) : (comFs pool st last idx).toArray.setIfInBounds 2 last' = (comFs pool st last' idx).toArray := by
  rw [List.setIfInBounds_toArray] <;> rfl
theorem com_setN (pool : Addr) (st : Int) (last : Value) (idx idx' : List Nat) : (comFs pool st last idx).toArray.extract 0 3 ++ (idx'.map fun (n : Nat) => rawInt n).toArray = (comFs pool st last idx').toArray := by
  rw [List.extract_toArray, List.append_toArray] <;> rfl
def picked (items : Array Value) (idx : List Nat) : List Value := idx.map fun i => items.getD i .none
section
variable {prog : Program} {w : World} {A : Around} {E : Value → Shared → Prop} {s : Shared}
theorem call_com {l : Addr} {vs : List Value} {k : Nat} {t : Tok} {Q : Value → Shared → Prop} (hl : s.heap.IsList l vs.toArray) (hz : vs.length ≤ sizeLine) (hk : k < 1048576)
    (h : ∀ h' it pool, (∀ b o, s.heap.get? b = some o → h'.get? b = some o) → s.heap.objs.size ≤ it → s.heap.objs.size ≤ pool → it ≠ pool →
      IsCom h' it pool (if k > vs.length then 2 else 0) .none (List.range k) → h'.IsTuple pool vs.toArray → Q (.ref it) { s with heap := h' }) :
    wpAny (model prog w) A (call (.type "itertools.combinations") [.ref l, .int (k : Nat) t]) Q E s := by
  refine callType_new called_com (by decide +kernel) (typeCall_com_2 _ _) (newCall_com_2 _ _) (fun obj => F.args_object_init_3 obj _ _) entry_com_new (meets_com_new l vs k t hk) ?_
  refine ⟨hl, hz, fun h' it pool kp g1 g2 ne hc hp => ?_⟩
  exact ⟨⟨_, hc, rfl⟩, h h' it pool kp g1 g2 ne hc hp⟩
theorem iter_com {it pool : Addr} {st : Int} {last : Value} {idx : List Nat} {Q : Value → Shared → Prop} (hit : IsCom s.heap it pool st last idx) (h : Q (.ref it) s) : wpAny (model prog w) A (pyIter (.ref it)) Q E s := by
  have hT : s.TypeIs (.ref it) "itertools.combinations" := ⟨_, hit, rfl⟩
  refine wpAny_pyIter_slot hT slot_com_iter (wpAny_call_entry slot_com_iter hT entry_com_iter ?_ (args_com_iter _))
  show wpAny _ _ (ret (.ref it)) _ _ s
  exact wpAny_pure ⟨_, rfl, "itertools.combinations", _, hT, slot_com_next.lookup, h⟩
theorem com_hand {it pool : Addr} {st : Int} {last : Value} {idx jdx : List Nat} {items : Array Value} {Q : Fin → Shared → Prop} (hit : IsCom s.heap it pool st last idx) (hp : s.heap.IsTuple pool items) (hz : jdx.length ≤ sizeLine)
    (hQ : ∀ h', IsCom h' it pool st (.ref s.heap.objs.size) idx → h'.get? s.heap.objs.size = some { cls := .type "tuple", data := .seq (picked items jdx).toArray } → (∀ b o, b ≠ it → s.heap.get? b = some o → h'.get? b = some o) → Q (.done (.ret (.ref s.heap.objs.size))) { s with heap := h' }) :
    wpAny (model prog w) A (do
      let result ← (do
        let items ← itPoolItems (.ref pool)
        newTuple (jdx.map fun i => items.getD i .none))
      let before ← field (.ref it) 2
      setField (.ref it) 2 result
      letGo [before] [result]
      ret result) Q E s := by
  obtain ⟨o, ho, co, n, hd⟩ := hp
  refine wpAny_bind (wpAny_bind (wpAny_bind (wpAny_seqItems ho hd (wpAny_pure ?_))))
  refine wpAny_newTuple (items := jdx.map fun i => items.getD i .none) ?_ (by rw [List.length_map]; exact hz)
  have h1 : IsCom (s.heap.push { cls := .type "tuple", data := .seq (picked items jdx).toArray }) it pool st last idx := Heap.get?_push_of_some _ hit
  refine wpAny_bind (wpAny_field h1 rfl (x := last) rfl ?_)
  refine wpAny_bind (wpAny_setField_rec h1 (by show 2 < (List.toArray _).size; rw [List.size_toArray]; show 2 < (_ :: _ :: _ :: _).length; simp) fun h' hc sb => ?_)
  refine wpAny_bind (wpAny_letGo (wpAny_pure ?_))
  rw [com_set2] at hc
  refine hQ h' hc ?_ fun b o nb q => ?_
  · refine (sb.2 _ (Nat.ne_of_gt (Heap.lt_size hit))).trans (Heap.get?_push_size _ rfl)
  · exact (sb.2 _ nb).trans (Heap.get?_push_of_some _ q)
end
end FL
/-! ## C4 -/
set_option Elab.async false
set_option linter.all false
set_option maxRecDepth 100000
set_option maxHeartbeats 4000000
namespace FL
open PySem L2 PySem.Spec PyProof.Rows Builtin.Itertools
section
variable {prog : Program} {w : World} {A : Around} {E : Value → Shared → Prop} {s : Shared}
theorem wp_nums {it pool : Addr} {st : Int} {last : Value} {idx : List Nat} {Q : List Nat → Shared → Prop} (hit : IsCom s.heap it pool st last idx) (h : Q idx s) : wpAny (model prog w) A (itNumbersFrom (.ref it) 3) Q E s := by
  unfold itNumbersFrom
  refine wpAny_bind (wpAny_load hit ?_)
  exact wpAny_of_eq (a := idx) (congrArg pure (com_nums pool st last idx)) h
theorem com_item0 {it pool : Addr} {last : Value} {idx : List Nat} {items : Array Value} {Q : Option Value → Shared → Prop} (hit : IsCom s.heap it pool 0 last idx) (hp : s.heap.IsTuple pool items) (ne : it ≠ pool) (hz : idx.length ≤ sizeLine)
    (hQ : ∀ h', IsCom h' it pool 1 (.ref s.heap.objs.size) idx → h'.get? s.heap.objs.size = some { cls := .type "tuple", data := .seq (picked items idx).toArray } → (∀ b o, b ≠ it → s.heap.get? b = some o → h'.get? b = some o) → Q (some (.ref s.heap.objs.size)) { s with heap := h' }) :
    wpAny (model prog w) A (callSpecial? (.ref it) "__next__") Q E s := by
  have hT : s.TypeIs (.ref it) "itertools.combinations" := ⟨_, hit, rfl⟩
  refine wpAny_callSpecial?_slot (name := Str.ofString "__next__") hT slot_com_next (wpAny_call_entry slot_com_next hT entry_com_next ?_ (args_com_next _))
  show wpAny _ _ (field (.ref it) 0 >>= _) _ _ s
  refine wpAny_bind (wpAny_field hit rfl (x := .ref pool) rfl ?_)
  show wpAny _ _ (itNumbersFrom (.ref it) 3 >>= _) _ _ s
  refine wpAny_bind (wp_nums hit ?_)
  show wpAny _ _ (itIntField (.ref it) 1 >>= _) _ _ s
  refine wpAny_bind (wpAny_bind (wpAny_field hit rfl (x := rawInt 0) rfl (wpAny_pure ?_)))
  show wpAny _ _ (setField (.ref it) 1 (rawInt 1) >>= _) _ _ s
  refine wpAny_bind (wpAny_setField_rec hit (by show 1 < (List.toArray _).size; rw [List.size_toArray]; show 1 < (_ :: _ :: _ :: _).length; simp) fun h1 hc sb => ?_)
  rw [com_set1] at hc
  have hp1 : h1.IsTuple pool items := hp.at fun o q => (sb.2 _ ne.symm).trans q
  have e1 : h1.objs.size = s.heap.objs.size := sb.1
  refine com_hand (s := { s with heap := h1 }) (jdx := idx) hc hp1 hz fun h' hc' ht kp => ?_
  rw [show ({ s with heap := h1 } : Shared).heap.objs.size = s.heap.objs.size from e1] at hc' ht ⊢
  exact ⟨_, rfl, hQ h' hc' ht fun b o nb q => kp b o nb ((sb.2 _ nb).trans q)⟩
theorem com_item1 {it pool : Addr} {last : Value} {idx jdx : List Nat} {items : Array Value} {Q : Option Value → Shared → Prop} (hit : IsCom s.heap it pool 1 last idx) (hp : s.heap.IsTuple pool items) (ne : it ≠ pool) (hn : nextC items.size idx = some jdx) (hz : jdx.length ≤ sizeLine)
    (hQ : ∀ h', IsCom h' it pool 1 (.ref s.heap.objs.size) jdx → h'.get? s.heap.objs.size = some { cls := .type "tuple", data := .seq (picked items jdx).toArray } → (∀ b o, b ≠ it → s.heap.get? b = some o → h'.get? b = some o) → Q (some (.ref s.heap.objs.size)) { s with heap := h' }) :
    wpAny (model prog w) A (callSpecial? (.ref it) "__next__") Q E s := by
  have hT : s.TypeIs (.ref it) "itertools.combinations" := ⟨_, hit, rfl⟩
  refine wpAny_callSpecial?_slot (name := Str.ofString "__next__") hT slot_com_next (wpAny_call_entry slot_com_next hT entry_com_next ?_ (args_com_next _))
  show wpAny _ _ (field (.ref it) 0 >>= _) _ _ s
  refine wpAny_bind (wpAny_field hit rfl (x := .ref pool) rfl ?_)
  show wpAny _ _ (itNumbersFrom (.ref it) 3 >>= _) _ _ s
  refine wpAny_bind (wp_nums hit ?_)
  show wpAny _ _ (itIntField (.ref it) 1 >>= _) _ _ s
  refine wpAny_bind (wpAny_bind (wpAny_field hit rfl (x := rawInt 1) rfl (wpAny_pure ?_)))
  show wpAny _ _ (itPoolItems (.ref pool) >>= _) _ _ s
  obtain ⟨o, ho, co, n, hd⟩ := id hp
  refine wpAny_bind (wpAny_bind (wpAny_seqItems ho hd (wpAny_pure ?_)))
  show wpAny _ _ (match nextC items.size idx with | some next => _ | none => _) _ _ s
  rw [hn]
  dsimp only
  refine wpAny_bind (wpAny_updateFields hit rfl ?_ ?_)
  · have hc : IsCom (s.heap.update it (Obj.mapFields fun fs => fs.extract 0 3 ++ (jdx.map fun (n : Nat) => rawInt n).toArray)) it pool 1 last jdx := by
      have := Heap.get?_update_self (h := s.heap) (a := it) (Obj.mapFields fun fs => fs.extract 0 3 ++ (jdx.map fun (n : Nat) => rawInt n).toArray) hit rfl
      show Heap.get? _ _ = _
      rw [this]
      show some (Obj.mk _ _ (.fields _) _) = _
      exact congrArg (fun z => some (Obj.mk (Value.type "itertools.combinations") none (.fields z) #[])) (com_setN pool 1 last idx jdx)
    have sb : Heap.SameBut it s.heap (s.heap.update it (Obj.mapFields fun fs => fs.extract 0 3 ++ (jdx.map fun (n : Nat) => rawInt n).toArray)) := Heap.SameBut.update ..
    generalize s.heap.update it (Obj.mapFields fun fs => fs.extract 0 3 ++ (jdx.map fun (n : Nat) => rawInt n).toArray) = h1 at hc sb
    have hp1 : h1.IsTuple pool items := hp.at fun o q => (sb.2 _ ne.symm).trans q
    have e1 : h1.objs.size = s.heap.objs.size := sb.1
    refine com_hand (s := { s with heap := h1 }) (jdx := jdx) hc hp1 hz fun h' hc' ht kp => ?_
    rw [show ({ s with heap := h1 } : Shared).heap.objs.size = s.heap.objs.size from e1] at hc' ht ⊢
    exact ⟨_, rfl, hQ h' hc' ht fun b o nb q => kp b o nb ((sb.2 _ nb).trans q)⟩
  · show ((comFs pool 1 last idx).toArray.extract 0 3 ++ (jdx.map fun (n : Nat) => rawInt n).toArray).size ≤ _
    rw [com_setN, List.size_toArray]
    show (_ :: _ :: _ :: (jdx.map _)).length ≤ _
    rw [List.length_cons, List.length_cons, List.length_cons, List.length_map]
    omega
/-- the end's exception, and what it leaves -/
theorem com_stop {h : Heap} {it : Addr} {Q : Fin → Shared → Prop} (hh : A.handled = none) (eb : Heap.ExtBut it h s.heap)
    (hQ : ∀ e h', CpRep.StopE e h' → Heap.ExtBut it h h' → E e { s with heap := h' }) : wpAny (model prog w) A (itStop (α := Fin)) Q E s := by
  unfold itStop
  show wpAny _ _ (newExc (.type "StopIteration") [] >>= _) _ _ _
  refine wpAny_bind ?_
  simp only [newExc, newTuple]
  refine wpAny_bind (wpAny_newObj_type ?_ (by size_fits))
  refine wpAny_bind (m := firstArgMember _ _) (wpAny_of_eq (a := Value.none) (by first | rfl | (simp only [firstArgMember]; rfl)) ?_)
  refine wpAny_newObj_type ?_ (by size_fits)
  simp only [raiseNew]
  refine wpAny_bind (wpAny_handled ?_)
  rw [hh]
  refine wpAny_bind (wpAny_pure (wpAny_throw ?_))
  exact hQ _ _ ⟨_, _, _, rfl, Heap.get?_push_size _ rfl, rfl, rfl, rfl⟩ ((eb.push _).push _)
theorem com_end {it pool : Addr} {st : Int} {last : Value} {idx : List Nat} {items : Array Value} {Q : Option Value → Shared → Prop} (hh : A.handled = none) (hit : IsCom s.heap it pool st last idx) (hp : s.heap.IsTuple pool items) (he : st = 2 ∨ (st = 1 ∧ nextC items.size idx = none))
    (hQ : ∀ e h', CpRep.StopE e h' → Heap.ExtBut it s.heap h' → E e { s with heap := h' }) : wpAny (model prog w) A (callSpecial? (.ref it) "__next__") Q E s := by
  have hT : s.TypeIs (.ref it) "itertools.combinations" := ⟨_, hit, rfl⟩
  refine wpAny_callSpecial?_slot (name := Str.ofString "__next__") hT slot_com_next (wpAny_call_entry slot_com_next hT entry_com_next ?_ (args_com_next _))
  show wpAny _ _ (field (.ref it) 0 >>= _) _ _ s
  refine wpAny_bind (wpAny_field hit rfl (x := .ref pool) rfl ?_)
  show wpAny _ _ (itNumbersFrom (.ref it) 3 >>= _) _ _ s
  refine wpAny_bind (wp_nums hit ?_)
  show wpAny _ _ (itIntField (.ref it) 1 >>= _) _ _ s
  refine wpAny_bind (wpAny_bind (wpAny_field hit rfl (x := rawInt st) rfl (wpAny_pure ?_)))
  rcases he with rfl | ⟨rfl, hn⟩
  · show wpAny _ _ (rule _ >>= _) _ _ s
    refine wpAny_bind (wpAny_rule ?_)
    exact com_stop hh (Heap.ExtBut.refl it _) hQ
  · show wpAny _ _ (itPoolItems (.ref pool) >>= _) _ _ s
    obtain ⟨o, ho, co, n, hd⟩ := id hp
    refine wpAny_bind (wpAny_bind (wpAny_seqItems ho hd (wpAny_pure ?_)))
    show wpAny _ _ (match nextC items.size idx with | some next => _ | none => _) _ _ s
    rw [hn]
    dsimp only
    refine wpAny_bind (wpAny_setField hit rfl (by show 1 < (List.toArray _).size; rw [List.size_toArray]; show 1 < (_ :: _ :: _ :: _).length; simp) ?_)
    refine com_stop hh ?_ hQ
    exact fun b o nb e => (Heap.get?_update_ne _ _ _ _ nb).trans e
end
end FL
/-! ## C5 -/
set_option Elab.async false
set_option linter.all false
set_option maxRecDepth 100000
set_option maxHeartbeats 4000000
/-! what combinations hands out: mathematics -/
namespace FL
def runN (lo m : Nat) : List Nat := (List.range m).map (lo + ·)
theorem runN_succ (lo m : Nat) : runN lo (m + 1) = lo :: runN (lo + 1) m := by
  unfold runN
  rw [List.range_succ_eq_map, List.map_cons, List.map_map]
  refine congrArg (List.cons lo) (List.map_congr_left fun i _ => ?_)
  show lo + (i + 1) = lo + 1 + i
  omega
theorem runN_zero (m : Nat) : runN 0 m = List.range m := by
  unfold runN
  conv => rhs; rw [← List.map_id (List.range m)]
  exact List.map_congr_left fun i _ => Nat.zero_add i
theorem nextC_cons (n a : Nat) (t : List Nat) : nextC n (a :: t) = match nextC n t with
    | some u => some (a :: u)
    | none => if a != n - (t.length + 1) then some (runN (a + 1) (t.length + 1)) else none := by
  have ef : ((fun i => (a :: t).getD i 0 != i + n - (t.length + 1)) ∘ Nat.succ) = fun i => t.getD i 0 != i + n - t.length := by
    funext i
    show ((a :: t).getD (i + 1) 0 != i + 1 + n - (t.length + 1)) = _
    rw [show (a :: t).getD (i + 1) 0 = t.getD i 0 from rfl, show i + 1 + n - (t.length + 1) = i + n - t.length by omega]
  unfold nextC
  rw [List.length_cons, List.range_succ_eq_map, List.reverse_cons, ← List.map_reverse, List.find?_append, List.find?_map, ef]
  generalize List.find? (fun i => t.getD i 0 != i + n - t.length) (List.range t.length).reverse = r
  cases r with
  | none =>
    rw [Option.map_none, Option.none_or, List.find?_cons]
    rw [show ((a :: t).getD 0 0 != 0 + n - (t.length + 1)) = (a != n - (t.length + 1)) by rw [Nat.zero_add]; rfl]
    cases a != n - (t.length + 1) <;> rfl
  | some i =>
    show some (List.take (i + 1) (a :: t) ++ (List.range (t.length + 1 - (i + 1))).map ((a :: t).getD (i + 1) 0 + 1 + ·)) = some (a :: _)
    rw [Nat.add_sub_add_right]
    rfl
/-- the indices of all choices of m out of f from lo on -/
def cidx : Nat → Nat → Nat → List (List Nat)
  | 0, _, _ => [[]]
  | _ + 1, 0, _ => []
  | m + 1, f + 1, lo => (cidx m f (lo + 1)).map (lo :: ·) ++ cidx (m + 1) f (lo + 1)
theorem cidx_zero (f lo : Nat) : cidx 0 f lo = [[]] := by cases f <;> rfl
theorem cidx_nil : ∀ (m f lo : Nat), f < m → cidx m f lo = []
  | m + 1, 0, lo, _ => rfl
  | m + 1, f + 1, lo, h => by
    show (cidx m f (lo + 1)).map (lo :: ·) ++ cidx (m + 1) f (lo + 1) = []
    rw [cidx_nil m f (lo + 1) (by omega), cidx_nil (m + 1) f (lo + 1) (by omega)] <;> rfl
theorem cidx_head : ∀ (m f lo : Nat), m ≤ f → (cidx m f lo).head? = some (runN lo m)
  | 0, f, lo, _ => by rw [cidx_zero] <;> rfl
  | m + 1, f + 1, lo, h => by
    show ((cidx m f (lo + 1)).map (lo :: ·) ++ cidx (m + 1) f (lo + 1)).head? = _
    rw [List.head?_append, List.head?_map, cidx_head m f (lo + 1) (by omega), runN_succ] <;> rfl
theorem cidx_len : ∀ (m f lo : Nat), ∀ c ∈ cidx m f lo, c.length = m
  | 0, f, lo, c, h => by rw [cidx_zero, List.mem_singleton] at h; rw [h] <;> rfl
  | m + 1, 0, lo, c, h => nomatch h
  | m + 1, f + 1, lo, c, h => by
    rcases List.mem_append.mp h with h | h
    · obtain ⟨d, hd, rfl⟩ := List.mem_map.mp h
      rw [List.length_cons, cidx_len m f (lo + 1) d hd]
    · exact cidx_len (m + 1) f (lo + 1) c h
def orH (r : List (List Nat)) (e : Option (List Nat)) : Option (List Nat) := match r with
  | [] => e
  | d :: _ => some d
def Lk (n : Nat) (e : Option (List Nat)) : List (List Nat) → Prop
  | [] => True
  | c :: r => nextC n c = orH r e ∧ Lk n e r
theorem Lk.append {n : Nat} {e : Option (List Nat)} {B : List (List Nat)} (hB : Lk n e B) : ∀ A, Lk n (orH B e) A → Lk n e (A ++ B)
  | [], _ => hB
  | [c], h => ⟨h.1, hB⟩
  | c :: d :: r, h => ⟨h.1, Lk.append hB (d :: r) h.2⟩
theorem Lk.map {n lo m : Nat} : ∀ A : List (List Nat), (∀ c ∈ A, c.length = m) → Lk n none A → Lk n (if lo != n - (m + 1) then some (runN (lo + 1) (m + 1)) else none) (A.map (lo :: ·))
  | [], _, _ => trivial
  | c :: r, hl, h => by
    refine ⟨?_, Lk.map r (fun d hd => hl d (List.mem_cons_of_mem _ hd)) h.2⟩
    rw [nextC_cons, h.1, hl c List.mem_cons_self]
    cases r <;> rfl
theorem cidx_lk : ∀ (m f lo : Nat), Lk (lo + f) none (cidx m f lo)
  | 0, f, lo => by rw [cidx_zero]; exact ⟨rfl, trivial⟩
  | m + 1, 0, lo => trivial
  | m + 1, f + 1, lo => by
    have hA := cidx_lk m f (lo + 1)
    have hB := cidx_lk (m + 1) f (lo + 1)
    rw [show lo + 1 + f = lo + (f + 1) by omega] at hA hB
    refine Lk.append hB _ ?_
    by_cases hf : f < m
    · rw [cidx_nil m f (lo + 1) hf]
      exact trivial
    have e : orH (cidx (m + 1) f (lo + 1)) none = if lo != lo + (f + 1) - (m + 1) then some (runN (lo + 1) (m + 1)) else none := by
      by_cases hm : m + 1 ≤ f
      · have hh := cidx_head (m + 1) f (lo + 1) hm
        rw [if_pos (by rw [bne_iff_ne]; omega), ← hh]
        cases cidx (m + 1) f (lo + 1) <;> rfl
      · rw [cidx_nil (m + 1) f (lo + 1) (by omega), if_neg (by rw [bne_iff_ne]; omega)] <;> rfl
    rw [e]
    exact Lk.map _ (cidx_len m f (lo + 1)) hA
theorem Lk.at {n : Nat} : ∀ {xs : List (List Nat)}, Lk n none xs → ∀ {i : Nat} {c : List Nat}, xs[i]? = some c → nextC n c = xs[i + 1]?
  | c :: r, h, 0, _, rfl => by rw [h.1]; cases r <;> rfl
  | c :: r, h, i + 1, d, e => Lk.at h.2 (i := i) e
/-- all choices of m items, in their order -/
def cmb {α : Type} : Nat → List α → List (List α)
  | 0, _ => [[]]
  | _ + 1, [] => []
  | m + 1, x :: r => (cmb m r).map (x :: ·) ++ cmb (m + 1) r
theorem cmb_zero {α : Type} (xs : List α) : cmb 0 xs = [[]] := by cases xs <;> rfl
theorem cidx_cmb {α : Type} (d : α) (ys : List α) : ∀ (m f lo : Nat), lo + f = ys.length → (cidx m f lo).map (fun c => c.map fun i => ys.getD i d) = cmb m (ys.drop lo)
  | 0, f, lo, _ => by rw [cidx_zero, cmb_zero] <;> rfl
  | m + 1, 0, lo, h => by rw [List.drop_eq_nil_of_le (by omega)] <;> rfl
  | m + 1, f + 1, lo, h => by
    rw [List.drop_eq_getElem_cons (show lo < ys.length by omega)]
    show ((cidx m f (lo + 1)).map (lo :: ·) ++ cidx (m + 1) f (lo + 1)).map _ = (cmb m (ys.drop (lo + 1))).map _ ++ cmb (m + 1) (ys.drop (lo + 1))
    rw [List.map_append, cidx_cmb d ys (m + 1) f (lo + 1) (by omega), ← cidx_cmb d ys m f (lo + 1) (by omega), List.map_map, List.map_map]
    refine congrArg (· ++ _) (List.map_congr_left fun c _ => ?_)
    show (ys.getD lo d) :: _ = _ :: _
    rw [show ys.getD lo d = ys[lo]'(by omega) by rw [List.getD_eq_getElem?_getD, List.getElem?_eq_getElem (by omega)]; rfl]
end FL
/-! ## C6 -/
set_option Elab.async false
set_option linter.all false
set_option maxRecDepth 100000
set_option maxHeartbeats 4000000
/-! for c in combinations(list, k) -/
namespace FL
open PySem L2 PySem.Spec PyProof.Rows
theorem len_cmb {α : Type} : ∀ (m : Nat) (xs : List α), ∀ c ∈ cmb m xs, c.length = m
  | 0, xs, c, h => by rw [cmb_zero, List.mem_singleton] at h; rw [h] <;> rfl
  | m + 1, [], c, h => nomatch h
  | m + 1, x :: r, c, h => by
    rcases List.mem_append.mp h with h | h
    · obtain ⟨d, hd, rfl⟩ := List.mem_map.mp h
      rw [List.length_cons, len_cmb m r d hd]
    · exact len_cmb (m + 1) r c h
/-- one new tuple after the other -/
def ItC (cs : List (List V)) : It :=
  ⟨fun i _ => i < cs.length, fun i H v H' => ∃ T c, v = .ref T ∧ H T = none ∧ H' = upd H T (.tup c) ∧ cs[i]? = some c, fun i _ => cs.length ≤ i⟩
def StC (items : List Value) (k : Nat) (it pool : Addr) (i : Nat) (h : Heap) : Prop :=
  ∃ st last idx, IsCom h it pool st last idx ∧ h.IsTuple pool items.toArray ∧ it ≠ pool ∧
    ((st = 0 ∧ i = 0 ∧ (cidx k items.length 0)[0]? = some idx) ∨ (st = 1 ∧ ∃ j, i = j + 1 ∧ (cidx k items.length 0)[j]? = some idx) ∨ (st = 2 ∧ (cidx k items.length 0).length ≤ i))
theorem vals_pick {xs : List V} {its : List Value} (h : Vals xs its) : ∀ idx : List Nat, Vals (idx.map fun i => xs.getD i V.non) (picked its.toArray idx)
  | [] => .nil
  | i :: r => .cons (by
      show RelV (xs.getD i V.non) (its.toArray.getD i .none)
      rw [List.getD_eq_getElem?_getD, Array.getD_eq_getD_getElem?, List.getElem?_toArray]
      cases e : xs[i]? with
      | some x =>
        obtain ⟨u, hu, ru⟩ := h.get e
        rw [hu]
        exact ru
      | none =>
        have : its[i]? = none := List.getElem?_eq_none (by rw [← h.length]; exact List.getElem?_eq_none_iff.mp e)
        rw [this]
        rfl) (vals_pick h r)
theorem turnC {P : Program} {w : World} {K : PySem.W.Frag} {tg : Expr} {xs : List V} {items : List Value} (k : Nat) (it pool : Addr) (hv : Vals xs items) (hk : k ≤ sizeLine) : Turn P w K tg (ItC (cmb k xs)) [it, pool] it (StC items k it pool) where
  mem := List.mem_cons_self
  obj := fun i h st b hb => by
    obtain ⟨st, last, idx, hc, ⟨o, ho, co, n, hd⟩, ne, _⟩ := st
    rcases List.mem_cons.mp hb with z | z
    · exact z ▸ ⟨_, hc, fun v q => nomatch q⟩
    · exact List.mem_singleton.mp z ▸ ⟨o, ho, fun v q => by rw [hd] at q; cases q⟩
  keep := fun i h h' st k => by
    obtain ⟨st, last, idx, hc, hp, ne, r⟩ := st
    exact ⟨st, last, idx, k it List.mem_cons_self _ hc, hp.at fun o q => k pool (List.mem_cons_of_mem _ List.mem_cons_self) o q, ne, r⟩
  item := by
    intro X hP hw hK hc i pins s σ H E I hf st hg
    subst hP hw hK
    obtain ⟨st, last, idx, hit, hp, ne, cs⟩ := st
    have hcm := cidx_cmb V.non xs k xs.length 0 (by omega)
    rw [List.drop_zero] at hcm
    have lx : xs.length = items.length := hv.length
    have hgl : i < (cmb k xs).length := hg
    rw [← hcm, List.length_map, lx] at hgl
    have li : it < s.heap.objs.size := Heap.lt_size hit
    have lp : pool < s.heap.objs.size := Heap.lt_size hp.choose_spec.1
    obtain ⟨jdx, hj⟩ : ∃ jdx, (cidx k items.length 0)[i]? = some jdx := ⟨_, List.getElem?_eq_getElem hgl⟩
    have hjl : jdx.length ≤ sizeLine := by rw [cidx_len k items.length 0 jdx (List.mem_of_getElem? hj)]; exact hk
    have fin : ∀ h', IsCom h' it pool 1 (.ref s.heap.objs.size) jdx → h'.get? s.heap.objs.size = some { cls := .type "tuple", data := .seq (picked items.toArray jdx).toArray } → (∀ b o, b ≠ it → s.heap.get? b = some o → h'.get? b = some o) →
        wpAny (model X.prog X.w) X.A (letOwnedTupleGo tg (.ref it) (.ref s.heap.objs.size)) (fun _ s2 => ∃ x H', Inv X pins σ H' s2 ∧ RelV x (.ref s.heap.objs.size) ∧ (ItC (cmb k xs)).yld i H x H' ∧ StC items k it pool (i + 1) s2.heap ∧ ∀ b ∈ [it, pool], H' b = none) E { s with heap := h' } := fun h' hc' ht kp => by
      have vp := vals_pick hv jdx
      have ok : ObjOk X.prog X.w (upd H s.heap.objs.size (.tup (jdx.map fun i => xs.getD i V.non))) h' s.heap.objs.size (.tup (jdx.map fun i => xs.getD i V.non)) :=
        ⟨by rw [List.length_map]; exact hjl, _, vp, ⟨_, ht, rfl, _, rfl⟩⟩
      have I2 : Inv X pins σ (upd H s.heap.objs.size (.tup (jdx.map fun i => xs.getD i V.non))) { s with heap := h' } :=
        I.turnedNew (ch := [it, pool]) (t' := s.toks) (fun b ob hb q => kp b ob (fun z => hb (z ▸ List.mem_cons_self)) q) hf (Nat.le_refl _) ok
      refine go_of (s := { s with heap := h' }) (n := "itertools.combinations") hc' rfl rfl (by decide) ⟨.ref s.heap.objs.size, _, I2, rfl, ⟨_, _, rfl, I.hok.fresh (Nat.le_refl _), rfl, ?_⟩, ⟨1, _, jdx, hc', hp.at fun o q => kp pool o ne.symm q, ne, .inr (.inl ⟨rfl, i, rfl, hj⟩)⟩, fun b hb => ?_⟩
      · rw [← hcm, lx, List.getElem?_map, hj] <;> rfl
      · have lb : b < s.heap.objs.size := by
          rcases List.mem_cons.mp hb with z | z
          · exact z ▸ li
          · exact List.mem_singleton.mp z ▸ lp
        rw [upd_ne (Nat.ne_of_lt lb)]
        exact (hf b hb).1
    unfold pyNext
    refine wpAny_bind (wpAny_attempt ?_)
    rcases cs with ⟨rfl, rfl, hi⟩ | ⟨rfl, j, rfl, hi⟩ | ⟨rfl, hi⟩
    · rw [hi] at hj
      cases hj
      refine com_item0 hit hp ne hjl fun h' hc' ht kp => ?_
      exact wpAny_pure ⟨_, rfl, fin h' hc' ht kp⟩
    · have hn := (cidx_lk k items.length 0).at hi
      rw [hj, Nat.zero_add] at hn
      refine com_item1 hit hp ne (by rw [List.size_toArray]; exact hn) hjl fun h' hc' ht kp => ?_
      exact wpAny_pure ⟨_, rfl, fin h' hc' ht kp⟩
    · omega
  done := by
    intro X hP hw hK hc i pins s σ H E I hf st hg
    subst hP hw hK
    obtain ⟨st, last, idx, hit, hp, ne, cs⟩ := st
    obtain ⟨f0, f1, f2, f3, f4, f5⟩ := hf it List.mem_cons_self
    have hcm := cidx_cmb V.non xs k xs.length 0 (by omega)
    rw [List.drop_zero] at hcm
    have lx : xs.length = items.length := hv.length
    have hgl : (cmb k xs).length ≤ i := hg
    rw [← hcm, List.length_map, lx] at hgl
    unfold pyNext
    refine wpAny_bind (wpAny_attempt (com_end (I.ok.hd hc) hit hp ?_ fun e h1 z eb => ?_))
    · rcases cs with ⟨rfl, rfl, hi⟩ | ⟨rfl, j, rfl, hi⟩ | ⟨rfl, hi⟩
      · rw [List.getElem?_eq_none hgl] at hi
        cases hi
      · right
        refine ⟨rfl, ?_⟩
        have hn := (cidx_lk k items.length 0).at hi
        rw [List.getElem?_eq_none hgl, Nat.zero_add] at hn
        rw [List.size_toArray]
        exact hn
      · exact .inl rfl
    · obtain ⟨a, o, vs, rfl, ho, co, _⟩ := z
      exact wpAny_bind (wpAny_isInstance (T := "StopIteration") (b := true) ⟨o, ho, co⟩ isSubtype_stop (wpAny_pure ⟨rfl, I.turned (t' := s.toks) (fun b ob hb q => eb b ob hb q) f0 f1 f3 f4 f5⟩))
  self := fun A i s Q E st h => by
    obtain ⟨st, last, idx, hit, _⟩ := st
    exact iter_com hit h
theorem walkC {cs : List (List V)} : Walk (ItC cs) cs.length (fun _ => True) (fun i H v H' => ∃ T c, v = .ref T ∧ H T = none ∧ H' = upd H T (.tup c) ∧ cs[i]? = some c) :=
  ⟨fun _ _ hi _ => hi, fun _ _ => Nat.le_refl _, fun _ _ _ _ _ _ y => y⟩
def iComb (K : PySem.W.Frag) (ta : TA) : TI := fun σ H R => ta σ H fun vs H1 => ∃ (a : Addr) (xs : List V) (k : Nat), vs = [.ref a, .int (k : Nat)] ∧ SqL K H1 a xs ∧ k < 1048576 ∧ R (ItC (cmb k xs)) H1
theorem pi_comb {X : Cx} {tg a b : Expr} {ta : TA} {p pos : Pos} (hg : Gl X "combinations") (hm : X.mg "combinations" = some (.type "itertools.combinations")) (ha : PA X [a, b] ta)
    (hs : starEach [a, b] X.env = (false, eval a X.env) :: starEach [b] X.env := by rfl) (hpl : (backTo pos (starEach [b] X.env)).any (·.1) = false := by rfl) :
    PI X tg (.Call (.Name "combinations" p) [a, b] [] pos) (iComb X.K ta) := by
  refine ⟨fun pins s σ H R I h => Call_ (ld_glob I hg hm (PyProof.Rows.callWith_type1 (thn (ha.run pos pins s σ H _ I h) fun us s1 ⟨vs, H1, J, r1, l, xs, k, ex, hq, hk, q⟩ => ?_) hs hpl))⟩
  subst ex
  cases r1 with
  | cons r rr =>
    cases rr with
    | cons r' rr =>
      cases rr
      cases r
      obtain ⟨t, rfl⟩ := r'
      obtain ⟨its, rv, hl, hz⟩ := J.list hq
      refine call_com hl.isList (by rw [← rv.length]; exact hz) hk fun h2 it pool kp g1 g2 ne hc hp => iter_com hc ?_
      have J2 : Inv X pins σ H1 { s1 with heap := h2 } := J.kept (t' := s1.toks) kp
      have lx := rv.length
      refine ⟨it, [it, pool], _, _, H1, rfl, J2, turnC k it pool rv (Nat.le_of_lt (Nat.lt_trans hk (by decide))), ⟨_, _, _, hc, hp, ne, ?_⟩, fun b hb => ?_, q⟩
      · by_cases hkn : k > its.length
        · rw [if_pos hkn]
          exact .inr (.inr ⟨rfl, by rw [cidx_nil k its.length 0 hkn]; exact Nat.zero_le _⟩)
        · rw [if_neg hkn]
          refine .inl ⟨rfl, rfl, ?_⟩
          rw [← List.head?_eq_getElem?, cidx_head k its.length 0 (by omega), runN_zero]
      · have le : s1.heap.objs.size ≤ b := by
          rcases List.mem_cons.mp hb with z | z
          · exact z ▸ g1
          · exact List.mem_singleton.mp z ▸ g2
        exact J.fpOk le (J.hok.fresh le)
end FL
namespace FL
open PySem L2 PySem.Spec PyProof.Rows
theorem pi_combK {X : Cx} {K : PySem.W.Frag} (hK : X.K = K) {tg a b : Expr} {ta : TA} {p pos : Pos} (hg : Gl X "combinations") (hm : X.mg "combinations" = some (.type "itertools.combinations")) (ha : PA X [a, b] ta)
    (hs : starEach [a, b] X.env = (false, eval a X.env) :: starEach [b] X.env := by rfl) (hpl : (backTo pos (starEach [b] X.env)).any (·.1) = false := by rfl) :
    PI X tg (.Call (.Name "combinations" p) [a, b] [] pos) (iComb K ta) := hK ▸ pi_comb hg hm ha hs hpl
theorem call_list_ofK {X : Cx} {K : PySem.W.Frag} (hK : X.K = K) : CallR X (.type "list") (fun xs H Q => ∃ p ys, xs = [.ref p] ∧ (SqL K H p ys ∨ SqT K H p ys) ∧ ∀ l, H l = none → Q (.ref l) (upd H l (.lst ys))) := hK ▸ call_list_of
end FL
/-! ## B4 -/
set_option Elab.async false
set_option linter.all false
set_option maxRecDepth 100000
set_option maxHeartbeats 4000000
/-! all choices of sorted names are all sets, the smaller ones first -/
namespace FL
open PySem L2 GxR SrtO
theorem mem_cmb {α : Type} : ∀ {m : Nat} {xs c : List α}, c ∈ cmb m xs ↔ c.Sublist xs ∧ c.length = m
  | 0, xs, c => by
    rw [cmb_zero, List.mem_singleton]
    exact ⟨fun h => h ▸ ⟨List.nil_sublist _, rfl⟩, fun h => List.eq_nil_of_length_eq_zero h.2⟩
  | m + 1, [], c => ⟨fun h => (nomatch h), fun h => by
      have := List.sublist_nil.mp h.1
      rw [this] at h
      exact absurd h.2 (by simp)⟩
  | m + 1, x :: r, c => by
    show c ∈ (cmb m r).map (x :: ·) ++ cmb (m + 1) r ↔ _
    rw [List.mem_append, List.mem_map, List.sublist_cons_iff, mem_cmb (m := m + 1) (xs := r)]
    constructor
    · rintro (⟨d, hd, rfl⟩ | ⟨h1, h2⟩)
      · have := mem_cmb.mp hd
        exact ⟨.inr ⟨d, rfl, this.1⟩, by rw [List.length_cons, this.2]⟩
      · exact ⟨.inl h1, h2⟩
    · rintro ⟨h1 | ⟨d, rfl, hd⟩, h2⟩
      · exact .inr ⟨h1, h2⟩
      · exact .inl ⟨d, mem_cmb.mpr ⟨hd, by simpa using h2⟩, rfl⟩
theorem mem_subs : ∀ (xs : List Str) (c : List Str), c ∈ subs xs ↔ c.Sublist xs := fun xs => by
  induction xs using snoc_ind with
  | h0 =>
    intro c
    show c ∈ [[]] ↔ _
    rw [List.mem_singleton, List.sublist_nil]
  | h1 ns n ih =>
    intro c
    rw [subs_snoc, List.mem_append, List.mem_map, List.sublist_append_iff, ih]
    constructor
    · rintro (h | ⟨d, hd, rfl⟩)
      · exact ⟨c, [], by simp, h, List.nil_sublist _⟩
      · exact ⟨d, [n], rfl, (ih d).mp hd, List.Sublist.refl _⟩
    · rintro ⟨r1, r2, rfl, h1, h2⟩
      rcases List.sublist_cons_iff.mp h2 with h | ⟨r, rfl, h⟩
      · rw [List.sublist_nil.mp h, List.append_nil]
        exact .inl h1
      · rw [List.sublist_nil.mp h]
        exact .inr ⟨r1, (ih r1).mpr h1, rfl⟩
theorem subs_nodup : ∀ ns : List Str, ns.Nodup → (subs ns).Nodup := fun ns => by
  induction ns using snoc_ind with
  | h0 =>
    intro _
    show [[]].Nodup
    simp
  | h1 ns n ih =>
    intro hn
    have hn' := List.nodup_append.mp hn
    rw [subs_snoc, List.nodup_append]
    refine ⟨ih hn'.1, ?_, ?_⟩
    · refine List.pairwise_map.mpr ((ih hn'.1).imp fun {a b} h e => h ?_)
      exact (List.append_inj' e rfl).1
    · intro a ha b hb e
      obtain ⟨d, hd, rfl⟩ := List.mem_map.mp hb
      have hs := (mem_subs ns a).mp ha
      have : n ∈ ns := hs.subset (e ▸ List.mem_append_right d List.mem_cons_self)
      exact hn'.2.2 n this n List.mem_cons_self rfl
/-- all sets, the smaller ones first -/
def allc {α : Type} (ns : List α) : List (List α) := (List.range (ns.length + 1)).flatMap fun k => cmb k ns
theorem mem_allc {α : Type} {ns c : List α} : c ∈ allc ns ↔ c.Sublist ns := by
  unfold allc
  rw [List.mem_flatMap]
  constructor
  · rintro ⟨k, _, h⟩
    exact (mem_cmb.mp h).1
  · intro h
    exact ⟨c.length, List.mem_range.mpr (Nat.lt_succ_of_le h.length_le), mem_cmb.mpr ⟨h, rfl⟩⟩
theorem cmb_pw : ∀ (m : Nat) (xs : List Str), xs.Pairwise (fun a b => ltT a b = true) → (cmb m xs).Pairwise fun a b => ltS a b = true
  | 0, xs, _ => by rw [cmb_zero]; exact List.pairwise_singleton _ _
  | m + 1, [], _ => .nil
  | m + 1, x :: r, h => by
    have ⟨h1, h2⟩ := List.pairwise_cons.mp h
    show ((cmb m r).map (x :: ·) ++ cmb (m + 1) r).Pairwise _
    refine List.pairwise_append.mpr ⟨?_, cmb_pw (m + 1) r h2, ?_⟩
    · refine List.pairwise_map.mpr ((cmb_pw m r h2).imp fun {a b} q => ?_)
      unfold ltS
      rw [if_pos rfl]
      exact q
    · intro a ha b hb
      obtain ⟨d, hd, rfl⟩ := List.mem_map.mp ha
      have hb' := mem_cmb.mp hb
      cases b with
      | nil => exact absurd hb'.2 (by simp)
      | cons y b =>
        have hy := h1 y (hb'.1.subset List.mem_cons_self)
        unfold ltS
        rw [if_neg (fun e => by rw [e, ltT_irr] at hy; cases hy)]
        exact hy
theorem allc_pw {ns : List Str} (h : ns.Pairwise fun a b => ltT a b = true) : (allc ns).Pairwise fun a b => ltN a b = true := by
  unfold allc
  generalize hg : List.range (ns.length + 1) = ks
  have hk : ks.Pairwise (· < ·) := by rw [← hg]; exact List.pairwise_lt_range
  clear hg
  induction hk with
  | nil => exact .nil
  | @cons k ks h1 h2 ih =>
    rw [List.flatMap_cons]
    refine List.pairwise_append.mpr ⟨?_, ih, ?_⟩
    · refine List.Pairwise.imp_of_mem (fun {a b} ha hb q => ?_) (cmb_pw k ns h)
      unfold ltN
      rw [if_pos (by rw [len_cmb k ns a ha, len_cmb k ns b hb])]
      exact q
    · intro a ha b hb
      obtain ⟨j, hj, hb⟩ := List.mem_flatMap.mp hb
      have h3 := h1 j hj
      unfold ltN
      rw [if_neg (by rw [len_cmb k ns a ha, len_cmb j ns b hb]; omega), len_cmb k ns a ha, len_cmb j ns b hb]
      exact decide_eq_true h3
theorem allc_is {sns : List Str} {ms : List (List Str)} (hs : PyProof.Rows.sortedS sns = true) (hn : sns.Nodup) (hp : ms.Perm (subs sns)) (hm : Srtd ltN ms) : ms = allc sns := by
  have pw := allc_pw (sorted_pw hs hn)
  have nd : (allc sns).Nodup := pw.imp fun {a b} h e => by rw [e, ltN_irr] at h; cases h
  have pm : ms.Perm (allc sns) := hp.trans (List.perm_ext_iff_of_nodup (subs_nodup sns hn) nd |>.mpr fun c => (mem_subs sns c).trans mem_allc.symm)
  refine List.Perm.eq_of_pairwise (le := fun x y => ltN y x = false) (fun a b _ _ h1 h2 => ?_) hm (pw.imp fun {a b} h => ltN_asym h) pm
  rcases ltN_tri a b with q | q | q
  · rw [q] at h2; cases h2
  · exact q
  · rw [q] at h1; cases h1
end FL
/-! ## B4b -/
set_option Elab.async false
set_option linter.all false
set_option maxRecDepth 100000
set_option maxHeartbeats 4000000
namespace FL
open PySem L2 GxR SrtO
theorem sets_of {g : Gr} {sns : List Str} (pm : sns.Perm g.names) (sm : PyProof.Rows.sortedS sns = true) (nd : sns.Nodup) : IsSets g ((allc sns).filter (fitsB g.cls)) := by
  have pw := allc_pw (sorted_pw sm nd)
  have nd2 : (allc sns).Nodup := pw.imp fun {a b} h e => by rw [e, ltN_irr] at h; cases h
  exact ⟨sns, allc sns, pm, sm, ((List.perm_ext_iff_of_nodup (subs_nodup sns nd) nd2).mpr fun c => (mem_subs sns c).trans mem_allc.symm).symm, pw.imp fun {a b} h => ltN_asym h, rfl⟩
end FL
/-! ## B2 -/
set_option Elab.async false
set_option linter.all false
set_option maxRecDepth 100000
set_option maxHeartbeats 4000000
/-! all sets of names, as the program builds them -/
namespace FL
open PySem L2 GxR SrtO
theorem it_W {J : It} {n : Nat} {G : Hp → Prop} {Y : Nat → Hp → V → Hp → Prop} (w : Walk J n G Y) {B : (Hp → Prop) → V → Hp → Prop} {H0 : Hp} {Qd : Hp → Prop} (Pv : Nat → Hp → Prop) (h0 : Pv 0 H0) (hG : ∀ i H, i ≤ n → Pv i H → G H)
    (hs : ∀ i x H H', i < n → Pv i H → Y i H x H' → B (Pv (i + 1)) x H') (hd : ∀ H, Pv n H → Qd H) :
    ∃ W : Nat → Nat → Hp → Prop, (∃ m, W 0 m H0) ∧ ∀ i m H, W i m H → (J.stop i H ∧ Qd H) ∨ (J.go i H ∧ ∃ Nx : Hp → Prop, (∀ H', Nx H' → ∃ m', m' < m ∧ W (i + 1) m' H') ∧ ∀ x H', J.yld i H x H' → B Nx x H') := by
  refine ⟨fun i m H => m = n - i ∧ i ≤ n ∧ Pv i H, ⟨n, by simp, Nat.zero_le _, h0⟩, ?_⟩
  rintro i m H ⟨rfl, hi, p⟩
  have q := hG i H hi p
  by_cases hlt : i < n
  · refine .inr ⟨w.goes i H hlt q, Pv (i + 1), fun H' p' => ⟨n - (i + 1), by omega, rfl, hlt, p'⟩, fun x H' y => hs i x H H' hlt p (w.yields i H x H' hlt q y)⟩
  · have e : i = n := by omega
    subst e
    exact .inl ⟨w.stops H q, hd H p⟩
theorem cmb_map {α β : Type} (f : α → β) : ∀ (m : Nat) (xs : List α), cmb m (xs.map f) = (cmb m xs).map fun c => c.map f
  | 0, xs => by rw [cmb_zero, cmb_zero] <;> rfl
  | m + 1, [] => rfl
  | m + 1, x :: r => by
    show (cmb m (r.map f)).map (f x :: ·) ++ cmb (m + 1) (r.map f) = ((cmb m r).map (x :: ·) ++ cmb (m + 1) r).map _
    rw [cmb_map f m r, cmb_map f (m + 1) r, List.map_append, List.map_map, List.map_map] <;> rfl
def upto {α : Type} (ns : List α) (i : Nat) : List (List α) := (List.range i).flatMap fun k => cmb k ns
theorem upto_succ {α : Type} (ns : List α) (i : Nat) : upto ns (i + 1) = upto ns i ++ cmb i ns := by
  unfold upto
  rw [List.range_succ, List.flatMap_append] <;> simp
theorem upto_le {α : Type} (ns : List α) (i : Nat) : ∀ d, (upto ns i).length ≤ (upto ns (i + d)).length
  | 0 => Nat.le_refl _
  | d + 1 => by
    have := upto_le ns i d
    rw [show i + (d + 1) = i + d + 1 by omega, upto_succ, List.length_append]
    omega
theorem allc_len {sns : List Str} (hs : PyProof.Rows.sortedS sns = true) (hn : sns.Nodup) : (allc sns).length = 2 ^ sns.length := by
  have pw := allc_pw (sorted_pw hs hn)
  have nd : (allc sns).Nodup := pw.imp fun {a b} h e => by rw [e, ltN_irr] at h; cases h
  rw [← subs_len]
  exact ((List.perm_ext_iff_of_nodup (subs_nodup sns hn) nd).mpr fun c => (mem_subs sns c).trans mem_allc.symm).length_eq.symm
theorem upto_4096 {sns : List Str} (hs : PyProof.Rows.sortedS sns = true) (hn : sns.Nodup) (h12 : sns.length ≤ 12) {i : Nat} (hi : i ≤ sns.length + 1) : (upto sns i).length ≤ 4096 := by
  have h := upto_le sns i (sns.length + 1 - i)
  rw [show i + (sns.length + 1 - i) = sns.length + 1 by omega] at h
  refine Nat.le_trans h ?_
  show (allc sns).length ≤ 4096
  rw [allc_len hs hn]
  exact Nat.pow_le_pow_right (by decide) h12
section
variable {P : Program} {w : World} {K : PySem.W.Frag} {mg : Str → Option Value} {base : Heap}
def spAll (K : PySem.W.Frag) : Sp := fun vs H Q _ => ∃ (p : Addr) (ns : List Str), vs = [.ref p] ∧ SqL K H p (ns.map V.str) ∧ ns.length ≤ 12 ∧ ns.Nodup ∧ ∀ l as sns H', Same H H' → H l = none → H' l = some (.lst (as.map V.ref)) → sns.Perm ns → PyProof.Rows.sortedS sns = true → NlsA H' as (allc sns) → Q (.ref l) H'
end
end FL
/-! ## S6b -/
set_option Elab.async false
set_option linter.all false
set_option maxRecDepth 100000
set_option maxHeartbeats 4000000
namespace FL
open PySem L2 GxR SrtO
abbrev qSub : Str := ("_law_subsets" ++ ".<locals>." : Str) ++ "<lambda>"
section
variable {K : PySem.W.Frag} {LL LS L d : Addr} {Ps : List Addr} {H H' : Hp}
theorem tz_ownQ {q : Str} (t : LamX.TabS H LS q) : Tz LS q [] H := ⟨fun P hP => by
  rw [List.mem_singleton.mp hP]
  obtain ⟨ps, h1, h2, _⟩ := t
  exact ⟨ps, h1, h2⟩, t⟩
/-- what is not the table at LS stands -/
def Butl (LS : Addr) (H H' : Hp) : Prop := ∀ b o, b ≠ LS → H b = some o → H' b = some o
theorem Ez.butl {q : Str} (z : Ez LS q [] H H') : Butl LS H H' := fun b o n e => z.ex.same b o (fun h => n (List.mem_singleton.mp h)) e
theorem tabS_butl {P : Addr} {q q' : Str} (t : LamX.TabS H P q) (tl : LamX.TabS H LS q') (n : P ≠ LS) (x : Butl LS H H') : LamX.TabS H' P q := by
  obtain ⟨ps, h1, h2, h3⟩ := t
  obtain ⟨qs, g1, _⟩ := tl
  refine ⟨ps, x _ _ n h1, h2, fun pos cv hc => ?_⟩
  obtain ⟨c, e1, e2⟩ := h3 pos cv hc
  refine ⟨c, e1, x _ _ (fun z => ?_) e2⟩
  rw [z, g1] at e2
  unfold LamX.CodeO at e2
  cases e2
theorem Tz.butl {q q' : Str} (t : Tz L q Ps H) (tl : LamX.TabS H LS q') (n : LS ∉ L :: Ps) (x : Butl LS H H') : Tz L q Ps H' := by
  refine ⟨fun P hP => ?_, tabS_butl t.tl tl (fun z => n (z ▸ List.mem_cons_self)) x⟩
  obtain ⟨qs, z1, z2⟩ := t.tb P hP
  exact ⟨qs, x _ _ (fun z => n (z ▸ hP)) z1, z2⟩
/-- a law with lambdas whose sets come from a sort by a key -/
structure T6 (K : PySem.W.Frag) (LL LS L : Addr) (Ps : List Addr) (d : Addr) (H : Hp) : Prop extends T4 K LL L Ps d H where
  ts : LamX.TabS H LS qSub
theorem T6.ez (A : T6 K LL LS L Ps d H) (n : LL ∉ L :: Ps) (m : LS ∉ L :: Ps) (z : Ez L qMin Ps H H') : T6 K LL LS L Ps d H' := ⟨A.toT4.ez n z, tabS_ez A.ts A.tz m z⟩
theorem T6.same (A : T6 K LL LS L Ps d H) (n : LL ∉ L :: Ps) (m : LS ∉ L :: Ps) (s : Same H H') : T6 K LL LS L Ps d H' := A.ez n m (Ez.of_same A.tz s)
theorem T6.sameD (A : T6 K LL LS L Ps d H) (D : DiceAt K H' d) (s : SameD d H H') : T6 K LL LS L Ps d H' := by
  obtain ⟨_, _, _, _, _, e, _⟩ := id A.dc
  exact ⟨A.toT4.sameD D s, tabS_sameD A.ts e s⟩
theorem T6.lam (A : T6 K LL LS L Ps d H) (n : LL ∉ L :: Ps) (m : LL ≠ LS) (x : LamEx LL qLaw H H') : T6 K LL LS L Ps d H' := ⟨A.toT4.lam n x, tabS_butl A.ts A.tl (Ne.symm m) x.same⟩
theorem T6.sub (A : T6 K LL LS L Ps d H) (m : LS ∉ L :: Ps) (n : LL ≠ LS) (z : Ez LS qSub [] H H') : T6 K LL LS L Ps d H' :=
  ⟨⟨DiceAt.ez (tz_ownQ A.ts) z A.dc, A.tz.butl A.ts m z.butl, tabS_butl A.tl A.ts n z.butl⟩, z.tl⟩
end
section
variable {P : Program} {w : World} {K : PySem.W.Frag} {mg : Str → Option Value} {base : Heap}
def spSubs6 (K : PySem.W.Frag) (LS : Addr) : Sp := fun vs H Q _ => ∃ (v : V) (g : Gr), vs = [v] ∧ Dt K H v g.d ∧ g.opts.length ≤ 12 ∧ g.names.Nodup ∧ LamX.TabS H LS qSub ∧
  ∀ l as sns H', Ez LS qSub [] H H' → H l = none → H' l = some (.lst (as.map V.ref)) → sns.Perm g.names → PyProof.Rows.sortedS sns = true → NlsA H' as (allc sns) → Q (.ref l) H'
/-- the accepted sets, smaller first -/
def spSets6 (K : PySem.W.Frag) (LS : Addr) : Sp := fun vs H Q _ => ∃ (v : V) (g : Gr), vs = [v] ∧ Dt K H v g.d ∧ g.opts.length ≤ 12 ∧ g.names.Nodup ∧ LamX.TabS H LS qSub ∧
  ∀ l as nss H', Ez LS qSub [] H H' → H l = none → H' l = some (.lst (as.map V.ref)) → NlsA H' as nss → IsSets g nss → nss.length ≤ 4096 → Q (.ref l) H'
end
end FL
/-! ## X4n -/
set_option Elab.async false
set_option linter.all false
set_option maxRecDepth 100000
set_option maxHeartbeats 4000000
/-! names that are given: check_names -/
namespace FL
open PySem L2 GxR SrtO
section
variable {P : Program} {w : World} {K : PySem.W.Frag} {mg : Str → Option Value} {base : Heap}
theorem seqTy {H : Hp} {a : Addr} {xs : List V} (h : SqS K H a xs) : ∃ n : String, (n = "list" ∨ n = "tuple") ∧ TyX K H (.ref a) (.type n) := by
  rcases h with ((s | ⟨o, s⟩) | ⟨o, its, n, e, c, _⟩) | ((s | ⟨o, s⟩) | ⟨o, its, n, e, c, _⟩)
  · exact ⟨_, .inl rfl, .base (.lst s)⟩
  · exact ⟨_, .inl rfl, .base (.frz s)⟩
  · exact ⟨_, .inl rfl, .kList e c⟩
  · exact ⟨_, .inr rfl, .base (.tup s)⟩
  · exact ⟨_, .inr rfl, .fTuple s⟩
  · exact ⟨_, .inr rfl, .kTuple e c⟩
theorem seq_any {n : String} (h : n = "list" ∨ n = "tuple") : PySem.W.kitAny K (.type n) [.type "list", .type "tuple"] = some true := by
  have k1 : ∀ a b c, kitB a b = some c → PySem.W.kitOne K (.type a) (.type b) = some c := fun a b c h => kit_ty h
  rcases h with rfl | rfl
  · unfold PySem.W.kitAny
    rw [k1 "list" "list" true (by decide +kernel)]
  · unfold PySem.W.kitAny
    rw [k1 "tuple" "list" false (by decide +kernel)]
    unfold PySem.W.kitAny
    rw [k1 "tuple" "tuple" true (by decide +kernel)]
def spCkNames (K : PySem.W.Frag) (CN : Addr) : Sp := fun vs H Q E => ∃ (n a : Addr) (ns : List Str) (xs : List V), vs = [.ref n, .ref a] ∧ SqL K H n (ns.map V.str) ∧ SqS K H a xs ∧ xs.all flatV = true ∧
  ((∀ x ∈ xs, inV x (ns.map V.str) = true) → ∀ H', Same H H' → Q .non H') ∧
  (∀ i x, xs[i]? = some x → (∀ y ∈ xs.take i, inV y (ns.map V.str) = true) → inV x (ns.map V.str) = false → ∀ d H', Same H H' → H' d = none → E (.ref CN) (some d) (upd H' d (.xd [("name", x)])))
end
end FL
/-! ## X4 -/
set_option Elab.async false
set_option linter.all false
set_option maxRecDepth 100000
set_option maxHeartbeats 4000000
/-! names that are given -/
namespace FL
open PySem L2 GxR SrtO
section
variable {P : Program} {w : World} {K : PySem.W.Frag} {mg : Str → Option Value} {base : Heap}
end
end FL
/-! ## X5a -/
set_option Elab.async false
set_option linter.all false
set_option maxRecDepth 100000
set_option maxHeartbeats 4000000
/-! what given options decide -/
namespace FL
open PySem L2 GxR SrtO
abbrev lits (t : Bool) (ns : List Str) : List Lit := ns.map fun n => (n, t)
section
variable {P : Program} {w : World} {K : PySem.W.Frag} {mg : Str → Option Value} {base : Heap}
def spGiven (K : PySem.W.Frag) : Sp := fun vs H Q _ => ∃ (a : Addr) (ns : List Str), vs = [.ref a] ∧ SqS K H a (ns.map V.str) ∧ ns.length ≤ 50 ∧ ∀ l as H', Same H H' → H l = none → H' l = some (.lst (as.map V.ref)) → LitsA K H' as (lits true ns) → Q (.ref l) H'
theorem LitsA.neg_tup {H : Hp} {n : Str} {t : Addr} (h : SqT K H t (litV (n, true))) : SqT K H t (litV (n, true)) := h
def spConflict (K : PySem.W.Frag) (L : Addr) (Ps : List Addr) : Sp := fun vs H Q _ => ∃ (v : V) (a : Addr) (cs : List Cl) (ns : List Str), vs = [v, .ref a] ∧ Dt K H v (.tuple (cs.map Cl.d)) ∧ cs.length ≤ 60 ∧ SqS K H a (ns.map V.str) ∧ ns.length ≤ 50 ∧ Tz L qMin Ps H ∧
  ∀ y H', Ez L qMin Ps H H' → ChainAt K H' (edges cs) (lits true ns) (lits false ns) y → Q y H'
end
end FL
/-! ## X5 -/
set_option Elab.async false
set_option linter.all false
set_option maxRecDepth 100000
set_option maxHeartbeats 4000000
/-! what given options decide -/
namespace FL
open PySem L2 GxR SrtO
section
variable {P : Program} {w : World} {K : PySem.W.Frag} {mg : Str → Option Value} {base : Heap}
/-- the chain that decides about an option that is not given -/
def ExplAt (K : PySem.W.Frag) (H : Hp) (es : List Edge) (ns : List Str) (n : Str) (y : V) : Prop :=
  (y = .non ∧ (∀ c, ¬ ∃ g ∈ [((n, true) : Lit)], Pth es (· ∈ lits true ns ++ [(n, false)]) c g) ∧ ∀ c, ¬ ∃ g ∈ [((n, false) : Lit)], Pth es (· ∈ lits true ns ++ [(n, true)]) c g) ∨
  (∃ ch a bs, y = .ref a ∧ Least es (lits true ns ++ [(n, false)]) [(n, true)] ch ∧ H a = some (.lst (bs.map V.ref)) ∧ LitsA K H bs ch) ∨
  ((∀ c, ¬ ∃ g ∈ [((n, true) : Lit)], Pth es (· ∈ lits true ns ++ [(n, false)]) c g) ∧ ∃ ch a bs, y = .ref a ∧ Least es (lits true ns ++ [(n, true)]) [(n, false)] ch ∧ H a = some (.lst (bs.map V.ref)) ∧ LitsA K H bs ch)
def spExpl (K : PySem.W.Frag) (L : Addr) (Ps : List Addr) : Sp := fun vs H Q _ => ∃ (v : V) (a : Addr) (cs : List Cl) (ns : List Str) (n : Str), vs = [v, .ref a, .str n] ∧ Dt K H v (.tuple (cs.map Cl.d)) ∧ cs.length ≤ 60 ∧ SqS K H a (ns.map V.str) ∧ ns.length ≤ 50 ∧ Tz L qMin Ps H ∧
  (n ∈ ns → Q .non H) ∧ (n ∉ ns → ∀ y H', Ez L qMin Ps H H' → ExplAt K H' (edges cs) ns n y → Q y H')
end
end FL
/-! ## X5d -/
set_option Elab.async false
set_option linter.all false
set_option maxRecDepth 100000
set_option maxHeartbeats 4000000
/-! the verdicts -/
namespace FL
open PySem L2 GxR SrtO
/-- a chain from the given options or the contrary to the literal -/
def Forced (es : List Edge) (ns : List Str) (l : Lit) : Prop := ∃ c, ∃ g ∈ [l], Pth es (· ∈ lits true ns ++ [neg l]) c g
/-- the word about an option -/
def Verd (es : List Edge) (ns : List Str) (n : Str) (x : Str) : Prop := (n ∈ ns ∧ x = "given") ∨ (n ∉ ns ∧ ((¬ Forced es ns (n, true) ∧ ¬ Forced es ns (n, false) ∧ x = "possible") ∨ (Forced es ns (n, true) ∧ x = "required") ∨ (¬ Forced es ns (n, true) ∧ Forced es ns (n, false) ∧ x = "impossible")))
theorem Verd.uniq {es : List Edge} {ns : List Str} {n x y : Str} (h1 : Verd es ns n x) (h2 : Verd es ns n y) : x = y := by
  rcases h1 with ⟨a, rfl⟩ | ⟨a, ⟨b, c, rfl⟩ | ⟨b, rfl⟩ | ⟨b, c, rfl⟩⟩ <;> rcases h2 with ⟨a', rfl⟩ | ⟨a', ⟨b', c', rfl⟩ | ⟨b', rfl⟩ | ⟨b', c', rfl⟩⟩ <;> first | rfl | exact absurd a a' | exact absurd a' a | exact absurd b' b | exact absurd b b' | exact absurd c' c | exact absurd c c'
section
variable {K : PySem.W.Frag}
/-- a dict comprehension over what walks -/
theorem dc_it {J : It} {n : Nat} {G : Hp → Prop} {Y : Nat → Hp → V → Hp → Prop} (wk : Walk J n G Y) {g : TG} {tt : TT} {tk tv : TE} {vs : List Nat} {σ : L2.St} {H1 : Hp} {D : Addr} {Qd : Hp → Prop} (Pv : Nat → Hp → Prop) (h0 : Pv 0 (upd H1 D (.dK []))) (hG : ∀ i H, i ≤ n → Pv i H → G H)
    (st : ∀ i x H H', i < n → Pv i H → Y i H x H' → g x (wipe σ vs) H' fun σ2 H2 => wipe σ2 vs = wipe σ vs ∧ tt σ2 H2 fun b H3 =>
      if b = true then tk σ2 H3 fun y H4 => tv σ2 H4 fun z H5 => ∃ kvs k, y = kV k ∧ H5 D = some (.dK kvs) ∧ kvs.length < sizeLine ∧ Pv (i + 1) (upd H5 D (.dK (putK kvs k z))) else Pv (i + 1) H3) (hd : ∀ H, Pv n H → Qd H) :
    ∃ W : Nat → Nat → Hp → Prop, (∃ m, W 0 m (upd H1 D (.dK []))) ∧ ∀ i m H, W i m H →
      (J.stop i H ∧ Qd H) ∨ (J.go i H ∧ ∃ Nx : Hp → Prop, (∀ H', Nx H' → ∃ m', m' < m ∧ W (i + 1) m' H') ∧ ∀ x H', J.yld i H x H' → g x (wipe σ vs) H' fun σ2 H2 => wipe σ2 vs = wipe σ vs ∧ tt σ2 H2 fun b H3 =>
        if b = true then tk σ2 H3 fun y H4 => tv σ2 H4 fun z H5 => ∃ kvs k, y = kV k ∧ H5 D = some (.dK kvs) ∧ kvs.length < sizeLine ∧ Nx (upd H5 D (.dK (putK kvs k z))) else Nx H3) := by
  refine ⟨fun i m H => m = n - i ∧ i ≤ n ∧ Pv i H, ⟨n - 0, rfl, Nat.zero_le _, h0⟩, fun i m H ⟨em, hi, p⟩ => ?_⟩
  subst em
  rcases Nat.lt_or_ge i n with lt | ge
  · exact .inr ⟨wk.goes i H lt (hG i H hi p), Pv (i + 1), fun H' p' => ⟨n - (i + 1), by omega, rfl, lt, p'⟩, fun x H' y => st i x H H' lt p (wk.yields i H x H' lt (hG i H hi p) y)⟩
  · obtain rfl : i = n := Nat.le_antisymm hi ge
    exact .inl ⟨wk.stops H (hG _ H hi p), hd H p⟩
end
end FL
/-! ## X3 -/
set_option Elab.async false
set_option linter.all false
set_option maxRecDepth 100000
set_option maxHeartbeats 4000000
/-! the error of a conflict, and that of no set -/
namespace FL
open PySem L2 GxR SrtO
section
variable {P : Program} {w : World} {K : PySem.W.Frag} {mg : Str → Option Value} {base : Heap}
end
end FL
/-! ## X6c -/
set_option Elab.async false
set_option linter.all false
set_option maxRecDepth 100000
set_option maxHeartbeats 4000000
/-! the verdicts -/
namespace FL
open PySem L2 GxR SrtO
section
variable {P : Program} {w : World} {K : PySem.W.Frag} {mg : Str → Option Value} {base : Heap}
def spCkGiven (K : PySem.W.Frag) (L : Addr) (Ps : List Addr) (CU CC : Addr) : Sp := fun vs H Q E => ∃ (v : V) (a : Addr) (g : Gr) (ns : List Str), vs = [v, .ref a] ∧ Dt K H v g.d ∧ GrOk g ∧ SqS K H a (ns.map V.str) ∧ ns.length ≤ 50 ∧ (∀ n ∈ ns, n ∈ g.names) ∧ Tz L qMin Ps H ∧
  ((∃ n ∈ g.names, Both g.cls n) → ∀ H', Ez L qMin Ps H H' → E (.ref CU) none H') ∧
  ((∀ n ∈ g.names, ¬ Both g.cls n) → (∀ ch t bs d H', Ez L qMin Ps H H' → Least (edges g.cls) (lits true ns) (lits false ns) ch → SqT K H' t (bs.map V.ref) → LitsA K H' bs ch → H' d = none → E (.ref CC) (some d) (upd H' d (.xd [("chain", .ref t)]))) ∧
    ((∀ c, ¬ ∃ m ∈ lits false ns, Pth (edges g.cls) (· ∈ lits true ns) c m) → ∀ H', Ez L qMin Ps H H' → Q .non H'))
end
end FL
/-! ## X6 -/
set_option Elab.async false
set_option linter.all false
set_option maxRecDepth 100000
set_option maxHeartbeats 4000000
/-! the verdicts -/
namespace FL
open PySem L2 GxR SrtO
section
variable {P : Program} {w : World} {K : PySem.W.Frag} {mg : Str → Option Value} {base : Heap}
def spVerd (K : PySem.W.Frag) (L : Addr) (Ps : List Addr) : Sp := fun vs H Q _ => ∃ (v : V) (a : Addr) (cs : List Cl) (ns : List Str) (n : Str), vs = [v, .ref a, .str n] ∧ Dt K H v (.tuple (cs.map Cl.d)) ∧ cs.length ≤ 60 ∧ SqS K H a (ns.map V.str) ∧ ns.length ≤ 50 ∧ Tz L qMin Ps H ∧ okL (n, true) ∧
  ∀ x H', Ez L qMin Ps H H' → Verd (edges cs) ns n x → Q (.str x) H'
end
end FL
/-! ## X6b -/
set_option Elab.async false
set_option linter.all false
set_option maxRecDepth 100000
set_option maxHeartbeats 4000000
namespace FL
open PySem L2 GxR SrtO
theorem Ez.dK {L : Addr} {q : Str} {Ps : List Addr} {H H' : Hp} {p : Addr} {kvs : List (L2.Key × V)} (t : Tz L q Ps H) (z : Ez L q Ps H H') (h : H p = some (.dK kvs)) : H' p = some (.dK kvs) := z.ex.same _ _ (t.tb.no h (fun _ z => by cases z)) h
theorem Ez.wrD {L : Addr} {q : Str} {Ps : List Addr} {H H1 : Hp} {p : Addr} {o : HO} {kvs : List (L2.Key × V)} (a : Ez L q Ps H H1) (h : H p = none) (e : H1 p = some (.dK kvs)) : Ez L q Ps H (L2.upd H1 p o) := by
  refine ⟨a.ex.wr h (a.ex.tb.no e (fun _ z => by cases z)), ?_⟩
  obtain ⟨ps, h1, h2, h3⟩ := a.tl
  refine ⟨ps, by rw [upd_ne (fun z => by rw [z, e] at h1; cases h1)]; exact h1, h2, fun pos cv hc => ?_⟩
  obtain ⟨c, e1, e2⟩ := h3 pos cv hc
  refine ⟨c, e1, ?_⟩
  rw [upd_ne (fun z => ?_)]
  · exact e2
  · rw [z, e] at e2
    unfold LamX.CodeO at e2
    cases e2
/-- the dict of the words, in the names' order -/
abbrev VDict (es : List Edge) (ns : List Str) : List (L2.Key × V) → List Str → Prop := Paired fun kv n => ∃ x, kv = (.inr n, .str x) ∧ Verd es ns n x
theorem VDict.val {es : List Edge} {ns : List Str} : ∀ {kvs : List (L2.Key × V)} {names : List Str} {n : Str}, VDict es ns kvs names → n ∉ names → valV kvs (Sum.inr n) = none
  | _, _, _, .nil, _ => rfl
  | _, _, n, .cons ⟨x, e, _⟩ t, h => by
    rw [e, valV_neg (fun z => h (by rw [← Sum.inr.inj z]; exact List.mem_cons_self))]
    exact VDict.val t fun z => h (List.mem_cons_of_mem _ z)
theorem VDict.uniq {es : List Edge} {ns : List Str} : ∀ {k1 k2 : List (L2.Key × V)} {names : List Str}, VDict es ns k1 names → VDict es ns k2 names → k1 = k2
  | _, _, _, .nil, .nil => rfl
  | _, _, _, .cons ⟨x, e, h⟩ t, .cons ⟨y, e', h'⟩ t' => by rw [e, e', h.uniq h', VDict.uniq t t']
section
variable {P : Program} {w : World} {K : PySem.W.Frag} {mg : Str → Option Value} {base : Heap}
def spVerdicts (K : PySem.W.Frag) (L : Addr) (Ps : List Addr) (CU CC : Addr) : Sp := fun vs H Q E => ∃ (v : V) (a : Addr) (g : Gr) (ns : List Str), vs = [v, .ref a] ∧ Dt K H v g.d ∧ GrOk g ∧ SqS K H a (ns.map V.str) ∧ ns.length ≤ 50 ∧ (∀ n ∈ ns, n ∈ g.names) ∧ Tz L qMin Ps H ∧
  ((∃ n ∈ g.names, Both g.cls n) → ∀ H', Ez L qMin Ps H H' → E (.ref CU) none H') ∧
  ((∀ n ∈ g.names, ¬ Both g.cls n) → (∀ ch t bs d H', Ez L qMin Ps H H' → Least (edges g.cls) (lits true ns) (lits false ns) ch → SqT K H' t (bs.map V.ref) → LitsA K H' bs ch → H' d = none → E (.ref CC) (some d) (upd H' d (.xd [("chain", .ref t)]))) ∧
    ((∀ c, ¬ ∃ m ∈ lits false ns, Pth (edges g.cls) (· ∈ lits true ns) c m) → ∀ D kvs H', Ez L qMin Ps H H' → H' D = some (.dK kvs) → VDict (edges g.cls) ns kvs g.names → Q (.ref D) H'))
end
end FL
/-! ## EV -/
set_option Elab.async false
set_option linter.all false
set_option maxRecDepth 100000
set_option maxHeartbeats 4000000
/-! what a step of a law leaves -/
namespace FL
open PySem L2 GxR SrtO
/-- tuples stand, lists without ints, dicts, and tables' objects -/
structure Ev (K : PySem.W.Frag) (H H' : Hp) : Prop where
  ts : TS K H H'
  lst : ∀ {b : Addr} {xs : List V}, (∀ y ∈ xs, ∀ i, y ≠ V.int i) → H b = some (.lst xs) → H' b = some (.lst xs)
  dk : ∀ {b : Addr} {kvs : List (L2.Key × V)}, H b = some (.dK kvs) → H' b = some (.dK kvs)
section
variable {K : PySem.W.Frag} {LL LS L d : Addr} {Ps : List Addr} {H H1 H' : Hp}
theorem Ev.refl : Ev K H H := ⟨TS.refl K H, fun _ h => h, fun h => h⟩
theorem Ev.trans (a : Ev K H H1) (b : Ev K H1 H') : Ev K H H' := ⟨TS.trans a.ts b.ts, fun n h => b.lst n (a.lst n h), fun h => b.dk (a.dk h)⟩
theorem Ev.same (s : Same H H') : Ev K H H' := ⟨TS.same s, fun _ h => s _ _ h, fun h => s _ _ h⟩
theorem Ev.ez {q : Str} (t : Tz L q Ps H) (z : Ez L q Ps H H') : Ev K H H' := ⟨z.ts t, fun _ h => z.lst t h, fun h => z.dK t h⟩
theorem Ev.sameD (D : DiceAt K H d) (s : SameD d H H') : Ev K H H' := ⟨s.ts D.loose, fun n h => s _ _ (D.ne h n) h, fun h => s _ _ (fun z => by
  obtain ⟨_, _, _, _, _, e, _⟩ := D
  rw [z, e] at h
  cases h) h⟩
theorem Ev.nls (e : Ev K H H') {as : List Addr} {nss : List (List Str)} (h : NlsA H as nss) : NlsA H' as nss := Paired.mapP h fun _ _ z => e.lst noInt_str z
theorem Ev.dt (e : Ev K H H') {v : V} {x : PyData} (h : Dt K H v x) : Dt K H' v x := h.mono e.ts
theorem Ev.strs (e : Ev K H H') {a : Addr} {ns : List Str} (h : H a = some (.lst (ns.map V.str))) : H' a = some (.lst (ns.map V.str)) := e.lst noInt_str h
theorem Ev.refs (e : Ev K H H') {a : Addr} {as : List Addr} (h : H a = some (.lst (as.map V.ref))) : H' a = some (.lst (as.map V.ref)) := e.lst noInt_ref h
theorem Ev.sqS (e : Ev K H H') {a : Addr} {ns : List Str} (h : H a = some (.lst (ns.map V.str))) : SqS K H' a (ns.map V.str) := .inl (SqL.of (e.strs h))
/-- what a turn has at hand; the tables are different ones -/
structure T8 (K : PySem.W.Frag) (LL LS L : Addr) (Ps : List Addr) (d : Addr) (H : Hp) : Prop where
  t : T6 K LL LS L Ps d H
  n1 : LL ∉ L :: Ps
  n2 : LS ∉ L :: Ps
  n3 : LL ≠ LS
theorem T8.dc (A : T8 K LL LS L Ps d H) : DiceAt K H d := A.t.dc
theorem T8.tz (A : T8 K LL LS L Ps d H) : Tz L qMin Ps H := A.t.tz
theorem T8.tl (A : T8 K LL LS L Ps d H) : LamX.TabS H LL qLaw := A.t.tl
theorem T8.ts (A : T8 K LL LS L Ps d H) : LamX.TabS H LS qSub := A.t.ts
theorem T8.ez (A : T8 K LL LS L Ps d H) (z : Ez L qMin Ps H H') : T8 K LL LS L Ps d H' ∧ Ev K H H' := ⟨⟨A.t.ez A.n1 A.n2 z, A.n1, A.n2, A.n3⟩, .ez A.tz z⟩
theorem T8.same (A : T8 K LL LS L Ps d H) (s : Same H H') : T8 K LL LS L Ps d H' ∧ Ev K H H' := ⟨⟨A.t.same A.n1 A.n2 s, A.n1, A.n2, A.n3⟩, .same s⟩
theorem T8.sameD (A : T8 K LL LS L Ps d H) (D : DiceAt K H' d) (s : SameD d H H') : T8 K LL LS L Ps d H' ∧ Ev K H H' := ⟨⟨A.t.sameD D s, A.n1, A.n2, A.n3⟩, .sameD A.dc s⟩
theorem T8.lam (A : T8 K LL LS L Ps d H) (x : LamEx LL qLaw H H') : T8 K LL LS L Ps d H' ∧ Ev K H H' := ⟨⟨A.t.lam A.n1 A.n3 x, A.n1, A.n2, A.n3⟩, .ez (tz_own A.tl) (Ez.of_lam (tz_own A.tl) x)⟩
theorem T8.sub (A : T8 K LL LS L Ps d H) (z : Ez LS qSub [] H H') : T8 K LL LS L Ps d H' ∧ Ev K H H' := ⟨⟨A.t.sub A.n2 A.n3 z, A.n1, A.n2, A.n3⟩, .ez (tz_ownQ A.ts) z⟩
theorem T8.start (dc : DiceAt K H d) (hT : ∀ P, P ∈ LL :: L :: (Ps ++ [LS]) → H P = some (.tbl #[])) (n1 : LL ∉ L :: Ps) (n2 : LS ∉ L :: Ps) (n3 : LL ≠ LS) : T8 K LL LS L Ps d H :=
  ⟨⟨⟨dc, ⟨fun P hP => ⟨#[], hT P (List.mem_cons_of_mem _ (by rcases List.mem_cons.mp hP with h | h; exact h ▸ List.mem_cons_self; exact List.mem_cons_of_mem _ (List.mem_append_left _ h))), trivial⟩, LamX.TabS.nil (hT L (List.mem_cons_of_mem _ List.mem_cons_self))⟩, LamX.TabS.nil (hT LL List.mem_cons_self)⟩, LamX.TabS.nil (hT LS (List.mem_cons_of_mem _ (List.mem_cons_of_mem _ (List.mem_append_right _ List.mem_cons_self))))⟩, n1, n2, n3⟩
/-- the same without a sort by a key -/
structure T9 (K : PySem.W.Frag) (LL L : Addr) (Ps : List Addr) (d : Addr) (H : Hp) : Prop where
  t : T4 K LL L Ps d H
  n1 : LL ∉ L :: Ps
theorem T9.dc (A : T9 K LL L Ps d H) : DiceAt K H d := A.t.dc
theorem T9.tz (A : T9 K LL L Ps d H) : Tz L qMin Ps H := A.t.tz
theorem T9.tl (A : T9 K LL L Ps d H) : LamX.TabS H LL qLaw := A.t.tl
theorem T9.ez (A : T9 K LL L Ps d H) (z : Ez L qMin Ps H H') : T9 K LL L Ps d H' ∧ Ev K H H' := ⟨⟨A.t.ez A.n1 z, A.n1⟩, .ez A.tz z⟩
theorem T9.same (A : T9 K LL L Ps d H) (s : Same H H') : T9 K LL L Ps d H' ∧ Ev K H H' := ⟨⟨A.t.same A.n1 s, A.n1⟩, .same s⟩
theorem T9.sameD (A : T9 K LL L Ps d H) (D : DiceAt K H' d) (s : SameD d H H') : T9 K LL L Ps d H' ∧ Ev K H H' := ⟨⟨A.t.sameD D s, A.n1⟩, .sameD A.dc s⟩
theorem T9.lam (A : T9 K LL L Ps d H) (x : LamEx LL qLaw H H') : T9 K LL L Ps d H' ∧ Ev K H H' := ⟨⟨A.t.lam A.n1 x, A.n1⟩, .ez (tz_own A.tl) (Ez.of_lam (tz_own A.tl) x)⟩
theorem T9.start (dc : DiceAt K H d) (hT : ∀ P, P ∈ LL :: L :: Ps → H P = some (.tbl #[])) (n1 : LL ∉ L :: Ps) : T9 K LL L Ps d H :=
  ⟨⟨dc, ⟨fun P hP => ⟨#[], hT P (List.mem_cons_of_mem _ hP), trivial⟩, LamX.TabS.nil (hT L (List.mem_cons_of_mem _ List.mem_cons_self))⟩, LamX.TabS.nil (hT LL List.mem_cons_self)⟩, n1⟩
theorem T9.put {l : Addr} {xs ys : List V} (A : T9 K LL L Ps d H) (e : H l = some (.lst xs)) (n : ∀ y ∈ xs, ∀ i, y ≠ V.int i) : T9 K LL L Ps d (upd H l (.lst ys)) :=
  ⟨⟨A.dc.wr (Ne.symm (A.dc.ne e n)) (Loose.lst e), A.tz.sameD e sameD_upd, tabS_sameD A.tl e sameD_upd⟩, A.n1⟩
/-- a list is written, one without ints -/
theorem T8.put {l : Addr} {xs ys : List V} (A : T8 K LL LS L Ps d H) (e : H l = some (.lst xs)) (n : ∀ y ∈ xs, ∀ i, y ≠ V.int i) : T8 K LL LS L Ps d (upd H l (.lst ys)) :=
  ⟨⟨⟨A.dc.wr (Ne.symm (A.dc.ne e n)) (Loose.lst e), A.tz.sameD e sameD_upd, tabS_sameD A.tl e sameD_upd⟩, tabS_sameD A.ts e sameD_upd⟩, A.n1, A.n2, A.n3⟩
/-- as Ev, but for some lists -/
structure EvL (K : PySem.W.Frag) (S : Addr → Prop) (H H' : Hp) : Prop where
  ts : TS K H H'
  lst : ∀ {b : Addr} {xs : List V}, ¬ S b → (∀ y ∈ xs, ∀ i, y ≠ V.int i) → H b = some (.lst xs) → H' b = some (.lst xs)
  dk : ∀ {b : Addr} {kvs : List (L2.Key × V)}, H b = some (.dK kvs) → H' b = some (.dK kvs)
theorem Ev.l {S : Addr → Prop} (e : Ev K H H') : EvL K S H H' := ⟨e.ts, fun _ => e.lst, e.dk⟩
theorem EvL.trans {S : Addr → Prop} (a : EvL K S H H1) (b : EvL K S H1 H') : EvL K S H H' := ⟨TS.trans a.ts b.ts, fun s n h => b.lst s n (a.lst s n h), fun h => b.dk (a.dk h)⟩
theorem EvL.put {S : Addr → Prop} {l : Addr} {xs ys : List V} (e : H l = some (.lst xs)) (h : S l) : EvL K S H (upd H l (.lst ys)) := ⟨TS.put e, fun {b _} s _ z => by rw [upd_ne (show b ≠ l from fun q => s (by rw [q]; exact h))]; exact z, fun {b _} z => by
  rw [upd_ne (show b ≠ l from fun q => by rw [q, e] at z; cases z)]
  exact z⟩
theorem EvL.nls {S : Addr → Prop} (e : EvL K S H H') : ∀ {as : List Addr} {nss : List (List Str)}, (∀ a ∈ as, ¬ S a) → NlsA H as nss → NlsA H' as nss
  | _, _, _, .nil => .nil
  | _, _, n, .cons a t => .cons (e.lst (n _ List.mem_cons_self) noInt_str a) (EvL.nls e (fun b hb => n b (List.mem_cons_of_mem _ hb)) t)
/-- l == [], l != [] -/
theorem te_eqE {i : Nat} {σ : L2.St} {Q : VK} {l : Addr} {xs : List V} (hi : σ[i]? = some (some (.ref l))) (el : H l = some (.lst xs)) (k : ∀ H', Same H H' → Q (.bl xs.isEmpty) H') : tOp (rEqEmp K) (tVar i) (tLst tNil) σ H Q :=
  ⟨_, hi, Nat.zero_le _, fun z hz => ⟨l, z, xs, rfl, rfl, SqL.of (Same.new hz _ _ el), SqL.of upd_same, k _ (Same.new hz)⟩⟩
theorem te_neE {i : Nat} {σ : L2.St} {Q : VK} {l : Addr} {xs : List V} (hi : σ[i]? = some (some (.ref l))) (el : H l = some (.lst xs)) (k : ∀ H', Same H H' → Q (.bl !xs.isEmpty) H') : tOp (rNeEmp K) (tVar i) (tLst tNil) σ H Q :=
  ⟨_, hi, Nat.zero_le _, fun z hz => ⟨l, z, xs, rfl, rfl, SqL.of (Same.new hz _ _ el), SqL.of upd_same, k _ (Same.new hz)⟩⟩
theorem eqE_of {σ : L2.St} {Q : VK} {l : Addr} {xs : List V} (el : H l = some (.lst xs)) (k : ∀ H', Same H H' → Q (.bl xs.isEmpty) H') : tLst tNil σ H (fun y H2 => rEqEmp K (.ref l) y H2 Q) :=
  ⟨Nat.zero_le _, fun z hz => ⟨l, z, xs, rfl, rfl, SqL.of (Same.new hz _ _ el), SqL.of upd_same, k _ (Same.new hz)⟩⟩
theorem neE_of {σ : L2.St} {Q : VK} {l : Addr} {xs : List V} (el : H l = some (.lst xs)) (k : ∀ H', Same H H' → Q (.bl !xs.isEmpty) H') : tLst tNil σ H (fun y H2 => rNeEmp K (.ref l) y H2 Q) :=
  ⟨Nat.zero_le _, fun z hz => ⟨l, z, xs, rfl, rfl, SqL.of (Same.new hz _ _ el), SqL.of upd_same, k _ (Same.new hz)⟩⟩
end
end FL
/-! ## MS2 -/
set_option Elab.async false
set_option linter.all false
set_option maxRecDepth 100000
set_option maxHeartbeats 4000000
/-! the lexer: shortest_text, check_tokens -/
namespace FL
open PySem L2 GxR SrtO
abbrev sShortestText : Stmt := top 18
theorem scShortestText : FnScope ["texts"] ["texts"] (defScope sShortestText) := ⟨rfl, rfl, rfl, by decide +kernel, rfl, by decide +kernel, by decide +kernel⟩
abbrev sCheckTokens : Stmt := top 12
theorem scCheckTokens : FnScope ["tokens", "index", "token"] ["tokens"] (defScope sCheckTokens) := ⟨rfl, rfl, rfl, by decide +kernel, rfl, by decide +kernel, by decide +kernel⟩
abbrev qSt : Str := ("shortest_text" ++ ".<locals>." : Str) ++ "<lambda>"
structure TxQ (mg : Str → Option Value) : Prop extends TxT mg where
  cSPECIAL_CHARACTERS : GS mg "SPECIAL_CHARACTERS" (tS [32, 34, 39, 92])
section
variable {P : Program} {w : World} {K : PySem.W.Frag} {mg : Str → Option Value} {base : Heap}
def spShT (L : Addr) (Ps : List Addr) : Sp := fun vs H Q _ => ∃ (l : Addr) (a : List Nat) (zs : List (List Nat)), vs = [.ref l] ∧ H l = some (.lst (((a :: zs).map tS).map V.str)) ∧ (∀ z ∈ a :: zs, z.length ≤ 100000) ∧ Tz L qSt Ps H ∧ ∀ H', Ez L qSt Ps H H' → Q (.str (tS (minC a zs))) H'
theorem ok_shT {Ps : List Addr} {c L : Addr} (D : DnC K mg "shortest_text" sShortestText ["texts"] c) (T : TxT mg) (hMin : mg "min" = none) (TB : LamX.TabB base mg c L) : Ok P w K mg base CX0 4 "shortest_text" ["texts"] (spShT L Ps) := by
  refine D.ok scShortestText (fun vs H Q E h => ?_) (fun f A outer s H vs Q E hr h => ?_)
  · obtain ⟨l, a, zs, rfl, _⟩ := h
    rfl
  · obtain ⟨l, a, zs, rfl, el, hz, tz, k⟩ := h
    refine ⟨_, (pss_one (ps_ret (pe_minLamS (q := qSt) (N := ["text"]) (x := "text") hr rfl (by rfl) hMin (pa_cons (pv 0) pa_nil) TB rfl rfl ⟨rfl, rfl, rfl, by decide +kernel, rfl, by decide +kernel, by decide +kernel⟩ rfl (fun _ _ _ _ _ _ => rfl) (fun f c A s H st hr2 => by exact (pe_tup (pa_cons (pe_callB call_len_str (by rfl) T.len PySem.boot_len (pa_cons (pv 0) pa_nil)) (pa_cons (pv 0) pa_nil)))) (fun z H Q h hz => by exact ⟨_, rfl, z, rfl, hz, _, rfl, by show 2 ≤ sizeLine; decide, h⟩)))), ?_⟩
    refine ⟨_, rfl, l, (a :: zs).map tS, rfl, el, by simp, fun z hz' => ?_, tz.tl, fun H2 x2 H3 s3 => ?_⟩
    · obtain ⟨y, hy, rfl⟩ := List.mem_map.mp hz'
      rw [show (tS y).length = y.length by simp [tS, Str.length]]
      exact Nat.le_trans (hz y hy) (by decide)
    · rw [minB_tS]
      have z2 := Ez.of_lam tz x2
      exact k H3 (z2.trans (Ez.of_same z2.tz s3))
theorem lenQ (cs : List Nat) : (tS cs).length = cs.length := by simp [tS, Str.length]
def spCkT (K : PySem.W.Frag) (Ps : List Addr) : Sp := fun vs H Q _ => ∃ (l : Addr) (zs : List (List Nat)), vs = [.ref l] ∧ H l = some (.lst ((zs.map tS).map V.str)) ∧ (∀ z ∈ zs, z.length ≤ 200 ∧ ∀ c ∈ z, c ∈ lineCs) ∧ Tb Ps H ∧ ∀ H', Ex Ps H H' → Q .non H'
theorem tokB_tS {z : List Nat} (h : z.length ≤ 200 ∧ ∀ c ∈ z, c ∈ lineCs) : tokB (.str (tS z)) = true := tokB_of (by rw [lenQ]; exact h.1) h.2
theorem ok_ckT {Ps : List Addr} (D : Dn K mg "check_tokens" sCheckTokens ["tokens"]) (T : TxT mg) (OK : Ok P w K mg base CX0 7 "is_token" ["token"] (spTok K Ps)) : Ok P w K mg base CX0 8 "check_tokens" ["tokens"] (spCkT K Ps) := by
  obtain ⟨fI, fdI, GIsToken, mIsToken, kIsToken, bIsToken⟩ := OK
  refine D.ok scCheckTokens (fun vs H Q E h => ?_) (fun f cdv A outer s H vs Q E hr h => ?_)
  · obtain ⟨l, zs, rfl, _⟩ := h
    rfl
  · obtain ⟨l, zs, rfl, el, hz, tb, k⟩ := h
    refine ⟨_, (pss_cons (ps_if (pt_not (pt_val (pe_callB call_isiT (by rfl) T.isinstance (by decide +kernel) (pa_cons (pv 0) (pa_cons (pe_tup (pa_cons (pe_bltn (v := .ty "list") (by rfl) T.list (by decide +kernel) rfl) (pa_cons (pe_bltn (v := .ty "tuple") (by rfl) T.tuple (by decide +kernel) rfl) pa_nil))) pa_nil))))) (pss_one ps_never) pss_nil)
  (pss_one (ps_for PassesOwn.never rfl (pi_enum (by rfl) T.enumerate (pa_cons (pv 0) pa_nil)) (pg_tup (by rfl) (pgs_cons (pg_name (i := 1) scCheckTokens.nd rfl (Or.inl rfl)) (pgs_cons (pg_name (i := 2) scCheckTokens.nd rfl (Or.inl rfl)) pgs_nil)))
  (pss_one (ps_if (pt_not (pt_val (pe_call GIsToken (hr.mono (by decide)) rfl mIsToken kIsToken bIsToken .nil pass0 (pa_cons (pv 2) pa_nil)))) (pss_one ps_never) pss_nil))))), ?_⟩
    refine ⟨_, rfl, by show 2 ≤ sizeLine; decide, fun t ht => ?_⟩
    have s1 := Same.new (o := .tup [V.ty "list", V.ty "tuple"]) ht
    have isl : PySem.W.kitAny K (.type "list") [.type "list", .type "tuple"] = some true := by
      unfold PySem.W.kitAny
      have h := isi_list (K := K) (.list [])
      rw [show (tyN (.list []) : String) = "list" from rfl] at h
      rw [h]
      rfl
    refine ⟨_, t, _, _, [.type "list", .type "tuple"], _, rfl, upd_same, .cons (.ty _) (.cons (.ty _) .nil), sqL_ty (SqL.of (s1 _ _ el)), isl, _, rfl, ?_⟩
    refine iteF ?_
    have el1 := s1 _ _ el
    have tb1 : Tb Ps (upd H t (.tup [V.ty "list", V.ty "tuple"])) := (Ex.of_same tb s1).tb
    have k1 : ∀ H', Ex Ps (upd H t (.tup [V.ty "list", V.ty "tuple"])) H' → Q .non H' := fun H' x => k H' ((Ex.of_same tb s1).trans x)
    generalize (upd H t (.tup [V.ty "list", V.ty "tuple"])) = H1 at el1 tb1 k1
    refine ⟨_, rfl, l, _, rfl, SqL.of el1, ?_⟩
    refine for_it (walk_enum (xs := (zs.map tS).map V.str)) (fun i σ Hi => ∃ x1 x2, σ = [some (.ref l), x1, x2] ∧ Ex Ps H1 Hi) ⟨none, none, rfl, Ex.refl tb1⟩ (fun i σ Hi _ h => ?_) ?_ ?_
    · obtain ⟨_, _, _, x⟩ := h
      exact SqL.of (Ex.lst tb1 x el1)
    · rintro i v σ Hi Hi' hi ⟨x1, x2, rfl, x⟩ ⟨T', y1, y, rfl, hT', rfl, hy1, hy⟩
      cases hy1
      obtain ⟨z, hz', rfl, _⟩ := getV hy
      obtain ⟨cs, hcs, rfl⟩ : ∃ cs, zs[i]? = some cs ∧ z = tS cs := by
        rw [List.getElem?_map] at hz'
        cases e : zs[i]? with
        | none => rw [e] at hz'; cases hz'
        | some cs => rw [e] at hz'; cases hz'; exact ⟨cs, rfl, rfl⟩
      have tk := hz cs (List.mem_of_getElem? hcs)
      have x' : Ex Ps H1 (upd Hi T' (.tup [.int (i : Nat), .str (tS cs)])) := x.trans (Ex.of_same x.tb (Same.new hT'))
      refine ⟨T', _, rfl, SqT.of upd_same, rfl, _, _, rfl, _, _, rfl, rfl, ?_⟩
      refine ⟨_, rfl, .str (tS cs), rfl, .inl ⟨_, rfl, by rw [lenQ]; omega⟩, x'.tb, fun H2 x2 => ?_⟩
      refine ⟨_, rfl, ?_⟩
      rw [tokB_tS tk]
      refine iteF ?_
      exact ⟨_, _, rfl, x'.trans x2⟩
    · rintro σ Hi ⟨x1, x2, rfl, x⟩
      exact k1 _ x
end
end FL
/-! ## LX11 -/
set_option Elab.async false
set_option linter.all false
set_option maxRecDepth 100000
set_option maxHeartbeats 4000000
namespace FL
open PySem L2
section
variable {P : Program} {w : World} {K : PySem.W.Frag} {mg : Str → Option Value} {base : Heap}
def pV : Option (List Nat) → V
  | none => .non
  | some p => .str (tS p)
def mV (m : Nat) : V := if m = 0 then .str "" else .str (tS [m])
theorem mV_eq {m c : Nat} (hc : c ≠ 0) : decide (V.str ⟨#[c]⟩ = mV m) = decide (c = m) := by
  unfold mV
  by_cases h : m = 0
  · rw [if_pos h, decide_eq_false (show ¬ c = m by omega)]
    exact decide_eq_false fun e => by injection e with e; injection e with e; injection e with e; cases e
  · rw [if_neg h]
    by_cases e : c = m
    · subst e
      rw [decide_eq_true rfl, decide_eq_true rfl]
    · rw [decide_eq_false e, decide_eq_false (str1_ne e)]
theorem mV_0 {m : Nat} : decide (mV m = V.str "") = decide (m = 0) := by
  unfold mV
  by_cases h : m = 0
  · rw [if_pos h, decide_eq_true h]
    exact decide_eq_true rfl
  · rw [if_neg h, decide_eq_false h]
    exact decide_eq_false fun e => by injection e with e; injection e with e; injection e with e; cases e
theorem mV_39 {m : Nat} : decide (mV m = V.str "'") = decide (m = 39) := by
  unfold mV
  by_cases h : m = 0
  · rw [if_pos h, decide_eq_false (show ¬ m = 39 by omega)]
    exact decide_eq_false fun e => by injection e with e; injection e with e; injection e with e; cases e
  · rw [if_neg h]
    by_cases e : m = 39
    · subst e
      rfl
    · rw [decide_eq_false e]
      exact decide_eq_false (show ¬ V.str ⟨#[m]⟩ = V.str ⟨#[39]⟩ from str1_ne e)
theorem mV_sc {m : Nat} {x : Str} : scal (mV m) (V.str x) = true := by
  unfold mV
  split <;> rfl
theorem gAsgL {x : V} {i : Nat} {σ : L2.St} {H : Hp} {k : L2.St → Hp → Prop} (h : k (σ.set i (some x)) H) : gName i x σ H k := h
theorem pV_non {p : Option (List Nat)} : decide (pV p = V.non) = p.isNone := by
  cases p with
  | none => exact decide_eq_true rfl
  | some p => exact decide_eq_false fun e => by cases e
theorem inV_q {c : Nat} : inV (.str ⟨#[c]⟩) [.str "'", .str "\""] = decide (c = 39 ∨ c = 34) := by
  show ((eqV (.str "'") (.str ⟨#[c]⟩)) || ((eqV (.str "\"") (.str ⟨#[c]⟩)) || false)) = _
  have e1 : eqV (.str "'") (.str ⟨#[c]⟩) = decide (c = 39) := by
    by_cases h : c = 39
    · subst h; rfl
    · rw [decide_eq_false h]
      exact decide_eq_false fun q => h (by injection q with q; injection q with q; injection q with q; exact q.symm)
  have e2 : eqV (.str "\"") (.str ⟨#[c]⟩) = decide (c = 34) := by
    by_cases h : c = 34
    · subst h; rfl
    · rw [decide_eq_false h]
      exact decide_eq_false fun q => h (by injection q with q; injection q with q; injection q with q; exact q.symm)
  rw [e1, e2]
  by_cases h1 : c = 39 <;> by_cases h2 : c = 34 <;> simp [h1, h2]
theorem str1_eq {a : Nat} {x : Str} {b : Nat} (e : x = ⟨#[b]⟩) : decide (V.str ⟨#[a]⟩ = V.str x) = decide (a = b) := by
  subst e
  by_cases h : a = b
  · subst h
    rw [decide_eq_true rfl, decide_eq_true rfl]
  · rw [decide_eq_false h, decide_eq_false (str1_ne h)]
theorem and_el {A : Bool} {T : (Bool → Hp → Prop) → Prop} {H : Hp} {P R : Hp → Prop} (hR : ∀ H1, Same H H1 → R H1) (hT : (∀ H1, Same H H1 → R H1) → A = true → T (fun b H1 => if b = true then P H1 else R H1)) :
    if A = true then T (fun b H1 => if b = true then P H1 else R H1) else (if false = true then P H else R H) := by
  by_cases h : A = true
  · rw [if_pos h]
    exact hT hR h
  · rw [if_neg h]
    exact iteF (hR H fun _ _ z => z)
theorem tS_app (a b : List Nat) : tS a ++ tS b = tS (a ++ b) := by
  show (⟨a.toArray ++ b.toArray⟩ : Str) = ⟨(a ++ b).toArray⟩
  rw [List.append_toArray]
def spLawSplit (K : PySem.W.Frag) : Sp := fun vs H Q _ => ∃ (z : Str), vs = [.str z] ∧ z.length ≤ 900 ∧ (∀ c ∈ z.cps.toList, c ≠ 0) ∧
  (∀ q, lawE z.cps.toList false 0 none 0 0 [] = .error q → ∀ t H', Same H H' → SqT K H' t [.str "line", .int (q : Int)] → Q (.ref t) H') ∧
  (∀ ws, lawE z.cps.toList false 0 none 0 0 [] = .ok ws → ws.length ≤ 1000 → ∀ t l H', Same H H' → SqT K H' t [.str "tokens", .ref l] → H' l = some (.lst ((ws.map tS).map V.str)) → Q (.ref t) H')
end
end FL
/-! ## MS3 -/
set_option Elab.async false
set_option linter.all false
set_option maxRecDepth 100000
set_option maxHeartbeats 4000000
/-! the lexer: quote -/
namespace FL
open PySem L2 GxR SrtO
abbrev sQuote : Stmt := top 9
theorem scQuote : FnScope ["token", "outside", "single", "double", "character", "escaped", "doubled", "ways"] ["token"] (defScope sQuote) := ⟨rfl, rfl, rfl, by decide +kernel, rfl, by decide +kernel, by decide +kernel⟩
theorem catQ (a b : List Nat) : tS a ++ tS b = tS (a ++ b) := tS_app a b
theorem litB : ("\\" : Str) = tS [92] := rfl
theorem litQ2 : ("\"" : Str) = tS [34] := rfl
theorem litS : ("'" : Str) = tS [39] := rfl
theorem litE : ("" : Str) = tS [] := rfl
theorem litBD : ("\"\\" : Str).cps.toList = [34, 92] := rfl
theorem inD_mem (c : Nat) : decide (c ∈ ("\"\\" : Str).cps.toList) = decide (inD c) := by
  rw [litBD]
  exact decide_eq_decide.mpr (by simp)
theorem spec_mem (c : Nat) : decide (c ∈ (tS [32, 34, 39, 92]).cps.toList) = decide (spec c) := by
  show decide (c ∈ [32, 34, 39, 92]) = _
  exact decide_eq_decide.mpr (by simp only [List.mem_cons, List.not_mem_nil, or_false]; unfold spec; omega)
theorem qAll_len (r : List Nat) : (qAll r).1.length ≤ 4 * r.length + 2 ∧ (qAll r).2.1.length ≤ 4 * r.length + 2 ∧ (qAll r).2.2.length ≤ 4 * r.length + 2 := by
  have h1 := qAll_sin r
  have h2 := qAll_dou r
  have h3 := apo_bs r
  omega
theorem tabS_wrQ {H : Hp} {P p : Addr} {q : Str} {o : HO} {xs : List V} (t : LamX.TabS H P q) (e : H p = some (.lst xs)) : LamX.TabS (upd H p o) P q := by
  obtain ⟨ps, h1, h2, h3⟩ := t
  refine ⟨ps, by rw [upd_ne (fun z => by rw [z, e] at h1; cases h1)]; exact h1, h2, fun pos cv hc => ?_⟩
  obtain ⟨c, e1, e2⟩ := h3 pos cv hc
  refine ⟨c, e1, ?_⟩
  rw [upd_ne (fun z => ?_)]
  · exact e2
  · rw [z, e] at e2
    unfold LamX.CodeO at e2
    cases e2
/-- a new list changed -/
theorem wrQ {L : Addr} {q : Str} {Ps : List Addr} {H H1 : Hp} {p : Addr} {o : HO} {xs : List V} (a : Ez L q Ps H H1) (h : H p = none) (e : H1 p = some (.lst xs)) : Ez L q Ps H (L2.upd H1 p o) :=
  ⟨a.ex.wr h (a.ex.tb.no e (fun _ z => by cases z)), tabS_wrQ a.tl e⟩
section
variable {P : Program} {w : World} {K : PySem.W.Frag} {mg : Str → Option Value} {base : Heap}
def spQuo (L : Addr) (Ps : List Addr) : Sp := fun vs H Q _ => ∃ cs : List Nat, vs = [.str (tS cs)] ∧ (cs.length ≤ 200 ∧ ∀ c ∈ cs, c ∈ lineCs) ∧ Tz L qSt Ps H ∧ ∀ H', Ez L qSt Ps H H' → Q (.str (tS (qTx cs))) H'
theorem ok_quo {Ps : List Addr} {L : Addr} (nL : L ∉ Ps) (hRev : mg "reversed" = none) (D : Dn K mg "quote" sQuote ["token"]) (T : TxQ mg) (OC : Ok P w K mg base CX0 8 "check_tokens" ["tokens"] (spCkT K Ps)) (OS : Ok P w K mg base CX0 4 "shortest_text" ["texts"] (spShT L Ps)) : Ok P w K mg base CX0 9 "quote" ["token"] (spQuo L Ps) := by
  obtain ⟨fC, fdC, GCheckTokens, mCheckTokens, kCheckTokens, bCheckTokens⟩ := OC
  obtain ⟨fS, fdS, GShortestText, mShortestText, kShortestText, bShortestText⟩ := OS
  refine D.ok scQuote (fun vs H Q E h => ?_) (fun f cdv A outer s H vs Q E hr h => ?_)
  · obtain ⟨cs, rfl, _⟩ := h
    rfl
  · obtain ⟨cs, rfl, hc, tz, k⟩ := h
    refine ⟨_, (pss_cons (ps_expr (pe_call GCheckTokens (hr.mono (by decide)) rfl mCheckTokens kCheckTokens bCheckTokens .nil pass0 (pa_cons (pe_lst (pa_cons (pv 0) pa_nil)) pa_nil)))
  (pss_cons (ps_if (pt_cmpR op_eq (pv 0) pe_str (nomark _)) (pss_one (ps_ret pe_str)) pss_nil)
  (pss_cons (ps_asg (pe_tup (pa_cons pe_str (pa_cons pe_str (pa_cons pe_str pa_nil)))) (pg_tup (by rfl) (pgs_cons (pg_name (i := 1) scQuote.nd rfl (Or.inl rfl)) (pgs_cons (pg_name (i := 2) scQuote.nd rfl (Or.inl rfl)) (pgs_cons (pg_name (i := 3) scQuote.nd rfl (Or.inl rfl)) pgs_nil)))))
  (pss_cons (ps_for PassesOwn.never rfl (pi_back (by rfl) hRev (pv 0)) (pg_name (i := 4) scQuote.nd rfl (Or.inl rfl))
  (pss_cons (ps_set (i := 5) scQuote.nd rfl (Or.inl rfl) (pe_op op_add_str pe_str (pv 4)))
  (pss_cons (ps_set (i := 6) scQuote.nd rfl (Or.inl rfl) (pe_op op_add_str (pe_ifExp (pt_cmpR op_in_sign (pv 4) pe_str (by rfl)) (pv 5) (pv 4)) (pv 3)))
  (pss_cons (ps_set (i := 7) scQuote.nd rfl (Or.inl rfl) (pe_lst (pa_cons (pe_op op_add_str (pv 5) (pv 1)) (pa_cons (pe_op op_add_str pe_str (pv 6)) pa_nil))))
  (pss_cons (ps_if (pt_cmpR op_notIn_sign (pv 4) (pe_gs T.cSPECIAL_CHARACTERS) (by rfl)) (pss_one (ps_expr (pe_bm PySem.F.plainAttrs_list PySem.F.slot_list_append PySem.F.type_list_append mt_append (pv 7) (pa_cons (pe_op op_add_str (pv 4) (pv 1)) pa_nil)))) pss_nil)
  (pss_cons (ps_if (pt_cmpR op_eq (pv 4) pe_str (nomark _)) (pss_cons (ps_set (i := 1) scQuote.nd rfl (Or.inl rfl) (pe_call GShortestText (hr.mono (by decide)) rfl mShortestText kShortestText bShortestText .nil pass0 (pa_cons (pv 7) pa_nil)))
  (pss_one (ps_set (i := 2) scQuote.nd rfl (Or.inl rfl) (pe_op op_add_str pe_str (pv 1))))) (pss_cons (ps_set (i := 1) scQuote.nd rfl (Or.inl rfl) (pe_call GShortestText (hr.mono (by decide)) rfl mShortestText kShortestText bShortestText .nil pass0 (pa_cons (pe_lst (StX.pa_star (pv 7) (pa_cons (pe_op op_add_str (pe_op op_add_str pe_str (pv 4)) (pv 2)) pa_nil))) pa_nil)))
  (pss_one (ps_set (i := 2) scQuote.nd rfl (Or.inl rfl) (pe_call GShortestText (hr.mono (by decide)) rfl mShortestText kShortestText bShortestText .nil pass0 (pa_cons (pe_lst (pa_cons (pe_op op_add_str pe_str (pv 1)) (pa_cons (pe_op op_add_str (pv 4) (pv 2)) pa_nil))) pa_nil))))))
  (pss_one (ps_set (i := 3) scQuote.nd rfl (Or.inl rfl) (pe_call GShortestText (hr.mono (by decide)) rfl mShortestText kShortestText bShortestText .nil pass0 (pa_cons (pe_lst (pa_cons (pe_op op_add_str pe_str (pv 1)) (pa_cons (pv 6) pa_nil))) pa_nil))))))))))
  (pss_one (ps_ret (pv 1))))))), ?_⟩
    refine ⟨_, rfl, by show 1 ≤ sizeLine; decide, fun lt hlt => ?_⟩
    have s1 := Same.new (o := .lst [V.str (tS cs)]) hlt
    refine ⟨lt, [cs], rfl, upd_same, fun z hz => by rw [List.mem_singleton.mp hz]; exact hc, (Ez.of_same tz s1).tz.tbP, fun H1 x1 => ?_⟩
    have z1 := (Ez.of_same tz s1).trans (Ez.of_ex nL (Ez.of_same tz s1).tz x1)
    have k1 : ∀ H', Ez L qSt Ps H1 H' → Q (.str (tS (qTx cs))) H' := fun H' z => k H' (z1.trans z)
    have tz1 := z1.tz
    clear k z1 x1 s1 hlt tz
    refine ⟨_, rfl, rfl, _, rfl, ?_⟩
    by_cases e0 : cs = []
    · subst e0
      refine iteT ?_
      exact k1 _ (Ez.refl tz1)
    rw [show decide (V.str (tS cs) = V.str "") = false from decide_eq_false fun h => e0 (by have := congrArg (fun v => match v with | V.str z => z.cps.toList | _ => []) h; exact this)]
    refine iteF ?_
    refine ⟨by show 3 ≤ sizeLine; decide, fun tt htt => ?_⟩
    have s2 := Same.new (o := .tup [V.str "", V.str "'", V.str "\""]) htt
    refine ⟨tt, _, rfl, SqT.of upd_same, rfl, _, _, rfl, _, _, rfl, _, _, rfl, rfl, ?_⟩
    have z2 := Ez.of_same tz1 s2
    dsimp only
    refine seq_join' (fun σ' H' => ∃ x2 x3 x4 x5 x6 x7, σ' = [some (.str (tS cs)), some (.str (tS (qAll cs).1)), x2, x3, x4, x5, x6, x7] ∧ Ez L qSt Ps H1 H') (fun nx' hnx => ?_) ?_
    rotate_left
    · rintro σ' H' ⟨x2, x3, x4, x5, x6, x7, rfl, z⟩
      refine ⟨_, rfl, ?_⟩
      have e1 : qTx cs = (qAll cs).1 := if_neg e0
      rw [← e1]
      exact k1 _ z
    have size : (tS cs).cps.size = cs.length := by simp [tS]
    refine ⟨_, rfl, _, rfl, by rw [lenQ]; exact Nat.le_trans hc.1 (by decide), ?_⟩
    refine for_it (walk_back (z := tS cs)) (fun i σ Hi => ∃ x4 x5 x6 x7, σ = [some (.str (tS cs)), some (.str (tS (qAll (cs.drop (cs.length - i))).1)), some (.str (tS (qAll (cs.drop (cs.length - i))).2.1)), some (.str (tS (qAll (cs.drop (cs.length - i))).2.2)), x4, x5, x6, x7] ∧ Ez L qSt Ps H1 Hi) ?_ (fun _ _ _ _ _ => trivial) ?_ ?_
    · rw [Nat.sub_zero, List.drop_length]
      exact ⟨_, _, _, _, rfl, z2⟩
    rotate_left
    · rintro σ Hi ⟨x4, x5, x6, x7, rfl, z⟩
      rw [size, Nat.sub_self, List.drop_zero]
      exact hnx _ _ ⟨_, _, _, _, _, _, rfl, z⟩
    rintro i v σ Hi Hi' hi ⟨x4, x5, x6, x7, rfl, z⟩ ⟨rfl, c, hcx, rfl⟩
    rw [size] at hi hcx
    have hcx : cs[cs.length - 1 - i]? = some c := by
      rw [← Array.getElem?_toList] at hcx
      exact hcx
    have ed : cs.drop (cs.length - (i + 1)) = c :: cs.drop (cs.length - i) := by
      have h := List.drop_eq_getElem_cons (l := cs) (i := cs.length - 1 - i) (by omega)
      rw [show cs.length - (i + 1) = cs.length - 1 - i by omega, h, show cs.length - 1 - i + 1 = cs.length - i by omega]
      congr 1
      exact Option.some.inj ((List.getElem?_eq_getElem (by omega)).symm.trans hcx)
    have hl : (cs.drop (cs.length - i)).length ≤ 200 := by
      rw [List.length_drop]
      omega
    rw [ed]
    generalize cs.drop (cs.length - i) = r at hl
    obtain ⟨l1, l2, l3⟩ := qAll_len r
    have eo : (qAll (c :: r)).1 = outC c (qAll r).1 (qAll r).2.1 (qAll r).2.2 := rfl
    have es : (qAll (c :: r)).2.1 = sinC c (qAll r).1 (qAll r).2.1 (qAll r).2.2 := rfl
    have ee : (qAll (c :: r)).2.2 = douC c (qAll r).1 (qAll r).2.1 (qAll r).2.2 := rfl
    have l4 := (qAll_len (c :: r)).1
    rw [eo, List.length_cons] at l4
    rw [eo, es, ee]
    generalize (qAll r).1 = o at l1 l4
    generalize (qAll r).2.1 = sg at l2 l4
    generalize (qAll r).2.2 = d at l3 l4
    clear eo es ee ed hcx
    have fit : ∀ a b : List Nat, a.length ≤ 1000 → b.length ≤ 1000 → (tS a).length + (tS b).length ≤ sizeLine := fun a b ha hb => by
      rw [lenQ, lenQ]
      exact Nat.le_trans (show a.length + b.length ≤ 2000 by omega) (by decide)
    refine gAsg' (x := .str (tS [c])) ?_
    dsimp only
    refine ⟨_, rfl, tS [92], tS [c], rfl, rfl, fit _ _ (by decide) (by show 1 ≤ 1000; decide), ?_⟩
    rw [catQ]
    refine gAsg' (x := .str (tS (escC c))) ?_
    dsimp only
    have ld : (dblC c d).length ≤ 1000 := by
      rw [dblC_len]
      split <;> omega
    refine seq_join' (fun σ' H' => σ' = [some (.str (tS cs)), some (.str (tS o)), some (.str (tS sg)), some (.str (tS d)), some (.str (tS [c])), some (.str (tS (escC c))), some (.str (tS (dblC c d))), x7] ∧ H' = Hi') (fun nx' hnx => ?_) ?_
    · refine ⟨_, rfl, c, _, rfl, rfl, ?_⟩
      rw [inD_mem]
      by_cases q : inD c
      · rw [decide_eq_true q]
        refine ⟨_, rfl, ?_⟩
        refine iteT ?_
        refine ⟨_, rfl, _, rfl, tS (escC c), tS d, rfl, rfl, fit _ _ (by show 2 ≤ 1000; decide) (by omega), ?_⟩
        rw [catQ]
        exact hnx _ _ ⟨by rw [dblC, if_pos q] <;> rfl, rfl⟩
      · rw [decide_eq_false q]
        refine ⟨_, rfl, ?_⟩
        refine iteF ?_
        refine ⟨_, rfl, _, rfl, tS [c], tS d, rfl, rfl, fit _ _ (by show 1 ≤ 1000; decide) (by omega), ?_⟩
        rw [catQ]
        exact hnx _ _ ⟨by rw [dblC, if_neg q] <;> rfl, rfl⟩
    rintro σ' H' ⟨rfl, rfl⟩
    refine ⟨_, rfl, _, rfl, tS (escC c), tS o, rfl, rfl, fit _ _ (by show 2 ≤ 1000; decide) (by omega), _, rfl, tS [34], tS (dblC c d), rfl, rfl, fit _ _ (by decide) ld, by show 2 ≤ sizeLine; decide, fun W hW => ?_⟩
    rw [catQ, catQ]
    refine gAsg' (x := .ref W) ?_
    dsimp only
    have sW := Same.new (o := .lst [V.str (tS (escC c ++ o)), V.str (tS ([34] ++ dblC c d))]) hW
    have zW := z.trans (Ez.of_same z.tz sW)
    have nW : H1 W = none := Ez.free tz1 z hW
    have eW : upd H' W (.lst [V.str (tS (escC c ++ o)), V.str (tS ([34] ++ dblC c d))]) W = some (.lst [V.str (tS (escC c ++ o)), V.str (tS ([34] ++ dblC c d))]) := upd_same
    generalize upd H' W (.lst [V.str (tS (escC c ++ o)), V.str (tS ([34] ++ dblC c d))]) = H2 at zW eW
    refine seq_join' (fun σ' H' => σ' = [some (.str (tS cs)), some (.str (tS o)), some (.str (tS sg)), some (.str (tS d)), some (.str (tS [c])), some (.str (tS (escC c))), some (.str (tS (dblC c d))), some (.ref W)] ∧ Ez L qSt Ps H1 H' ∧ H' W = some (.lst ((((escC c ++ o) :: waysC c o d).map tS).map V.str))) (fun nx' hnx => ?_) ?_
    · refine ⟨_, rfl, c, _, rfl, rfl, ?_⟩
      rw [spec_mem]
      by_cases q : spec c
      · rw [decide_eq_true q]
        refine ⟨_, rfl, ?_⟩
        refine iteF ?_
        refine hnx _ _ ⟨rfl, zW, ?_⟩
        rw [eW, waysC, if_pos q]
        rfl
      · rw [decide_eq_false q]
        refine ⟨_, rfl, ?_⟩
        refine iteT ?_
        refine ⟨_, rfl, .inl ⟨rfl, _, SqL.of eW⟩, _, rfl, _, rfl, tS [c], tS o, rfl, rfl, fit _ _ (by show 1 ≤ 1000; decide) (by omega), W, _, _, rfl, rfl, eW, by show 2 < sizeLine; decide, ?_⟩
        rw [catQ]
        refine hnx _ _ ⟨rfl, wrQ zW nW eW, ?_⟩
        rw [upd_same, waysC, if_neg q]
        rfl
    clear eW zW sW
    rintro σ' H3 ⟨rfl, z3, e3⟩
    have lw : ∀ y ∈ (escC c ++ o) :: waysC c o d, y.length ≤ 2000 := fun y hy => by
      unfold waysC at hy
      rcases List.mem_cons.mp hy with rfl | hy
      · rw [List.length_append]
        show 2 + _ ≤ _
        omega
      rcases List.mem_append.mp hy with hy | hy
      · rw [List.mem_singleton.mp hy, List.length_cons]
        omega
      · by_cases q : spec c
        · rw [if_pos q] at hy
          cases hy
        · rw [if_neg q] at hy
          rw [List.mem_singleton.mp hy, List.length_cons]
          omega
    refine seq_join' (fun σ' H' => ∃ x7, σ' = [some (.str (tS cs)), some (.str (tS (outC c o sg d))), some (.str (tS (sinC c o sg d))), some (.str (tS d)), some (.str (tS [c])), some (.str (tS (escC c))), some (.str (tS (dblC c d))), x7] ∧ Ez L qSt Ps H1 H') (fun nx' hnx => ?_) ?_
    · refine ⟨_, rfl, rfl, _, rfl, ?_⟩
      have ec : decide (V.str (tS [c]) = V.str "'") = decide (c = 39) := str1_is (a := c) (b := 39) rfl
      rw [ec]
      by_cases q : c = 39
      · rw [decide_eq_true q]
        refine iteT ?_
        have eo : outC c o sg d = minC (escC c ++ o) (waysC c o d) := by
          unfold outC
          rw [if_pos q, List.append_nil]
        have es : sinC c o sg d = 39 :: outC c o sg d := if_pos q
        refine ⟨_, rfl, W, _, _, rfl, e3, fun y hy => Nat.le_trans (lw y hy) (by decide), z3.tz, fun H4 z4 => ?_⟩
        rw [← eo]
        refine gAsg' (x := .str (tS (outC c o sg d))) ?_
        dsimp only
        refine ⟨_, rfl, tS [39], tS (outC c o sg d), rfl, rfl, fit _ _ (by decide) (by omega), ?_⟩
        rw [catQ]
        exact hnx _ _ ⟨_, by rw [es] <;> rfl, z3.trans z4⟩
      · rw [decide_eq_false q]
        refine iteF ?_
        have eo : outC c o sg d = minC (escC c ++ o) (waysC c o d ++ [[39, c] ++ sg]) := by
          unfold outC
          rw [if_neg q]
        have es : sinC c o sg d = minC (39 :: outC c o sg d) [c :: sg] := if_neg q
        refine ⟨_, rfl, W, _, rfl, .inr (SqL.of e3), _, rfl, tS [39], tS [c], rfl, rfl, fit _ _ (by decide) (by show 1 ≤ 1000; decide), ?_⟩
        rw [catQ]
        refine ⟨_, rfl, tS ([39] ++ [c]), tS sg, rfl, rfl, fit _ _ (by show 2 ≤ 1000; decide) (by omega), ?_⟩
        rw [catQ]
        refine ⟨?_, fun W2 hW2 => ?_⟩
        · refine Nat.le_trans ?_ (by decide : 10 ≤ sizeLine)
          rw [List.length_append, List.length_map, List.length_map, List.length_cons]
          have : (waysC c o d).length ≤ 2 := by
            unfold waysC
            split
            · show 1 ≤ 2
              omega
            · show 2 ≤ 2
              omega
          show _ + 1 ≤ 10
          omega
        have s4 := Same.new (o := .lst ((((escC c ++ o) :: waysC c o d).map tS).map V.str ++ [V.str (tS ([39] ++ [c] ++ sg))])) hW2
        have z5 := z3.trans (Ez.of_same z3.tz s4)
        refine ⟨W2, escC c ++ o, waysC c o d ++ [[39, c] ++ sg], rfl, ?_, fun y hy => ?_, z5.tz, fun H5 x5 => ?_⟩
        · rw [upd_same]
          simp
        · rcases List.mem_cons.mp hy with rfl | hy
          · exact Nat.le_trans (lw _ List.mem_cons_self) (by decide)
          rcases List.mem_append.mp hy with hy | hy
          · exact Nat.le_trans (lw _ (List.mem_cons_of_mem _ hy)) (by decide)
          · rw [List.mem_singleton.mp hy]
            rw [List.length_append, show ([39, c] : List Nat).length = 2 from rfl]
            omega
        rw [← eo]
        have z6 := z5.trans x5
        refine gAsg' (x := .str (tS (outC c o sg d))) ?_
        dsimp only
        refine ⟨_, rfl, tS [39], tS (outC c o sg d), rfl, rfl, fit _ _ (by decide) (by omega), ?_⟩
        rw [catQ]
        refine ⟨_, rfl, _, rfl, tS [c], tS sg, rfl, rfl, fit _ _ (by show 1 ≤ 1000; decide) (by omega), by show 2 ≤ sizeLine; decide, fun W3 hW3 => ?_⟩
        rw [catQ]
        have s7 := Same.new (o := .lst [V.str (tS ([39] ++ outC c o sg d)), V.str (tS ([c] ++ sg))]) hW3
        have z7 := z6.trans (Ez.of_same z6.tz s7)
        refine ⟨W3, 39 :: outC c o sg d, [c :: sg], rfl, upd_same, fun y hy => ?_, z7.tz, fun H6 x6 => ?_⟩
        · rcases List.mem_cons.mp hy with rfl | hy
          · rw [List.length_cons]
            omega
          · rw [List.mem_singleton.mp hy, List.length_cons]
            omega
        rw [← es]
        exact hnx _ _ ⟨_, rfl, z7.trans x6⟩
    rintro σ' H4 ⟨x7', rfl, z4⟩
    refine ⟨_, rfl, tS [34], tS (outC c o sg d), rfl, rfl, fit _ _ (by decide) (by omega), ?_⟩
    rw [catQ]
    refine ⟨_, rfl, by show 2 ≤ sizeLine; decide, fun W4 hW4 => ?_⟩
    have s8 := Same.new (o := .lst [V.str (tS ([34] ++ outC c o sg d)), V.str (tS (dblC c d))]) hW4
    have z8 := z4.trans (Ez.of_same z4.tz s8)
    refine ⟨W4, 34 :: outC c o sg d, [dblC c d], rfl, upd_same, fun y hy => ?_, z8.tz, fun H6 x6 => ?_⟩
    · rcases List.mem_cons.mp hy with rfl | hy
      · rw [List.length_cons]
        omega
      · rw [List.mem_singleton.mp hy]
        omega
    exact ⟨_, _, _, _, rfl, z8.trans x6⟩
end
end FL
/-! ## MS4 -/
set_option Elab.async false
set_option linter.all false
set_option maxRecDepth 100000
set_option maxHeartbeats 4000000
/-! the lexer: join_line -/
namespace FL
open PySem L2 GxR SrtO
abbrev sJoinLine : Stmt := top 10
theorem scJoinLine : FnScope ["tokens", "line", "token"] ["tokens"] (defScope sJoinLine) := ⟨rfl, rfl, rfl, by decide +kernel, rfl, by decide +kernel, by decide +kernel⟩
section
variable {P : Program} {w : World} {K : PySem.W.Frag} {mg : Str → Option Value} {base : Heap}
abbrev lstQ (zs : List (List Nat)) : HO := .lst ((zs.map tS).map V.str)
theorem joinQ (zs : List (List Nat)) : Txt.join " " (zs.map tS) = tS (TL.joinL [32] zs) := SX.join_S [32] zs
theorem sumQ : ∀ {zs : List (List Nat)} {n : Nat}, (∀ z ∈ zs, z.length ≤ n) → ((zs.map tS).map (·.length)).sum ≤ zs.length * n
  | [], n, _ => Nat.zero_le _
  | z :: zs, n, h => by
    have h1 := h z List.mem_cons_self
    have h2 := sumQ (zs := zs) fun y hy => h y (List.mem_cons_of_mem _ hy)
    rw [List.map_cons, List.map_cons, List.sum_cons, lenQ, List.length_cons, Nat.add_mul]
    omega
def spJoin (L : Addr) (Ps : List Addr) : Sp := fun vs H Q _ => ∃ (l : Addr) (zs : List (List Nat)), vs = [.ref l] ∧ H l = some (lstQ zs) ∧ zs.length ≤ 5 ∧ (∀ z ∈ zs, z.length ≤ 20 ∧ ∀ c ∈ z, c ∈ lineCs) ∧ Tz L qSt Ps H ∧ ∀ H', Ez L qSt Ps H H' → Q (.str (tS (qLine zs))) H'
theorem getQ {zs : List (List Nat)} {i : Nat} {v : V} (h : ((zs.map tS).map V.str)[i]? = some v) : ∃ cs, zs[i]? = some cs ∧ v = .str (tS cs) := by
  rw [List.map_map, List.getElem?_map] at h
  cases e : zs[i]? with
  | none => rw [e] at h; cases h
  | some cs => rw [e] at h; cases h; exact ⟨cs, rfl, rfl⟩
theorem ok_join {Ps : List Addr} {L : Addr} (nL : L ∉ Ps) (D : Dn K mg "join_line" sJoinLine ["tokens"]) (T : TxQ mg) (OC : Ok P w K mg base CX0 8 "check_tokens" ["tokens"] (spCkT K Ps)) (OQ : Ok P w K mg base CX0 9 "quote" ["token"] (spQuo L Ps)) : Ok P w K mg base CX0 10 "join_line" ["tokens"] (spJoin L Ps) := by
  obtain ⟨fC, fdC, GCheckTokens, mCheckTokens, kCheckTokens, bCheckTokens⟩ := OC
  obtain ⟨fQ, fdQ, GQuote, mQuote, kQuote, bQuote⟩ := OQ
  refine D.ok scJoinLine (fun vs H Q E h => ?_) (fun f cdv A outer s H vs Q E hr h => ?_)
  · obtain ⟨l, zs, rfl, _⟩ := h
    rfl
  · obtain ⟨l, zs, rfl, el, h5, hz, tz, k⟩ := h
    refine ⟨_, (pss_cons (ps_expr (pe_call GCheckTokens (hr.mono (by decide)) rfl mCheckTokens kCheckTokens bCheckTokens .nil pass0 (pa_cons (pv 0) pa_nil)))
  (pss_cons (ps_set (i := 1) scJoinLine.nd rfl (Or.inl rfl) (pe_join pe_str (pe_lc (own := [("token", 2)]) (g := gName 2) (by rfl) scJoinLine.nd (pi_list (pv 0)) (blkOk_by (own := [("token", 2)]) (N := ["tokens", "line", "token"]) (sc := defScope sJoinLine) (by decide +kernel)) (fun _ _ _ _ _ => by exact (pg_name (i := 2) scJoinLine.nd rfl (Or.inl rfl))) (fun _ _ _ _ _ => by exact pts_nil) (fun _ _ _ _ _ => by exact (pe_call GQuote (hr.mono (by decide)) rfl mQuote kQuote bQuote .nil pass0 (pa_cons (pv 2) pa_nil))))))
  (pss_cons (ps_if (pt_cmpR op_gt (pe_callB call_len_str (by rfl) T.len PySem.boot_len (pa_cons (pv 1) pa_nil)) (pe_gi T.cMOST_CHARACTERS) (nomark _)) (pss_one ps_never) pss_nil)
  (pss_one (ps_ret (pv 1)))))), ?_⟩
    refine ⟨_, rfl, l, zs, rfl, el, fun z hz' => ⟨by have := (hz z hz').1; omega, (hz z hz').2⟩, tz.tbP, fun H1 x1 => ?_⟩
    have z1 := Ez.of_ex nL tz x1
    have el1 := z1.lst tz el
    have k1 : ∀ H', Ez L qSt Ps H1 H' → Q (.str (tS (qLine zs))) H' := fun H' z => k H' (z1.trans z)
    have tz1 := z1.tz
    clear k z1 x1 el tz
    dsimp only
    refine ⟨⟨_, rfl⟩, _, rfl, l, rfl, ⟨_, SqL.of el1⟩, fun D hD => ?_⟩
    refine lc_it (walk_list (xs := (zs.map tS).map V.str)) (fun i Hc => Ez L qSt Ps H1 Hc ∧ Hc D = some (lstQ ((zs.take i).map qTx))) ⟨Ez.new tz1 hD, upd_same⟩ (fun i Hc _ h => SqL.of (h.1.lst tz1 el1)) ?_ ?_
    · rintro i x Hc Hc' hi ⟨zc, eD⟩ ⟨rfl, hx⟩
      obtain ⟨cs, hcs, rfl⟩ := getQ hx
      have tk := hz cs (List.mem_of_getElem? hcs)
      refine ⟨rfl, ?_⟩
      unfold tYes
      refine iteT ?_
      refine ⟨_, rfl, cs, rfl, ⟨by have := tk.1; omega, tk.2⟩, zc.tz, fun H2 x2 => ?_⟩
      have e2 := x2.lst zc.tz eD
      refine ⟨_, e2, small1000 ?_, wrQ (zc.trans x2) hD e2, ?_⟩
      · rw [List.length_map, List.length_map, List.length_map, List.length_take]
        omega
      · rw [upd_same, take_more' hcs, List.map_append, lstQ, List.map_append, List.map_append]
        rfl
    · rintro Hc ⟨zc, eD⟩
      rw [show ((zs.map tS).map V.str).length = zs.length by rw [List.length_map, List.length_map], List.take_length] at eD
      have sq : ∀ z ∈ zs.map qTx, z.length ≤ 37 := fun z hz' => by
        obtain ⟨r, hr, rfl⟩ := List.mem_map.mp hz'
        exact qTx_37 (hz r hr).1
      refine ⟨" ", D, (zs.map qTx).map tS, rfl, rfl, .inl (SqL.of eD), ?_, ?_⟩
      · have := sumQ sq
        rw [List.length_map] at this
        rw [List.length_map, List.length_map, show (" " : Str).length = 1 from rfl]
        have : zs.length * 37 ≤ 5 * 37 := Nat.mul_le_mul_right _ h5
        omega
      rw [joinQ]
      have ll := qLine_len (rs := zs) fun r hr => (hz r hr).1
      refine ⟨_, rfl, tS (qLine zs), rfl, ?_, _, _, rfl, rfl, _, rfl, ?_⟩
      · rw [lenQ]
        exact Nat.le_trans (show (qLine zs).length ≤ 200 by omega) (by decide)
      rw [lenQ, decide_eq_false (show ¬ ((200 : Int) < ((qLine zs).length : Int)) by omega)]
      refine iteF ?_
      exact ⟨_, rfl, k1 _ zc⟩
end
end FL
/-! ## MS5 -/
set_option Elab.async false
set_option linter.all false
set_option maxRecDepth 100000
set_option maxHeartbeats 8000000
/-! _law_ways -/
namespace FL
open PySem L2 GxR SrtO
abbrev sWays : Stmt := top 24
theorem scWays : FnScope ["_law_token", "_law_mode", "_law_first", "_law_ways_here", "_law_rest", "_law_opened", "_law_here", "_law_forms", "_law_form", "_law_tail"] ["_law_token", "_law_mode"] (defScope sWays) := ⟨rfl, rfl, rfl, by decide +kernel, rfl, by decide +kernel, by decide +kernel⟩
theorem flat_len {α : Type} {f : α → List (List Nat)} {n : Nat} : ∀ {l : List α}, (∀ x ∈ l, (f x).length ≤ n) → (l.flatMap f).length ≤ l.length * n
  | [], _ => Nat.zero_le _
  | x :: l, h => by
    rw [List.flatMap_cons, List.length_append, List.length_cons, Nat.add_mul]
    have h1 := h x List.mem_cons_self
    have h2 := flat_len (l := l) fun y hy => h y (List.mem_cons_of_mem _ hy)
    omega
abbrev okM (m : Nat) : Prop := m = 0 ∨ m = 39 ∨ m = 34
theorem forms_len (h c : Nat) : (formsC h c).length ≤ 2 := by
  unfold formsC
  rw [List.length_append]
  have h1 : (if h = 39 then [] else [escC c]).length ≤ 1 := by
    split
    · exact Nat.zero_le _
    · exact Nat.le_refl _
  have h2 : (if plainC h c then [[c]] else []).length ≤ 1 := by
    split
    · exact Nat.le_refl _
    · exact Nat.zero_le _
  omega
theorem opens_len (m : Nat) : (opensC m).length ≤ 3 := by
  unfold opensC
  split <;> decide
theorem opens_ok {m o : Nat} (ho : o ∈ opensC m) : okM o := by
  unfold opensC at ho
  split at ho
  · simpa using ho
  · exact .inl (List.mem_singleton.mp ho)
theorem here_ok {m o : Nat} (hm : okM m) (ho : o ∈ opensC m) : okM (hereC m o) := by
  unfold hereC
  split
  · exact opens_ok ho
  · exact hm
theorem part_len {r : List Nat} {o h n : Nat} {f : List Nat} (b : ∀ m, okM m → (lawW r m).length ≤ n) (hh : okM h) : (partW (lawW r) o h f).length ≤ 2 * n := by
  unfold partW
  rw [List.length_append, List.length_map]
  have h1 := b h hh
  have h2 := b 0 (.inl rfl)
  split
  · show _ + 0 ≤ _
    omega
  · rw [List.length_map]
    omega
theorem lawW_len : ∀ (r : List Nat) (m : Nat), okM m → (lawW r m).length ≤ 12 ^ r.length
  | [], m, _ => by show 1 ≤ _; simp
  | c :: r, m, hm => by
    have b := lawW_len r
    show ((opensC m).flatMap fun o => (formsC (hereC m o) c).flatMap fun f => partW (lawW r) o (hereC m o) f).length ≤ _
    refine Nat.le_trans (flat_len (n := 2 * (2 * 12 ^ r.length)) fun o ho => ?_) ?_
    · refine Nat.le_trans (flat_len (n := 2 * 12 ^ r.length) fun f hf => part_len b (here_ok hm ho)) ?_
      exact Nat.mul_le_mul_right _ (forms_len _ _)
    · refine Nat.le_trans (Nat.mul_le_mul_right _ (opens_len m)) ?_
      rw [List.length_cons, Nat.pow_succ]
      omega
theorem mk_len (m : Nat) : (mkC m).length ≤ 1 := by
  unfold mkC
  split
  · exact Nat.zero_le _
  · exact Nat.le_refl _
theorem form_len {h c : Nat} {f : List Nat} (hf : f ∈ formsC h c) : f.length ≤ 2 := by
  unfold formsC at hf
  rcases List.mem_append.mp hf with hf | hf
  · split at hf
    · cases hf
    · rw [List.mem_singleton.mp hf]
      exact Nat.le_refl 2
  · split at hf
    · rw [List.mem_singleton.mp hf]
      show 1 ≤ 2
      omega
    · cases hf
theorem way_len : ∀ (r : List Nat) (m : Nat) (y : List Nat), y ∈ lawW r m → y.length ≤ 4 * r.length + 1
  | [], m, y, hy => by
    have hy : y ∈ [mkC m] := hy
    rw [List.mem_singleton.mp hy]
    exact mk_len m
  | c :: r, m, y, hy => by
    obtain ⟨o, ho, hy⟩ := List.mem_flatMap.mp hy
    obtain ⟨f, hf, hy⟩ := List.mem_flatMap.mp hy
    have lo := mk_len o
    have lf := form_len hf
    have lh := mk_len (hereC m o)
    unfold partW at hy
    rw [List.length_cons]
    rcases List.mem_append.mp hy with hy | hy
    · obtain ⟨t, ht, rfl⟩ := List.mem_map.mp hy
      have := way_len r _ t ht
      rw [List.length_append, List.length_append]
      omega
    · split at hy
      · cases hy
      · obtain ⟨t, ht, rfl⟩ := List.mem_map.mp hy
        have := way_len r _ t ht
        rw [List.length_append, List.length_append, List.length_append]
        omega
theorem mkC_inj {h k : Nat} (hh : okM h) (hk : okM k) (e : mkC h = mkC k) : h = k := by
  unfold mkC at e
  by_cases h0 : h = 0
  · by_cases k0 : k = 0
    · omega
    · rw [if_pos h0, if_neg k0] at e
      cases e
  · by_cases k0 : k = 0
    · rw [if_neg h0, if_pos k0] at e
      cases e
    · rw [if_neg h0, if_neg k0] at e
      exact (List.cons.inj e).1
theorem tS_inj {a b : List Nat} (e : tS a = tS b) : a = b := congrArg (fun z : PySem.Str => z.cps.toList) e
theorem modeEq {h k : Nat} {z : PySem.Str} (hh : okM h) (hk : okM k) (ez : z = tS (mkC k)) : decide (V.str (tS (mkC h)) = V.str z) = decide (h = k) := by
  subst ez
  exact decide_eq_decide.mpr ⟨fun e => mkC_inj hh hk (tS_inj (by injection e)), fun e => by rw [e]⟩
section
variable {P : Program} {w : World} {K : PySem.W.Frag} {mg : Str → Option Value} {base : Heap}
theorem specL (c : Nat) : decide (c ∈ (" '\"\\" : Str).cps.toList) = decide (spec c) := by
  rw [show (" '\"\\" : Str).cps.toList = [32, 39, 34, 92] from rfl]
  exact decide_eq_decide.mpr (by simp)
theorem freeQ {H H' : Hp} {p : Addr} (s : Same H H') (h : H' p = none) : H p = none := by
  cases e : H p with
  | none => rfl
  | some o => rw [s _ _ e] at h; cases h
theorem sameWr {H H1 : Hp} {p : Addr} {o : HO} (s : Same H H1) (n : H p = none) : Same H (upd H1 p o) := fun b u e => by
  rw [upd_ne (ne_of_none e n)]
  exact s b u e
abbrev lsQ (zs : List (List Nat)) : HO := .lst ((zs.map tS).map V.str)
def spWays (n : Nat) : Sp := fun vs H Q _ => ∃ (r : List Nat) (m : Nat), vs = [.str (tS r), .str (tS (mkC m))] ∧ r.length ≤ n ∧ n ≤ 4 ∧ okM m ∧ ∀ l H', Same H H' → H l = none → H' l = some (lsQ (lawW r m)) → Q (.ref l) H'
theorem ok_ways_step (T : TxV mg) (D : Dn K mg "_law_ways" sWays ["_law_token", "_law_mode"]) {j n : Nat} {sp : Sp} (GL : Ok P w K mg base CX0 j "_law_ways" ["_law_token", "_law_mode"] sp) (hsp : ∀ m, n = m + 1 → sp = spWays m) : Ok P w K mg base CX0 (j + 1) "_law_ways" ["_law_token", "_law_mode"] (spWays n) := by
  obtain ⟨fL, fdL, GWays, mWays, kWays, bWays⟩ := GL
  refine D.ok scWays (fun vs H Q E h => ?_) (fun f cdv A outer s H vs Q E hr h => ?_)
  · obtain ⟨r, m, rfl, _⟩ := h
    rfl
  · obtain ⟨r, m, rfl, hr', n4, hm, k⟩ := h
    refine ⟨_, (pss_cons (ps_if (pt_cmpR op_eq (pv 0) pe_str (nomark _)) (pss_one (ps_ret (pe_lst (pa_cons (pv 1) pa_nil)))) pss_nil)
  (pss_cons (ps_par (i := 2) (j := 3) rfl scWays.nd rfl rfl (by decide) rfl rfl (pa_cons (pe_ix ix_str (pv 0) pe_int (fun _ _ => rfl)) (pa_cons (pe_lst pa_nil) pa_nil)) (by rfl))
  (pss_cons (ps_set (i := 4) scWays.nd rfl (Or.inl rfl) (pe_op op_cat (pe_lst (pa_cons pe_str pa_nil)) (pe_op op_rep (pe_lst (pa_cons pe_str (pa_cons pe_str pa_nil))) (pe_callTy call_int1 (by rfl) T.int (by decide +kernel) (pa_cons (pe_cmpR op_eq (pv 1) pe_str (nomark _)) pa_nil)))))
  (pss_cons (ps_for PassesOwn.never rfl (pi_list (pv 4)) (pg_name (i := 5) scWays.nd rfl (Or.inr rfl))
  (pss_cons (ps_set (i := 6) scWays.nd rfl (Or.inr rfl) (pe_op op_add_str (pv 1) (pv 5)))
  (pss_cons (ps_set (i := 7) scWays.nd rfl (Or.inl rfl) (pe_op op_rep (pe_lst (pa_cons (pe_op op_add_str pe_str (pv 2)) pa_nil)) (pe_callTy call_int1 (by rfl) T.int (by decide +kernel) (pa_cons (pe_cmpR op_ne (pv 6) pe_str (nomark _)) pa_nil))))
  (pss_cons (ps_if (PW.pt (pw_or (PW.pt (pw_and (pt_cmpR op_eq (pv 6) pe_str (nomark _)) (pw_and1 (pt_cmpR op_notIn_sign (pv 2) pe_str (by rfl))))) (pw_or (PW.pt (pw_and (pt_cmpR op_eq (pv 6) pe_str (nomark _)) (pw_and1 (pt_cmpR op_ne (pv 2) pe_str (nomark _))))) (pw_or1 (PW.pt (pw_and (pt_cmpR op_eq (pv 6) pe_str (nomark _)) (pw_and1 (pt_cmpR op_notIn_sign (pv 2) pe_str (by rfl))))))))) (pss_one (ps_expr (pe_bm PySem.F.plainAttrs_list PySem.F.slot_list_append PySem.F.type_list_append mt_append (pv 7) (pa_cons (pv 2) pa_nil)))) pss_nil)
  (pss_one (ps_for PassesOwn.never rfl (pi_list (pv 7)) (pg_name (i := 8) scWays.nd rfl (Or.inr rfl))
  (pss_cons (ps_set (i := 3) scWays.nd rfl (Or.inl rfl) (pe_op op_cat (pv 3) (pe_lc (own := [("_law_tail", 9)]) (g := gName 9) (by rfl) scWays.nd (pi_list (pe_call GWays (hr.mono (by first | exact Nat.le_refl _ | decide | omega)) rfl mWays kWays bWays .nil pass0 (pa_cons (pe_slice sl_str (pv 0) (po_some pe_int) po_none) (pa_cons (pv 6) pa_nil)))) (blkOk_by (own := [("_law_tail", 9)]) (N := ["_law_token", "_law_mode", "_law_first", "_law_ways_here", "_law_rest", "_law_opened", "_law_here", "_law_forms", "_law_form", "_law_tail"]) (sc := defScope sWays) (by decide +kernel)) (fun _ _ _ _ _ => by exact (pg_name (i := 9) scWays.nd rfl (Or.inl rfl))) (fun _ _ _ _ _ => by exact pts_nil) (fun _ _ _ _ _ => by exact (pe_op op_add_str (pe_op op_add_str (pv 5) (pv 8)) (pv 9))))))
  (pss_one (ps_if (pt_cmpR op_ne (pv 6) pe_str (nomark _)) (pss_one (ps_set (i := 3) scWays.nd rfl (Or.inl rfl) (pe_op op_cat (pv 3) (pe_lc (own := [("_law_tail", 9)]) (g := gName 9) (by rfl) scWays.nd (pi_list (pe_call GWays (hr.mono (by first | exact Nat.le_refl _ | decide | omega)) rfl mWays kWays bWays .nil pass0 (pa_cons (pe_slice sl_str (pv 0) (po_some pe_int) po_none) (pa_cons pe_str pa_nil)))) (blkOk_by (own := [("_law_tail", 9)]) (N := ["_law_token", "_law_mode", "_law_first", "_law_ways_here", "_law_rest", "_law_opened", "_law_here", "_law_forms", "_law_form", "_law_tail"]) (sc := defScope sWays) (by decide +kernel)) (fun _ _ _ _ _ => by exact (pg_name (i := 9) scWays.nd rfl (Or.inl rfl))) (fun _ _ _ _ _ => by exact pts_nil) (fun _ _ _ _ _ => by exact (pe_op op_add_str (pe_op op_add_str (pe_op op_add_str (pv 5) (pv 8)) (pv 6)) (pv 9))))))) pss_nil)))))))))
  (pss_one (ps_ret (pv 3))))))), ?_⟩
    refine ⟨_, rfl, rfl, _, rfl, ?_⟩
    cases r with
    | nil =>
      refine iteT ?_
      refine ⟨_, rfl, by show 1 ≤ sizeLine; decide, fun l hl => ?_⟩
      exact k l _ (Same.new hl) hl upd_same
    | cons c r =>
    rw [show decide (V.str (tS (c :: r)) = V.str "") = false from decide_eq_false fun h => nomatch tS_inj (show tS (c :: r) = tS [] from by injection h)]
    refine iteF ?_
    have lr : r.length ≤ 3 := by
      rw [List.length_cons] at hr'
      omega
    have bW : ∀ m, okM m → (lawW r m).length ≤ 1728 := fun m hm => Nat.le_trans (lawW_len r m hm) (Nat.pow_le_pow_right (by decide : 12 > 0) lr)
    have fit : ∀ a b : List Nat, a.length ≤ 1000 → b.length ≤ 1000 → (tS a).length + (tS b).length ≤ sizeLine := fun a b ha hb => by
      rw [lenQ, lenQ]
      exact Nat.le_trans (show a.length + b.length ≤ 2000 by omega) (by decide)
    have lm := mk_len m
    dsimp only
    refine ⟨_, rfl, tS (c :: r), 0, c, rfl, rfl, by rw [lenQ]; exact Nat.le_trans (show (c :: r).length ≤ 4 by rw [List.length_cons]; omega) (by decide), atI_nat (j := 0) rfl, by show 0 ≤ sizeLine; decide, fun l0 hl0 => ⟨_, _, rfl, ?_⟩⟩
    dsimp only
    have s0 := Same.new (o := .lst []) hl0
    have e0 : upd H l0 (.lst []) l0 = some (.lst []) := upd_same
    have k1 : ∀ l H', Same (upd H l0 (.lst [])) H' → (l = l0 ∨ upd H l0 (.lst []) l = none) → H' l = some (lsQ (lawW (c :: r) m)) → Q (.ref l) H' := fun l H' s' hl el => k l H' (Same.trans' s0 s') (hl.elim (fun e => e ▸ hl0) fun e => freeQ s0 e) el
    generalize upd H l0 (.lst []) = H1 at e0 k1
    refine seq_join' (fun σ' H' => ∃ R, σ' = [some (.str (tS (c :: r))), some (.str (tS (mkC m))), some (.str (tS [c])), some (.ref l0), some (.ref R), none, none, none, none, none] ∧ Same H1 H' ∧ H' R = some (lsQ ((opensC m).map mkC))) (fun nx' hnx => ?_) ?_
    · refine ⟨by show 1 ≤ sizeLine; decide, fun la hla => ⟨by show 2 ≤ sizeLine; decide, fun lb hlb => ⟨_, rfl, rfl, .inr ⟨_, rfl, ?_⟩⟩⟩⟩
      rw [modeEq (z := "") (k := 0) hm (.inl rfl) rfl]
      have sa := Same.new (o := .lst [V.str ""]) hla
      have sb := Same.new (o := .lst [V.str "'", V.str "\""]) hlb
      refine ⟨lb, _, _, rfl, rfl, upd_same, by split <;> decide, by split <;> decide, by split <;> decide, fun lc hlc => ⟨la, lc, _, _, rfl, rfl, Same.new hlc _ _ (sb _ _ upd_same), upd_same, by refine Nat.le_trans ?_ (by decide : 10 ≤ sizeLine); split <;> simp, fun R hR => ?_⟩⟩
      refine hnx _ _ ⟨R, rfl, Same.trans' (Same.trans' sa sb) (Same.trans' (Same.new hlc) (Same.new hR)), ?_⟩
      rw [upd_same]
      by_cases q : m = 0
      · subst q
        rfl
      · rw [show opensC m = [0] from if_neg q, decide_eq_false q]
        rfl
    rintro σ' H2 ⟨R, rfl, s2, eR⟩
    refine seq_join' (fun σ' H' => ∃ lw x5 x6 x7 x8 x9, σ' = [some (.str (tS (c :: r))), some (.str (tS (mkC m))), some (.str (tS [c])), some (.ref lw), some (.ref R), x5, x6, x7, x8, x9] ∧ Same H1 H' ∧ (lw = l0 ∨ H1 lw = none) ∧ H' lw = some (lsQ (lawW (c :: r) m))) (fun nx' hnx => ?_) ?_
    rotate_left
    · rintro σ' H3 ⟨lw, x5, x6, x7, x8, x9, rfl, s3, n3, e3⟩
      exact ⟨_, rfl, k1 lw H3 s3 n3 e3⟩
    refine ⟨_, rfl, R, rfl, ⟨_, SqL.of eR⟩, ?_⟩
    have gl : ∀ (l : List Nat), (∀ o ∈ l, okM o ∧ okM (hereC m o)) → (l.flatMap fun o => (formsC (hereC m o) c).flatMap fun f => partW (lawW r) o (hereC m o) f).length ≤ l.length * 6912 := fun l hl => flat_len fun o ho => by
      refine Nat.le_trans (flat_len (n := 2 * 1728) fun f hf => part_len bW (hl o ho).2) ?_
      have := Nat.mul_le_mul_right (2 * 1728) (forms_len (hereC m o) c)
      omega
    refine for_it (walk_list (xs := (((opensC m).map mkC).map tS).map V.str)) (fun i σ Hi => ∃ lw x5 x6 x7 x8 x9, σ = [some (.str (tS (c :: r))), some (.str (tS (mkC m))), some (.str (tS [c])), some (.ref lw), some (.ref R), x5, x6, x7, x8, x9] ∧ Same H2 Hi ∧ (lw = l0 ∨ H1 lw = none) ∧ Hi lw = some (lsQ (((opensC m).take i).flatMap fun o => (formsC (hereC m o) c).flatMap fun f => partW (lawW r) o (hereC m o) f))) ⟨l0, _, _, _, _, _, rfl, fun _ _ h => h, .inl rfl, s2 _ _ e0⟩ (fun i σ Hi _ h => ?_) ?_ ?_
    · obtain ⟨_, _, _, _, _, _, _, x, _⟩ := h
      exact SqL.of (x _ _ eR)
    rotate_left
    · rintro σ Hi ⟨lw, x5, x6, x7, x8, x9, rfl, s3, n3, e3⟩
      rw [List.length_map, List.length_map, List.length_map, List.take_length] at e3
      exact hnx _ _ ⟨lw, _, _, _, _, _, rfl, Same.trans' s2 s3, n3, e3⟩
    rintro i v σ Hi Hi' hi ⟨lw, x5, x6, x7, x8, x9, rfl, s3, n3, e3⟩ ⟨rfl, hx⟩
    obtain ⟨o, ho, rfl⟩ : ∃ o, (opensC m)[i]? = some o ∧ v = .str (tS (mkC o)) := by
      rw [List.map_map, List.map_map, List.getElem?_map] at hx
      cases e : (opensC m)[i]? with
      | none => rw [e] at hx; cases hx
      | some o => rw [e] at hx; cases hx; exact ⟨o, rfl, rfl⟩
    have om := List.mem_of_getElem? ho
    have oo := opens_ok om
    have hh := here_ok hm om
    have eh : mkC m ++ mkC o = mkC (hereC m o) := by
      unfold hereC
      by_cases e : m = 0
      · rw [if_pos e, e]
        rfl
      · rw [if_neg e, show o = 0 from by unfold opensC at om; rw [if_neg e] at om; exact List.mem_singleton.mp om]
        show mkC m ++ [] = _
        rw [List.append_nil]
    rw [take_more' ho, List.flatMap_append]
    have pl : (((opensC m).take i).flatMap fun o => (formsC (hereC m o) c).flatMap fun f => partW (lawW r) o (hereC m o) f).length ≤ 20736 := by
      refine Nat.le_trans (gl _ fun o ho => ⟨opens_ok (List.mem_of_mem_take ho), here_ok hm (List.mem_of_mem_take ho)⟩) ?_
      have : ((opensC m).take i).length ≤ 3 := by
        rw [List.length_take]
        have := opens_len m
        omega
      omega
    generalize (((opensC m).take i).flatMap fun o => (formsC (hereC m o) c).flatMap fun f => partW (lawW r) o (hereC m o) f) = acc at e3 pl
    rw [List.flatMap_cons, List.flatMap_nil, List.append_nil]
    refine gAsg' (x := .str (tS (mkC o))) ?_
    dsimp only
    have lo := mk_len o
    refine ⟨_, rfl, _, rfl, tS (mkC m), tS (mkC o), rfl, rfl, fit _ _ (by omega) (by omega), ?_⟩
    rw [catQ, eh]
    generalize hereC m o = h at hh
    refine gAsg' (x := .str (tS (mkC h))) ?_
    dsimp only
    refine seq_join' (fun σ' H' => ∃ W, σ' = [some (.str (tS (c :: r))), some (.str (tS (mkC m))), some (.str (tS [c])), some (.ref lw), some (.ref R), some (.str (tS (mkC o))), some (.str (tS (mkC h))), some (.ref W), x8, x9] ∧ Same Hi' H' ∧ Hi' W = none ∧ H' W = some (lsQ (if h = 39 then [] else [escC c]))) (fun nx' hnx => ?_) ?_
    · refine ⟨_, rfl, tS [92], tS [c], rfl, rfl, fit _ _ (by decide) (by show 1 ≤ 1000; decide), by show 1 ≤ sizeLine; decide, fun lf hlf => ⟨_, rfl, rfl, .inr ⟨_, rfl, ?_⟩⟩⟩
      rw [modeEq (z := "'") (k := 39) hh (.inr (.inl rfl)) rfl]
      refine ⟨lf, _, _, rfl, rfl, upd_same, by split <;> decide, by split <;> decide, by refine Nat.le_trans ?_ (by decide : 1 ≤ sizeLine); split <;> exact Nat.le_of_ble_eq_true rfl, fun W hW => ?_⟩
      refine hnx _ _ ⟨W, rfl, Same.trans' (Same.new hlf) (Same.new hW), freeQ (Same.new hlf) hW, ?_⟩
      rw [upd_same, catQ]
      by_cases q : h = 39
      · rw [decide_eq_true q, if_pos q]
        rfl
      · rw [decide_eq_false q, if_neg q]
        rfl
    rintro σ' H3 ⟨W, rfl, s4, nW, eW⟩
    refine seq_join' (fun σ' H' => σ' = [some (.str (tS (c :: r))), some (.str (tS (mkC m))), some (.str (tS [c])), some (.ref lw), some (.ref R), some (.str (tS (mkC o))), some (.str (tS (mkC h))), some (.ref W), x8, x9] ∧ Same Hi' H' ∧ H' W = some (lsQ (formsC h c))) (fun nx' hnx => ?_) ?_
    · have no : ¬ plainC h c → nx' [some (.str (tS (c :: r))), some (.str (tS (mkC m))), some (.str (tS [c])), some (.ref lw), some (.ref R), some (.str (tS (mkC o))), some (.str (tS (mkC h))), some (.ref W), x8, x9] H3 := fun q => hnx _ _ ⟨rfl, s4, by rw [eW, formsC, if_neg q, List.append_nil]⟩
      have yes : plainC h c → ∀ zs, H3 W = some (.lst zs) → nx' [some (.str (tS (c :: r))), some (.str (tS (mkC m))), some (.str (tS [c])), some (.ref lw), some (.ref R), some (.str (tS (mkC o))), some (.str (tS (mkC h))), some (.ref W), x8, x9] (upd H3 W (.lst (zs ++ [V.str (tS [c])]))) := fun q zs ez => hnx _ _ ⟨rfl, sameWr s4 nW, by
        rw [eW] at ez
        cases ez
        rw [upd_same, formsC, if_pos q, lsQ, List.map_append, List.map_append]
        rfl⟩
      rcases hh with rfl | rfl | rfl
      · refine ⟨_, rfl, rfl, _, rfl, ?_⟩
        rw [modeEq (z := "") (k := 0) (.inl rfl) (.inl rfl) rfl, decide_eq_true rfl]
        refine iteT ?_
        refine ⟨_, rfl, c, _, rfl, rfl, ?_⟩
        rw [specL]
        by_cases q : spec c
        · rw [decide_eq_true q]
          refine ⟨_, rfl, ?_⟩
          refine iteF ?_
          refine ⟨_, rfl, rfl, _, rfl, ?_⟩
          rw [modeEq (z := "'") (k := 39) (.inl rfl) (.inr (.inl rfl)) rfl, decide_eq_false (by decide)]
          refine iteF ?_
          refine iteF ?_
          refine ⟨_, rfl, rfl, _, rfl, ?_⟩
          rw [modeEq (z := "\"") (k := 34) (.inl rfl) (.inr (.inr rfl)) rfl, decide_eq_false (by decide)]
          refine iteF ?_
          refine iteF ?_
          exact no (fun z => z.elim (fun z => z.2 q) fun z => z.elim (fun z => by omega) fun z => by omega)
        · rw [decide_eq_false q]
          refine ⟨_, rfl, ?_⟩
          refine iteT ?_
          refine iteT ?_
          exact ⟨_, rfl, .inl ⟨rfl, _, SqL.of eW⟩, _, rfl, W, _, _, rfl, rfl, eW, small1000 (by simp), yes (.inl ⟨rfl, q⟩) _ eW⟩
      · refine ⟨_, rfl, rfl, _, rfl, ?_⟩
        rw [modeEq (z := "") (k := 0) (.inr (.inl rfl)) (.inl rfl) rfl, decide_eq_false (by decide)]
        refine iteF ?_
        refine iteF ?_
        refine ⟨_, rfl, rfl, _, rfl, ?_⟩
        rw [modeEq (z := "'") (k := 39) (.inr (.inl rfl)) (.inr (.inl rfl)) rfl, decide_eq_true rfl]
        refine iteT ?_
        refine ⟨_, rfl, rfl, _, rfl, ?_⟩
        have ec : decide (V.str (tS [c]) = V.str "'") = decide (c = 39) := str1_is (a := c) (b := 39) rfl
        rw [ec]
        by_cases q : c = 39
        · rw [decide_eq_true q]
          refine iteF ?_
          refine ⟨_, rfl, rfl, _, rfl, ?_⟩
          rw [modeEq (z := "\"") (k := 34) (.inr (.inl rfl)) (.inr (.inr rfl)) rfl, decide_eq_false (by decide)]
          refine iteF ?_
          refine iteF ?_
          exact no (fun z => z.elim (fun z => by omega) fun z => z.elim (fun z => z.2 q) fun z => by omega)
        · rw [decide_eq_false q]
          refine iteT ?_
          refine iteT ?_
          exact ⟨_, rfl, .inl ⟨rfl, _, SqL.of eW⟩, _, rfl, W, _, _, rfl, rfl, eW, small1000 (by simp), yes (.inr (.inl ⟨rfl, q⟩)) _ eW⟩
      · refine ⟨_, rfl, rfl, _, rfl, ?_⟩
        rw [modeEq (z := "") (k := 0) (.inr (.inr rfl)) (.inl rfl) rfl, decide_eq_false (by decide)]
        refine iteF ?_
        refine iteF ?_
        refine ⟨_, rfl, rfl, _, rfl, ?_⟩
        rw [modeEq (z := "'") (k := 39) (.inr (.inr rfl)) (.inr (.inl rfl)) rfl, decide_eq_false (by decide)]
        refine iteF ?_
        refine iteF ?_
        refine ⟨_, rfl, rfl, _, rfl, ?_⟩
        rw [modeEq (z := "\"") (k := 34) (.inr (.inr rfl)) (.inr (.inr rfl)) rfl, decide_eq_true rfl]
        refine iteT ?_
        refine ⟨_, rfl, c, _, rfl, rfl, ?_⟩
        rw [inD_mem]
        by_cases q : inD c
        · rw [decide_eq_true q]
          refine ⟨_, rfl, ?_⟩
          refine iteF ?_
          exact no (fun z => z.elim (fun z => by omega) fun z => z.elim (fun z => by omega) fun z => z.2 q)
        · rw [decide_eq_false q]
          refine ⟨_, rfl, ?_⟩
          refine iteT ?_
          exact ⟨_, rfl, .inl ⟨rfl, _, SqL.of eW⟩, _, rfl, W, _, _, rfl, rfl, eW, small1000 (by simp), yes (.inr (.inr ⟨rfl, q⟩)) _ eW⟩
    rintro σ' H4 ⟨rfl, s5, e5⟩
    clear eW s4
    obtain ⟨n', rfl⟩ : ∃ n', n = n' + 1 := ⟨n - 1, by rw [List.length_cons] at hr'; omega⟩
    have esp := hsp n' rfl
    subst esp
    have lrn : r.length ≤ n' := by
      rw [List.length_cons] at hr'
      omega
    have yl : ∀ m, ∀ y ∈ lawW r m, y.length ≤ 13 := fun m y hy => by
      have := way_len r m y hy
      omega
    refine ⟨_, rfl, W, rfl, ⟨_, SqL.of e5⟩, ?_⟩
    refine for_it (walk_list (xs := ((formsC h c).map tS).map V.str)) (fun j σ Hi => ∃ lw' x8 x9, σ = [some (.str (tS (c :: r))), some (.str (tS (mkC m))), some (.str (tS [c])), some (.ref lw'), some (.ref R), some (.str (tS (mkC o))), some (.str (tS (mkC h))), some (.ref W), x8, x9] ∧ Same Hi' Hi ∧ (lw' = l0 ∨ H1 lw' = none) ∧ Hi lw' = some (lsQ (acc ++ ((formsC h c).take j).flatMap fun f => partW (lawW r) o h f)) ∧ Hi W = some (lsQ (formsC h c))) ⟨lw, _, _, rfl, s5, n3, by rw [List.take_zero, List.flatMap_nil, List.append_nil]; exact s5 _ _ e3, e5⟩ (fun i σ Hi _ h => ?_) ?_ ?_
    · obtain ⟨_, _, _, _, _, _, _, x⟩ := h
      exact SqL.of x
    rotate_left
    · rintro σ Hi ⟨lw', x8, x9, rfl, s6, n6, e6, _⟩
      rw [List.length_map, List.length_map, List.take_length] at e6
      exact ⟨lw', _, _, _, _, _, rfl, Same.trans' s3 s6, n6, e6⟩
    rintro j' v σ Hj Hj' hj ⟨lw', x8, x9, rfl, s6, n6, e6, w6⟩ ⟨rfl, hx⟩
    obtain ⟨f, hf, rfl⟩ : ∃ f, (formsC h c)[j']? = some f ∧ v = .str (tS f) := by
      rw [List.map_map, List.getElem?_map] at hx
      cases e : (formsC h c)[j']? with
      | none => rw [e] at hx; cases hx
      | some f => rw [e] at hx; cases hx; exact ⟨f, rfl, rfl⟩
    have lf := form_len (List.mem_of_getElem? hf)
    rw [take_more' hf, List.flatMap_append, ← List.append_assoc]
    have pl2 : (acc ++ ((formsC h c).take j').flatMap fun f => partW (lawW r) o h f).length ≤ 30000 := by
      rw [List.length_append]
      have h1 := flat_len (l := (formsC h c).take j') (n := 2 * 1728) fun f _ => part_len (o := o) (f := f) bW hh
      have : ((formsC h c).take j').length ≤ 2 := by
        rw [List.length_take]
        have := forms_len h c
        omega
      omega
    generalize (acc ++ ((formsC h c).take j').flatMap fun f => partW (lawW r) o h f) = acc2 at e6 pl2
    rw [List.flatMap_cons, List.flatMap_nil, List.append_nil]
    refine gAsg' (x := .str (tS f)) ?_
    dsimp only
    refine seq_join' (fun σ' H' => ∃ lw2 x9, σ' = [some (.str (tS (c :: r))), some (.str (tS (mkC m))), some (.str (tS [c])), some (.ref lw2), some (.ref R), some (.str (tS (mkC o))), some (.str (tS (mkC h))), some (.ref W), some (.str (tS f)), x9] ∧ Same Hj' H' ∧ (lw2 = l0 ∨ H1 lw2 = none) ∧ H' lw2 = some (lsQ (acc2 ++ (lawW r h).map fun t => mkC o ++ f ++ t))) (fun nx' hnx => ?_) ?_
    · refine ⟨_, rfl, _, rfl, _, rfl, tS (c :: r), rfl, by rw [lenQ, List.length_cons]; exact Nat.le_trans (show r.length + 1 ≤ 4 by omega) (by decide), ?_⟩
      rw [show (1 : Int) = ((1 : Nat) : Int) from rfl, cut_tlG]
      refine ⟨_, rfl, r, h, rfl, lrn, by omega, hh, fun l H5 t5 nl el => ⟨l, rfl, ⟨_, SqL.of el⟩, fun D hD => ?_⟩⟩
      refine lc_it (walk_list (xs := ((lawW r h).map tS).map V.str)) (fun t Hc => Same H5 Hc ∧ Hc D = some (lsQ (((lawW r h).take t).map fun y => mkC o ++ f ++ y))) ⟨Same.new hD, upd_same⟩ (fun t Hc _ x => SqL.of (x.1 _ _ el)) ?_ ?_
      · rintro t x Hc Hc' ht ⟨sc, eD⟩ ⟨rfl, hx⟩
        obtain ⟨y, hy, rfl⟩ : ∃ y, (lawW r h)[t]? = some y ∧ x = .str (tS y) := by
          rw [List.map_map, List.getElem?_map] at hx
          cases e : (lawW r h)[t]? with
          | none => rw [e] at hx; cases hx
          | some y => rw [e] at hx; cases hx; exact ⟨y, rfl, rfl⟩
        have ly := yl h y (List.mem_of_getElem? hy)
        refine ⟨rfl, ?_⟩
        unfold tYes
        refine iteT ?_
        refine ⟨_, rfl, _, rfl, tS (mkC o), tS f, rfl, rfl, fit _ _ (by omega) (by omega), ?_⟩
        rw [catQ]
        refine ⟨_, rfl, tS (mkC o ++ f), tS y, rfl, rfl, fit _ _ (by rw [List.length_append]; omega) (by omega), ?_⟩
        rw [catQ]
        refine ⟨_, eD, ?_, sameWr sc hD, ?_⟩
        · rw [List.length_map, List.length_map, List.length_map, List.length_take]
          have := bW h hh
          exact Nat.lt_of_le_of_lt (show _ ≤ 1728 by omega) (by decide)
        · rw [upd_same, take_more' hy, List.map_append, lsQ, List.map_append, List.map_append]
          rfl
      · rintro Hc ⟨sc, eD⟩
        rw [List.length_map, List.length_map, List.take_length] at eD
        have sA := Same.trans' t5 sc
        refine ⟨lw', D, _, _, rfl, rfl, sA _ _ e6, eD, ?_, fun l2 hl2 => ?_⟩
        · rw [List.length_map, List.length_map, List.length_map, List.length_map, List.length_map]
          have := bW h hh
          exact Nat.le_trans (show _ ≤ 40000 by omega) (by decide)
        · refine hnx _ _ ⟨l2, _, rfl, Same.trans' sA (Same.new hl2), .inr (freeQ (Same.trans' (Same.trans' s2 s3) (Same.trans' s6 sA)) hl2), ?_⟩
          rw [upd_same, lsQ, List.map_append, List.map_append]
    rintro σ' H5 ⟨lw2, x9', rfl, s7, n7, e7⟩
    refine ⟨_, rfl, rfl, _, rfl, ?_⟩
    rw [modeEq (z := "") (k := 0) hh (.inl rfl) rfl]
    by_cases q : h = 0
    · rw [decide_eq_true q]
      refine iteF ?_
      refine ⟨lw2, _, _, rfl, Same.trans' s6 s7, n7, ?_, s7 _ _ w6⟩
      rw [e7, partW, if_pos q, List.append_nil]
    · rw [decide_eq_false q]
      refine iteT ?_
      refine ⟨_, rfl, _, rfl, _, rfl, tS (c :: r), rfl, by rw [lenQ, List.length_cons]; exact Nat.le_trans (show r.length + 1 ≤ 4 by omega) (by decide), ?_⟩
      rw [show (1 : Int) = ((1 : Nat) : Int) from rfl, cut_tlG]
      refine ⟨r, 0, rfl, lrn, by omega, .inl rfl, fun l H6 t5 nl el => ⟨l, rfl, ⟨_, SqL.of el⟩, fun D hD => ?_⟩⟩
      have lh := mk_len h
      refine lc_it (walk_list (xs := ((lawW r 0).map tS).map V.str)) (fun t Hc => Same H6 Hc ∧ Hc D = some (lsQ (((lawW r 0).take t).map fun y => mkC o ++ f ++ mkC h ++ y))) ⟨Same.new hD, upd_same⟩ (fun t Hc _ x => SqL.of (x.1 _ _ el)) ?_ ?_
      · rintro t x Hc Hc' ht ⟨sc, eD⟩ ⟨rfl, hx⟩
        obtain ⟨y, hy, rfl⟩ : ∃ y, (lawW r 0)[t]? = some y ∧ x = .str (tS y) := by
          rw [List.map_map, List.getElem?_map] at hx
          cases e : (lawW r 0)[t]? with
          | none => rw [e] at hx; cases hx
          | some y => rw [e] at hx; cases hx; exact ⟨y, rfl, rfl⟩
        have ly := yl 0 y (List.mem_of_getElem? hy)
        refine ⟨rfl, ?_⟩
        unfold tYes
        refine iteT ?_
        refine ⟨_, rfl, _, rfl, tS (mkC o), tS f, rfl, rfl, fit _ _ (by omega) (by omega), ?_⟩
        rw [catQ]
        refine ⟨_, rfl, tS (mkC o ++ f), tS (mkC h), rfl, rfl, fit _ _ (by rw [List.length_append]; omega) (by omega), ?_⟩
        rw [catQ]
        refine ⟨_, rfl, tS (mkC o ++ f ++ mkC h), tS y, rfl, rfl, fit _ _ (by rw [List.length_append, List.length_append]; omega) (by omega), ?_⟩
        rw [catQ]
        refine ⟨_, eD, ?_, sameWr sc hD, ?_⟩
        · rw [List.length_map, List.length_map, List.length_map, List.length_take]
          have := bW 0 (.inl rfl)
          exact Nat.lt_of_le_of_lt (show _ ≤ 1728 by omega) (by decide)
        · rw [upd_same, take_more' hy, List.map_append, lsQ, List.map_append, List.map_append]
          rfl
      · rintro Hc ⟨sc, eD⟩
        rw [List.length_map, List.length_map, List.take_length] at eD
        have sA := Same.trans' t5 sc
        refine ⟨lw2, D, _, _, rfl, rfl, sA _ _ e7, eD, ?_, fun l2 hl2 => ?_⟩
        · rw [List.length_map, List.length_map, List.length_map, List.length_map, List.length_map, List.length_append, List.length_map]
          have := bW 0 (.inl rfl)
          have := bW h hh
          exact Nat.le_trans (show _ ≤ 40000 by omega) (by decide)
        · have sB := Same.trans' sA (Same.new (o := .lst ((List.map V.str (List.map tS (acc2 ++ (lawW r h).map fun t => mkC o ++ f ++ t))) ++ (((lawW r 0).map fun y => mkC o ++ f ++ mkC h ++ y).map tS).map V.str)) hl2)
          refine ⟨l2, _, _, rfl, Same.trans' s6 (Same.trans' s7 sB), .inr (freeQ (Same.trans' (Same.trans' s2 s3) (Same.trans' s6 (Same.trans' s7 sA))) hl2), ?_, (Same.trans' s7 sB) _ _ w6⟩
          rw [upd_same, partW, if_neg q, ← List.append_assoc]
          simp only [lsQ, List.map_append]
theorem ok_ways_none (D : Dn K mg "_law_ways" sWays ["_law_token", "_law_mode"]) : Ok P w K mg base CX0 0 "_law_ways" ["_law_token", "_law_mode"] (fun _ _ _ _ => False) := by
  obtain ⟨f, fd, F, g, b⟩ := D
  exact ⟨f, fd, ⟨fun vs H Q E h => h.elim, fun A outer s H args us vs Q E hr e hb hv h => h.elim⟩, g, F.kp, b⟩
theorem ok_ways (T : TxV mg) (D : Dn K mg "_law_ways" sWays ["_law_token", "_law_mode"]) : ∀ n : Nat, Ok P w K mg base CX0 (n + 1) "_law_ways" ["_law_token", "_law_mode"] (spWays n)
  | 0 => ok_ways_step T D (ok_ways_none D) fun m e => nomatch e
  | n + 1 => ok_ways_step T D (ok_ways T D n) fun m e => by
    cases e
    rfl
end
end FL
/-! ## LX12 -/
set_option Elab.async false
set_option linter.all false
set_option maxRecDepth 100000
set_option maxHeartbeats 4000000
/-! _law_alike, of the same data on both sides -/
namespace FL
open PySem L2 GxR SrtO
abbrev sAlike : Stmt := top 21
theorem scAlike : FnScope ["_law_one", "_law_due", "_law_k"] ["_law_one", "_law_due"] (defScope sAlike) := ⟨rfl, rfl, rfl, by decide +kernel, rfl, by decide +kernel, by decide +kernel⟩
section
variable {P : Program} {w : World} {K : PySem.W.Frag} {mg : Str → Option Value} {base : Heap}
theorem isi_tl {K : PySem.W.Frag} (d : PyData) : PySem.W.kitAny K (.type (tyN d)) [.type "tuple", .type "list"] = some (isTu d || isLi d) := by
  have h1 := isi_tuple (K := K) d
  have h2 := isi_list (K := K) d
  unfold PySem.W.kitAny
  rw [h1]
  cases isTu d with
  | true => rfl
  | false =>
    unfold PySem.W.kitAny
    rw [h2]
    cases isLi d <;> rfl
def spAlike (K : PySem.W.Frag) (n : Nat) : Sp := fun vs H Q _ => ∃ x y d, vs = [x, y] ∧ Dp K H x d ∧ Dp K H y d ∧ flatN n d ∧ ∀ H', Same H H' → Q (.bl true) H'
theorem ok_alike_step (T : TxV mg) (D : Dn K mg "_law_alike" sAlike ["_law_one", "_law_due"]) {j n : Nat} {sp : Sp} (GL : Ok P w K mg base CX0 j "_law_alike" ["_law_one", "_law_due"] sp) (hsp : ∀ m, n = m + 1 → sp = spAlike K m) : Ok P w K mg base CX0 (j + 1) "_law_alike" ["_law_one", "_law_due"] (spAlike K n) := by
  obtain ⟨fL, fdL, GAlike, mAlike, kAlike, bAlike⟩ := GL
  refine D.ok scAlike (fun vs H Q E h => ?_) (fun f cdv A outer s H vs Q E hr h => ?_)
  · obtain ⟨x, y, d, rfl, _⟩ := h
    rfl
  · obtain ⟨x, y, d, rfl, hx, hy, hf, k⟩ := h
    refine ⟨_, (pss_cons (ps_if (PW.pt (pw_and (pt_val (pe_callB call_isiT (by rfl) T.isinstance (by decide +kernel) (pa_cons (pv 0) (pa_cons (pe_tup (pa_cons (pe_bltn (v := .ty "tuple") (by rfl) T.tuple (by decide +kernel) rfl) (pa_cons (pe_bltn (v := .ty "list") (by rfl) T.list (by decide +kernel) rfl) pa_nil))) pa_nil)))) (pw_and1 (pt_val (pe_callB call_isiT (by rfl) T.isinstance (by decide +kernel) (pa_cons (pv 1) (pa_cons (pe_tup (pa_cons (pe_bltn (v := .ty "tuple") (by rfl) T.tuple (by decide +kernel) rfl) (pa_cons (pe_bltn (v := .ty "list") (by rfl) T.list (by decide +kernel) rfl) pa_nil))) pa_nil))))))) (pss_cons (ps_if (PW.pt (pw_or (pt_cmpR op_ne (pe_callB call_isi (by rfl) T.isinstance (by decide +kernel) (pa_cons (pv 0) (pa_cons (pe_bltn (v := .ty "tuple") (by rfl) T.tuple (by decide +kernel) rfl) pa_nil))) (pe_callB call_isi (by rfl) T.isinstance (by decide +kernel) (pa_cons (pv 1) (pa_cons (pe_bltn (v := .ty "tuple") (by rfl) T.tuple (by decide +kernel) rfl) pa_nil))) (nomark _)) (pw_or1 (pt_cmpR op_ne (pe_callB call_len_seq (by rfl) T.len PySem.boot_len (pa_cons (pv 0) pa_nil)) (pe_callB call_len_seq (by rfl) T.len PySem.boot_len (pa_cons (pv 1) pa_nil)) (nomark _))))) (pss_one (ps_ret pe_bl)) pss_nil)
  (pss_one (ps_ret (pe_cmpR (op_eqEmp hr.units) (pe_lc (own := [("_law_k", 2)]) (g := gName 2) (by rfl) scAlike.nd (pi_range1 (by rfl) T.range (pa_cons (pe_callB call_len_seq (by rfl) T.len PySem.boot_len (pa_cons (pv 0) pa_nil)) pa_nil)) (blkOk_by (own := [("_law_k", 2)]) (N := ["_law_one", "_law_due", "_law_k"]) (sc := defScope sAlike) (by decide +kernel)) (fun _ _ _ _ _ => by exact (pg_name (i := 2) scAlike.nd rfl (Or.inl rfl))) (fun _ _ _ _ _ => by exact (pts_one (pt_not (pt_val (pe_call GAlike (hr.mono (by first | exact Nat.le_refl _ | decide | omega)) rfl mAlike kAlike bAlike .nil pass0 (pa_cons (pe_ix (ix_seqK (K := K) rfl) (pv 0) (pv 2) (fun _ _ => rfl)) (pa_cons (pe_ix (ix_seqK (K := K) rfl) (pv 1) (pv 2) (fun _ _ => rfl)) pa_nil))))))) (fun _ _ _ _ _ => by exact (pv 2))) (pe_lst pa_nil) (nomark _))))) pss_nil)
  (pss_one (ps_ret (pe_and (pe_cmpR op_eq (pv 0) (pv 1) (nomark _)) (pe_one (pe_cmpR op_eq (pe_callB call_isi (by rfl) T.isinstance (by decide +kernel) (pa_cons (pv 0) (pa_cons (pe_bltn (v := .ty "bool") (by rfl) T.bool (by decide +kernel) rfl) pa_nil))) (pe_callB call_isi (by rfl) T.isinstance (by decide +kernel) (pa_cons (pv 1) (pa_cons (pe_bltn (v := .ty "bool") (by rfl) T.bool (by decide +kernel) rfl) pa_nil))) (nomark _))))))), ?_⟩
    refine ⟨_, rfl, by show 2 ≤ sizeLine; decide, fun t ht => ?_⟩
    have s1 := Same.new (o := .tup [V.ty "tuple", V.ty "list"]) ht
    have hx1 := dpSame s1 hx
    have hy1 := dpSame s1 hy
    have k1 : ∀ H', Same (upd H t (.tup [V.ty "tuple", V.ty "list"])) H' → Q (.bl true) H' := fun H' s => k H' (Same.trans' s1 s)
    have e1 : (upd H t (.tup [V.ty "tuple", V.ty "list"])) t = some (.tup [V.ty "tuple", V.ty "list"]) := upd_same
    generalize (upd H t (.tup [V.ty "tuple", V.ty "list"])) = H1 at hx1 hy1 k1 e1
    clear k s1 ht hx hy
    refine ⟨_, t, _, _, [.type "tuple", .type "list"], _, rfl, e1, .cons (.ty _) (.cons (.ty _) .nil), dpTy hx1, isi_tl d, _, rfl, ?_⟩
    cases d with
    | none =>
      cases hx1
      cases hy1
      refine iteF ?_
      refine iteF ?_
      refine ⟨_, rfl, _, rfl, rfl, _, rfl, ?_⟩
      rw [show (decide (V.non = V.non)) = true from decide_eq_true rfl]
      refine iteT ?_
      refine ⟨_, rfl, _, _, _, _, _, rfl, .ty _, dpTy (.non : Dp K H1 (V.non) (.none)), isi_bool _, _, rfl, _, _, _, _, _, rfl, .ty _, dpTy (.non : Dp K H1 (V.non) (.none)), isi_bool _, rfl, ?_⟩
      rw [decide_eq_true rfl]
      exact k1 H1 fun _ _ h => h
    | bool b =>
      cases hx1
      cases hy1
      refine iteF ?_
      refine iteF ?_
      refine ⟨_, rfl, _, rfl, rfl, _, rfl, ?_⟩
      rw [show (decide (V.bl b = V.bl b)) = true from decide_eq_true rfl]
      refine iteT ?_
      refine ⟨_, rfl, _, _, _, _, _, rfl, .ty _, dpTy (.bl b : Dp K H1 (V.bl b) (.bool b)), isi_bool _, _, rfl, _, _, _, _, _, rfl, .ty _, dpTy (.bl b : Dp K H1 (V.bl b) (.bool b)), isi_bool _, rfl, ?_⟩
      rw [decide_eq_true rfl]
      exact k1 H1 fun _ _ h => h
    | int i =>
      cases hx1
      cases hy1
      refine iteF ?_
      refine iteF ?_
      refine ⟨_, rfl, _, rfl, rfl, _, rfl, ?_⟩
      rw [show (decide (V.int i = V.int i)) = true from decide_eq_true rfl]
      refine iteT ?_
      refine ⟨_, rfl, _, _, _, _, _, rfl, .ty _, dpTy (.int i : Dp K H1 (V.int i) (.int i)), isi_bool _, _, rfl, _, _, _, _, _, rfl, .ty _, dpTy (.int i : Dp K H1 (V.int i) (.int i)), isi_bool _, rfl, ?_⟩
      rw [decide_eq_true rfl]
      exact k1 H1 fun _ _ h => h
    | str z =>
      cases hx1
      cases hy1
      refine iteF ?_
      refine iteF ?_
      refine ⟨_, rfl, _, rfl, rfl, _, rfl, ?_⟩
      rw [show (decide (V.str z = V.str z)) = true from decide_eq_true rfl]
      refine iteT ?_
      refine ⟨_, rfl, _, _, _, _, _, rfl, .ty _, dpTy (.str z : Dp K H1 (V.str z) (.str z)), isi_bool _, _, rfl, _, _, _, _, _, rfl, .ty _, dpTy (.str z : Dp K H1 (V.str z) (.str z)), isi_bool _, rfl, ?_⟩
      rw [decide_eq_true rfl]
      exact k1 H1 fun _ _ h => h
    | list ds =>
      cases n with
      | zero => exact hf.elim
      | succ m =>
        obtain rfl := hsp m rfl
        refine iteT ?_
        refine ⟨_, rfl, by show 2 ≤ sizeLine; decide, fun t2 ht2 => ?_⟩
        have s2 := Same.new (o := .tup [V.ty "tuple", V.ty "list"]) ht2
        refine ⟨_, t2, _, _, [.type "tuple", .type "list"], _, rfl, upd_same, .cons (.ty _) (.cons (.ty _) .nil), dpTy (dpSame s2 hy1), isi_tl _, _, rfl, ?_⟩
        refine iteT ?_
        have hx2 := dpSame s2 hx1
        have hy2 := dpSame s2 hy1
        have k2 : ∀ H', Same (upd H1 t2 (.tup [V.ty "tuple", V.ty "list"])) H' → Q (.bl true) H' := fun H' s => k1 H' (Same.trans' s2 s)
        generalize (upd H1 t2 (.tup [V.ty "tuple", V.ty "list"])) = H2 at hx2 hy2 k2
        cases hx2 with
        | @lst a xs _ hs1 hp1 =>
          cases hy2 with
          | @lst b ys _ hs2 hp2 =>
            have l1 : xs.length = ds.length := dpLen hp1
            have l2 : ys.length = ds.length := dpLen hp2
            refine ⟨_, rfl, _, _, _, _, _, rfl, .ty _, dpTy (.lst hs1 hp1), isi_tuple _, _, rfl, _, _, _, _, _, rfl, .ty _, dpTy (.lst hs2 hp2), isi_tuple _, rfl, _, rfl, ?_⟩
            refine iteF ?_
            refine ⟨_, rfl, a, _, rfl, .inl hs1, _, rfl, b, _, rfl, .inl hs2, rfl, _, rfl, ?_⟩
            rw [l1, l2, show (!decide (V.int ds.length = V.int ds.length)) = false from by rw [decide_eq_true rfl] <;> rfl]
            refine iteF ?_
            refine ⟨_, rfl, a, _, rfl, .inl hs1, (ds.length : Int), by rw [l1], by omega, by have := hf.1; omega, fun D hD => ?_⟩
            refine lc_it (walk_range (n := (ds.length : Int).toNat)) (fun i Hc => Same H2 Hc ∧ Hc D = some (.lst [])) ⟨Same.new hD, upd_same⟩ (fun _ _ _ _ => trivial) ?_ ?_
            · rintro i x Hc Hc' hi ⟨sc, ec⟩ ⟨rfl, rfl⟩
              have hi' : i < ds.length := by omega
              obtain ⟨v1, d1, g1, q1, p1⟩ := dpAt hp1 hi'
              obtain ⟨v2, d2, g2, q2, p2⟩ := dpAt hp2 hi'
              rw [q1] at q2
              cases Option.some.inj q2
              refine ⟨rfl, ?_⟩
              refine ⟨_, rfl, _, rfl, .inl ⟨a, xs, _, v1, rfl, rfl, sqL_same sc hs1, at_nat g1, _, rfl, _, rfl, .inl ⟨b, ys, _, v2, rfl, rfl, sqL_same sc hs2, at_nat g2, v1, v2, d1, rfl, dpSame sc p1, dpSame sc p2, hf.2 d1 (List.mem_of_getElem? q1), fun H' s' => ⟨_, rfl, ?_⟩⟩⟩⟩
              refine iteF ?_
              exact ⟨Same.trans' sc s', s' _ _ ec⟩
            · rintro Hc ⟨sc, ec⟩
              refine ⟨Nat.zero_le _, fun z hz => ?_⟩
              have sz := Same.new (o := .lst []) hz
              refine ⟨D, z, [], rfl, rfl, SqL.of (sz _ _ ec), SqL.of upd_same, ?_⟩
              exact k2 _ (Same.trans' sc sz)
    | tuple ds =>
      cases n with
      | zero => exact hf.elim
      | succ m =>
        obtain rfl := hsp m rfl
        refine iteT ?_
        refine ⟨_, rfl, by show 2 ≤ sizeLine; decide, fun t2 ht2 => ?_⟩
        have s2 := Same.new (o := .tup [V.ty "tuple", V.ty "list"]) ht2
        refine ⟨_, t2, _, _, [.type "tuple", .type "list"], _, rfl, upd_same, .cons (.ty _) (.cons (.ty _) .nil), dpTy (dpSame s2 hy1), isi_tl _, _, rfl, ?_⟩
        refine iteT ?_
        have hx2 := dpSame s2 hx1
        have hy2 := dpSame s2 hy1
        have k2 : ∀ H', Same (upd H1 t2 (.tup [V.ty "tuple", V.ty "list"])) H' → Q (.bl true) H' := fun H' s => k1 H' (Same.trans' s2 s)
        generalize (upd H1 t2 (.tup [V.ty "tuple", V.ty "list"])) = H2 at hx2 hy2 k2
        cases hx2 with
        | @tup a xs _ hs1 hp1 =>
          cases hy2 with
          | @tup b ys _ hs2 hp2 =>
            have l1 : xs.length = ds.length := dpLen hp1
            have l2 : ys.length = ds.length := dpLen hp2
            refine ⟨_, rfl, _, _, _, _, _, rfl, .ty _, dpTy (.tup hs1 hp1), isi_tuple _, _, rfl, _, _, _, _, _, rfl, .ty _, dpTy (.tup hs2 hp2), isi_tuple _, rfl, _, rfl, ?_⟩
            refine iteF ?_
            refine ⟨_, rfl, a, _, rfl, .inr hs1, _, rfl, b, _, rfl, .inr hs2, rfl, _, rfl, ?_⟩
            rw [l1, l2, show (!decide (V.int ds.length = V.int ds.length)) = false from by rw [decide_eq_true rfl] <;> rfl]
            refine iteF ?_
            refine ⟨_, rfl, a, _, rfl, .inr hs1, (ds.length : Int), by rw [l1], by omega, by have := hf.1; omega, fun D hD => ?_⟩
            refine lc_it (walk_range (n := (ds.length : Int).toNat)) (fun i Hc => Same H2 Hc ∧ Hc D = some (.lst [])) ⟨Same.new hD, upd_same⟩ (fun _ _ _ _ => trivial) ?_ ?_
            · rintro i x Hc Hc' hi ⟨sc, ec⟩ ⟨rfl, rfl⟩
              have hi' : i < ds.length := by omega
              obtain ⟨v1, d1, g1, q1, p1⟩ := dpAt hp1 hi'
              obtain ⟨v2, d2, g2, q2, p2⟩ := dpAt hp2 hi'
              rw [q1] at q2
              cases Option.some.inj q2
              refine ⟨rfl, ?_⟩
              refine ⟨_, rfl, _, rfl, .inr (.inl ⟨a, xs, _, v1, rfl, rfl, TS.same sc _ _ hs1, at_nat g1, _, rfl, _, rfl, .inr (.inl ⟨b, ys, _, v2, rfl, rfl, TS.same sc _ _ hs2, at_nat g2, v1, v2, d1, rfl, dpSame sc p1, dpSame sc p2, hf.2 d1 (List.mem_of_getElem? q1), fun H' s' => ⟨_, rfl, ?_⟩⟩)⟩)⟩
              refine iteF ?_
              exact ⟨Same.trans' sc s', s' _ _ ec⟩
            · rintro Hc ⟨sc, ec⟩
              refine ⟨Nat.zero_le _, fun z hz => ?_⟩
              have sz := Same.new (o := .lst []) hz
              refine ⟨D, z, [], rfl, rfl, SqL.of (sz _ _ ec), SqL.of upd_same, ?_⟩
              exact k2 _ (Same.trans' sc sz)
    | dict ds => cases hx1
/-- a promise of nothing -/
theorem ok_alike_none (D : Dn K mg "_law_alike" sAlike ["_law_one", "_law_due"]) : Ok P w K mg base CX0 0 "_law_alike" ["_law_one", "_law_due"] (fun _ _ _ _ => False) := by
  obtain ⟨f, fd, F, g, b⟩ := D
  exact ⟨f, fd, ⟨fun vs H Q E h => h.elim, fun A outer s H args us vs Q E hr e hb hv h => h.elim⟩, g, F.kp, b⟩
/-- alike, of the same data on both sides, for data not deeper than n -/
theorem ok_alike (T : TxV mg) (D : Dn K mg "_law_alike" sAlike ["_law_one", "_law_due"]) : ∀ n : Nat, Ok P w K mg base CX0 (n + 1) "_law_alike" ["_law_one", "_law_due"] (spAlike K n)
  | 0 => ok_alike_step T D (ok_alike_none D) (fun m e => nomatch e)
  | n + 1 => ok_alike_step T D (ok_alike T D n) (fun m e => by cases e; rfl)
end
end FL
/-! ## LX13 -/
set_option Elab.async false
set_option linter.all false
set_option maxRecDepth 100000
set_option maxHeartbeats 4000000
/-! a text times a number -/
namespace FL
open PySem L2
theorem fold_rep (xs : List Nat) : ∀ (k : Nat) (acc : List Nat), List.foldl (· ++ ·) acc.toArray (List.replicate k xs.toArray) = (acc ++ (List.replicate k xs).flatten).toArray
  | 0, acc => by simp
  | k + 1, acc => by
    rw [List.replicate_succ, List.foldl_cons, show acc.toArray ++ xs.toArray = (acc ++ xs).toArray from by simp, fold_rep xs k (acc ++ xs), List.replicate_succ, List.flatten_cons, List.append_assoc]
/-- k times a text -/
abbrev repS (z : Str) (k : Nat) : Str := tS (List.replicate k z.cps.toList).flatten
theorem len_repS (z : Str) (k : Nat) : (repS z k).length = z.length * k := by
  show ((List.replicate k z.cps.toList).flatten.toArray).size = _
  rw [List.size_toArray]
  induction k with
  | zero => rfl
  | succ k ih =>
    rw [List.replicate_succ, List.flatten_cons, List.length_append, ih, Nat.mul_succ]
    have : z.cps.toList.length = z.length := by simp [Str.length]
    omega
def rMulS : R2 := fun x y H Q => ∃ (z : Str) (k : Nat), x = .str z ∧ y = .int (k : Int) ∧ k ≤ 1000 ∧ z.length ≤ 1000 ∧ Q (.str (repS z k)) H
theorem op_mul_str {X : Cx} : OpR X (binaryOp .Mult) rMulS := by
  intro pins s σ H x y v u Q I rx ry h
  obtain ⟨z, k, rfl, rfl, hk, hz, q⟩ := h
  obtain ⟨t, rfl⟩ := rx
  obtain ⟨t', rfl⟩ := ry
  have hzk : z.length * k ≤ 1000000 := Nat.mul_le_mul hz hk
  have fin : ∀ tk, Inv X pins σ H { s with toks := tk } := fun tk => I.tok _
  refine P.mul_str ?_ ?_ ?_ ?_
  · rw [decide_eq_false (show ¬ (k : Int) < -(2 ^ 63 : Int) by omega), decide_eq_false (show ¬ (k : Int) ≥ 2 ^ 63 by omega)]
    rfl
  · intro h1 _ h2
    have : (1 : Int) ≤ (k : Int) := by omega
    have h3 : (9223372036854775807 : Int) / 1000 ≤ (2 ^ 63 - 1) / (k : Int) := by
      refine Int.le_ediv_of_mul_le (by omega) ?_
      have : (9223372036854775807 : Int) / 1000 * (k : Int) ≤ (9223372036854775807 : Int) / 1000 * 1000 := Int.mul_le_mul_of_nonneg_left (by omega) (by decide)
      exact Int.le_trans this (by decide)
    have h4 : ((9223372036854775807 : Int) / 1000) = 9223372036854775 := by decide
    omega
  · intro _ _
    rw [Int.toNat_natCast]
    exact PyProof.Rows.short24 (by omega)
  · by_cases h1 : (k : Int) < 1
    · rw [if_pos h1]
      obtain rfl : k = 0 := by omega
      exact ⟨Nat.zero_le _, .str (repS z 0), H, fin _, ⟨_, rfl⟩, q⟩
    · rw [if_neg h1]
      have e : List.foldl (· ++ ·) #[] (List.replicate (k : Int).toNat z.cps) = (List.replicate k z.cps.toList).flatten.toArray := by
        have := fold_rep z.cps.toList k []
        rw [List.nil_append] at this
        rw [Int.toNat_natCast]
        simpa using this
      by_cases h2 : ((k : Int) == 1 || z.length == 0) = true
      · rw [if_pos h2]
        have e2 : repS z k = z := by
          rcases Bool.or_eq_true_iff.mp h2 with h | h
          · have h : (k : Int) = 1 := by simpa using h
            obtain rfl : k = 1 := by omega
            show (⟨_⟩ : Str) = z
            cases z with | mk a =>
            simp
          · have h0 : z.cps = #[] := Array.eq_empty_of_size_eq_zero (by simpa [Str.length] using h)
            show (⟨_⟩ : Str) = z
            cases z with | mk a =>
            simp only at h0
            subst h0
            simp
        refine ⟨.str z, H, I, ⟨t, rfl⟩, ?_⟩
        rw [e2] at q
        exact q
      · rw [if_neg h2]
        rw [e]
        refine ⟨?_, .str (repS z k), H, fin _, ⟨_, rfl⟩, q⟩
        · show (repS z k).length ≤ _
          rw [len_repS]
          exact Nat.le_trans hzk (by decide)
end FL
/-! ## K42 -/
set_option Elab.async false
set_option linter.all false
set_option maxRecDepth 100000
set_option maxHeartbeats 8000000
/-! k42: the law -/
namespace FL
open PySem L2 GxR SrtO
abbrev sLaw : Stmt := top 25
theorem scLaw : FnScope ["_law_script", "_law_row", "_law_turn", "_law_token", "_law_ways_here", "_law_tokens", "_law_simple", "_law_line", "_law_way", "_law_k", "_law_sign"] ["_law_script"] (defScope sLaw) := ⟨rfl, rfl, rfl, by decide +kernel, rfl, by decide +kernel, by decide +kernel⟩
section
variable {P : Program} {w : World} {K : PySem.W.Frag} {mg : Str → Option Value} {base : Heap}
theorem dpPairs {H : Hp} : ∀ {bs : List Addr} {ts : List Str}, Paired (fun b t => SqT K H b [.int ((t.length : Nat) : Int), .str t]) bs ts → DpAll K H (bs.map V.ref) (ts.map pD)
  | _, _, .nil => .nil
  | _, _, .cons a t => .cons (.tup a (.cons (.int _) (.cons (.str _) .nil))) (dpPairs t)
theorem paired_at {α β : Type} {R : α → β → Prop} : ∀ {xs : List α} {ys : List β} {i : Nat} {x : α}, Paired R xs ys → xs[i]? = some x → ∃ y, ys[i]? = some y ∧ R x y
  | _, _, _, _, .nil, h => nomatch h
  | _, _, 0, _, .cons r _, h => ⟨_, rfl, (Option.some.inj h) ▸ r⟩
  | _, _, i + 1, _, .cons _ t, h => paired_at (i := i) t h
theorem pairs_mono {α β : Type} {R S : α → β → Prop} (h : ∀ a b, R a b → S a b) : ∀ {xs : List α} {ys : List β}, Paired R xs ys → Paired S xs ys
  | _, _, .nil => .nil
  | _, _, .cons r t => .cons (h _ _ r) (pairs_mono h t)
theorem paired_snoc {α β : Type} {R : α → β → Prop} {x : α} {y : β} (r : R x y) : ∀ {xs : List α} {ys : List β}, Paired R xs ys → Paired R (xs ++ [x]) (ys ++ [y])
  | _, _, .nil => .cons r .nil
  | _, _, .cons a t => .cons a (paired_snoc r t)
theorem lineOkQ {x : List Nat} (h : x.length ≤ 200) (hx : ∀ c ∈ x, c ∈ lineCs) : lineBad (.str (tS x)) = none := by
  show badFrom 0 x = none
  refine bad_no fun j c hc q => ?_
  have := (List.getElem?_eq_some_iff.mp hc).1
  rcases q with q | q
  · omega
  · exact q (hx c (List.mem_of_getElem? hc))
/-- a sign in the simple quotation -/
def simF (c : Nat) : List Nat := (if inD c then [92] else []) ++ [c]
theorem simF_len : ∀ cs : List Nat, ((cs.map simF).flatten).length = cs.length + nBs cs
  | [] => rfl
  | c :: cs => by
    rw [List.map_cons, List.flatten_cons, List.length_append, simF_len cs, List.length_cons]
    unfold nBs
    rw [List.countP_cons]
    unfold simF
    by_cases e : inD c
    · rw [if_pos e, if_pos (decide_eq_true e)]
      show 2 + _ = _
      omega
    · rw [if_neg e, if_neg (fun z => e (of_decide_eq_true z))]
      show 1 + _ = _
      omega
theorem okT_Q {zs : List (List Nat)} (h : ∀ z ∈ zs, ∀ c ∈ z, c ∈ lineCs) : ∀ x ∈ zs.map tS, okT x := fun x hx => by
  obtain ⟨z, hz, rfl⟩ := List.mem_map.mp hx
  exact okT_line (h z hz)
/-- what a turn has at hand -/
structure TQ2 (K : PySem.W.Frag) (L : Addr) (Ps : List Addr) (d : Addr) (H : Hp) : Prop where
  dc : DiceAt K H d
  tz : Tz L qSt Ps H
section
variable {L d : Addr} {Ps : List Addr} {H H' : Hp}
theorem TQ2.ez (A : TQ2 K L Ps d H) (z : Ez L qSt Ps H H') : TQ2 K L Ps d H' ∧ Ev K H H' := ⟨⟨DiceAt.ez A.tz z A.dc, z.tz⟩, .ez A.tz z⟩
theorem TQ2.same (A : TQ2 K L Ps d H) (s : Same H H') : TQ2 K L Ps d H' ∧ Ev K H H' := A.ez (Ez.of_same A.tz s)
theorem TQ2.sameD (A : TQ2 K L Ps d H) (D : DiceAt K H' d) (s : SameD d H H') : TQ2 K L Ps d H' ∧ Ev K H H' := by
  obtain ⟨_, _, _, _, _, e, _⟩ := id A.dc
  exact ⟨⟨D, A.tz.sameD e s⟩, .sameD A.dc s⟩
theorem TQ2.put {l : Addr} {xs ys : List V} (A : TQ2 K L Ps d H) (e : H l = some (.lst xs)) (n : ∀ y ∈ xs, ∀ i, y ≠ V.int i) : TQ2 K L Ps d (upd H l (.lst ys)) :=
  ⟨A.dc.wr (Ne.symm (A.dc.ne e n)) (Loose.lst e), A.tz.sameD e sameD_upd⟩
end
theorem ok_law42 {L CL : Addr} {Ps : List Addr} {f : Addr} {fd : FuncData} (nL : L ∉ Ps) (T : TxQ mg) (hMin : mg "min" = none) (F : Fun K "law" "law" sLaw f fd)
    (OT : Ok P w K mg base CX0 1 "_law_taken" ["_law_row", "_law_many"] (spNext K)) (OW : Ok P w K mg base CX0 2 "_law_word" ["_law_row", "_law_most"] (spWord K)) (OY : Ok P w K mg base CX0 5 "_law_ways" ["_law_token", "_law_mode"] (spWays 4))
    (OA : Ok P w K mg base CX0 4 "_law_alike" ["_law_one", "_law_due"] (spAlike K 3)) (OS : Ok P w K mg base CX0 6 "split_line" ["line"] (fun vs H Q _ => spSplit K CL vs H Q E0)) (OQ : Ok P w K mg base CX0 9 "quote" ["token"] (spQuo L Ps)) (OJ : Ok P w K mg base CX0 10 "join_line" ["tokens"] (spJoin L Ps)) :
    FnOk P w K mg base CX0 12 f fd ["_law_script"] (spLawF K (L :: Ps)) := by
  obtain ⟨fT, fdT, GTaken, mTaken, kTaken, bTaken⟩ := OT
  obtain ⟨fW, fdW, GWord, mWord, kWord, bWord⟩ := OW
  obtain ⟨fY, fdY, GWays, mWays, kWays, bWays⟩ := OY
  obtain ⟨fA, fdA, GAlike, mAlike, kAlike, bAlike⟩ := OA
  obtain ⟨fS, fdS, GSplitLineC, mSplitLineC, kSplitLineC, bSplitLineC⟩ := OS
  obtain ⟨fQ, fdQ, GQuote, mQuote, kQuote, bQuote⟩ := OQ
  obtain ⟨fJ, fdJ, GJoinLine, mJoinLine, kJoinLine, bJoinLine⟩ := OJ
  refine F.ok scLaw (fun vs H Q E h => ?_) (fun cdv A outer s H vs Q E hr h => ?_)
  · obtain ⟨a, ns, rfl, _⟩ := h
    rfl
  · obtain ⟨a, ns, rfl, hs, hn, hT, k⟩ := h
    refine ⟨_, (pss_cons (ps_set (i := 1) scLaw.nd rfl (Or.inr rfl) (pe_lst (pa_cons (pv 0) (pa_cons pe_int (pa_cons pe_int (pa_cons pe_int pa_nil))))))
  (pss_cons (ps_for PassesOwn.never rfl (pi_range1 (by rfl) T.range (pa_cons pe_int pa_nil)) (pg_name (i := 2) scLaw.nd rfl (Or.inl rfl))
  (pss_cons (ps_set (i := 3) scLaw.nd rfl (Or.inl rfl) (pe_call GWord (hr.mono (by decide)) rfl mWord kWord bWord .nil pass0 (pa_cons (pv 1) (pa_cons pe_int pa_nil))))
  (pss_cons (ps_set (i := 4) scLaw.nd rfl (Or.inl rfl) (pe_ifExp (pt_cmpR op_eq (pv 3) pe_str (nomark _)) (pe_lst (pa_cons pe_str pa_nil)) (pe_call GWays (hr.mono (by first | exact Nat.le_refl _ | decide | omega)) rfl mWays kWays bWays .nil pass0 (pa_cons (pv 3) (pa_cons pe_str pa_nil)))))
  (pss_one (ps_if (pt_not (pt_val (pe_call GAlike (hr.mono (by first | exact Nat.le_refl _ | decide | omega)) rfl mAlike kAlike bAlike .nil pass0 (pa_cons (pe_call GQuote (hr.mono (by decide)) rfl mQuote kQuote bQuote .nil pass0 (pa_cons (pv 3) pa_nil)) (pa_cons (pe_ix ix_tup (pe_callB (call_minD rfl hr.units) (by rfl) hMin (by decide +kernel) (pa_cons (pe_lc (own := [("_law_way", 8)]) (g := gName 8) (by rfl) scLaw.nd (pi_list (pv 4)) (blkOk_by (own := [("_law_way", 8)]) (N := ["_law_script", "_law_row", "_law_turn", "_law_token", "_law_ways_here", "_law_tokens", "_law_simple", "_law_line", "_law_way", "_law_k", "_law_sign"]) (sc := defScope sLaw) (by decide +kernel)) (fun _ _ _ _ _ => by exact (pg_name (i := 8) scLaw.nd rfl (Or.inl rfl))) (fun _ _ _ _ _ => by exact pts_nil) (fun _ _ _ _ _ => by exact (pe_tup (pa_cons (pe_callB call_len_str (by rfl) T.len PySem.boot_len (pa_cons (pv 8) pa_nil)) (pa_cons (pv 8) pa_nil))))) pa_nil)) pe_int (fun _ _ => rfl)) pa_nil))))) (pss_one (ps_ret pe_bl)) pss_nil)))))
  (pss_cons (ps_setLc (i := 5) (own := [("_law_k", 9)]) (g := gName 9) (by rfl) scLaw.nd rfl rfl (sw_true rfl rfl rfl (by decide +kernel)) (pi_range1 (by rfl) T.range (pa_cons (pe_call GTaken (hr.mono (by decide)) rfl mTaken kTaken bTaken .nil pass0 (pa_cons (pv 1) (pa_cons pe_int pa_nil))) pa_nil)) (blkOk_by (own := [("_law_k", 9)]) (N := ["_law_script", "_law_row", "_law_turn", "_law_token", "_law_ways_here", "_law_tokens", "_law_simple", "_law_line", "_law_way", "_law_k", "_law_sign"]) (sc := defScope sLaw) (by decide +kernel)) (fun _ _ _ _ _ => by exact (pg_name (i := 9) scLaw.nd rfl (Or.inl rfl))) (fun _ _ _ _ _ => by exact pts_nil) (fun _ _ _ _ _ => by exact (pe_call GWord (hr.mono (by decide)) rfl mWord kWord bWord .nil pass0 (pa_cons (pv 1) (pa_cons pe_int pa_nil)))))
  (pss_cons (ps_for PassesOwn.never rfl (pi_list (pv 5)) (pg_name (i := 3) scLaw.nd rfl (Or.inl rfl))
  (pss_cons (ps_set (i := 6) scLaw.nd rfl (Or.inl rfl) (pe_op op_add_str (pe_op op_add_str pe_str (pe_join pe_str (pe_lc (own := [("_law_sign", 10)]) (g := gName 10) (by rfl) scLaw.nd (pi_str (pv 3)) (blkOk_by (own := [("_law_sign", 10)]) (N := ["_law_script", "_law_row", "_law_turn", "_law_token", "_law_ways_here", "_law_tokens", "_law_simple", "_law_line", "_law_way", "_law_k", "_law_sign"]) (sc := defScope sLaw) (by decide +kernel)) (fun _ _ _ _ _ => by exact (pg_name (i := 10) scLaw.nd rfl (Or.inl rfl))) (fun _ _ _ _ _ => by exact pts_nil) (fun _ _ _ _ _ => by exact (pe_op op_add_str (pe_op op_mul_str pe_str (pe_callTy call_int1 (by rfl) T.int (by decide +kernel) (pa_cons (pe_cmpR op_in_sign (pv 10) pe_str (by rfl)) pa_nil))) (pv 10)))))) pe_str))
  (pss_cons (ps_if (PW.pt (pw_or (pt_cmpR (op_neD hr.units) (pe_call GSplitLineC (hr.mono (by decide)) rfl mSplitLineC kSplitLineC bSplitLineC .nil pass0 (pa_cons (pe_call GQuote (hr.mono (by decide)) rfl mQuote kQuote bQuote .nil pass0 (pa_cons (pv 3) pa_nil)) pa_nil)) (pe_lst (pa_cons (pv 3) pa_nil)) (nomark _)) (pw_or1 (pt_cmpR op_gt (pe_callB call_len_str (by rfl) T.len PySem.boot_len (pa_cons (pe_call GQuote (hr.mono (by decide)) rfl mQuote kQuote bQuote .nil pass0 (pa_cons (pv 3) pa_nil)) pa_nil)) (pe_callB call_len_str (by rfl) T.len PySem.boot_len (pa_cons (pv 6) pa_nil)) (nomark _))))) (pss_one (ps_ret pe_bl)) pss_nil)
  (pss_one (ps_if (PW.pt (pw_and (pt_cmpR op_notIn_sign pe_str (pv 3) (by rfl)) (pw_and1 (pt_cmpR op_gt (pe_callB call_len_str (by rfl) T.len PySem.boot_len (pa_cons (pe_call GQuote (hr.mono (by decide)) rfl mQuote kQuote bQuote .nil pass0 (pa_cons (pv 3) pa_nil)) pa_nil)) (pe_op op_add (pe_callB call_len_str (by rfl) T.len PySem.boot_len (pa_cons (pv 3) pa_nil)) pe_int) (nomark _))))) (pss_one (ps_ret pe_bl)) pss_nil)))))
  (pss_cons (ps_set (i := 7) scLaw.nd rfl (Or.inl rfl) (pe_call GJoinLine (hr.mono (by decide)) rfl mJoinLine kJoinLine bJoinLine .nil pass0 (pa_cons (pv 5) pa_nil)))
  (pss_one (ps_ret (pe_and (pe_cmpR (op_eqD hr.units) (pe_call GSplitLineC (hr.mono (by decide)) rfl mSplitLineC kSplitLineC bSplitLineC .nil pass0 (pa_cons (pv 7) pa_nil)) (pv 5) (nomark _)) (pe_one (pe_cmpR op_eq (pv 7) (pe_join pe_str (pe_lc (own := [("_law_token", 3)]) (g := gName 3) (by rfl) scLaw.nd (pi_list (pv 5)) (blkOk_by (own := [("_law_token", 3)]) (N := ["_law_script", "_law_row", "_law_turn", "_law_token", "_law_ways_here", "_law_tokens", "_law_simple", "_law_line", "_law_way", "_law_k", "_law_sign"]) (sc := defScope sLaw) (by decide +kernel)) (fun _ _ _ _ _ => by exact (pg_name (i := 3) scLaw.nd rfl (Or.inl rfl))) (fun _ _ _ _ _ => by exact pts_nil) (fun _ _ _ _ _ => by exact (pe_call GQuote (hr.mono (by decide)) rfl mQuote kQuote bQuote .nil pass0 (pa_cons (pv 3) pa_nil))))) (nomark _))))))))))), ?_⟩
    refine ⟨_, rfl, by show 4 ≤ sizeLine; decide, fun d hd => ?_⟩
    have d0 : DiceAt K (upd H d (.lst [.ref a, .int 0, .int 0, .int 0])) d := ⟨a, ns, 0, 0, 0, upd_same, hs.upd (Loose.free hd), by omega, by decide, by decide, by decide⟩
    have hT0 : ∀ P ∈ L :: Ps, upd H d (.lst [.ref a, .int 0, .int 0, .int 0]) P = some (.tbl #[]) := fun P hP => Same.new hd _ _ (hT P hP)
    have A0 : TQ2 K L Ps d (upd H d (.lst [.ref a, .int 0, .int 0, .int 0])) := ⟨d0, ⟨fun P hP => ⟨#[], hT0 P hP, trivial⟩, .nil (hT0 L List.mem_cons_self)⟩⟩
    generalize upd H d (.lst [.ref a, .int 0, .int 0, .int 0]) = H0 at A0
    clear d0 hT0 hT
    have fit : ∀ a b : List Nat, a.length ≤ 1000 → b.length ≤ 1000 → (tS a).length + (tS b).length ≤ sizeLine := fun a b ha hb => by
      rw [lenQ, lenQ]
      exact Nat.le_trans (show a.length + b.length ≤ 2000 by omega) (by decide)
    have lsz : ∀ z : List Nat, z.length ≤ 1000 → (tS z).length ≤ sizeLine := fun z hz => by
      rw [lenQ]
      exact Nat.le_trans hz (by decide)
    refine gAsg' (x := .ref d) ?_
    dsimp only
    refine seq_join' (fun σ' H' => ∃ x2 x3 x4 x5 x6 x7 x8 x9 x10, σ' = [some (.ref a), some (.ref d), x2, x3, x4, x5, x6, x7, x8, x9, x10] ∧ TQ2 K L Ps d H') (fun nx' hnx => ?_) ?_
    · refine ⟨(4 : Int), rfl, by decide, by decide, ?_⟩
      refine for_it (walk_range (n := (4 : Int).toNat)) (fun i σ Hi => ∃ x2 x3 x4 x5 x6 x7 x8 x9 x10, σ = [some (.ref a), some (.ref d), x2, x3, x4, x5, x6, x7, x8, x9, x10] ∧ TQ2 K L Ps d Hi) ⟨_, _, _, _, _, _, _, _, _, rfl, A0⟩ (fun _ _ _ _ _ => trivial) ?_ ?_
      rotate_left
      · exact fun σ Hi h => hnx _ _ h
      rintro i0 v0 σ Hi Hi' hi ⟨x2, x3, x4, x5, x6, x7, x8, x9, x10, rfl, Ai⟩ ⟨rfl, rfl⟩
      refine gAsg' (x := .int _) ?_
      dsimp only
      refine ⟨_, rfl, d, 4, rfl, Ai.dc, by decide, fun cs H2 l2 c2 d2 S2 => ?_⟩
      obtain ⟨A2, E2⟩ := Ai.sameD d2 S2
      clear Ai E2 S2 d2
      refine gAsg' (x := .str (tS cs)) ?_
      dsimp only
      refine seq_join' (fun σ' H' => ∃ (lw : Addr) (a0 : List Nat) (ws : List (List Nat)), σ' = [some (.ref a), some (.ref d), some (.int (0 + (i0 : Int))), some (.str (tS cs)), some (.ref lw), x5, x6, x7, x8, x9, x10] ∧ TQ2 K L Ps d H' ∧ H' lw = some (lsQ (a0 :: ws)) ∧ Mn (qTx cs) (a0 :: ws) ∧ (a0 :: ws).length ≤ 20736 ∧ ∀ y ∈ a0 :: ws, y.length ≤ 17) (fun nx' hnx => ?_) ?_
      · refine ⟨_, rfl, rfl, _, rfl, ?_⟩
        by_cases e0 : cs = []
        · subst e0
          refine ⟨by show 1 ≤ sizeLine; decide, fun lw hlw => ?_⟩
          obtain ⟨A3, _⟩ := A2.same (Same.new (o := .lst [V.str "\"\""]) hlw)
          exact hnx _ _ ⟨lw, [34, 34], [], rfl, A3, upd_same, Mn.one _, by decide, fun y hy => by rw [List.mem_singleton.mp hy]; decide⟩
        · rw [show decide (V.str (tS cs) = V.str "") = false from decide_eq_false fun h => e0 (tS_inj (show tS cs = tS [] from by injection h))]
          refine ⟨_, rfl, cs, 0, rfl, l2, by decide, .inl rfl, fun lw H3 s3 nl el => ?_⟩
          obtain ⟨A3, _⟩ := A2.same s3
          have mn := (qAll_mn cs).1
          have ll := lawW_len cs 0 (.inl rfl)
          have l3 : 12 ^ cs.length ≤ 12 ^ 4 := Nat.pow_le_pow_right (by decide) l2
          have wl := fun y hy => way_len cs 0 y hy
          generalize hW : lawW cs 0 = W at el mn ll wl
          cases W with
          | nil => exact absurd mn.1 (List.not_mem_nil)
          | cons a0 ws =>
            exact hnx _ _ ⟨lw, a0, ws, rfl, A3, el, by rw [qTx, if_neg e0]; exact mn, by omega, fun y hy => by have := wl y hy; omega⟩
      rintro σ' H3 ⟨lw, a0, ws, rfl, A3, el, mn, wl, yl⟩
      clear A2
      refine ⟨_, rfl, cs, rfl, ⟨by omega, c2⟩, A3.tz, fun H4 x4 => ?_⟩
      obtain ⟨A4, E4⟩ := A3.ez x4
      have el4 := E4.strs el
      clear A3 E4 el
      refine ⟨_, rfl, lw, rfl, ⟨_, SqL.of el4⟩, fun D2 hD2 => ?_⟩
      refine lc_it (walk_list (xs := ((a0 :: ws).map tS).map V.str)) (fun j Hc => Same H4 Hc ∧ ∃ bs : List Addr, Hc D2 = some (.lst (bs.map V.ref)) ∧ Paired (fun b t => SqT K Hc b [.int ((t.length : Nat) : Int), .str t]) bs (((a0 :: ws).map tS).take j)) ⟨Same.new hD2, [], upd_same, .nil⟩ (fun j Hc _ h => SqL.of (h.1 _ _ el4)) ?_ ?_
      · rintro j x Hc Hc' hj ⟨sc, bs, eb, hb⟩ ⟨rfl, hx⟩
        obtain ⟨t, ht, rfl, _⟩ := getV hx
        have tl : t.length ≤ 17 := by
          obtain ⟨y, hy, rfl⟩ := List.mem_map.mp (List.mem_of_getElem? ht)
          rw [lenQ]
          exact yl y hy
        refine ⟨rfl, ?_⟩
        unfold tYes
        refine iteT ?_
        refine ⟨_, rfl, t, rfl, Nat.le_of_lt (small1000 (by omega)), _, rfl, by show 2 ≤ sizeLine; decide, fun tt htt => ?_⟩
        have st := Same.new (o := .tup [V.int ((t.length : Nat) : Int), V.str t]) htt
        have eb' := st _ _ eb
        have lb : bs.length ≤ 20736 := by
          have := Paired.length hb
          rw [List.length_take, List.length_map] at this
          omega
        refine ⟨_, eb', by rw [List.length_map]; exact Nat.lt_of_le_of_lt lb (by decide), fun b o hb0 => ?_, bs ++ [tt], by rw [upd_same, List.map_append] <;> rfl, ?_⟩
        · rw [upd_ne (ne_of_none hb0 hD2)]
          exact st _ _ (sc _ _ hb0)
        · rw [take_more' ht]
          refine paired_snoc (R := fun b (t : PySem.Str) => SqT K (upd (upd _ tt (.tup _)) D2 (.lst _)) b [.int ((t.length : Nat) : Int), .str t]) (TS.put eb' _ _ (SqT.of upd_same)) (pairs_mono (R := fun b (t : PySem.Str) => SqT K _ b [.int ((t.length : Nat) : Int), .str t]) (S := fun b (t : PySem.Str) => SqT K _ b [.int ((t.length : Nat) : Int), .str t]) (fun b t q => TS.put eb' _ _ (TS.same st _ _ q)) hb)
      rintro Hc ⟨sc, bs, eb, hb⟩
      rw [List.take_of_length_le (Nat.le_of_eq (List.length_map _).symm)] at hb
      refine ⟨D2, _, pD (tS a0), (ws.map tS).map pD, rfl, SqL.of eb, dpPairs hb, alike_pD ((a0 :: ws).map tS), Nat.le_trans (depth_pD ((a0 :: ws).map tS)) (by decide), fun i v hv hm => ?_⟩
      rw [minD_pD, minP_tS, (minC_mn ws a0).uniq mn] at hm
      obtain ⟨b, hb', rfl, _⟩ := getV hv
      obtain ⟨t, ht, qt⟩ := paired_at hb hb'
      have : (((a0 :: ws).map tS).map pD)[i]? = some (pD t) := by rw [List.getElem?_map, ht] <;> rfl
      have e := Option.some.inj (this.symm.trans hm)
      obtain rfl := pD_inj e
      refine ⟨b, _, 1, _, rfl, rfl, qt, rfl, ?_⟩
      obtain ⟨A5, E5⟩ := A4.same sc
      refine ⟨_, _, .str (tS (qTx cs)), rfl, .str _, .str _, trivial, fun H5 s5 => ⟨_, rfl, ?_⟩⟩
      refine iteF ?_
      obtain ⟨A6, _⟩ := A5.same s5
      exact ⟨_, _, _, _, _, _, _, _, _, rfl, A6⟩
    rintro σ' H1 ⟨x2, x3, x4, x5, x6, x7, x8, x9, x10, rfl, A1⟩
    clear A0
    refine seq_join' (fun σ' H' => ∃ (lt : Addr) (zs : List (List Nat)) (x2 x3 x4 x6 x7 x8 x9 x10 : Option V), σ' = [some (.ref a), some (.ref d), x2, x3, x4, some (.ref lt), x6, x7, x8, x9, x10] ∧ TQ2 K L Ps d H' ∧ H' lt = some (lsQ zs) ∧ zs.length ≤ 5 ∧ ∀ z ∈ zs, z.length ≤ 20 ∧ ∀ c ∈ z, c ∈ lineCs) (fun nx' hnx => ?_) ?_
    · refine ⟨_, rfl, d, 6, rfl, A1.dc, by decide, by decide, fun n H2 n0 n1 d2 S2 => ⟨n, rfl, by omega, by omega, fun D hD => ?_⟩⟩
      obtain ⟨n, rfl⟩ := Int.eq_ofNat_of_zero_le n0
      obtain ⟨A2, _⟩ := A1.sameD d2 S2
      refine lc_range (lo := 0) (n := ((n : Nat) : Int).toNat) (fun i Hc => TQ2 K L Ps d Hc ∧ ∃ zs : List (List Nat), Hc D = some (lsQ zs) ∧ zs.length = i ∧ ∀ z ∈ zs, z.length ≤ 20 ∧ ∀ c ∈ z, c ∈ lineCs) ⟨(A2.same (Same.new hD)).1, [], upd_same, rfl, fun _ h => nomatch h⟩ ?_ ?_
      · rintro i Hi hi ⟨Ai, zs, e, le, hz⟩
        refine ⟨rfl, ?_⟩
        unfold tYes
        refine iteT ?_
        refine ⟨_, rfl, d, 20, rfl, Ai.dc, by decide, fun cs H3 l3 c3 d3 S3 => ?_⟩
        obtain ⟨A3, E3⟩ := Ai.sameD d3 S3
        have e3 := E3.strs e
        refine ⟨_, e3, small1000 (by rw [List.length_map, List.length_map]; omega), A3.put e3 noInt_str, zs ++ [cs], ?_, by rw [List.length_append, le] <;> rfl, fun z hz' => ?_⟩
        · rw [upd_same, lsQ, List.map_append, List.map_append]
          rfl
        · rcases List.mem_append.mp hz' with h | h
          · exact hz z h
          · rw [List.mem_singleton.mp h]
            exact ⟨l3, c3⟩
      · rintro Hc ⟨Ac, zs, e, le, hz⟩
        exact hnx _ _ ⟨D, zs, _, _, _, _, _, _, _, _, rfl, Ac, e, by omega, hz⟩
    rintro σ' H2 ⟨lt, zs, x2', x3', x4', x6', x7', x8', x9', x10', rfl, A2, e2, l5, hz⟩
    clear A1
    refine seq_join' (fun σ' H' => ∃ (x2 x3 x4 x6 x7 x8 x9 x10 : Option V), σ' = [some (.ref a), some (.ref d), x2, x3, x4, some (.ref lt), x6, x7, x8, x9, x10] ∧ TQ2 K L Ps d H' ∧ H' lt = some (lsQ zs)) (fun nx' hnx => ?_) ?_
    · refine ⟨_, rfl, lt, rfl, ⟨_, SqL.of e2⟩, ?_⟩
      refine for_it (walk_list (xs := (zs.map tS).map V.str)) (fun i σ Hi => ∃ (x2 x3 x4 x6 x7 x8 x9 x10 : Option V), σ = [some (.ref a), some (.ref d), x2, x3, x4, some (.ref lt), x6, x7, x8, x9, x10] ∧ TQ2 K L Ps d Hi ∧ Hi lt = some (lsQ zs)) ⟨_, _, _, _, _, _, _, _, rfl, A2, e2⟩ (fun i σ Hi _ h => ?_) ?_ ?_
      · obtain ⟨_, _, _, _, _, _, _, _, _, _, h⟩ := h
        exact SqL.of h
      rotate_left
      · exact fun σ Hi h => hnx _ _ h
      rintro i v σ Hi Hi' hi ⟨x2, x3, x4, x6, x7, x8, x9, x10, rfl, Ai, ei⟩ ⟨rfl, hx⟩
      obtain ⟨cs, hcs, rfl⟩ := getQ hx
      obtain ⟨l20, cl⟩ := hz cs (List.mem_of_getElem? hcs)
      have q37 := qTx_37 l20
      have qm := qTx_mem cl
      have qa := qTx_apo cs
      have qb := qTx_bs cs
      have qs := q_one (no0 cl) (no0 qm)
      have nb : nBs cs ≤ 20 := by
        have := apo_bs cs
        omega
      refine gAsg' (x := .str (tS cs)) ?_
      dsimp only
      refine seq_join' (fun σ' H' => ∃ (sm : List Nat) (x10 : Option V), σ' = [some (.ref a), some (.ref d), x2, some (.str (tS cs)), x4, some (.ref lt), some (.str (tS sm)), x7, x8, x9, x10] ∧ sm.length = cs.length + nBs cs + 2 ∧ TQ2 K L Ps d H' ∧ H' lt = some (lsQ zs)) (fun nx' hnx => ?_) ?_
      · refine ⟨⟨_, rfl⟩, _, rfl, tS cs, rfl, fun D hD => ?_⟩
        refine lc_it (walk_str (z := tS cs)) (fun i Hc => Same Hi' Hc ∧ Hc D = some (lsQ ((cs.take i).map simF))) ⟨Same.new hD, upd_same⟩ (fun _ _ _ _ => trivial) ?_ ?_
        · rintro i x Hc Hc' hi ⟨sc, eD⟩ ⟨rfl, c, hc, rfl⟩
          have hc : cs[i]? = some c := by
            rw [← Array.getElem?_toList] at hc
            exact hc
          refine ⟨rfl, ?_⟩
          unfold tYes
          refine iteT ?_
          have put : ∀ (y : List Nat) (H4 : Hp), y = simF c → Same Hc' H4 → ∃ acc, H4 D = some (.lst acc) ∧ acc.length < sizeLine ∧ Same Hi' (upd H4 D (.lst (acc ++ [V.str (tS y)]))) ∧ upd H4 D (.lst (acc ++ [V.str (tS y)])) D = some (lsQ (List.map simF (List.take (i + 1) cs))) := fun y H4 ey s4 => by
            refine ⟨_, s4 _ _ eD, small1000 ?_, sameWr (Same.trans' sc s4) hD, ?_⟩
            · rw [List.length_map, List.length_map, List.length_map, List.length_take]
              omega
            · rw [upd_same, take_more' hc, List.map_append, lsQ, List.map_append, List.map_append, ey]
              rfl
          refine ⟨_, rfl, c, _, rfl, rfl, .inr ⟨_, rfl, ?_⟩⟩
          rw [inD_mem]
          by_cases q : inD c
          · rw [decide_eq_true q]
            refine ⟨"\\", 1, rfl, rfl, by decide, by decide, _, rfl, tS [92], tS [c], rfl, rfl, fit _ _ (by decide) (by show 1 ≤ 1000; decide), ?_⟩
            rw [catQ]
            exact put _ _ (by rw [simF, if_pos q]) (fun _ _ h => h)
          · rw [decide_eq_false q]
            refine ⟨"\\", 0, rfl, rfl, by decide, by decide, _, rfl, tS [], tS [c], rfl, rfl, fit _ _ (by decide) (by show 1 ≤ 1000; decide), ?_⟩
            rw [catQ]
            exact put _ _ (by rw [simF, if_neg q]) (fun _ _ h => h)
        · rintro Hc ⟨sc, eD⟩
          rw [show (tS cs).cps.size = cs.length by simp [tS], List.take_length] at eD
          have sl := simF_len cs
          have s2' : ∀ z ∈ cs.map simF, z.length ≤ 2 := fun z hz' => by
            obtain ⟨c, _, rfl⟩ := List.mem_map.mp hz'
            unfold simF
            by_cases q : inD c
            · rw [if_pos q]
              exact Nat.le_refl 2
            · rw [if_neg q]
              show 1 ≤ 2
              omega
          refine ⟨"", D, (cs.map simF).map tS, rfl, rfl, .inl (SqL.of eD), ?_, ?_⟩
          · have := sumQ s2'
            rw [List.length_map] at this
            rw [List.length_map, List.length_map, show ("" : PySem.Str).length = 0 from rfl]
            omega
          rw [join_tS]
          refine ⟨tS [34], tS (cs.map simF).flatten, rfl, rfl, fit _ _ (by decide) (by omega), ?_⟩
          rw [catQ]
          refine ⟨tS ([34] ++ (cs.map simF).flatten), tS [34], rfl, rfl, fit _ _ (by rw [List.length_append, List.length_singleton]; omega) (by decide), ?_⟩
          rw [catQ]
          obtain ⟨Ac, Ec⟩ := Ai.same sc
          exact hnx _ _ ⟨_, _, rfl, by rw [List.length_append, List.length_append, show ([34] : List Nat).length = 1 from rfl]; omega, Ac, Ec.strs ei⟩
      rintro σ' H3 ⟨sm, x10', rfl, ls, A3, e3⟩
      clear Ai ei
      have ok1 := okT_Q (zs := [cs]) fun z hz' => by rw [List.mem_singleton.mp hz']; exact cl
      refine seq_join' (fun σ' H' => ∃ (x10 : Option V), σ' = [some (.ref a), some (.ref d), x2, some (.str (tS cs)), x4, some (.ref lt), some (.str (tS sm)), x7, x8, x9, x10] ∧ TQ2 K L Ps d H' ∧ H' lt = some (lsQ zs)) (fun nx' hnx => ?_) ?_
      · refine ⟨_, rfl, cs, rfl, ⟨by omega, cl⟩, A3.tz, fun H4 x4 => ?_⟩
        obtain ⟨A4, E4⟩ := A3.ez x4
        have lb := lineOkQ (x := qTx cs) (by omega) qm
        refine ⟨_, rfl, .inl ⟨tS (qTx cs), rfl, by rw [lenQ]; omega⟩, fun q hq => absurd (hq.symm.trans lb) (by simp), fun z ez _ => ?_⟩
        injection ez with ez
        subst ez
        refine ⟨fun q hq => absurd (hq.symm.trans qs) (by simp), fun ws hw l H5 s5 nl el => ?_⟩
        have hw : ws = [cs] := (Except.ok.inj (qs.symm.trans hw)).symm
        subst hw
        obtain ⟨A5, E5⟩ := A4.same s5
        refine ⟨_, rfl, by show 1 ≤ sizeLine; decide, fun l2 hl2 => ?_⟩
        have s6 := Same.new (o := .lst [V.str (tS cs)]) hl2
        obtain ⟨A6, E6⟩ := A5.same s6
        refine ⟨_, _, dp_txts (s6 _ _ el), dp_txts (l := [cs].map tS) upd_same, (shpStrs (n := 0) ok1).ok (by decide), (shpStrs (n := 0) ok1).ok (by decide), _, rfl, ?_⟩
        rw [strs_eqv ok1 ok1, decide_eq_true rfl]
        refine iteF ?_
        refine ⟨_, rfl, cs, rfl, ⟨by omega, cl⟩, A6.tz, fun H7 x7 => ?_⟩
        obtain ⟨A7, E7⟩ := A6.ez x7
        refine ⟨tS (qTx cs), rfl, lsz _ (by omega), _, rfl, tS sm, rfl, lsz _ (by omega), _, _, rfl, rfl, _, rfl, ?_⟩
        rw [lenQ, lenQ, decide_eq_false (show ¬ ((sm.length : Int) < ((qTx cs).length : Int)) by omega)]
        refine iteF ?_
        exact hnx _ _ ⟨_, rfl, A7, E7.strs (E6.strs (E5.strs (E4.strs e3)))⟩
      clear A3 e3
      rintro σ' H4 ⟨x10', rfl, A4, e4⟩
      refine ⟨_, rfl, 39, _, rfl, rfl, ?_⟩
      by_cases q : 39 ∈ cs
      · rw [show decide (39 ∈ (tS cs).cps.toList) = true from decide_eq_true q]
        refine ⟨_, rfl, ?_⟩
        refine iteF ?_
        refine iteF ?_
        exact ⟨_, _, _, _, _, _, _, _, rfl, A4, e4⟩
      · rw [show decide (39 ∈ (tS cs).cps.toList) = false from decide_eq_false q]
        refine ⟨_, rfl, ?_⟩
        refine iteT ?_
        have n0 : nApo cs = 0 := List.countP_eq_zero.mpr fun c hc e => q (of_decide_eq_true e ▸ hc)
        refine ⟨_, rfl, cs, rfl, ⟨by omega, cl⟩, A4.tz, fun H5 x5 => ?_⟩
        obtain ⟨A5, E5⟩ := A4.ez x5
        refine ⟨tS (qTx cs), rfl, lsz _ (by omega), _, rfl, tS cs, rfl, lsz _ (by omega), _, _, rfl, rfl, _, _, rfl, rfl, _, rfl, ?_⟩
        rw [lenQ, lenQ, decide_eq_false (show ¬ ((cs.length : Int) + 2 < ((qTx cs).length : Int)) by omega)]
        refine iteF ?_
        exact ⟨_, _, _, _, _, _, _, _, rfl, A5, E5.strs e4⟩
    rintro σ' H3 ⟨x2, x3, x4, x6, x7, x8, x9, x10, rfl, A3, e3⟩
    have zl : ∀ z ∈ zs, ∀ c ∈ z, c ∈ lineCs := fun z hz' => (hz z hz').2
    have qn := qLine_len (rs := zs) fun z hz' => (hz z hz').1
    have qm := qLine_mem zl
    have qs := qLine_ok (fun z hz' => no0 (zl z hz')) (no0 qm)
    refine ⟨_, rfl, lt, zs, rfl, e3, l5, hz, A3.tz, fun H4 x4 => ?_⟩
    obtain ⟨A4, E4⟩ := A3.ez x4
    have e4 := E4.strs e3
    clear A3 E4 e3
    refine gAsg' (x := .str (tS (qLine zs))) ?_
    dsimp only
    have lb := lineOkQ (x := qLine zs) (by omega) qm
    refine ⟨_, rfl, _, rfl, .inl ⟨tS (qLine zs), rfl, by rw [lenQ]; omega⟩, fun q hq => absurd (hq.symm.trans lb) (by simp), fun z ez _ => ?_⟩
    injection ez with ez
    subst ez
    refine ⟨fun q hq => absurd (hq.symm.trans qs) (by simp), fun ws hw l H5 s5 nl el => ?_⟩
    have hw : ws = zs := (Except.ok.inj (qs.symm.trans hw)).symm
    subst hw
    obtain ⟨A5, E5⟩ := A4.same s5
    have e5 := E5.strs e4
    have okz := okT_Q zl
    refine ⟨_, rfl, _, _, dp_txts el, dp_txts e5, (shpStrs (n := 0) okz).ok (by decide), (shpStrs (n := 0) okz).ok (by decide), ?_⟩
    refine ⟨_, rfl, ?_⟩
    rw [strs_eqv okz okz, decide_eq_true rfl]
    refine iteT ?_
    refine ⟨_, rfl, ⟨_, rfl⟩, _, rfl, lt, rfl, ⟨_, SqL.of e5⟩, fun D hD => ?_⟩
    refine lc_it (walk_list (xs := ((ws.map tS).map V.str))) (fun i Hc => TQ2 K L Ps d Hc ∧ Hc lt = some (lsQ ws) ∧ Hc D = some (lsQ ((ws.take i).map qTx))) ⟨(A5.same (Same.new hD)).1, Same.new hD _ _ e5, upd_same⟩ (fun i Hc _ h => SqL.of h.2.1) ?_ ?_
    · rintro i x Hc Hc' hi ⟨Ac, ec, eD⟩ ⟨rfl, hx⟩
      obtain ⟨cs, hcs, rfl⟩ := getQ hx
      have tk := hz cs (List.mem_of_getElem? hcs)
      refine ⟨rfl, ?_⟩
      unfold tYes
      refine iteT ?_
      refine ⟨_, rfl, cs, rfl, ⟨by have := tk.1; omega, tk.2⟩, Ac.tz, fun H6 x6 => ?_⟩
      obtain ⟨A6, E6⟩ := Ac.ez x6
      have e6 := E6.strs eD
      have l6 := E6.strs ec
      have nD : lt ≠ D := fun z => by
        rw [z, hD] at e5
        cases e5
      refine ⟨_, e6, small1000 ?_, A6.put e6 noInt_str, by rw [upd_ne nD]; exact l6, ?_⟩
      · rw [List.length_map, List.length_map, List.length_map, List.length_take]
        omega
      · rw [upd_same, take_more' hcs, List.map_append, lsQ, List.map_append, List.map_append]
        rfl
    · rintro Hc ⟨Ac, ec, eD⟩
      rw [show ((ws.map tS).map V.str).length = ws.length by rw [List.length_map, List.length_map], List.take_length] at eD
      have sq : ∀ z ∈ ws.map qTx, z.length ≤ 37 := fun z hz' => by
        obtain ⟨r, hr, rfl⟩ := List.mem_map.mp hz'
        exact qTx_37 (hz r hr).1
      refine ⟨" ", D, (ws.map qTx).map tS, rfl, rfl, .inl (SqL.of eD), ?_, ?_⟩
      · have := sumQ sq
        rw [List.length_map] at this
        rw [List.length_map, List.length_map, show (" " : PySem.Str).length = 1 from rfl]
        have : ws.length * 37 ≤ 5 * 37 := Nat.mul_le_mul_right _ l5
        omega
      rw [joinQ]
      refine ⟨rfl, ?_⟩
      rw [show decide (V.str (tS (qLine ws)) = V.str (tS (TL.joinL [32] (ws.map qTx)))) = true from decide_eq_true rfl]
      exact k _
end
end FL
/-! ## E1 -/
set_option Elab.async false
set_option linter.all false
set_option maxRecDepth 100000
set_option maxHeartbeats 4000000
namespace FL
open PySem L2 GxR
section
variable {K : PySem.W.Frag} {h : Heap} {mg : Str → Option Value}
theorem dn_of (X : K.In h) (G : h.Ns mainGlobals mg) (c : He.SaysD fa fn K) {x : Str} {st : Stmt} {ps : List Str} (i : Nat) (hd : fn[i]? = some (dD x st)) (hf : fa[i]? = some (.glo x))
    (hb : ∀ (kV doc pm : Value) (an : Option Addr) (cdv ct : Value) (us : List Value), us.length = ps.length → bindArgs (PySem.W.fnOf x x (defArgs st) (defBody st) (defScope st) .none kV doc pm an cdv ct) ⟨us, []⟩ = pure (ps.zip us)) :
    ∃ fd, Fun K x x st (He.ga K x) fd ∧ mg x = some (.ref (He.ga K x)) ∧ Binds K fd ps [] ∧ fd.code = .ref (He.codeOf K (x, none)) := by
  obtain ⟨fd, F⟩ := c.def_ i hd
  have F' : FunD K x x (defArgs st) (defBody st) (defScope st) [] [] (He.ga K x) fd := F
  have b : Binds K fd ps [] := F'.bindsN hb
  obtain ⟨oc, od, dV, kV, doc, pm, an, cdv, ct, osl, rfl, lk, hcd, hD, hK⟩ := F'.ex
  obtain ⟨cc, rfl⟩ := He.codeIn_ref hcd
  have ec : He.codeOf K (x, none) = cc := He.codeOf_eq (p := (x, none)) lk rfl
  have e : dV = .none := by
    rcases hD with ⟨_, e⟩ | ⟨e, _⟩
    · exact e
    · exact absurd rfl e
  subst e
  refine ⟨_, ⟨⟨oc, od, kV, doc, pm, an, _, ct, osl, rfl, lk, hcd⟩, F'.kp⟩, He.glo_ok X G (c.fact i hf), b, ?_⟩
  rw [ec] <;> rfl
theorem dm_of (c : He.SaysD fa fn K) {C m q : Str} {st : Stmt} {ps : List Str} (i : Nat) (hd : fn[i]? = some ⟨(C, some m), m, q, defArgs st, defBody st, defScope st, [], []⟩)
    (hb : ∀ (kV doc pm : Value) (an : Option Addr) (cdv ct : Value) (us : List Value), us.length = ps.length → bindArgs (PySem.W.fnOf m q (defArgs st) (defBody st) (defScope st) .none kV doc pm an cdv ct) ⟨us, []⟩ = pure (ps.zip us)) :
    ∃ fd, Fun K m q st (He.fAd K (C, some m)) fd ∧ Binds K fd ps [] := by
  obtain ⟨fd, F⟩ := c.def_ i hd
  have F' : FunD K m q (defArgs st) (defBody st) (defScope st) [] [] (He.fAd K (C, some m)) fd := F
  have b : Binds K fd ps [] := F'.bindsN hb
  obtain ⟨oc, od, dV, kV, doc, pm, an, cdv, ct, osl, rfl, lk, hcd, hD, hK⟩ := F'.ex
  have e : dV = .none := by
    rcases hD with ⟨_, e⟩ | ⟨e, _⟩
    · exact e
    · exact absurd rfl e
  subst e
  exact ⟨_, ⟨⟨oc, od, kV, doc, pm, an, _, ct, osl, rfl, lk, hcd⟩, F'.kp⟩, b⟩
theorem dn1 {x : Str} {st : Stmt} {ps : List Str} (h : ∃ fd, Fun K x x st (He.ga K x) fd ∧ mg x = some (.ref (He.ga K x)) ∧ Binds K fd ps [] ∧ fd.code = .ref (He.codeOf K (x, none))) : Dn K mg x st ps := by
  obtain ⟨fd, a, b, c, _⟩ := h
  exact ⟨_, fd, a, b, c⟩
theorem dn2 {x : Str} {st : Stmt} {ps : List Str} (h : ∃ fd, Fun K x x st (He.ga K x) fd ∧ mg x = some (.ref (He.ga K x)) ∧ Binds K fd ps [] ∧ fd.code = .ref (He.codeOf K (x, none))) : DnC K mg x st ps (He.codeOf K (x, none)) := by
  obtain ⟨fd, a, b, c, e⟩ := h
  exact ⟨_, fd, a, e, b, c⟩
theorem dnSplitLine (X : K.In h) (G : h.Ns mainGlobals mg) (c : He.SaysD fa fn K) : Dn K mg "split_line" sSplitLine ["line"] := dn1 (dn_of X G c 0 rfl rfl fun _ _ _ _ _ _ us hl => match us, hl with | [_], _ => rfl)
theorem dnQuote (X : K.In h) (G : h.Ns mainGlobals mg) (c : He.SaysD fa fn K) : Dn K mg "quote" sQuote ["token"] := dn1 (dn_of X G c 1 rfl rfl fun _ _ _ _ _ _ us hl => match us, hl with | [_], _ => rfl)
theorem dnJoinLine (X : K.In h) (G : h.Ns mainGlobals mg) (c : He.SaysD fa fn K) : Dn K mg "join_line" sJoinLine ["tokens"] := dn1 (dn_of X G c 2 rfl rfl fun _ _ _ _ _ _ us hl => match us, hl with | [_], _ => rfl)
theorem dnCheckLine (X : K.In h) (G : h.Ns mainGlobals mg) (c : He.SaysD fa fn K) : Dn K mg "check_line" sCheckLine ["line"] := dn1 (dn_of X G c 3 rfl rfl fun _ _ _ _ _ _ us hl => match us, hl with | [_], _ => rfl)
theorem dnCheckTokens (X : K.In h) (G : h.Ns mainGlobals mg) (c : He.SaysD fa fn K) : Dn K mg "check_tokens" sCheckTokens ["tokens"] := dn1 (dn_of X G c 4 rfl rfl fun _ _ _ _ _ _ us hl => match us, hl with | [_], _ => rfl)
theorem dnIsToken (X : K.In h) (G : h.Ns mainGlobals mg) (c : He.SaysD fa fn K) : DnC K mg "is_token" sIsToken ["token"] (He.codeOf K ("is_token", none)) := dn2 (dn_of X G c 5 rfl rfl fun _ _ _ _ _ _ us hl => match us, hl with | [_], _ => rfl)
theorem dnIndexBehindBlanks (X : K.In h) (G : h.Ns mainGlobals mg) (c : He.SaysD fa fn K) : Dn K mg "index_behind_blanks" sIndexBehindBlanks ["line", "start"] := dn1 (dn_of X G c 6 rfl rfl fun _ _ _ _ _ _ us hl => match us, hl with | [_, _], _ => rfl)
theorem dnReadToken (X : K.In h) (G : h.Ns mainGlobals mg) (c : He.SaysD fa fn K) : Dn K mg "read_token" sReadToken ["line", "start"] := dn1 (dn_of X G c 7 rfl rfl fun _ _ _ _ _ _ us hl => match us, hl with | [_, _], _ => rfl)
theorem dnReadPart (X : K.In h) (G : h.Ns mainGlobals mg) (c : He.SaysD fa fn K) : Dn K mg "read_part" sReadPart ["line", "start"] := dn1 (dn_of X G c 8 rfl rfl fun _ _ _ _ _ _ us hl => match us, hl with | [_, _], _ => rfl)
theorem dnReadQuoted (X : K.In h) (G : h.Ns mainGlobals mg) (c : He.SaysD fa fn K) : Dn K mg "read_quoted" sReadQuoted ["line", "start"] := dn1 (dn_of X G c 9 rfl rfl fun _ _ _ _ _ _ us hl => match us, hl with | [_, _], _ => rfl)
theorem dnShortestText (X : K.In h) (G : h.Ns mainGlobals mg) (c : He.SaysD fa fn K) : DnC K mg "shortest_text" sShortestText ["texts"] (He.codeOf K ("shortest_text", none)) := dn2 (dn_of X G c 10 rfl rfl fun _ _ _ _ _ _ us hl => match us, hl with | [_], _ => rfl)
theorem dnTaken (X : K.In h) (G : h.Ns mainGlobals mg) (c : He.SaysD fa fn K) : Dn K mg "_law_taken" sTaken ["_law_row", "_law_many"] := dn1 (dn_of X G c 11 rfl rfl fun _ _ _ _ _ _ us hl => match us, hl with | [_, _], _ => rfl)
theorem dnAlike (X : K.In h) (G : h.Ns mainGlobals mg) (c : He.SaysD fa fn K) : Dn K mg "_law_alike" sAlike ["_law_one", "_law_due"] := dn1 (dn_of X G c 12 rfl rfl fun _ _ _ _ _ _ us hl => match us, hl with | [_, _], _ => rfl)
theorem dnSigns (X : K.In h) (G : h.Ns mainGlobals mg) (c : He.SaysD fa fn K) : Dn K mg "_law_signs" sSigns [] := dn1 (dn_of X G c 13 rfl rfl fun _ _ _ _ _ _ us hl => match us, hl with | [], _ => rfl)
theorem dnWord (X : K.In h) (G : h.Ns mainGlobals mg) (c : He.SaysD fa fn K) : Dn K mg "_law_word" sWord ["_law_row", "_law_most"] := dn1 (dn_of X G c 14 rfl rfl fun _ _ _ _ _ _ us hl => match us, hl with | [_, _], _ => rfl)
theorem dnWays (X : K.In h) (G : h.Ns mainGlobals mg) (c : He.SaysD fa fn K) : Dn K mg "_law_ways" sWays ["_law_token", "_law_mode"] := dn1 (dn_of X G c 15 rfl rfl fun _ _ _ _ _ _ us hl => match us, hl with | [_, _], _ => rfl)
theorem dnLaw (X : K.In h) (G : h.Ns mainGlobals mg) (c : He.SaysD fa fn K) : DnC K mg "law" sLaw ["_law_script"] (He.codeOf K ("law", none)) := dn2 (dn_of X G c 16 rfl rfl fun _ _ _ _ _ _ us hl => match us, hl with | [_], _ => rfl)
theorem txv (X : K.In h) (G : h.Ns mainGlobals mg) (c : He.SaysD fa fn K) : TxV mg where
  len := He.free_ok X G (c.fact 17 rfl)
  int := He.free_ok X G (c.fact 18 rfl)
  tuple := He.free_ok X G (c.fact 19 rfl)
  list := He.free_ok X G (c.fact 20 rfl)
  range := He.free_ok X G (c.fact 21 rfl)
  isinstance := He.free_ok X G (c.fact 22 rfl)
  str := He.free_ok X G (c.fact 23 rfl)
  bool := He.free_ok X G (c.fact 24 rfl)
  all := He.free_ok X G (c.fact 25 rfl)
  set := He.free_ok X G (c.fact 26 rfl)
  enumerate := He.free_ok X G (c.fact 27 rfl)
theorem gcMOST_CHARACTERS (X : K.In h) (G : h.Ns mainGlobals mg) (c : He.SaysD fa fn K) : GI mg "MOST_CHARACTERS" 200 := He.int_ok X G (c.fact 33 rfl)
theorem gcLINE_CHARACTERS (X : K.In h) (G : h.Ns mainGlobals mg) (c : He.SaysD fa fn K) : GS mg "LINE_CHARACTERS" (" !\"#$&'()*+,-./0123456789:;<=>?@ABCDEFGHIJKLMNOPQRSTUVWXYZ[\\]^_`abcdefghijklmnopqrstuvwxyz{|}~" : Str) := He.str_ok X G (c.fact 34 rfl)
theorem gcSPECIAL_CHARACTERS (X : K.In h) (G : h.Ns mainGlobals mg) (c : He.SaysD fa fn K) : GS mg "SPECIAL_CHARACTERS" (" \"'\\" : Str) := He.str_ok X G (c.fact 35 rfl)
theorem frSorted (X : K.In h) (G : h.Ns mainGlobals mg) (c : He.SaysD fa fn K) : mg "sorted" = none := He.free_ok X G (c.fact 28 rfl)
theorem frMin (X : K.In h) (G : h.Ns mainGlobals mg) (c : He.SaysD fa fn K) : mg "min" = none := He.free_ok X G (c.fact 29 rfl)
theorem frReversed (X : K.In h) (G : h.Ns mainGlobals mg) (c : He.SaysD fa fn K) : mg "reversed" = none := He.free_ok X G (c.fact 30 rfl)
theorem frZip (X : K.In h) (G : h.Ns mainGlobals mg) (c : He.SaysD fa fn K) : mg "zip" = none := He.free_ok X G (c.fact 31 rfl)
theorem frAny (X : K.In h) (G : h.Ns mainGlobals mg) (c : He.SaysD fa fn K) : mg "any" = none := He.free_ok X G (c.fact 32 rfl)
theorem erLineError (X : K.In h) (G : h.Ns mainGlobals mg) (e : exB K = true) : ErI K mg "LineError" (He.ga K "LineError") (He.fAd K ("LineError", some "__init__")) ["index"] := erIB_ok X G (He.ba e).1
theorem tabsNd (e : exB K = true) : (tf.map fun p => (He.cT K p).2).Nodup := of_decide_eq_true (He.ba e).2
theorem dmLineErrorInit (c : He.SaysD fa fn K) : ∃ fd, Fun K "__init__" "LineError.__init__" sLineErrorInit (He.fAd K ("LineError", some "__init__")) fd ∧ Binds K fd ["self", "index"] [] := dm_of c 17 rfl (fun _ _ _ _ _ _ us hl => match us, hl with | [_, _], _ => rfl)
end
end FL
/-! ## E2 -/
set_option Elab.async false
set_option linter.all false
set_option maxRecDepth 100000
set_option maxHeartbeats 0
/-! the end: what is left is the law's own promise -/
namespace FL
open PySem L2 GxR
abbrev lawK : Nat := 60
abbrev tabs (K : PySem.W.Frag) : List (Addr × Addr) := tf.map (He.cT K)
/-- the law's def keeps its promise, whatever stands fixed through the run -/
def LawOk : Prop := ∀ (w : World) (K : PySem.W.Frag) (mg : Str → Option Value) (base h : Heap) (fd : FuncData), K.In h → h.Ns mainGlobals mg → He.SaysX fa fn ts tf exB w h K → (∀ p ∈ tabs K, GxR.TabB base mg p.1 p.2) →
  FunD K "law" "law" (defArgs sLaw) (defBody sLaw) (defScope sLaw) [] [] (He.ga K "law") fd → FnOk RL.prog w K mg base CX0 lawK (He.ga K "law") fd ["_law_script"] (spLaw K ((tabs K).map (·.2)))
end FL
open PySem PySem.W PySem.Calls PyProof.Rows FL
theorem holds_of (ok : LawOk) : PySem.Challenge.rw_flagclause_k42_shortest_quoting.Holds := by
  w_on; o_law
  refine HandSHeadRun.head_any (r := RR) (q := view RR.prog [25]) (H := hkX) (ob := obX) (M := 6000) (loose := loose) (d := HandSHeadRun.topDef RR.prog 25) (kwd := []) obX_eq
    (by kernel_rfl) (fun s => by kernel_rfl) runX (by kernel_rfl) (by kernel_rfl) (by kernel_rfl) (by rfl) (by first | assumption | decide +kernel) (by decide +kernel) ⟨rfl, rfl, rfl, rfl, rfl, by decide +kernel⟩ ?hw ?hc
  case hw => w_witness2
  case hc =>
    refine LamX.walk_ofTsE (l := RL) (n := 63) (k := lawK) (x := "_law_script") (CX := fun _ => L2.CX0) rfl (by decide) (by kernel_rfl) ⟨rfl, by decide, by decide⟩ ?F (fun _ _ _ _ _ z => z)
    intro w mg f h Y G hmg0
    obtain ⟨K, KX, c⟩ := Y
    have hmg : mg ("law" : PySem.Str) = some (.ref f) := by
      have e : (HandSHeadRun.topDef RR.prog 25).name = ("law" : PySem.Str) := by kernel_rfl
      rw [← e]
      exact hmg0
    obtain ⟨fd, F⟩ := c.t.d.def_ 16 (d := dD "law" sLaw) rfl
    have eg := hmg.symm.trans (He.glo_ok KX G (c.t.d.fact 16 (f := .glo "law") rfl))
    cases eg
    have b := L2.FunD.bindsA (ps := ["_law_script"]) F fun _ _ _ _ _ _ us hl => match us, hl with | [_], _ => rfl
    refine ⟨K, KX, fd, tabs K, spLaw K ((tabs K).map (·.2)), fun p hp => ?_, fun p hp => ?_, fun p hp => ?_, fun s u => b s [u] rfl, fun H a ns hl _ hT hS => ⟨a, ns, rfl, hS, hl, fun P hP => ?_, fun _ => rfl⟩, fun base kb nb tb => ok w K mg base h fd KX G c (fun p hp => ⟨(tb p hp).1, (tb p hp).2, (tb p hp).3⟩) F⟩
    · obtain ⟨q, hq, rfl⟩ := List.mem_map.mp hp
      exact c.empty q hq
    · obtain ⟨q, hq, rfl⟩ := List.mem_map.mp hp
      exact c.out q hq
    · obtain ⟨q, hq, rfl⟩ := List.mem_map.mp hp
      exact PySem.W.codeHd_of_K KX (c.hd q hq)
    · obtain ⟨q, hq, rfl⟩ := List.mem_map.mp hP
      exact hT q hq
/-! ## F42 -/
set_option Elab.async false
set_option linter.all false
set_option maxRecDepth 100000
set_option maxHeartbeats 4000000
namespace FL
open PySem L2 GxR
theorem fun_ofD {K : PySem.W.Frag} {x : Str} {st : Stmt} {f : Addr} {fd : FuncData} (F : FunD K x x (defArgs st) (defBody st) (defScope st) [] [] f fd) : Fun K x x st f fd := by
  obtain ⟨oc, od, dV, kV, doc, pm, an, cdv, ct, osl, rfl, lk, hcd, hD, hK⟩ := F.ex
  have e : dV = .none := by
    rcases hD with ⟨_, e⟩ | ⟨e, _⟩
    · exact e
    · exact absurd rfl e
  subst e
  exact ⟨⟨oc, od, kV, doc, pm, an, _, ct, osl, rfl, lk, hcd⟩, F.kp⟩
theorem code_ofD {K : PySem.W.Frag} {x : Str} {st : Stmt} {fd : FuncData} (F : FunD K x x (defArgs st) (defBody st) (defScope st) [] [] (He.ga K x) fd) : fd.code = .ref (He.codeOf K (x, none)) := by
  obtain ⟨oc, od, dV, kV, doc, pm, an, cdv, ct, osl, rfl, lk, hcd, hD, hK⟩ := F.ex
  obtain ⟨cc, rfl⟩ := He.codeIn_ref hcd
  have ec : He.codeOf K (x, none) = cc := He.codeOf_eq (p := (x, none)) lk rfl
  rw [ec] <;> rfl
theorem lineEq : (" !\"#$&'()*+,-./0123456789:;<=>?@ABCDEFGHIJKLMNOPQRSTUVWXYZ[\\]^_`abcdefghijklmnopqrstuvwxyz{|}~" : Str) = tS lineCs := by decide +kernel
theorem specEq : (" \"'\\" : Str) = tS [32, 34, 39, 92] := by decide +kernel
theorem txt {K : PySem.W.Frag} {h : Heap} {mg : Str → Option Value} (X : K.In h) (G : h.Ns mainGlobals mg) (c : He.SaysD fa fn K) : TxT mg := ⟨txv X G c, gcMOST_CHARACTERS X G c, lineEq ▸ gcLINE_CHARACTERS X G c⟩
theorem txq {K : PySem.W.Frag} {h : Heap} {mg : Str → Option Value} (X : K.In h) (G : h.Ns mainGlobals mg) (c : He.SaysD fa fn K) : TxQ mg := ⟨txt X G c, specEq ▸ gcSPECIAL_CHARACTERS X G c⟩
theorem lawOk : LawOk := fun w K mg base h fd X G c tb F => by
  have cd := c.t.d
  have T := txv X G cd
  have TT := txt X G cd
  have TQ := txq X G cd
  have TL := TT.l
  have Tb' := T.toTxB
  have Ta := Tb'.toTxA
  have eLine := erLineError X G c.more
  let L := (He.cT K ("shortest_text", none)).2
  let P1 := (He.cT K ("is_token", none)).2
  have tL := tb (He.cT K ("shortest_text", none)) (List.mem_map.mpr ⟨("shortest_text", none), by decide, rfl⟩)
  have tL : LamX.TabB base mg (He.codeOf K ("shortest_text", none)) L := ⟨tL.code, tL.bm, tL.gP⟩
  have tP1 := tb (He.cT K ("is_token", none)) (List.mem_map.mpr ⟨("is_token", none), by decide, rfl⟩)
  have nd : [L, P1].Nodup := tabsNd c.more
  have nL : L ∉ [P1] := (List.nodup_cons.mp nd).1
  obtain ⟨fdL, FL', bL⟩ := dmLineErrorInit cd
  have gL := ok_initLine (P := RL.prog) (w := w) (mg := mg) (base := base) (C := (He.ga K "LineError")) FL'
  have oBlk := ok_blk (P := RL.prog) (w := w) (base := base) (dnIndexBehindBlanks X G cd) T.len
  have oRq := ok_readQ eLine gL bL (dnReadQuoted X G cd) T.len
  have oRp := ok_readP eLine gL bL (dnReadPart X G cd) T.len oRq
  have oRt := ok_readT (dnReadToken X G cd) T.len oRp
  have oCkl := ok_checkLine TL eLine gL bL (dnCheckLine X G cd)
  have oSpl := ok_split (dnSplitLine X G cd) T.len oCkl oBlk oRt
  have oTok := ok_token (P := RL.prog) (w := w) (Ps := [P1]) (dnIsToken X G cd) TT tP1 List.mem_cons_self
  have oCk := ok_ckT (dnCheckTokens X G cd) TT oTok
  have oSh := ok_shT (P := RL.prog) (w := w) (K := K) (Ps := [P1]) (dnShortestText X G cd) TT (frMin X G cd) tL
  have oQu := ok_quo nL (frReversed X G cd) (dnQuote X G cd) TQ oCk oSh
  have oJn := ok_join nL (dnJoinLine X G cd) TQ oCk oQu
  have oTak := ok_taken41 (P := RL.prog) (w := w) (base := base) (dnTaken X G cd) Ta
  have oSig := ok_signs (P := RL.prog) (w := w) (base := base) (dnSigns X G cd)
  have oWrd := ok_word (dnWord X G cd) Tb' oTak oSig
  have oWay := ok_ways (P := RL.prog) (w := w) (base := base) T (dnWays X G cd) 4
  have oAlk := ok_alike (P := RL.prog) (w := w) (base := base) T (dnAlike X G cd) 3
  have ol := ok_law42 nL TQ (frMin X G cd) (fun_ofD F) oTak oWrd oWay oAlk oSpl.calm oQu oJn
  exact (freeze rfl ol).mono (by decide)
end FL
open PySem PySem.W PySem.Calls PyProof.Rows FL
theorem PySem.Challenge.cw_flagclause_k42_shortest_quoting_holds : PySem.Challenge.rw_flagclause_k42_shortest_quoting.Holds :=
  holds_of lawOk
