import PyProof.Rows.All
import Wide.All
import OpenK.AllK
import Wide.FinOn
import HandS.ForMost
import HandS.ForExc
import HandS.Defaults
import HandS.ExcInit
import HandS.ExcIs
import HandS.ExcField
import HandS.IsInst
import HandS.Ends
import HandS.HeadEnd
import HandS.MakeKw
import PyProof.ReprRoads
import KE.KExcIs
import HandS.Wide
import HandS.WideBits
import HandS.ExcValue
import HandS.HeadHook4
import PyProof.ReprBulk
import PyProof.Rows.StrJoinMade
import PyProof.Rows.StrDigitsNeg
import HandS.Style
import HandS.Codes
import HandS.Head2
import PySem.Challenge.RW_kindspreads_k01_errors_made
set_option Elab.async false
set_option linter.all false
set_option maxRecDepth 100000
set_option maxHeartbeats 4000000
/-! exceptions with one field, made as values -/
namespace PySem
namespace Kx
open PySem.W PySem.Calls PyProof.Rows PySem.HandSPX
section
variable {M : Model} {prog : Program} {w : World} {A : Around} {E : Value → Shared → Prop} {R : Result → Shared → Prop} {h : Heap} {g : Array GenState} {d : Drawn} {t : Nat} {os : OsState}
variable {nm q : Str} {C N : Addr} {bs bm bmB : List Value} {hdct : Bool} {sn : List Str} {sub : List Value} {ab : Bool} {col : Option Bool} {dd : Option Addr} {k0 k1 k2 k3 k5 : Option Value} {B newId initId : String}
theorem kw_check (F : ExcBaseFacts B newId initId bmB) (hT : ∀ X : String, bm.contains (.type X) = bmB.contains (.type X)) {rest : List Value} {kw : List (Str × Value)} {Q : Unit → Shared → Prop}
    (hC : h.get? C = some (excClassObj nm q C N bs bm hdct sn sub ab col dd k0 k1 k2 k3 k5 newId)) (hq : Q () ⟨h, g, d, t, os⟩) : wpAny M A (checkBuiltinCall newId ⟨.ref C :: rest, kw⟩) Q E ⟨h, g, d, t, os⟩ := by
  have hcont : (Value.ref C :: bm).contains (.type B) = true := by rw [List.contains_cons, hT, F.hasB, Bool.or_true]
  have hstar := F.noStar
  simp only [checkBuiltinCall, F.newKind, F.newSplit, F.newRow]
  repeat (first | refine wpAny_loadPart_at hC ?_ | (refine wpAny_isSubtype_exc hC ?_; rw [hcont]) | refine wpAny_staticBase_exc hC ?_ | refine wpAny_madeBy_exc hC ?_ | simp only [bne_self_eq_false, Bool.false_eq_true, if_false] | wp_step)
  exact hq
theorem kw_new (F : ExcBaseFacts B newId initId bmB) (hT : ∀ X : String, bm.contains (.type X) = bmB.contains (.type X)) {rest : List Value} {kw : List (Str × Value)}
    (hC : h.get? C = some (excClassObj nm q C N bs bm hdct sn sub ab col dd k0 k1 k2 k3 k5 newId))
    (hq : R (.ok (.ret (.ref (h.objs.size + 1)))) ⟨(h.push (W.kdv_tup rest)).push (excO C h.objs.size), g, d, t, os⟩) (hrest : rest.length ≤ sizeLine) :
    codeAny (model prog w) A (.builtin newId ⟨.ref C :: rest, kw⟩) R ⟨h, g, d, t, os⟩ := by
  have hends := F.ends
  have hcB : (Value.ref C :: bm).contains (.type B) = true := by rw [List.contains_cons, hT, F.hasB, Bool.or_true]
  have hcA : (Value.ref C :: bm).contains (.type "AttributeError") = false := by rw [List.contains_cons, hT, F.noAttr]; rfl
  have hcN : (Value.ref C :: bm).contains (.type "NameError") = false := by rw [List.contains_cons, hT, F.noName]; rfl
  refine codeAny_builtinAt F.entry ?_
  unfold Builtin.«BaseException.__new__»
  refine wpAt_bind ?_
  show wpAt _ _ _ (stack >>= _) _ _ _
  refine wpAt_bind (wpAt_stack fun p below => wpAt_of_wpAny ?_)
  wp_walk
  refine wpAt_of_wpAny ?_
  rw [F.owner]
  repeat (first | with_reducible refine wpAny_madeHere_exc F.canon hC ?_ | with_reducible refine wpAny_loadPart_at hC ?_ | (with_reducible refine wpAny_isSubtype_exc hC ?_; first | rw [hcB] | rw [hcA] | rw [hcN]) | wp_step)
  show R _ _
  rw [Heap.size_push]
  exact hq
theorem kw_type (F : ExcBaseFacts B newId initId bmB) (hT : ∀ X : String, bm.contains (.type X) = bmB.contains (.type X)) {rest : List Value} {kw : List (Str × Value)} {fI : Addr} {Q : Fin → Shared → Prop}
    (hC : h.get? C = some (excClassObj nm q C N bs bm hdct sn sub ab col dd k0 k1 k2 k3 k5 newId))
    (hi : W.Looks (model prog w) h (typeLookup (.ref C) "__init__") (some (.ref fI))) (hb : ∀ self, W.Looks (model prog w) h (bindSpecial (.ref fI) self) (.ref fI, [self])) (hrest : rest.length ≤ sizeLine)
    (hq : codeAny (model prog w) A (.call (.ref fI) ⟨.ref (h.objs.size + 1) :: rest, kw⟩)
      (fun r s' => match r with | .ok (.ret v) => v = .none ∧ Q (.done (.ret (.ref (h.objs.size + 1)))) s' | .ok _ => False | .error e => E e s')
      ⟨(h.push (W.kdv_tup rest)).push (excO C h.objs.size), g, d, t, os⟩) :
    wpAny (model prog w) A (Builtin.«type.__call__» ⟨.ref C :: rest, kw⟩) Q E ⟨h, g, d, t, os⟩ := by
  repeat (first | with_reducible refine wpAny_loadPart_at hC ?_ | with_reducible refine wpAny_madeBy_exc hC ?_ | wp_step)
  refine codeAny_call_builtin_code (Code.quiet_builtin _ F.quiet) (kw_check F hT hC ?_)
  refine kw_new F hT hC ?_ hrest
  show wpAny _ _ _ _ _ _
  have k : ∀ b o, h.get? b = some o → ((h.push (W.kdv_tup rest)).push (excO C h.objs.size)).get? b = some o := fun b o e => Heap.get?_push_of_some _ (Heap.get?_push_of_some _ e)
  have hC₁ := k _ _ hC
  have hget : ((h.push (W.kdv_tup rest)).push (excO C h.objs.size)).get? (h.objs.size + 1) = some (excO C h.objs.size) := by heap_get
  have hcC : (Value.ref C :: bm).contains (.ref C) = true := by simp
  have i1 := hi.keeps k
  have b1 := (hb (.ref (h.objs.size + 1))).keeps k
  unfold isInstance
  repeat (first | with_reducible refine wpAny_loadPart_at hget ?_ | (with_reducible refine wpAny_isSubtype_exc hC₁ ?_; rw [hcC]) | wp_step)
  show wpAny _ _ (typeLookup (.ref C) _) _ _ _
  refine i1.at ?_
  refine wpAny_holding (wpAny_bind (b1.at ?_))
  refine wpAny_bind (wpAny_call (codeAny_mono hq fun r s' z => ?_))
  rcases r with e | (v | _ | _ | _) <;> first | exact z | exact z.elim | skip
  obtain ⟨rfl, z⟩ := z
  first
    | exact wpAny_pure (wpAny_pure z)
    | (wp_walk; exact z)
theorem kw_call (F : ExcBaseFacts B newId initId bmB) (hT : ∀ X : String, bm.contains (.type X) = bmB.contains (.type X)) {rest : List Value} {kw : List (Str × Value)} {fI : Addr}
    (hC : h.get? C = some (excClassObj nm q C N bs bm hdct sn sub ab col dd k0 k1 k2 k3 k5 newId))
    (hi : W.Looks (model prog w) h (typeLookup (.ref C) "__init__") (some (.ref fI))) (hb : ∀ self, W.Looks (model prog w) h (bindSpecial (.ref fI) self) (.ref fI, [self])) (hrest : rest.length ≤ sizeLine)
    (hq : codeAny (model prog w) (A.under (.builtin "type.__call__" ⟨.ref C :: rest, kw⟩)) (.call (.ref fI) ⟨.ref (h.objs.size + 1) :: rest, kw⟩) (W.InitBack (h.objs.size + 1) R)
      ⟨(h.push (W.kdv_tup rest)).push (excO C h.objs.size), g, d, t, os⟩) :
    codeAny (model prog w) A (.call (.ref C) ⟨rest, kw⟩) R ⟨h, g, d, t, os⟩ := by
  have f1 := tc_lookup
  have f2 := tc_bind (.ref C)
  have hTy : (⟨h, g, d, t, os⟩ : Shared).TypeIs (.ref C) "type" := ⟨_, hC, rfl⟩
  refine codeAny_of_tree ?_
  show wpAny _ _ (callAny (.ref C) _) _ _ _
  repeat (any_goals (first | assumption | with_reducible refine wpAny_loadPart_at hC ?_ | wp_step))
  refine ⟨rfl, ?_⟩
  refine codeAny_call_builtin_at (Code.quiet_builtin _ (by decide +kernel)) entry_typeCall (wpAny_check_type_call_sub hC (kw_type F hT hC hi hb hrest ?_))
  refine codeAny_mono hq fun r s' z => ?_
  rcases r with e | (v | _ | _ | _) <;> exact z
end
end Kx
end PySem
set_option Elab.async false
set_option linter.all false
set_option maxRecDepth 100000
set_option maxHeartbeats 4000000
/-! promises that hold where no repr is under way -/
namespace L2
open PySem PySem.Spec PyProof.Rows
structure FnG (P : Program) (w : World) (K : PySem.W.Frag) (mg : Str → Option Value) (base : Heap) (CX : CXT) (k : Nat) (f : Addr) (fd : FuncData) (ps : List Str) (sp : Sp) : Prop where
  len : ∀ vs H Q E, sp vs H Q E → vs.length = ps.length
  go : ∀ (A : Around) (outer : List Env) (s : Shared) (H : Hp) (args : Args) (us : List Value) (vs : List V) (Q : VK) (E : XK), A.guards = some [] → Room k A → Env0 P w K mg base A outer s H → BindsTo s fd args (ps.zip us) → Vals vs us → sp vs H Q E →
    codeAny (model P w) A (.call (.ref f) args) (CR CX outer P w H s Q E) s
theorem fnG_of {CX : CXT} {P : Program} {w : World} {K : PySem.W.Frag} {mg : Str → Option Value} {base : Heap} {k : Nat} {f : Addr} {name qual : Str} {params : Arguments} {body : List Stmt} {scope : Scope} {dV kV doc pm cdv ct oc : Value} {an od : Option Addr}
    {osl : Array (Option Value)} {N ps : List Str} {sp : Sp} (lk : K.lookup f = some ⟨oc, od, .func (PySem.W.fnOf name qual params body scope dV kV doc pm an cdv ct), osl⟩) (hcd : PySem.W.codeIn K cdv qual = true) (S : FnScope N ps scope)
    (len : ∀ vs H Q E, sp vs H Q E → vs.length = ps.length)
    (hbody : ∀ (A : Around) (outer : List Env) (s : Shared) (H : Hp) (vs : List V) (Q : VK) (E : XK), A.guards = some [] → Room k (A.deeper (envOfC qual scope s.heap.objs.size f cdv)) → sp vs H Q E →
      ∃ t, PSs (cxOf CX P w K mg base N qual scope f cdv A outer s H E) body t ∧ t { nx := fun _ H' => Q .non H', rt := Q } (start N vs) H) :
    FnG P w K mg base CX (k + 1) f (PySem.W.fnOf name qual params body scope dV kV doc pm an cdv ct) ps sp := by
  refine ⟨len, fun A outer s H args us vs Q E hgd hr e0 hb r hsp => ?_⟩
  have hl := len _ _ _ _ hsp
  have KX : K.In s.heap := e0.mod.kin.keeps fun b o e => (e0.bs b o e).1
  have lim : s.heap.NoLimit := e0.mod.nolimit.keeps fun b o e => (e0.bs b o e).1
  have hkind : ∀ y ∈ ps.zip us, scope.names.lookup y.1 = some .local ∨ (scope.names.lookup y.1 = some .cell ∧ ((cellsFrom (s.heap.objs.size + 1) scope.names []).lookup y.1).isSome = true) := fun ⟨n, v⟩ hy =>
    (S.par n (List.of_mem_zip hy).1).imp id fun q => ⟨q, PySem.W.cellsFrom_some _ _ _ (.inl q)⟩
  refine codeAny_call_function hr.depth (KX _ _ lk) rfl S.co S.gen rfl (PySem.W.codeRec_of KX hcd) (hb _ _ _ _ (wpAny_newFunctionEnv_cells S.kind hkind fun env he s1 x => ?_))
  subst he
  obtain ⟨t, ht, hq⟩ := hbody A outer s H vs Q E hgd (hr.deeper _) hsp
  have I : Inv (cxOf CX P w K mg base N qual scope f cdv A outer s H E) [] (start N vs) H s1 := inv_start S hr.hd e0 hl r x
  refine ⟨lim.keeps x.toInCall.keep, codeAny_func (wpAny_mono (ht.run [] s1 (start N vs) H _ I hq) (fun fl s' hs => ?_) fun e s' hs => hs)⟩
  cases fl with
  | ret u => exact let ⟨v, _, H', J, rv, q⟩ := hs; ⟨v, H', J.os, J.bare, J.base, J.hok, rv, q⟩
  | next => exact let ⟨_, H', J, q⟩ := hs; ⟨V.non, H', J.os, J.bare, J.base, J.hok, rfl, q⟩
  | brk => exact let ⟨_, _, _, q⟩ := hs; False.elim q
  | cont => exact let ⟨_, _, _, q⟩ := hs; False.elim q
section
variable {P : Program} {w : World} {K : PySem.W.Frag} {mg : Str → Option Value} {base : Heap} {x qual : Str} {params : Arguments} {body : List Stmt} {scope : Scope} {dvs : List V} {kws : List (Str × V)} {f : Addr} {fd : FuncData}
theorem FunD.okG {CX : CXT} {N ps : List Str} {k : Nat} {sp : Sp} (F : FunD K x qual params body scope dvs kws f fd) (S : FnScope N ps scope) (len : ∀ vs H Q E, sp vs H Q E → vs.length = ps.length)
    (hbody : ∀ (cdv : Value) (A : Around) (outer : List Env) (s : Shared) (H : Hp) (vs : List V) (Q : VK) (E : XK), A.guards = some [] → Room k (A.deeper (envOfC qual scope s.heap.objs.size f cdv)) → sp vs H Q E →
      ∃ t, PSs (cxOf CX P w K mg base N qual scope f cdv A outer s H E) body t ∧ t { nx := fun _ H' => Q .non H', rt := Q } (start N vs) H) : FnG P w K mg base CX (k + 1) f fd ps sp := by
  obtain ⟨oc, od, dV, kV, doc, pm, an, cdv, ct, osl, rfl, lk, hcd, _, _⟩ := F.ex
  exact fnG_of lk hcd S len fun A outer s H vs Q E hg hr hsp => hbody cdv A outer s H vs Q E hg hr hsp
end
section
variable {X : Cx} {CX : CXT} {k : Nat} {f : Addr} {fd : FuncData} {ps : List Str} {sp : Sp} {dvs : List V} {ds : List Value} {E : XK} {x : Str} {p pos : Pos} {e : Expr} {es : List Expr} {t : TA}
theorem pe_callG (hgd : X.A.guards = some []) (F : FnG X.prog X.w X.K X.mg X.base CX k f fd ps sp) (hr : Room k X.A) (hg : Gl X x) (hm : X.mg x = some (.ref f)) (hk : PySem.W.keepIn X.K (.ref f) = true) (hb : Binds X.K fd ps ds) (hd : Vals dvs ds) (hx : Passes CX X E)
    (ha : PA X (e :: es) t) (hdb : (x == ("__debug__" : Str)) = false := by decide) (he : starEach (e :: es) X.env = (false, eval e X.env) :: starEach es X.env := by rfl) (hpl : (backTo pos (starEach es X.env)).any (·.1) = false := by rfl) :
    PE X (.Call (.Name x p) (e :: es) [] pos) (tCall sp dvs E t) := by
  refine ⟨fun pins s σ H Q I h => wpAny_Call_Name_kw (ld_glob I hg hm ?_ hdb)⟩
  refine PySem.W.callWith_K (h₀ := X.base) I.ok.mod.kin hk (thn (ha.run pos pins s σ H _ I h) fun us s1 ⟨vs, H1, I1, r, q⟩ => ⟨I1.kIn, ?_⟩) he hpl
  have r2 : Vals (vs ++ dvs) (us ++ ds) := r.append hd
  have hl : (us ++ ds).length = ps.length := r2.length.symm.trans (F.len _ _ _ _ q)
  refine wpAny_call (codeAny_mono (F.go X.A X.stack s1 H1 ⟨us, []⟩ (us ++ ds) (vs ++ dvs) Q E hgd hr I1.env0 (hb s1 us I1.kIn hl) r2 q) fun r s' hq => ?_)
  match r, hq with
  | .error e, hq => exact hx pins σ H1 s1 e s' I1 hq
  | .ok (.ret u), hq => exact I1.after hq
  | .ok .next, hq => exact False.elim hq
  | .ok .brk, hq => exact False.elim hq
  | .ok .cont, hq => exact False.elim hq
end
/-- the law's own call, of a promise that asks that no repr is under way -/
theorem law_callG {P : Program} {w : World} {K : PySem.W.Frag} {mg mb : Str → Option Value} {CX : CXT} {k : Nat} {fa a : Addr} {fd : FuncData} {x : Str} {sp : Sp} {s₁ : Shared} {vs : List Value} {ns : List Int}
    (KX : K.In s₁.heap) (hns : s₁.heap.Ns mainGlobals mg) (hb : s₁.heap.Ns builtinsNs mb) (hbb : ∀ x : Str, x ≠ "__name__" → mb x = bootBuiltins x) (hlim : s₁.heap.NoLimit) (hg : s₁.gens = #[])
    (ha : s₁.heap.get? a = some { cls := .type "list", data := .seq vs.toArray }) (hi : IntsAre vs ns) (hl : ns.length ≤ sizeLine) (hr : Room k callerA)
    (F : ∀ base : Heap, K.In base → base.Ns mainGlobals mg → FnG P w K mg base CX k fa fd [x] sp) (hbind : ∀ (s : Shared) (u : Value), BindsTo s fd ⟨[u], []⟩ [(x, u)])
    (hsp : ∀ H : Hp, Only H → SqL K H a (ns.map V.int) → sp [.ref a] H (fun v _ => v = .bl true) fun _ _ _ => False)
    (hCX : ∀ H e s', CX [] H s₁ (fun _ _ _ => False) e s' → False) :
    codeAny (model P w) callerA (.call (.ref fa) ⟨[.ref a], []⟩) (fun r s' => r = .ok (.ret (.bool true)) ∧ OldK s₁.heap s'.heap ∧ s'.os = s₁.os ∧ AllBare s'.gens) s₁ := by
  have rv := vals_ints hi
  have lenV := hi.length
  have core : ∀ H : Hp, Only H → SqL K H a (ns.map V.int) → HOk P w H s₁.heap → (∀ b, H b ≠ none → b = a) → (H a ≠ none → K.lookup a = none) →
      codeAny (model P w) callerA (.call (.ref fa) ⟨[.ref a], []⟩) (fun r s' => r = .ok (.ret (.bool true)) ∧ OldK s₁.heap s'.heap ∧ s'.os = s₁.os ∧ AllBare s'.gens) s₁ := by
    intro H hO hS hok hA hK
    have base_of : ∀ {b : Addr} {o : Obj}, s₁.heap.get? b = some o → H b = none → (hidT s₁.heap H).get? b = some o := fun e n => hidT_get e n
    have noA : ∀ {b : Addr} {o : Obj} {es : Array DictEntry} {ep : Nat}, s₁.heap.get? b = some o → o.data = .dict es ep → H b = none := fun {b o es ep} e d => by
      refine Classical.byContradiction fun q => ?_
      obtain rfl : b = a := hA b q
      rw [ha] at e; cases e
      exact nomatch (show Data.seq vs.toArray _ = Data.dict es ep from d)
    have nsK : ∀ {b : Addr} {m : Str → Option Value}, s₁.heap.Ns b m → (hidT s₁.heap H).Ns b m := fun {b m} ⟨o, es, ep, e, d, r⟩ => ⟨o, es, ep, base_of e (noA e d), d, r⟩
    have hKb : K.In (hidT s₁.heap H) := fun b o e => base_of (KX b o e) (Classical.byContradiction fun q => by
      obtain rfl : b = a := hA b q
      rw [hK q] at e; cases e)
    have hM : Mod K mg (hidT s₁.heap H) := ⟨hKb, nsK hns, ⟨mb, nsK hb, hbb⟩, let ⟨mc, h1, h2⟩ := hlim; ⟨mc, nsK h1, h2⟩⟩
    have e0 : Env0 P w K mg (hidT s₁.heap H) callerA [] s₁ H := ⟨rfl, hM, fun b o e => of_hidT e, Nat.le_of_eq (hidT_size _ _), trivial, fun b hb => absurd (show b ∈ ([] : List Addr) from hb) (by simp), hok, .of_eq hg⟩
    refine codeAny_mono ((F _ hKb (nsK hns)).go callerA [] s₁ H ⟨[.ref a], []⟩ [.ref a] [.ref a] _ _ rfl hr e0 (hbind s₁ (.ref a)) (.cons rfl .nil) (hsp H hO hS)) fun r s' h => ?_
    match r, h with
    | .error e, h => exact (hCX H e s' h).elim
    | .ok .next, h => exact False.elim h
    | .ok .brk, h => exact False.elim h
    | .ok .cont, h => exact False.elim h
    | .ok (.ret u), h =>
      obtain ⟨v, H', os, bare, un, hok', r', q⟩ := h
      obtain rfl : v = .bl true := q
      obtain rfl : u = Value.bool true := r'
      refine ⟨rfl, OldK.of_keep fun b o e => ?_, os, bare⟩
      cases q : H b with
      | none => exact un.keep b o e q (by intro z; exact absurd (show b ∈ ([] : List Addr) from z) (by simp)) (by simp)
      | some u =>
        rcases hO b with z | ⟨ob, xs, z⟩
        · rw [q] at z; cases z
        · obtain ⟨e1, _⟩ := hok b _ z
          obtain ⟨e2, _⟩ := hok' b _ (un.frzs b ob _ z)
          rw [e] at e1; cases e1
          exact e2
  cases hk : K.lookup a with
  | some o =>
    have e := KX a o hk
    rw [ha] at e
    cases e
    refine core (fun _ => none) (fun _ => .inl rfl) (.inr ⟨_, vs.toArray, _, hk, rfl, rfl, rfl, by rw [List.size_toArray, lenV]; exact hl, by simpa using rv⟩) (fun b u z => by have z' : (none : Option HO) = some u := z; cases z') (fun b z => absurd rfl z) fun z => absurd rfl z
  | none =>
    refine core (fun b => if b = a then some (.frz { cls := .type "list", data := .seq vs.toArray } (.lst (ns.map V.int))) else none) (fun b => ?_) (.inl (.inr ⟨{ cls := .type "list", data := .seq vs.toArray }, if_pos rfl⟩)) (fun b u z => ?_) (fun b z => ?_) fun _ => hk
    · by_cases hb : b = a
      · exact .inr ⟨_, _, if_pos hb⟩
      · exact .inl (if_neg hb)
    · by_cases hb : b = a
      · have z' := (if_pos hb).symm.trans z
        cases z'
        subst hb
        exact ⟨ha, by rw [List.length_map]; exact hl, vs, _, rv, ha⟩
      · have z' := (if_neg hb).symm.trans z
        cases z'
    · by_cases hb : b = a
      · exact hb
      · exact absurd (if_neg hb) z
theorem walk_ofG {l : PySem.W.OpenLaw} {n k : Nat} {q : Program} {loose : List Str} {XP : (Str → Option Value) → Heap → Prop} {YP : World → Heap → Prop} {d : DefRec} {CX : CXT} {x : Str}
    (hn : l.most = some n) (hn2 : n ≤ sizeLine) (hdf : d.params.defaults = []) (hr : Room k callerA)
    (F : ∀ (w : World) (mg : Str → Option Value) (fa : Addr) (h : Heap), YP w h → h.Ns mainGlobals mg → mg d.name = some (.ref fa) →
      ∃ (K : PySem.W.Frag) (fd : FuncData) (sp : Sp), K.In h ∧ (∀ (s : Shared) (u : Value), BindsTo s fd ⟨[u], []⟩ [(x, u)]) ∧
        (∀ (H : Hp) (a : Addr) (ns : List Int), ns.length ≤ n → Only H → SqL K H a (ns.map V.int) → sp [.ref a] H (fun v _ => v = .bl true) fun _ _ _ => False) ∧
        ∀ base : Heap, K.In base → base.Ns mainGlobals mg → FnG l.prog w K mg base CX k fa fd [x] sp)
    (hCX : ∀ (H : Hp) (s : Shared) (e : Value) (s' : Shared), CX [] H s (fun _ _ _ => False) e s' → False) :
    PySem.W.WalkO q loose XP YP l.row.toRowW d [] (fun f vs => PySem.call f vs) := by
  refine Att.attach_call hn hdf fun w s₀ s₁ mg mb fa o pm cd doc a vs ns G Y ho hd hcd hmg hobj hints hlen hg => ?_
  obtain ⟨K, fd, sp, KX, hb, hsp, hF⟩ := F w mg fa _ Y G.T.g hmg
  exact law_callG KX G.T.g G.T.b G.T.builtins G.T.nolimit hg hobj hints (Nat.le_trans hlen hn2) hr hF hb (fun H hO hS => hsp H a ns hlen hO hS) fun H e s' => hCX H s₁ e s'
end L2
set_option Elab.async false
set_option linter.all false
set_option maxRecDepth 100000
set_option maxHeartbeats 400000
/-! an exception with the one field value, as a value -/
namespace L2
open PySem PySem.Spec PyProof.Rows
structure ErrC (K : PySem.W.Frag) (C fI : Addr) : Prop where
  oex : OexC K C
  iC : PySem.W.findIn K (.ref C) "__init__" = some (some (.ref fI))
  tI : PySem.W.typeIn K (.ref fI) = some (.type "function")
  noV : PySem.W.findIn K (.ref C) "value" = some none
  isx : ExcC K C
/-- an error of the class at C with the value v: at a, its dict at d -/
def ErrAt (H : Hp) (a C d : Addr) (v : V) : Prop := H a = some (exo a C (some d)) ∧ H d = some (exd d [("value", v)])
def updE (H : Hp) (a C d : Addr) (v : V) : Hp := upd (upd H d (exd d [("value", v)])) a (exo a C (some d))
theorem updE_at {H : Hp} {a C d : Addr} {v : V} (h : d ≠ a) : ErrAt (updE H a C d v) a C d v := ⟨upd_same, by unfold updE; rw [upd_ne h, upd_same]⟩
theorem updE_ne {H : Hp} {a C d b : Addr} {v : V} (h : b ≠ a) (h' : b ≠ d) : updE H a C d v b = H b := by unfold updE; rw [upd_ne h, upd_ne h']
def spInit (C : Addr) : Sp := fun vs H Q _ => ∃ (a : Addr) (v : V), vs = [.ref a, v] ∧ H a = some (exo a C none) ∧ ∀ dx, H dx = none → dx ≠ a → Q .non (upd (upd H dx (exd dx [("value", v)])) a (exo a C (some dx)))
section
variable {P : Program} {w : World} {K : PySem.W.Frag} {mg : Str → Option Value} {base : Heap} {f C : Addr} {fd : FuncData} {x q : Str} {args : Arguments} {body : List Stmt} {sc : Scope} {dvs : List V} {kws : List (Str × V)}
theorem ok_init {p1 p2 p3 p4 : Pos} (T : OexC K C) (hno : PySem.W.findIn K (.ref C) "value" = some none) (F : FunD K x q args body sc dvs kws f fd) (S : FnScope ["self", "value"] ["self", "value"] sc)
    (hb : body = [.Assign [.Attribute (.Name "self" p1) "value" p2] (.Name "value" p3) p4]) (hv : Vis sc "self" ∧ Vis sc "value") : FnOk P w K mg base CX0 1 f fd ["self", "value"] (spInit C) := by
  subst hb
  refine F.ok S (fun vs H Q E h => ?_) (fun cdv A outer s H vs Q E hr h => ⟨_, pss_one (ps_ost (pe_var (i := 0) rfl hv.1) (pe_var (i := 1) rfl hv.2)), ?_⟩)
  · obtain ⟨a, v, rfl, _⟩ := h
    rfl
  · obtain ⟨a, v, rfl, ha, hq⟩ := h
    exact ⟨_, rfl, _, rfl, a, C, rfl, T, hno, .inl ⟨ha, fun dx hn hne => hq dx hn hne⟩⟩
end
section
variable {X : Cx} {k : Nat} {C fI : Addr} {fd : FuncData} {x : Str} {p pos : Pos} {e : Expr} {es : List Expr} {te : TE}
theorem run_ev {pins : List (Addr × Obj)} {σ : St} {H : Hp} {s : Shared} {Q : VK} {us : List Value} {kw : List (Str × Value)} {v : V} {u0 : Value} (T : ErrC X.K C fI) (F1 : FnOk X.prog X.w X.K X.mg X.base CX0 k fI fd ["self", "value"] (spInit C)) (hr : Room (k + 1) X.A)
    (I : Inv X pins σ H s) (hl : us.length ≤ 1000) (rv : RelV v u0) (hb : ∀ (s : Shared) (self : Value), X.K.In s.heap → BindsTo s fd ⟨self :: us, kw⟩ [("self", self), ("value", u0)])
    (h : ∀ a d, H a = none → H d = none → d ≠ a → Q (.ref a) (updE H a C d v)) : wpAny (model X.prog X.w) X.A (call (.ref C) us kw) (EP X pins σ Q) X.xe s := by
  obtain ⟨nm, q, N, bs, bm, sn, sub, ab, col, dd, k0, k1, k2, k3, k5, hC, hbm⟩ := T.oex.cls
  obtain ⟨hp, g, dr, tk, os⟩ := s
  have hsz : hp.objs.size ≤ hp.objs.size + 1 := Nat.le_succ _
  have hn : H (hp.objs.size + 1) = none := I.hok.fresh hsz
  have kk : ∀ b o, hp.get? b = some o → ((hp.push (PySem.W.kdv_tup us)).push (PySem.HandSPX.excO C hp.objs.size)).get? b = some o := fun b o e => Heap.get?_push_of_some _ (Heap.get?_push_of_some _ e)
  have hget : ((hp.push (PySem.W.kdv_tup us)).push (PySem.HandSPX.excO C hp.objs.size)).get? (hp.objs.size + 1) = some (PySem.HandSPX.excO C hp.objs.size) := by heap_get
  have I2 : Inv X pins σ (upd H (hp.objs.size + 1) (exo (hp.objs.size + 1) C none)) ⟨(hp.push (PySem.W.kdv_tup us)).push (PySem.HandSPX.excO C hp.objs.size), g, dr, tk, os⟩ :=
    I.laid (t' := tk) (a := hp.objs.size + 1) (o := exo (hp.objs.size + 1) C none) (h' := (hp.push (PySem.W.kdv_tup us)).push (PySem.HandSPX.excO C hp.objs.size)) kk hsz (exo_ok hget)
  have r2 : Vals [V.ref (hp.objs.size + 1), v] [Value.ref (hp.objs.size + 1), u0] := .cons rfl (.cons rv .nil)
  have hus : us.length ≤ sizeLine := by rw [sizeLine_eq]; omega
  have hq : spInit C [V.ref (hp.objs.size + 1), v] (upd H (hp.objs.size + 1) (exo (hp.objs.size + 1) C none)) (fun z H2 => z = .non ∧ Q (.ref (hp.objs.size + 1)) H2) (fun _ _ _ => False) := by
    refine ⟨_, _, rfl, upd_same, fun dx hd hne => ⟨rfl, ?_⟩⟩
    rw [upd_ne hne] at hd
    have z := h (hp.objs.size + 1) dx hn hd hne
    have e : upd (upd (upd H (hp.objs.size + 1) (exo (hp.objs.size + 1) C none)) dx (exd dx [("value", v)])) (hp.objs.size + 1) (exo (hp.objs.size + 1) C (some dx)) = updE H (hp.objs.size + 1) C dx v := by
      unfold updE
      funext b
      by_cases hb1 : b = hp.objs.size + 1
      · rw [hb1, upd_same, upd_same]
      · rw [upd_ne hb1, upd_ne hb1]
        by_cases hb2 : b = dx
        · rw [hb2, upd_same, upd_same]
        · rw [upd_ne hb2, upd_ne hb2, upd_ne hb1]
    rw [e]
    exact z
  refine wpAny_call (PySem.Kx.kw_call F.excBase_ValueError (fun Y => PySem.HandSPX.refsVE_contains Y bm hbm) (I.kIn _ _ hC) (PySem.W.looks_findIn I.kIn T.iC) (fun self => PySem.W.bind_fn I.kIn self T.tI) hus
    (codeAny_mono (F1.run _ X.stack _ _ ⟨Value.ref (hp.objs.size + 1) :: us, kw⟩ [Value.ref (hp.objs.size + 1), u0] _ _ (fun _ _ _ => False) (hr.make C us kw) (I2.env0.make C us kw) (hb _ _ I2.kIn) r2 hq) fun r s' hq' => ?_))
  match r, hq' with
  | .error er, hq' => exact False.elim hq'
  | .ok .next, hq' => exact False.elim hq'
  | .ok .brk, hq' => exact False.elim hq'
  | .ok .cont, hq' => exact False.elim hq'
  | .ok (.ret u), hq' =>
    obtain ⟨z, H', I3, rz, ez, q3⟩ := I2.after hq'
    subst ez
    exact ⟨rz, ⟨V.ref (hp.objs.size + 1), H', I3, rfl, q3⟩⟩
structure EvB (K : PySem.W.Frag) (fd : FuncData) : Prop where
  b1 : ∀ (s : Shared) (self u : Value), K.In s.heap → BindsTo s fd ⟨[self, u], []⟩ [("self", self), ("value", u)]
  b0 : ∀ (s : Shared) (self : Value), K.In s.heap → BindsTo s fd ⟨[self], []⟩ [("self", self), ("value", .none)]
  bk : ∀ (s : Shared) (self u : Value), K.In s.heap → BindsTo s fd ⟨[self], [("value", u)]⟩ [("self", self), ("value", u)]
/-- C(e), C(value=e), C() -/
def evQ (C : Addr) (Q : VK) : List V → Hp → Prop := fun vs H1 => match vs with
  | [v] => ∀ a d, H1 a = none → H1 d = none → d ≠ a → Q (.ref a) (updE H1 a C d v)
  | _ => False
def tEv (C : Addr) (ta : TE) : TE := fun σ H Q => ta σ H fun v H1 => ∀ a d, H1 a = none → H1 d = none → d ≠ a → Q (.ref a) (updE H1 a C d v)
theorem pe_ev1 (T : ErrC X.K C fI) (F1 : FnOk X.prog X.w X.K X.mg X.base CX0 k fI fd ["self", "value"] (spInit C)) (B : EvB X.K fd) (hr : Room (k + 1) X.A) (hm : X.mg x = some (.ref C)) (ha : PE X e te) (hg : Gl X x := by rfl)
    (hdb : (x == ("__debug__" : Str)) = false := by decide) (hs : starEach (e :: []) X.env = (false, eval e X.env) :: starEach [] X.env := by rfl) (hpl : (backTo pos (starEach [] X.env)).any (·.1) = false := by rfl) :
    PE X (.Call (.Name x p) [e] [] pos) (tEv C te) := by
  refine ⟨fun pins s σ H Q I h => ?_⟩
  refine wpAny_Call_Name_kw (ld_glob I hg hm ?_ hdb)
  refine PySem.W.callWith_K (h₀ := X.base) I.ok.mod.kin T.oex.kC (thn ((pa_cons ha pa_nil hs).run pos pins s σ H (evQ C Q) I h) fun us s1 ⟨vs, H1, I1, r, q⟩ => ⟨I1.kIn, ?_⟩) hs hpl
  cases r with
  | nil => exact False.elim q
  | cons rv rn =>
    cases rn with
    | nil => exact run_ev (us := [_]) T F1 hr I1 (Nat.le_of_ble_eq_true rfl) rv (fun s self X => B.b1 s self _ X) q
    | cons _ _ => exact False.elim q
theorem pe_ev0 (T : ErrC X.K C fI) (F1 : FnOk X.prog X.w X.K X.mg X.base CX0 k fI fd ["self", "value"] (spInit C)) (B : EvB X.K fd) (hr : Room (k + 1) X.A) (hm : X.mg x = some (.ref C)) (hg : Gl X x := by rfl)
    (hdb : (x == ("__debug__" : Str)) = false := by decide) : PE X (.Call (.Name x p) [] [] pos) (tEv C (tC .non)) := by
  refine ⟨fun pins s σ H Q I h => ?_⟩
  refine wpAny_Call_Name_kw (ld_glob I hg hm ?_ hdb)
  exact PySem.W.callWith_K0 I.kIn T.oex.kC (run_ev (us := []) T F1 hr I (by decide) (show RelV .non .none from rfl) (fun s self X => B.b0 s self X) h)
theorem pe_evk {kws : List Keyword} {kpos : Pos} (T : ErrC X.K C fI) (F1 : FnOk X.prog X.w X.K X.mg X.base CX0 k fI fd ["self", "value"] (spInit C)) (B : EvB X.K fd) (hr : Room (k + 1) X.A) (hm : X.mg x = some (.ref C)) (ha : PE X e te) (hg : Gl X x := by rfl)
    (hdb : (x == ("__debug__" : Str)) = false := by decide)
    (hall : (backToKw pos (keywordEach [⟨some "value", e, kpos⟩] X.env)).all (·.1.isSome) = true := by rfl) (hks : (backToKw pos (keywordEach [⟨some "value", e, kpos⟩] X.env)).filterMap (·.1) = [("value" : Str)] := by rfl)
    (hpl : ((backTo pos (starEach [] X.env)).any (·.1) || (backToKw pos (keywordEach [⟨some "value", e, kpos⟩] X.env)).any (·.1.isNone)) = false := by rfl) :
    PE X (.Call (.Name x p) [] [⟨some "value", e, kpos⟩] pos) (tEv C te) := by
  refine ⟨fun pins s σ H Q I h => ?_⟩
  refine wpAny_Call_Name_kw (ld_glob I hg hm ?_ hdb)
  refine PySem.W.callWith_KW0 (h₀ := X.base) I.ok.mod.kin T.oex.kC hall ?_ hpl
  refine thn ((pk_cons (nm := some "value") (kpos := kpos) ha pk_nil).run pos pins s σ H (evQ C Q) I h) fun us s1 ⟨vs, H1, I1, r, q⟩ => ⟨I1.kIn, ?_⟩
  rw [hks]
  cases r with
  | nil => exact False.elim q
  | cons rv rn =>
    cases rn with
    | nil => exact run_ev (us := []) T F1 hr I1 (by decide) rv (fun s self X => B.bk s self _ X) q
    | cons _ _ => exact False.elim q
/-- isinstance(e, D) -/
def rIsX (K : PySem.W.Frag) : List V → Hp → VK → Prop := fun xs H Q => ∃ (a C d : Addr) (v : V) (c : V) (u : Value) (b : Bool), xs = [.ref a, c] ∧ ClsV c u ∧ ErrAt H a C d v ∧ ExcC K C ∧ PySem.W.kitOne K (.ref C) u = some b ∧ Q (.bl b) H
theorem err_inst {pins : List (Addr × Obj)} {σ : St} {H : Hp} {s : Shared} {a d : Addr} {v : V} (I : Inv X pins σ H s) (e : ErrAt H a C d v) : ∃ t1 od mA, PySem.W.InstAt s.heap a { cls := .ref C, dict := some d, data := .fields #[.ref t1, .none, .none, .none, .bool false, .none] } C (some od) ∧
    s.heap.Ns1 d mA ∧ s.heap.get? d = some od ∧ ∀ f, RelO (([("value", v)] : List (Str × V)).lookup f) (mA f) := by
  obtain ⟨t1, ho⟩ := exo_at I.hok e.1
  obtain ⟨mA, hns, rel⟩ := exd_at I.hok e.2
  obtain ⟨od, es, ep, hod, r⟩ := hns
  exact ⟨t1, od, mA, ⟨ho, rfl, rfl, hod⟩, ⟨od, es, ep, hod, r⟩, hod, rel⟩
theorem call_isX : CallR X (.builtin "isinstance") (rIsX X.K) := by
  intro pins s σ H xs us Q I r h
  obtain ⟨a, C, d, v, c, u, b, rfl, k, ea, T, e, q⟩ := h
  obtain ⟨u1, u2, rfl, r1, r2⟩ := vals2 r
  have e2 := k.eq r2
  subst e2
  cases (show u1 = Value.ref a from r1)
  obtain ⟨t1, od, mA, J, _⟩ := err_inst I ea
  obtain ⟨cd, hc, _⟩ := PySem.W.any_some T.hd
  exact PySem.W.kia_one (PySem.W.kitx_exc (od := some od) (ox := { cls := .ref C, dict := some d, data := .fields #[.ref t1, .none, .none, .none, .bool false, .none] }) (by rw [hc]; rfl) T.hg T.hk T.hs T.ha T.hn T.ht T.hm) I.kIn J e (fun z => nomatch z) fun tk => ⟨.bl b, H, I.tok tk, rfl, q⟩
/-- e.value -/
def tVal (K : PySem.W.Frag) (te : TE) : TE := fun σ H Q => te σ H fun x H1 => ∃ (a C d fI : Addr) (v : V), x = .ref a ∧ ErrAt H1 a C d v ∧ ErrC K C fI ∧ Q v H1
theorem pe_val (he : PE X e te) (hb : attributeBase e "value" X.env (eval e X.env) = eval e X.env := by rfl) : PE X (.Attribute e "value" pos) (tVal X.K te) := by
  refine ⟨fun pins s σ H Q I h => attr_of hb (thn (he.run pins s σ H _ I h) fun u s1 ⟨x, H1, I1, rx, a, C, d, fI, v, ex, ea, T, q⟩ => ?_)⟩
  subst ex
  obtain rfl : u = Value.ref a := rx
  obtain ⟨t1, od, mA, J, hns, hod, rel⟩ := err_inst I1 ea
  obtain ⟨od', ho', hl⟩ := lookIn_ns hns
  rw [hod] at ho'
  cases ho'
  have l : List.lookup ("value" : Str) [(("value" : Str), v)] = some v := by simp [List.lookup]
  obtain ⟨u, hu, ru⟩ := RelO.some_of (v := v) (o := mA "value") (by rw [← l]; exact rel "value")
  exact HandSPX.exc_get I1.kIn J T.isx.hg T.isx.hk T.isx.hs (PySem.W.findObj_own T.isx.hd T.noV rfl (by rw [hl, hu])) (handed_of ru) ⟨v, H1, I1.tok _, ru, q⟩
end
end L2
set_option Elab.async false
set_option linter.all false
set_option maxRecDepth 100000
set_option maxHeartbeats 400000
/-! repr of data with dicts -/
namespace L2
open PySem PySem.Spec PyProof.Rows
mutual
inductive Dd (H : Hp) : V → PyData → Prop
  | non : Dd H .non .none
  | bl (b : Bool) : Dd H (.bl b) (.bool b)
  | int (i : Int) : Dd H (.int i) (.int i)
  | str (x : Str) : Dd H (.str x) (.str x)
  | lst {a : Addr} {xs : List V} {ds : List PyData} : H a = some (.lst xs) → DdAll H xs ds → Dd H (.ref a) (.list ds)
  | tup {a : Addr} {xs : List V} {ds : List PyData} : H a = some (.tup xs) → DdAll H xs ds → Dd H (.ref a) (.tuple ds)
  | dic {a : Addr} {kvs : List (Str × V)} {ds : List (PyData × PyData)} : H a = some (.dK (kvs.map fun p => (Sum.inr p.1, p.2))) → ds.map (·.1) = kvs.map (fun p => PyData.str p.1) → DdAll H (kvs.map (·.2)) (ds.map (·.2)) → Dd H (.ref a) (.dict ds)
inductive DdAll (H : Hp) : List V → List PyData → Prop
  | nil : DdAll H [] []
  | cons {v : V} {vs : List V} {d : PyData} {ds : List PyData} : Dd H v d → DdAll H vs ds → DdAll H (v :: vs) (d :: ds)
end
section
variable {h : Heap}
theorem keys_read {w : World} {P : Program} : ∀ (kvs : List (Str × V)) (es : List DictEntry) (us : List (Key × Value)), KV (kvs.map fun p => ((Sum.inr p.1 : Key), p.2)) us → Pairs (mixKind P w) es us → ReadsAll h (es.map (·.key)) (kvs.map fun p => PyData.str p.1) []
  | [], es, us, r, q => by
    cases r
    cases q
    exact ReadsAll.nil
  | (x, v) :: kvs, es, us, r, q => by
    cases q with
    | nil => cases r
    | @cons e kv es' us' k1 k2 k3 =>
      cases r with
      | cons r1 r2 =>
        obtain ⟨e1, _⟩ := r1
        have e1' : (Sum.inr x : Key) = kv.1 := e1
        rw [← e1'] at k1
        rcases keyIs_shape (show keyIs (Sum.inr x) e.key = true from k1) with ⟨i, t, z, _⟩ | ⟨y, t, z, ey⟩
        · cases z
        · cases z
          have a := keys_read kvs es' us' r2 k3
          have b := ReadsAll.cons (h := h) (Reads.str x t) a
          show ReadsAll h (e.key :: es'.map (·.key)) (PyData.str x :: kvs.map fun p => PyData.str p.1) []
          rw [ey]
          exact b
theorem vals_of {w : World} {P : Program} : ∀ (kvs : List (Str × V)) (es : List DictEntry) (us : List (Key × Value)), KV (kvs.map fun p => ((Sum.inr p.1 : Key), p.2)) us → Pairs (mixKind P w) es us → Vals (kvs.map (·.2)) (es.map (·.val))
  | [], es, us, r, q => by
    cases r
    cases q
    exact .nil
  | (x, v) :: kvs, es, us, r, q => by
    cases q with
    | nil => cases r
    | @cons e kv es' us' k1 k2 k3 =>
      cases r with
      | cons r1 r2 =>
        have r1' : RelV v kv.2 := r1.2
        rw [← k2] at r1'
        exact .cons r1' (vals_of kvs es' us' r2 k3)
end
section
variable {X : Cx} {pins : List (Addr × Obj)} {σ : St} {H : Hp} {s : Shared}
mutual
theorem Dd.reads (I : Inv X pins σ H s) (hm : H sysModules = none) : ∀ (d : PyData) (v : V) (u : Value), Dd H v d → RelV v u → ∃ as, Reads s.heap u d as ∧ sysModules ∉ as
  | .none, _, _, h, r => by
    cases h; cases r
    exact ⟨_, Reads.none, by simp⟩
  | .bool b, _, _, h, r => by
    cases h; cases r
    exact ⟨_, Reads.bool b, by simp⟩
  | .int i, _, _, h, r => by
    cases h
    obtain ⟨t, rfl⟩ := r
    exact ⟨_, Reads.int i t, by simp⟩
  | .str x, _, _, h, r => by
    cases h
    obtain ⟨t, rfl⟩ := r
    exact ⟨_, Reads.str x t, by simp⟩
  | .list ds, _, _, h, r => by
    cases h with
    | @lst a xs _ ea ha =>
      cases r
      obtain ⟨_, its, n, rv, e⟩ := (show ObjOk X.prog X.w H s.heap a (.lst xs) from I.hok a _ ea)
      obtain ⟨as, hr, hn⟩ := Dd.readsAll I hm ds _ its ha rv
      have hr' : ReadsAll s.heap its.toArray.toList ds as := by simpa using hr
      refine ⟨_, Reads.list e rfl rfl hr', fun z => ?_⟩
      rcases List.mem_cons.mp z with z | z
      · rw [z, ea] at hm; cases hm
      · exact hn z
  | .tuple ds, _, _, h, r => by
    cases h with
    | @tup a xs _ ea ha =>
      cases r
      obtain ⟨_, its, rv, o, e, c, n, hd⟩ := (show ObjOk X.prog X.w H s.heap a (.tup xs) from I.hok a _ ea)
      obtain ⟨as, hr, hn⟩ := Dd.readsAll I hm ds _ its ha rv
      have hr' : ReadsAll s.heap its.toArray.toList ds as := by simpa using hr
      exact ⟨_, Reads.tuple e c hd hr', hn⟩
  | .dict ds, _, _, h, r => by
    cases h with
    | @dic a kvs _ ea hk ha =>
      cases r
      obtain ⟨_, hs, us, rk, o, es, ep, e, hx, hd, _, hp, _⟩ := (show ObjOk X.prog X.w H s.heap a (.dK _) from I.hok a _ ea)
      have k1 := keys_read (h := s.heap) kvs es.toList us rk hp
      have v1 := vals_of kvs es.toList us rk hp
      obtain ⟨as, hr, hn⟩ := Dd.readsKv I hm ds _ _ ha v1
      refine ⟨_, Reads.dict e hx.1 hd (by rw [hk]; exact k1) hr, fun z => ?_⟩
      rcases List.mem_append.mp z with z | z
      · rcases List.mem_cons.mp z with z | z
        · rw [z, ea] at hm; cases hm
        · exact absurd z (by simp)
      · exact hn z
theorem Dd.readsAll (I : Inv X pins σ H s) (hm : H sysModules = none) : ∀ (ds : List PyData) (vs : List V) (us : List Value), DdAll H vs ds → Vals vs us → ∃ as, ReadsAll s.heap us ds as ∧ sysModules ∉ as
  | [], _, _, h, r => by
    cases h; cases r
    exact ⟨_, ReadsAll.nil, by simp⟩
  | d :: ds, _, _, h, r => by
    cases h with
    | cons h1 h2 =>
      cases r with
      | cons r1 r2 =>
        obtain ⟨as, q1, n1⟩ := Dd.reads I hm d _ _ h1 r1
        obtain ⟨bs, q2, n2⟩ := Dd.readsAll I hm ds _ _ h2 r2
        exact ⟨_, ReadsAll.cons q1 q2, fun z => (List.mem_append.mp z).elim n1 n2⟩
theorem Dd.readsKv (I : Inv X pins σ H s) (hm : H sysModules = none) : ∀ (ds : List (PyData × PyData)) (vs : List V) (us : List Value), DdAll H vs (ds.map (·.2)) → Vals vs us → ∃ as, ReadsAll s.heap us (ds.map (·.2)) as ∧ sysModules ∉ as
  | [], _, _, h, r => by
    cases h; cases r
    exact ⟨_, ReadsAll.nil, by simp⟩
  | (k, d) :: ds, _, _, h, r => by
    cases h with
    | cons h1 h2 =>
      cases r with
      | cons r1 r2 =>
        obtain ⟨as, q1, n1⟩ := Dd.reads I hm d _ _ h1 r1
        obtain ⟨bs, q2, n2⟩ := Dd.readsKv I hm ds _ _ h2 r2
        exact ⟨_, ReadsAll.cons q1 q2, fun z => (List.mem_append.mp z).elim n1 n2⟩
end
end
def rRepr : List V → Hp → VK → Prop := fun xs H Q => ∃ (v : V) (d : PyData), xs = [v] ∧ Dd H v d ∧ d.showable = true ∧ d.shown.length ≤ sizeLine ∧ d.depth ≤ 100 ∧ Q (.str d.shown) H
theorem call_repr {X : Cx} {k : Nat} (hgd : X.A.guards = some []) (hr : Room k X.A) (hb : ∃ o, X.base.get? sysModules = some o) : CallR X (.builtin "repr") rRepr := by
  intro pins s σ H xs us Q I r h
  obtain ⟨v, d, rfl, hd, hs, hz, hdp, q⟩ := h
  obtain ⟨o, ho⟩ := hb
  have hm : H sysModules = none := (I.bs _ _ ho).2
  have hu := hr.un
  cases r with
  | cons rv rn =>
    cases rn
    obtain ⟨as, rd, hn⟩ := Dd.reads I hm d v _ hd rv
    cases hd with
    | non => cases rv; exact P.repr_of_none ⟨.str _, H, I.tok _, ⟨_, rfl⟩, by simpa only [PyData.shown] using q⟩
    | bl b => cases rv; exact P.repr_of_bool ⟨.str _, H, I.tok _, ⟨_, rfl⟩, by simpa only [PyData.shown] using q⟩
    | int i => obtain ⟨t, rfl⟩ := rv; exact P.repr_of_int (by simpa [PyData.showable] using hs) ⟨.str _, H, I.tok _, ⟨_, rfl⟩, by simpa only [PyData.shown] using q⟩
    | str x => obtain ⟨t, rfl⟩ := rv; exact P.repr_of_str ⟨.str _, H, I.tok _, ⟨_, rfl⟩, by simpa only [PyData.shown] using q⟩ (by simpa only [PyData.shown] using hz)
    | lst ea ha => cases rv; exact repr_of_reads' rd hs (fun _ => hn) hgd (by omega) (fun _ _ z => z) (fun h' u tk kp => ⟨.str _, H, I.kept kp, ⟨_, rfl⟩, q⟩) hz
    | tup ea ha => cases rv; exact repr_of_reads' rd hs (fun _ => hn) hgd (by omega) (fun _ _ z => z) (fun h' u tk kp => ⟨.str _, H, I.kept kp, ⟨_, rfl⟩, q⟩) hz
    | dic ea hk ha => cases rv; exact repr_of_reads' rd hs (fun _ => hn) hgd (by omega) (fun _ _ z => z) (fun h' u tk kp => ⟨.str _, H, I.kept kp, ⟨_, rfl⟩, q⟩) hz
end L2
set_option Elab.async false
set_option linter.all false
set_option maxRecDepth 100000
set_option maxHeartbeats 1000000
/-! the draws -/
namespace L2
open PySem PySem.Spec PyProof.Rows
def CPowW (i j : Int) : Prop := 0 ≤ j ∧ (Builtin.Int.intBits i : Int) * j ≤ 2 ^ 27
theorem op_powW {X : Cx} : OpR X (binaryOp .Pow) (rI CPowW fun i j => .int (i ^ j.toNat)) := opI fun _ _ _ _ _ _ _ hc q => pow_int hc.1 hc.2 q
theorem cutV_map (ns : List Int) (lo hi : Option Int) : ∃ ms : List Int, cutV (ns.map V.int) lo hi = ms.map V.int ∧ ms.length ≤ ns.length := by
  refine ⟨(ns.drop (HT.sIx (ns.map V.int).length 0 lo)).take (HT.sIx (ns.map V.int).length (ns.map V.int).length hi - HT.sIx (ns.map V.int).length 0 lo), ?_, ?_⟩
  · unfold cutV
    rw [List.map_take, List.map_drop]
  · rw [List.length_take, List.length_drop]
    omega
theorem Same.upd {H : Hp} {p : Addr} {o : HO} (h : H p = none) : Same H (upd H p o) := fun b u e => by
  rw [upd_ne (ne_of_none e h)]
  exact e
theorem ifT {c : Bool} {A B : Prop} (hc : c = true) (h : A) : if c = true then A else B := by
  rw [if_pos hc]
  exact h
theorem ifF {c : Bool} {A B : Prop} (hc : c = false) (h : B) : if c = true then A else B := by
  rw [hc, if_neg Bool.false_ne_true]
  exact h
/-- all but a stands -/
def But (a : Addr) (H H' : Hp) : Prop := ∀ b o, b ≠ a → H b = some o → H' b = some o
theorem But.refl {a : Addr} {H : Hp} : But a H H := fun _ _ _ e => e
theorem But.trans {a : Addr} {H H1 H2 : Hp} (x : But a H H1) (y : But a H1 H2) : But a H H2 := fun b o hb e => y b o hb (x b o hb e)
theorem Same.but {a : Addr} {H H' : Hp} (x : Same H H') : But a H H' := fun b o _ e => x b o e
theorem But.upd {a : Addr} {H : Hp} {o : HO} : But a H (upd H a o) := fun b u hb e => by
  rw [upd_ne hb]
  exact e
end L2
namespace K01
open PySem PySem.Spec PyProof.Rows L2
def top (i : Nat) : Stmt := PySem.Challenge.pw_kindspreads_k01_errors_made.main.body.getD i (.Pass ⟨0, 0, 0, 0⟩)
abbrev FnP (K : PySem.W.Frag) (x : Str) (st : Stmt) (f : Addr) (fd : FuncData) : Prop := FunD K x x (defArgs st) (defBody st) (defScope st) [] [] f fd
structure Bt (mg : Str → Option Value) : Prop where
  int : mg "int" = none
  max : mg "max" = none
  min : mg "min" = none
  sum : mg "sum" = none
  range : mg "range" = none
  len : mg "len" = none
  isi : mg "isinstance" = none
  repr : mg "repr" = none
  all : mg "all" = none
  ve : mg "ValueError" = none
  list : mg "list" = none
  dict : mg "dict" = none
  tuple : mg "tuple" = none
abbrev sPurse : Stmt := top 33
abbrev sMixed : Stmt := top 34
abbrev sDraw : Stmt := top 35
theorem scPurse : FnScope ["_law_script", "_law_at", "_law_seed"] ["_law_script", "_law_at"] (defScope sPurse) := ⟨rfl, rfl, rfl, by decide +kernel, rfl, by decide +kernel, by decide +kernel⟩
theorem scMixed : FnScope ["_law_seed", "_law_spin", "_law_at", "_law_mixed_here"] ["_law_seed", "_law_spin", "_law_at"] (defScope sMixed) := ⟨rfl, rfl, rfl, by decide +kernel, rfl, by decide +kernel, by decide +kernel⟩
theorem scDraw : FnScope ["_law_purse_here", "_law_many", "_law_drawn", "_law_found", "_law_piece"] ["_law_purse_here", "_law_many"] (defScope sDraw) := ⟨rfl, rfl, rfl, by decide +kernel, rfl, by decide +kernel, by decide +kernel⟩
/-- a purse: what is left of a great number, a seed, a count, a place -/
structure Purse (x y c t : Int) : Prop where
  x0 : 0 ≤ x
  y0 : 0 ≤ y
  y1 : y < 2147483648
  c0 : 0 ≤ c
  c1 : c < 1000
  t0 : 0 ≤ t
  t1 : t < 100
def purV (x y c t : Int) : HO := .lst [.int x, .int y, .int c, .int t]
def spPurse (K : PySem.W.Frag) : Sp := fun vs H Q _ => ∃ (a : Addr) (ns : List Int) (t : Int), vs = [.ref a, .int t] ∧ SqL K H a (ns.map V.int) ∧ 0 ≤ t ∧ t < 100 ∧
  ∀ H' p x y, Same H H' → H p = none → Purse x y 0 t → H' p = some (purV x y 0 t) → Q (.ref p) H'
theorem big_ok : CPowW ((10 : Int) ^ (60 : Int).toNat) 8 := ⟨by decide, by decide +kernel⟩
theorem big_pos : (0 : Int) < ((10 : Int) ^ (60 : Int).toNat) ^ (8 : Int).toNat := Int.pow_pos (Int.pow_pos (by decide))
section
variable {P : Program} {w : World} {K : PySem.W.Frag} {mg : Str → Option Value} {base : Heap} {f : Addr} {fd : FuncData}
theorem ok_purse (B : Bt mg) (F : FnP K "_law_purse" sPurse f fd) : FnOk P w K mg base CX0 1 f fd ["_law_script", "_law_at"] (spPurse K) := by
  refine F.ok scPurse (fun vs H Q E h => ?_) (fun cdv A outer s H vs Q E hr h => ⟨_, pss_cons
      (ps_set (i := 2) scPurse.nd rfl (.inl rfl) (pe_callB (cr_sum rfl) (by rfl) B.sum (by decide +kernel) (pa_cons (pe_slice sl_list (pv 0) (po_some (pv 1)) (po_some (pe_op op_add (pv 1) pe_int))) pa_nil)))
      (pss_one (ps_ret (pe_lst (pa_cons
        (pe_op op_mod (pe_callTy call_int1 (by rfl) B.int boot_int (pa_cons (pe_callB (call_max2 rfl) (by rfl) B.max (by decide +kernel) (pa_cons (pe_op op_sub (pv 2) (pe_op op_pow pe_int pe_int)) (pa_cons pe_int pa_nil))) pa_nil)) (pe_op op_powW (pe_op op_pow pe_int pe_int) pe_int))
        (pa_cons (pe_op op_mod (pe_callTy call_int1 (by rfl) B.int boot_int (pa_cons (pv 2) pa_nil)) pe_int) (pa_cons pe_int (pa_cons (pv 1) pa_nil))))))), ?_⟩)
  · obtain ⟨a, ns, t, rfl, _⟩ := h
    rfl
  · obtain ⟨a, ns, t, rfl, hS, t0, t1, hq⟩ := h
    obtain ⟨ms, hc, _⟩ := cutV_map ns (some t) (some (t + 1))
    refine ⟨_, rfl, ⟨_, rfl, t, rfl, _, rfl, t, 1, rfl, rfl, t + 1, rfl, a, _, rfl, hS, fun p np => ?_⟩⟩
    rw [hc]
    refine ⟨p, ms, rfl, SqL.of upd_same, ?_⟩
    refine ⟨_, rfl, _, _, rfl, rfl, ⟨by decide, by decide, by decide⟩, _, _, rfl, rfl, _, _, rfl, .inl ⟨_, rfl, ?_⟩⟩
    refine ⟨_, _, rfl, rfl, ⟨by decide, by decide, by decide⟩, _, _, rfl, rfl, big_ok, _, _, rfl, rfl, big_pos, ?_⟩
    refine ⟨_, rfl, .inl ⟨_, rfl, ⟨_, _, rfl, rfl, (show (0 : Int) < 2147483629 by decide), _, rfl, (show 4 ≤ sizeLine by decide), fun p2 np2 => ?_⟩⟩⟩
    have np0 : H p2 = none := (Same.upd np).free np2
    exact hq _ p2 _ _ ((Same.upd np).trans (Same.upd np2)) np0 ⟨Int.emod_nonneg _ (Int.ne_of_gt big_pos), Int.emod_nonneg _ (by decide), Int.lt_of_lt_of_le (Int.emod_lt_of_pos _ (by decide)) (by decide), Int.le_refl 0, by decide, t0, t1⟩ upd_same
def spMixed : Sp := fun vs H Q _ => ∃ (y c t : Int), vs = [.int y, .int c, .int t] ∧ (0 ≤ y ∧ y < 2147483648) ∧ (0 ≤ c ∧ c < 1001) ∧ (0 ≤ t ∧ t < 100) ∧ ∀ z, 0 ≤ z → z < 2147483648 → Q (.int z) H
theorem mulR {i j : Int} (a : -(2 ^ 64) < j) (b : j < 2 ^ 64) : CMul i j := .inr ⟨a, b⟩
theorem mulL {i j : Int} (a : -(2 ^ 64) < i) (b : i < 2 ^ 64) : CMul i j := .inl ⟨a, b⟩
theorem ok_mixed (B : Bt mg) (F : FnP K "_law_mixed" sMixed f fd) : FnOk P w K mg base CX0 1 f fd ["_law_seed", "_law_spin", "_law_at"] spMixed := by
  refine F.ok scMixed (fun vs H Q E h => ?_) (fun cdv A outer s H vs Q E hr h => ⟨_, pss_cons
      (ps_set (i := 3) scMixed.nd rfl (.inl rfl) (pe_op op_add (pe_op op_mul (pv 0) pe_int) (pe_op op_mul (pe_op op_mul pe_int (pv 1)) (pv 1))))
      (pss_cons (ps_set (i := 3) scMixed.nd rfl (.inl rfl) (pe_op op_mod (pe_callTy call_int1 (by rfl) B.int boot_int (pa_cons (pe_op op_add (pe_op op_add (pv 3) (pe_op op_mul pe_int (pv 2))) (pv 1)) pa_nil)) pe_int))
      (pss_cons (ps_set (i := 3) scMixed.nd rfl (.inl rfl) (pe_op op_mod (pe_callTy call_int1 (by rfl) B.int boot_int (pa_cons (pe_op op_add (pe_op op_mul (pv 3) (pv 3)) pe_int) pa_nil)) pe_int))
      (pss_one (ps_ret (pe_op op_mod (pe_callTy call_int1 (by rfl) B.int boot_int (pa_cons (pe_op op_mul (pv 3) pe_int) pa_nil)) pe_int))))), ?_⟩)
  · obtain ⟨y, c, t, rfl, _⟩ := h
    rfl
  · obtain ⟨y, c, t, rfl, ⟨y0, y1⟩, ⟨c0, c1⟩, ⟨t0, t1⟩, hq⟩ := h
    refine ⟨_, rfl, _, _, rfl, rfl, mulR (by decide) (by decide), _, rfl, _, _, rfl, rfl, mulL (by decide) (by decide), _, rfl, _, _, rfl, rfl, mulR (by omega) (by omega), _, _, rfl, rfl, ?_⟩
    refine ⟨_, rfl, _, rfl, _, _, rfl, rfl, mulL (by decide) (by decide), _, _, rfl, rfl, _, rfl, _, _, rfl, rfl, .inl ⟨_, rfl, _, _, rfl, rfl, (show (0 : Int) < 2147483647 by decide), ?_⟩⟩
    refine ⟨_, rfl, _, rfl, _, _, rfl, rfl, mulL (by omega) (by omega), _, _, rfl, rfl, .inl ⟨_, rfl, _, _, rfl, rfl, (show (0 : Int) < 2147483629 by decide), ?_⟩⟩
    refine ⟨_, rfl, _, _, rfl, rfl, mulR (by decide) (by decide), .inl ⟨_, rfl, _, _, rfl, rfl, (show (0 : Int) < 2147483587 by decide), ?_⟩⟩
    exact hq _ (by omega) (by omega)
def spDraw : Sp := fun vs H Q _ => ∃ (a : Addr) (x y c t m : Int), vs = [.ref a, .int m] ∧ H a = some (purV x y c t) ∧ Purse x y c t ∧ c < 900 ∧ 0 < m ∧ m < 1000 ∧
  ∀ H' x' c' z, But a H H' → (∀ b, H' b = none → H b = none) → H' a = some (purV x' y c' t) → Purse x' y c' t → c' ≤ c + 1 → 0 ≤ z → z < m → Q (.int z) H'
theorem intBits_small {m : Int} (h0 : 0 < m) (h1 : m < 1000) : ((1 : Int) + ((Builtin.Int.intBits m : Nat) : Int) / 28) = 1 := by
  have h := PyProof.Rows.intBits_le (a := m) (k := 10) (by omega)
  omega
theorem ok_draw {fM : Addr} {fdM : FuncData} (B : Bt mg) (F : FnP K "_law_draw" sDraw f fd) (FM : FnP K "_law_mixed" sMixed fM fdM) (gM : mg "_law_mixed" = some (.ref fM)) : FnOk P w K mg base CX0 2 f fd ["_law_purse_here", "_law_many"] spDraw := by
  have GM : FnOk P w K mg base CX0 1 fM fdM ["_law_seed", "_law_spin", "_law_at"] spMixed := ok_mixed B FM
  have bM : Binds K fdM ["_law_seed", "_law_spin", "_law_at"] [] := FM.bindsN fun _ _ _ _ _ _ us hl => match us, hl with | [_, _, _], _ => rfl
  refine F.ok scDraw (fun vs H Q E h => ?_) (fun cdv A outer s H vs Q E hr h => ⟨_, PSs.nox (pss_cons
      (ps_if (pt_cmpR op_gt (pe_ix ix_list (pv 0) pe_int (fun _ _ => rfl)) pe_int (nomark _))
        (pss_cons (ps_set (i := 2) scDraw.nd rfl (.inl rfl) (pe_op op_mod (pe_callTy call_int1 (by rfl) B.int boot_int (pa_cons (pe_ix ix_list (pv 0) pe_int (fun _ _ => rfl)) pa_nil)) (pv 1)))
        (pss_cons (ps_asg (pe_op op_fdiv (pe_ix ix_list (pv 0) pe_int (fun _ _ => rfl)) (pv 1)) (pg_sub (pv 0) pe_int set_list))
        (pss_one (ps_ret (pv 2))))) pss_nil)
      (pss_cons (ps_set (i := 3) scDraw.nd rfl (.inl rfl) pe_int)
      (pss_cons (ps_for PassesOwn.never rfl (pi_range1 (by rfl) B.range (pa_cons (pe_op op_add pe_int (pe_op op_fdiv (pe_bits (pv 1)) pe_int)) pa_nil)) (pg_name (i := 4) scDraw.nd rfl (.inl rfl))
        (pss_cons (ps_asg (pe_op op_add (pe_ix ix_list (pv 0) pe_int (fun _ _ => rfl)) pe_int) (pg_sub (pv 0) pe_int set_list))
        (pss_one (ps_set (i := 3) scDraw.nd rfl (.inl rfl) (pe_op op_add (pe_op op_mul (pv 3) pe_int) (pe_call GM hr (by rfl) gM FM.kp bM .nil pass0 (pa_cons (pe_ix ix_list (pv 0) pe_int (fun _ _ => rfl)) (pa_cons (pe_ix ix_list (pv 0) pe_int (fun _ _ => rfl)) (pa_cons (pe_ix ix_list (pv 0) pe_int (fun _ _ => rfl)) pa_nil)))))))))
      (pss_one (ps_ret (pe_op op_mod (pe_callTy call_int1 (by rfl) B.int boot_int (pa_cons (pv 3) pa_nil)) (pv 1))))))), ?_⟩)
  · obtain ⟨a, x, y, c, t, m, rfl, _⟩ := h
    rfl
  · obtain ⟨a, x, y, c, t, m, rfl, hA, hp, hc, hm0, hm1, hq⟩ := h
    refine ⟨_, rfl, a, _, 0, .int x, rfl, rfl, SqL.of hA, rfl, _, _, rfl, rfl, _, rfl, ?_⟩
    by_cases hx : 0 < x
    · refine ifT (decide_eq_true hx) ?_
      refine ⟨_, rfl, a, _, 0, .int x, rfl, rfl, SqL.of hA, rfl, .inl ⟨_, rfl, _, rfl, _, _, rfl, rfl, hm0, ?_⟩⟩
      refine ⟨_, rfl, a, _, 0, .int x, rfl, rfl, SqL.of hA, rfl, _, rfl, _, _, rfl, rfl, ⟨hm0, by omega⟩, ?_⟩
      refine ⟨_, rfl, a, _, 0, 0, rfl, rfl, hA, rfl, ?_⟩
      exact ⟨_, rfl, hq _ (x / m) c (x % m) But.upd (fun b hb => by
        by_cases e : b = a
        · rw [e, upd_same] at hb; cases hb
        · rw [upd_ne e] at hb; exact hb) upd_same ⟨Int.ediv_nonneg hp.x0 (Int.le_of_lt hm0), hp.y0, hp.y1, hp.c0, hp.c1, hp.t0, hp.t1⟩ (by omega) (Int.emod_nonneg _ (by omega)) (Int.emod_lt_of_pos _ hm0)⟩
    · refine ifF (decide_eq_false hx) ?_
      refine ⟨_, rfl, m, rfl, _, _, rfl, rfl, ⟨by decide, by decide⟩, _, _, rfl, rfl, 1, congrArg (fun z => [V.int z]) (intBits_small hm0 hm1), by decide, by decide, ?_⟩
      refine for_range (lo := 0) (n := 1) (fun i σ H' => (i = 0 ∧ H' = H ∧ σ = [some (.ref a), some (.int m), none, some (.int 0), none]) ∨
        (i = 1 ∧ H' = upd H a (purV x y (c + 1) t) ∧ ∃ z : Int, σ = [some (.ref a), some (.int m), none, some (.int z), some (.int 0)])) (.inl ⟨rfl, rfl, rfl⟩) ?_ ?_
      · intro i σ H' hi hP
        rcases hP with ⟨rfl, rfl, rfl⟩ | ⟨rfl, _, _⟩
        · refine ⟨_, rfl, a, _, 2, .int c, rfl, rfl, SqL.of hA, rfl, _, _, rfl, rfl, ?_⟩
          refine ⟨_, rfl, a, _, 2, 2, rfl, rfl, hA, rfl, ?_⟩
          refine ⟨_, rfl, _, _, rfl, rfl, mulR (by decide) (by decide), ?_⟩
          have hB : upd H' a (.lst ([V.int x, V.int y, V.int c, V.int t].set 2 (.int (c + 1)))) a = some (purV x y (c + 1) t) := upd_same
          refine ⟨_, rfl, a, _, 1, .int y, rfl, rfl, SqL.of hB, rfl, ?_⟩
          refine ⟨_, rfl, a, _, 2, .int (c + 1), rfl, rfl, SqL.of hB, rfl, ?_⟩
          refine ⟨_, rfl, a, _, 3, .int t, rfl, rfl, SqL.of hB, rfl, ?_⟩
          refine ⟨y, c + 1, t, rfl, ⟨hp.y0, hp.y1⟩, ⟨by have := hp.c0; omega, by omega⟩, ⟨hp.t0, hp.t1⟩, fun z z0 z1 => ?_⟩
          exact ⟨_, _, rfl, rfl, .inr ⟨rfl, rfl, _, rfl⟩⟩
        · omega
      · intro σ H' hP
        rcases hP with ⟨h, _⟩ | ⟨_, rfl, z, rfl⟩
        · cases h
        · refine ⟨_, rfl, .inl ⟨_, rfl, _, rfl, _, _, rfl, rfl, hm0, ?_⟩⟩
          exact hq _ x (c + 1) (z % m) But.upd (fun b hb => by
            by_cases e : b = a
            · rw [e, upd_same] at hb; cases hb
            · rw [upd_ne e] at hb; exact hb) upd_same ⟨hp.x0, hp.y0, hp.y1, by have := hp.c0; omega, by omega, hp.t0, hp.t1⟩ (by omega) (Int.emod_nonneg _ (by omega)) (Int.emod_lt_of_pos _ hm0)
end
end K01
set_option Elab.async false
set_option linter.all false
set_option maxRecDepth 100000
set_option maxHeartbeats 1000000
/-! purses, one of some, words -/
namespace K01
open PySem PySem.Spec PyProof.Rows L2
abbrev sPurses : Stmt := top 36
abbrev sOne : Stmt := top 37
abbrev sWord : Stmt := top 38
theorem scPurses : FnScope ["_law_script", "_law_few", "_law_at"] ["_law_script", "_law_few"] (defScope sPurses) := ⟨rfl, rfl, rfl, by decide +kernel, rfl, by decide +kernel, by decide +kernel⟩
theorem scOne : FnScope ["_law_purse_here", "_law_some"] ["_law_purse_here", "_law_some"] (defScope sOne) := ⟨rfl, rfl, rfl, by decide +kernel, rfl, by decide +kernel, by decide +kernel⟩
theorem scWord : FnScope ["_law_purse_here", "_law_size", "_law_spin"] ["_law_purse_here"] (defScope sWord) := ⟨rfl, rfl, rfl, by decide +kernel, rfl, by decide +kernel, by decide +kernel⟩
structure Wd (z : Str) : Prop where
  len : z.length ≤ 8
  low : ∀ c ∈ z.cps.toList, 97 ≤ c ∧ c ≤ 122
theorem mem_joinL : ∀ (L : List (List Nat)) (c : Nat), c ∈ TL.joinL [] L → ∃ p ∈ L, c ∈ p
  | [], c, h => by cases h
  | [p], c, h => ⟨p, List.mem_cons_self .., h⟩
  | p :: q :: r, c, h => by
    rcases List.mem_append.mp (show c ∈ p ++ ([] ++ TL.joinL [] (q :: r)) from h) with h | h
    · exact ⟨p, List.mem_cons_self .., h⟩
    · obtain ⟨p', h1, h2⟩ := mem_joinL (q :: r) c (by simpa using h)
      exact ⟨p', List.mem_cons_of_mem _ h1, h2⟩
theorem sum_ones : ∀ l : List Str, (∀ y ∈ l, ∃ c, y = (⟨#[c]⟩ : Str) ∧ 97 ≤ c ∧ c ≤ 122) → (l.map (·.length)).sum = l.length := by
  intro l
  induction l with
  | nil => intro _; rfl
  | cons y l ih =>
    intro hy
    obtain ⟨c, rfl, _⟩ := hy y (List.mem_cons_self ..)
    rw [List.map_cons, List.sum_cons, ih fun z hz => hy z (List.mem_cons_of_mem _ hz), List.length_cons]
    show 1 + l.length = l.length + 1
    omega
theorem word_of {ys : List Str} (hl : ys.length ≤ 8) (h : ∀ y ∈ ys, ∃ c, y = (⟨#[c]⟩ : Str) ∧ 97 ≤ c ∧ c ≤ 122) : Wd (Txt.join ⟨#[]⟩ ys) := by
  constructor
  · have e : (Txt.join ⟨#[]⟩ ys).length = (ys.map (·.length)).sum + (ys.length - 1) * (⟨#[]⟩ : Str).length := size_glued _ ys
    rw [e, sum_ones ys h]
    show ys.length + (ys.length - 1) * 0 ≤ 8
    omega
  · intro c hc
    have e : (Txt.join ⟨#[]⟩ ys).cps.toList = TL.joinL [] (ys.map fun y => y.cps.toList) := by
      rw [TL.join_eq]
      exact TL.tl_join ⟨#[]⟩ ys
    rw [e] at hc
    obtain ⟨p, hp, hcp⟩ := mem_joinL _ c hc
    obtain ⟨y, hy, rfl⟩ := List.mem_map.mp hp
    obtain ⟨d, rfl, h1, h2⟩ := h y hy
    have : c = d := by simpa using hcp
    omega
def spPurses (K : PySem.W.Frag) : Sp := fun vs H Q _ => ∃ (a : Addr) (ns : List Int), vs = [.ref a, .int 1] ∧ SqL K H a (ns.map V.int) ∧
  ∀ H' p q x y, Same H H' → H p = none → H q = none → Purse x y 0 0 → H' q = some (purV x y 0 0) → H' p = some (.lst [.ref q]) → Q (.ref p) H'
theorem one_of (n : Nat) : (if (if (n : Int) < 1 then (n : Int) else 1) > (1 : Int) then (if (n : Int) < 1 then (n : Int) else 1) else 1) = (1 : Int) := by
  split <;> split <;> omega
section
variable {P : Program} {w : World} {K : PySem.W.Frag} {mg : Str → Option Value} {base : Heap} {f : Addr} {fd : FuncData}
theorem ok_purses {fP : Addr} {fdP : FuncData} (B : Bt mg) (F : FnP K "_law_purses" sPurses f fd) (FP : FnP K "_law_purse" sPurse fP fdP) (gP : mg "_law_purse" = some (.ref fP)) : FnOk P w K mg base CX0 2 f fd ["_law_script", "_law_few"] (spPurses K) := by
  have GP : FnOk P w K mg base CX0 1 fP fdP ["_law_script", "_law_at"] (spPurse K) := ok_purse B FP
  have bP : Binds K fdP ["_law_script", "_law_at"] [] := FP.bindsN fun _ _ _ _ _ _ us hl => match us, hl with | [_, _], _ => rfl
  refine F.ok scPurses (fun vs H Q E h => ?_) (fun cdv A outer s H vs Q E hr h => ⟨_, PSs.nox (pss_one (ps_ret
      (pe_lc (own := [("_law_at", 2)]) (g := gName 2) (tt := tYes) rfl scPurses.nd (pi_range1 (by rfl) B.range (pa_cons (pe_callB (call_max2 rfl) (by rfl) B.max (by decide +kernel) (pa_cons pe_int (pa_cons (pe_callB (call_min2 rfl) (by rfl) B.min (by decide +kernel) (pa_cons (pv 1) (pa_cons (pe_callB call_len_seq (by rfl) B.len boot_len (pa_cons (pv 0) pa_nil)) pa_nil))) pa_nil))) pa_nil))
        (blkOk_by (N := ["_law_script", "_law_few", "_law_at"]) (sc := defScope sPurses) (by decide +kernel)) (fun _ _ _ _ _ => pg_name (i := 2) scPurses.nd rfl (Or.inl rfl)) (fun _ _ _ _ _ => pts_nil)
        (fun _ _ _ _ _ => pe_call GP hr (by rfl) gP FP.kp bP .nil pass0 (pa_cons (pv 0) (pa_cons (pv 2) pa_nil)))))), ?_⟩)
  · obtain ⟨a, ns, rfl, _⟩ := h
    rfl
  · obtain ⟨a, ns, rfl, hS, hq⟩ := h
    refine ⟨_, rfl, _, rfl, a, _, rfl, .inl hS, _, _, rfl, _, _, rfl, 1, congrArg (fun z => [V.int z]) ?_, by decide, by decide, fun D nD => ?_⟩
    · exact one_of _
    · refine lc_range (lo := 0) (n := 1) (fun i H' => (i = 0 ∧ H' = upd H D (.lst [])) ∨ (i = 1 ∧ ∃ q x y, But D H H' ∧ H q = none ∧ q ≠ D ∧ Purse x y 0 0 ∧ H' q = some (purV x y 0 0) ∧ H' D = some (.lst [.ref q]))) (.inl ⟨rfl, rfl⟩) ?_ ?_
      · intro i H' hi hP
        rcases hP with ⟨rfl, rfl⟩ | ⟨rfl, _⟩
        · have s1 : Same H (upd H D (.lst [])) := Same.upd nD
          refine ⟨rfl, ?_⟩
          refine ⟨_, rfl, _, rfl, a, ns, 0, rfl, s1.seq hS, Int.le_refl 0, by decide, fun H2 p x y s2 np hp e => ?_⟩
          have hpD : p ≠ D := fun z => by rw [z, upd_same] at np; cases np
          have hD : H2 D = some (.lst []) := s2 _ _ upd_same
          refine ⟨[], hD, by decide, .inr ⟨rfl, p, x, y, ?_, s1.free np, hpD, hp, ?_, upd_same⟩⟩
          · exact ((s1.trans s2).but).trans But.upd
          · rw [upd_ne hpD]; exact e
        · omega
      · intro H' hP
        rcases hP with ⟨h, _⟩ | ⟨_, q, x, y, hb, nq, hqD, hp, e, eD⟩
        · cases h
        · exact hq H' D q x y (fun b o hbo => hb b o (ne_of_none hbo nD) hbo) nD nq hp e eD
def spOne : Sp := fun vs H Q _ => ∃ (a b : Addr) (x y c t : Int) (xs : List V), vs = [.ref a, .ref b] ∧ b ≠ a ∧ H a = some (purV x y c t) ∧ H b = some (.lst xs) ∧ Purse x y c t ∧ c < 900 ∧ 0 < xs.length ∧ xs.length < 1000 ∧
  ∀ (H' : Hp) (x' c' : Int) (i : Nat) (v : V), But a H H' → (∀ b, H' b = none → H b = none) → H' a = some (purV x' y c' t) → Purse x' y c' t → c' ≤ c + 1 → xs[i]? = some v → Q v H'
theorem ok_one {fM fD : Addr} {fdM fdD : FuncData} (B : Bt mg) (F : FnP K "_law_one_of" sOne f fd) (FD : FnP K "_law_draw" sDraw fD fdD) (gD : mg "_law_draw" = some (.ref fD)) (FM : FnP K "_law_mixed" sMixed fM fdM) (gM : mg "_law_mixed" = some (.ref fM)) :
    FnOk P w K mg base CX0 3 f fd ["_law_purse_here", "_law_some"] spOne := by
  have GD : FnOk P w K mg base CX0 2 fD fdD ["_law_purse_here", "_law_many"] spDraw := ok_draw B FD FM gM
  have bD : Binds K fdD ["_law_purse_here", "_law_many"] [] := FD.bindsN fun _ _ _ _ _ _ us hl => match us, hl with | [_, _], _ => rfl
  refine F.ok scOne (fun vs H Q E h => ?_) (fun cdv A outer s H vs Q E hr h => ⟨_, PSs.nox (pss_one (ps_ret
      (pe_ix ix_list (pv 1) (pe_call GD hr (by rfl) gD FD.kp bD .nil pass0 (pa_cons (pv 0) (pa_cons (pe_callB call_len_seq (by rfl) B.len boot_len (pa_cons (pv 1) pa_nil)) pa_nil))) (fun _ _ => rfl)))), ?_⟩)
  · obtain ⟨a, b, x, y, c, t, xs, rfl, _⟩ := h
    rfl
  · obtain ⟨a, b, x, y, c, t, xs, rfl, hne, hA, hB, hp, hc, h0, h1, hq⟩ := h
    refine ⟨_, rfl, _, rfl, _, rfl, b, xs, rfl, .inl (SqL.of hB), a, x, y, c, t, _, rfl, hA, hp, hc, by omega, by omega, fun H' x' c' z hb hf e p' hc' z0 z1 => ?_⟩
    obtain ⟨j, rfl⟩ := Int.eq_ofNat_of_zero_le z0
    have hj : j < xs.length := by omega
    exact ⟨b, xs, (j : Int), xs[j], rfl, rfl, SqL.of (hb b _ hne hB), atI_nat (List.getElem?_eq_getElem hj), hq H' x' c' j xs[j] hb hf e p' hc' (List.getElem?_eq_getElem hj)⟩
def alpha : Str := PySem.Str.ofString "abcdefghijklmnopqrstuvwxyz"
theorem alpha_at : ∀ j : Nat, j < 26 → ∃ c, alpha.cps.toList[j]? = some c ∧ 97 ≤ c ∧ c ≤ 122 := by
  intro j hj
  have e : alpha.cps.toList = (List.range 26).map (· + 97) := by decide +kernel
  refine ⟨j + 97, ?_, by omega, by omega⟩
  rw [e, List.getElem?_map, List.getElem?_range hj]
  rfl
theorem alpha_len : alpha.length ≤ sizeLine := by decide +kernel
theorem ite_tC {c : Bool} {u v : V} {σ : L2.St} {H : Hp} {F : VK} (h : ∀ m, m = u ∨ m = v → F m H) : if c = true then tC u σ H F else tC v σ H F := by
  cases c with
  | true => exact h u (.inl rfl)
  | false => exact h v (.inr rfl)
def spWord : Sp := fun vs H Q _ => ∃ (a : Addr) (x y c t : Int), vs = [.ref a] ∧ H a = some (purV x y c t) ∧ Purse x y c t ∧ c < 800 ∧
  ∀ H' x' c' z, But a H H' → (∀ b, H' b = none → H b = none) → H' a = some (purV x' y c' t) → Purse x' y c' t → c' ≤ c + 20 → Wd z → Q (.str z) H'
theorem ok_word {fM fD : Addr} {fdM fdD : FuncData} (B : Bt mg) (F : FnP K "_law_word" sWord f fd) (FD : FnP K "_law_draw" sDraw fD fdD) (gD : mg "_law_draw" = some (.ref fD)) (FM : FnP K "_law_mixed" sMixed fM fdM) (gM : mg "_law_mixed" = some (.ref fM)) :
    FnOk P w K mg base CX0 3 f fd ["_law_purse_here"] spWord := by
  have GD : FnOk P w K mg base CX0 2 fD fdD ["_law_purse_here", "_law_many"] spDraw := ok_draw B FD FM gM
  have bD : Binds K fdD ["_law_purse_here", "_law_many"] [] := FD.bindsN fun _ _ _ _ _ _ us hl => match us, hl with | [_, _], _ => rfl
  refine F.ok scWord (fun vs H Q E h => ?_) (fun cdv A outer s H vs Q E hr h => ⟨_, PSs.nox (pss_cons
      (ps_set (i := 1) scWord.nd rfl (.inl rfl) (pe_op op_add pe_int (pe_call GD hr (by rfl) gD FD.kp bD .nil pass0 (pa_cons (pv 0) (pa_cons
        (pe_ifExp (pt_cmpR op_eq (pe_call GD hr (by rfl) gD FD.kp bD .nil pass0 (pa_cons (pv 0) (pa_cons pe_int pa_nil))) pe_int (nomark _)) pe_int pe_int) pa_nil)))))
      (pss_one (ps_ret (pe_join pe_str
        (pe_lc (own := [("_law_spin", 2)]) (g := gName 2) (tt := tYes) rfl scWord.nd (pi_range1 (by rfl) B.range (pa_cons (pv 1) pa_nil))
          (blkOk_by (N := ["_law_purse_here", "_law_size", "_law_spin"]) (sc := defScope sWord) (by decide +kernel)) (fun _ _ _ _ _ => pg_name (i := 2) scWord.nd rfl (Or.inl rfl)) (fun _ _ _ _ _ => pts_nil)
          (fun _ _ _ _ _ => pe_ix ix_str pe_str (pe_call GD hr (by rfl) gD FD.kp bD .nil pass0 (pa_cons (pv 0) (pa_cons pe_int pa_nil))) (fun _ _ => rfl))))))), ?_⟩)
  · obtain ⟨a, x, y, c, t, rfl, _⟩ := h
    rfl
  · obtain ⟨a, x, y, c, t, rfl, hA, hp, hc, hq⟩ := h
    refine ⟨_, rfl, _, rfl, a, x, y, c, t, 3, rfl, hA, hp, by omega, by decide, by decide, fun H1 x1 c1 z1 hb1 hf1 e1 p1 hc1 z10 z11 => ?_⟩
    refine ⟨rfl, _, rfl, ite_tC fun m hm => ?_⟩
    have m8 : ∃ k : Nat, m = .int (k : Int) ∧ 0 < k ∧ k ≤ 8 := by
      rcases hm with rfl | rfl
      · exact ⟨8, rfl, by decide, by decide⟩
      · exact ⟨3, rfl, by decide, by decide⟩
    obtain ⟨k, rfl, k0, k8⟩ := m8
    refine ⟨a, x1, y, c1, t, k, rfl, e1, p1, by omega, by omega, by omega, fun H2 x2 c2 z2 hb2 hf2 e2 p2 hc2 z20 z21 => ?_⟩
    obtain ⟨n, rfl⟩ := Int.eq_ofNat_of_zero_le z20
    refine ⟨_, _, rfl, rfl, ⟨_, rfl⟩, _, rfl, 1 + (n : Int), rfl, by omega, by omega, fun D nD => ?_⟩
    have hN : (1 + (n : Int)).toNat ≤ 8 := by omega
    refine lc_range (lo := 0) (n := (1 + (n : Int)).toNat) (fun i H' => ∃ (ys : List Str) (x' c' : Int), ys.length = i ∧ (∀ y ∈ ys, ∃ c, y = (⟨#[c]⟩ : Str) ∧ 97 ≤ c ∧ c ≤ 122) ∧ But a H2 H' ∧ (∀ b, H' b = none → H2 b = none) ∧
      H' a = some (purV x' y c' t) ∧ Purse x' y c' t ∧ c' ≤ c2 + i ∧ H' D = some (.lst (ys.map V.str))) ?_ ?_ ?_
    · have haD : a ≠ D := fun z => by rw [← z, e2] at nD; cases nD
      refine ⟨[], x2, c2, rfl, (fun _ h => nomatch h), (Same.upd nD).but, fun b hb => (Same.upd nD).free hb, ?_, p2, by omega, upd_same⟩
      rw [upd_ne haD]
      exact e2
    · rintro i H3 hi ⟨ys, x3, c3, hl, hys, hb3, hf3, e3, p3, hc3, eD⟩
      refine ⟨rfl, _, rfl, a, x3, y, c3, t, 26, rfl, e3, p3, by omega, by decide, by decide, fun H4 x4 c4 z4 hb4 hf4 e4 p4 hc4 z40 z41 => ?_⟩
      obtain ⟨j, rfl⟩ := Int.eq_ofNat_of_zero_le z40
      obtain ⟨d, hd, d1, d2⟩ := alpha_at j (by omega)
      have hDa : D ≠ a := fun z => by rw [z, e2] at nD; cases nD
      have eD4 : H4 D = some (.lst (ys.map V.str)) := hb4 _ _ hDa eD
      refine ⟨alpha, (j : Int), d, rfl, rfl, alpha_len, atI_nat hd, ys.map V.str, eD4, ?_, ys ++ [⟨#[d]⟩], x4, c4, ?_, ?_, ?_, ?_, ?_, p4, ?_, ?_⟩
      · rw [List.length_map, hl, sizeLine_eq]; omega
      · rw [List.length_append, hl]; rfl
      · intro y' hy'
        rcases List.mem_append.mp hy' with h | h
        · exact hys _ h
        · rw [List.mem_singleton.mp h]
          exact ⟨d, rfl, d1, d2⟩
      · intro b o hb e
        rw [upd_ne (ne_of_none e nD)]
        exact hb4 _ _ hb (hb3 _ _ hb e)
      · intro b hb
        by_cases hbD : b = D
        · rw [hbD, upd_same] at hb; cases hb
        · rw [upd_ne hbD] at hb; exact hf3 b (hf4 b hb)
      · rw [upd_ne (Ne.symm hDa)]; exact e4
      · omega
      · rw [upd_same, List.map_append]; rfl
    · rintro H3 ⟨ys, x3, c3, hl, hys, hb3, hf3, e3, p3, hc3, eD⟩
      refine ⟨_, D, ys, rfl, rfl, .inl (SqL.of eD), ?_, ?_⟩
      · rw [sum_ones ys hys]
        show ys.length + ys.length * 0 ≤ 16777216
        omega
      · exact hq H3 x3 c3 _ ((hb1.trans hb2).trans hb3) (fun b hb => hf1 b (hf2 b (hf3 b hb))) e3 p3 (by omega) (word_of (by omega) hys)
end
end K01
set_option Elab.async false
set_option linter.all false
set_option maxRecDepth 100000
set_option maxHeartbeats 1000000
/-! errors in lists -/
namespace L2
open PySem PySem.Spec PyProof.Rows
/-- at a: an error of the class at C, with its field or with none -/
def InstX (H : Hp) (a C : Addr) : Prop := (∃ d v, ErrAt H a C d v) ∨ H a = some (ExO (.ref C) a)
def rIsX2 (K : PySem.W.Frag) : List V → Hp → VK → Prop := fun xs H Q => ∃ (a C : Addr) (c : V) (u : Value) (b : Bool), xs = [.ref a, c] ∧ ClsV c u ∧ InstX H a C ∧ ExcC K C ∧ PySem.W.kitOne K (.ref C) u = some b ∧ Q (.bl b) H
section
variable {X : Cx}
theorem call_isX2 : CallR X (.builtin "isinstance") (rIsX2 X.K) := by
  intro pins s σ H xs us Q I r h
  obtain ⟨a, C, c, u, b, rfl, k, ea, T, e, q⟩ := h
  rcases ea with ⟨d, v, ea⟩ | ea
  · exact call_isX pins s σ H _ us Q I r ⟨a, C, d, v, c, u, b, rfl, k, ea, T, e, q⟩
  · obtain ⟨u1, u2, rfl, r1, r2⟩ := vals2 r
    have e2 := k.eq r2
    subst e2
    cases (show u1 = Value.ref a from r1)
    obtain ⟨⟨oe, vs, ho, hz, hd, _⟩, _, _⟩ := I.hok a _ ea
    have J : PySem.W.InstAt s.heap a oe C none := by
      obtain ⟨oc, od, oda, osl⟩ := oe
      obtain ⟨h1, h2⟩ := hz
      dsimp only at h1 h2 hd
      subst h1 h2 hd
      exact ⟨ho, rfl, rfl, trivial⟩
    obtain ⟨cd, hc, _⟩ := PySem.W.any_some T.hd
    exact PySem.W.kia_one (PySem.W.kitx_exc (od := none) (ox := oe) (by rw [hc]; rfl) T.hg T.hk T.hs T.ha T.hn T.ht T.hm) I.kIn J e (fun z => nomatch z) fun tk => ⟨.bl b, H, I.tok tk, rfl, q⟩
/-- X(), an own error without an own __init__ -/
theorem pe_exc0 {C : Addr} {bmB : List Value} {B newId initId : String} {x : Str} {p pos : Pos} (F : ExcBaseFacts B newId initId bmB) (q : PySem.W.excIn X.K C bmB newId = true) (gC : X.mg x = some (.ref C)) (kC : PySem.W.keepIn X.K (.ref C) = true) (hg : Gl X x)
    (hdb : (x == ("__debug__" : Str)) = false := by decide) :
    PE X (.Call (.Name x p) [] [] pos) (fun σ H Q => ∀ a, H a = none → Q (.ref a) (upd H a (ExO (.ref C) a))) := by
  refine ⟨fun pins s σ H Q I h => wpAny_Call_Name_kw (ld_glob I hg gC (PySem.W.callWith_K0 I.kIn kC ?_) hdb)⟩
  obtain ⟨bm, N, nm, qn, bs, hdct, sn, sub, ab, col, dd, k0, k1, k2, k3, k5, mN, hC, hN, hni, T⟩ := exc_obj I.kIn q
  refine wpAny_call_exc_subT F T hC hN hni (fun h' a hm => ?_) (by show 0 ≤ sizeLine; exact Nat.zero_le _)
  have hn : H a = none := I.hok.gone hm.new
  obtain ⟨t, ht, _, _⟩ := hm.there
  exact ⟨.ref a, upd H a (ExO (.ref C) a), I.laidN hm.keeps hm.new hn (exO_ok ht ⟨rfl, rfl⟩ rfl rfl rfl (show 4 < 6 by decide)), rfl, h a hn⟩
end
theorem updE_same {H : Hp} {a C d : Addr} {v : V} (ha : H a = none) (hd : H d = none) : Same H (updE H a C d v) := fun b o e => by
  rw [updE_ne (ne_of_none e ha) (ne_of_none e hd)]
  exact e
theorem ErrAt.same {H H' : Hp} {a C d : Addr} {v : V} (e : ErrAt H a C d v) (s : Same H H') : ErrAt H' a C d v := ⟨s _ _ e.1, s _ _ e.2⟩
/-- errors with the field v, of the classes Cs -/
def Errs (H : Hp) (v : V) : List Addr → List Addr → Prop
  | [], [] => True
  | C :: Cs, a :: as => (∃ d, ErrAt H a C d v) ∧ Errs H v Cs as
  | _, _ => False
theorem Errs.same {H H' : Hp} {v : V} (s : Same H H') : ∀ {Cs as : List Addr}, Errs H v Cs as → Errs H' v Cs as
  | [], [], _ => trivial
  | _ :: _, _ :: _, ⟨⟨d, e⟩, r⟩ => ⟨⟨d, e.same s⟩, Errs.same s r⟩
  | [], _ :: _, h => h.elim
  | _ :: _, [], h => h.elim
theorem Errs.append {H : Hp} {v : V} : ∀ {Cs as Ds bs : List Addr}, Errs H v Cs as → Errs H v Ds bs → Errs H v (Cs ++ Ds) (as ++ bs)
  | [], [], _, _, _, h => h
  | _ :: _, _ :: _, _, _, ⟨e, r⟩, h => ⟨e, Errs.append r h⟩
  | [], _ :: _, _, _, h, _ => h.elim
  | _ :: _, [], _, _, h, _ => h.elim
theorem Errs.length {H : Hp} {v : V} : ∀ {Cs as : List Addr}, Errs H v Cs as → as.length = Cs.length
  | [], [], _ => rfl
  | _ :: _, _ :: _, ⟨_, r⟩ => congrArg Nat.succ (Errs.length r)
  | [], _ :: _, h => h.elim
  | _ :: _, [], h => h.elim
theorem Errs.get {H : Hp} {v : V} : ∀ {Cs as : List Addr} {i : Nat} {C : Addr}, Errs H v Cs as → Cs[i]? = some C → ∃ a d, as[i]? = some a ∧ ErrAt H a C d v
  | C :: Cs, a :: as, 0, _, ⟨⟨d, e⟩, _⟩, h => by cases h; exact ⟨a, d, rfl, e⟩
  | C :: Cs, a :: as, i + 1, _, ⟨_, r⟩, h => Errs.get (i := i) r h
  | [], _ :: _, _, _, h, _ => h.elim
  | _ :: _, [], _, _, h, _ => h.elim
  | [], [], _, _, _, h => by cases h
def taEv (te : TE) : List Addr → TA
  | [] => tNil
  | C :: Cs => tCons (tEv C te) (taEv te Cs)
theorem taEv_read {te : TE} {v : V} {σ : L2.St} (hte : ∀ (H : Hp) (Q : VK), Q v H → te σ H Q) : ∀ (Cs : List Addr) (H : Hp) (Q : List V → Hp → Prop),
    (∀ as H', Errs H' v Cs as → Same H H' → Q (as.map V.ref) H') → taEv te Cs σ H Q
  | [], H, Q, h => h [] H trivial (Same.refl H)
  | C :: Cs, H, Q, h => by
    refine hte H _ fun a d ha hd hne => ?_
    refine taEv_read hte Cs _ _ fun as H' he hs => ?_
    exact h (a :: as) H' ⟨⟨d, (updE_at hne).same hs⟩, he⟩ ((updE_same ha hd).trans hs)
end L2
namespace K01
open PySem PySem.Spec PyProof.Rows L2
structure ErrOk (P : Program) (w : World) (K : PySem.W.Frag) (mg : Str → Option Value) (base : Heap) (x : Str) : Prop where
  ex : ∃ (fI : Addr) (fd : FuncData), mg x = some (.ref (He.ga K x)) ∧ ErrC K (He.ga K x) fI ∧ FnOk P w K mg base CX0 1 fI fd ["self", "value"] (spInit (He.ga K x)) ∧ EvB K fd
section
variable {X : Cx} {k : Nat} {x : Str} {p pos : Pos} {e : Expr} {es : List Expr} {te : TE}
theorem pe_E1 (h : ErrOk X.prog X.w X.K X.mg X.base x) (hr : Room (1 + 1) X.A) (ha : PE X e te) (hg : Gl X x := by rfl)
    (hdb : (x == ("__debug__" : Str)) = false := by decide +kernel) (hs : starEach (e :: []) X.env = (false, eval e X.env) :: starEach [] X.env := by rfl) (hpl : (backTo pos (starEach [] X.env)).any (·.1) = false := by rfl) :
    PE X (.Call (.Name x p) [e] [] pos) (tEv (He.ga X.K x) te) := by
  obtain ⟨fI, fd, hm, T, F, B⟩ := h.ex
  exact pe_ev1 T F B hr hm ha hg hdb hs hpl
theorem pe_E0 (h : ErrOk X.prog X.w X.K X.mg X.base x) (hr : Room (1 + 1) X.A) (hg : Gl X x := by rfl)
    (hdb : (x == ("__debug__" : Str)) = false := by decide +kernel) : PE X (.Call (.Name x p) [] [] pos) (tEv (He.ga X.K x) (tC .non)) := by
  obtain ⟨fI, fd, hm, T, F, B⟩ := h.ex
  exact pe_ev0 T F B hr hm hg hdb
theorem pe_Ek {kpos : Pos} (h : ErrOk X.prog X.w X.K X.mg X.base x) (hr : Room (1 + 1) X.A) (ha : PE X e te) (hg : Gl X x := by rfl)
    (hdb : (x == ("__debug__" : Str)) = false := by decide +kernel)
    (hall : (backToKw pos (keywordEach [⟨some "value", e, kpos⟩] X.env)).all (·.1.isSome) = true := by rfl) (hks : (backToKw pos (keywordEach [⟨some "value", e, kpos⟩] X.env)).filterMap (·.1) = [("value" : Str)] := by rfl)
    (hpl : ((backTo pos (starEach [] X.env)).any (·.1) || (backToKw pos (keywordEach [⟨some "value", e, kpos⟩] X.env)).any (·.1.isNone)) = false := by rfl) :
    PE X (.Call (.Name x p) [] [⟨some "value", e, kpos⟩] pos) (tEv (He.ga X.K x) te) := by
  obtain ⟨fI, fd, hm, T, F, B⟩ := h.ex
  exact pe_evk (kws := []) T F B hr hm ha hg hdb hall hks hpl
end
end K01
set_option Elab.async false
set_option linter.all false
set_option maxRecDepth 100000
set_option maxHeartbeats 4000000
/-! the three lists of errors -/
namespace K01
open PySem PySem.Spec PyProof.Rows L2
abbrev sFirst : Stmt := top 39
abbrev sCalled : Stmt := top 40
abbrev sBare : Stmt := top 41
def eNames : List Str := ["InvalidTable", "InvalidKinds", "InvalidKind", "InvalidMap", "InvalidTriples", "InvalidRule", "InvalidThings", "InvalidBook", "InvalidTerm", "InvalidTerms", "InvalidWord", "InvalidCount", "InvalidPrices", "InvalidHolding", "InvalidWorld", "InvalidInputs", "InvalidLines", "InvalidProgram", "InvalidFolding", "InvalidBench", "InvalidSpot", "InvalidScript", "InvalidText", "InvalidRecord", "Unlike", "Unsettled", "Apart", "Refused"]
abbrev cs (K : PySem.W.Frag) (l : List Str) : List Addr := l.map (He.ga K)
theorem scFirst : FnScope ["_law_thing", "_law_found"] ["_law_thing"] (defScope sFirst) := ⟨rfl, rfl, rfl, by decide +kernel, rfl, by decide +kernel, by decide +kernel⟩
theorem scCalled : FnScope ["_law_thing", "_law_found"] ["_law_thing"] (defScope sCalled) := ⟨rfl, rfl, rfl, by decide +kernel, rfl, by decide +kernel, by decide +kernel⟩
theorem scBare : FnScope ["_law_found"] [] (defScope sBare) := ⟨rfl, rfl, rfl, by decide +kernel, rfl, by decide +kernel, by decide +kernel⟩
theorem few_ok {xs : List V} (h : xs.length ≤ 1000) : xs.length ≤ sizeLine := by rw [sizeLine_eq]; omega
def spErrs (K : PySem.W.Frag) (v : V) (H : Hp) (Q : VK) : Prop := ∀ H' p as, Same H H' → H p = none → H' p = some (.lst (as.map V.ref)) → Errs H' v (cs K eNames) as → Q (.ref p) H'
def spFirst (K : PySem.W.Frag) : Sp := fun vs H Q _ => ∃ v : V, vs = [v] ∧ spErrs K v H Q
def spBare (K : PySem.W.Frag) : Sp := fun vs H Q _ => vs = [] ∧ spErrs K .non H Q
section
variable {te : TE} {v : V} {σ : L2.St} {H : Hp} {D : Ends} {rest : TS} {i : Nat} {q : Addr} {Cs : List Addr} {as : List Addr}
theorem st_first (hte : ∀ (H : Hp) (Q : VK), Q v H → te σ H Q) (Cs : List Addr) (hl : Cs.length ≤ 1000)
    (h : ∀ as G p, Same H G → H p = none → G p = some (.lst (as.map V.ref)) → Errs G v Cs as → rest D (σ.set i (some (.ref p))) G) : tSeq (tAsg (tLst (taEv te Cs)) (gName i)) rest D σ H := by
  unfold tSeq tAsg tLst gName
  refine taEv_read hte Cs _ _ fun a0 H0 e0 s0 => ⟨few_ok (by rw [List.length_map, e0.length]; exact hl), fun p0 n0 => ?_⟩
  exact h a0 _ p0 (s0.trans (Same.upd n0)) (s0.free n0) upd_same (e0.same (Same.upd n0))
theorem st_more (hte : ∀ (H : Hp) (Q : VK), Q v H → te σ H Q) (Ds : List Addr) (hσ : σ[i]? = some (some (.ref q))) (hq : H q = some (.lst (as.map V.ref))) (he : Errs H v Cs as) (hl : (Cs ++ Ds).length ≤ 1000)
    (h : ∀ as G p, Same H G → H p = none → G p = some (.lst (as.map V.ref)) → Errs G v (Cs ++ Ds) as → rest D (σ.set i (some (.ref p))) G) : tSeq (tAsg (tOp rCat (tVar i) (tLst (taEv te Ds))) (gName i)) rest D σ H := by
  rw [List.length_append] at hl
  unfold tSeq tAsg tOp tLst gName
  refine ⟨_, hσ, taEv_read hte Ds _ _ fun b1 H1 e1 s1 => ⟨few_ok (by rw [List.length_map, e1.length]; omega), fun q1 m1 => ?_⟩⟩
  have x1 : Same H (upd H1 q1 (.lst (b1.map V.ref))) := s1.trans (Same.upd m1)
  refine ⟨_, _, _, _, rfl, rfl, x1 _ _ hq, upd_same, (by rw [List.length_map, List.length_map, he.length, e1.length, sizeLine_eq]; omega), fun p1 n1 => ?_⟩
  rw [← List.map_append]
  exact h (as ++ b1) _ p1 (x1.trans (Same.upd n1)) (x1.free n1) upd_same (((he.same x1).append (e1.same (Same.upd m1))).same (Same.upd n1))
end
section
variable {P : Program} {w : World} {K : PySem.W.Frag} {mg : Str → Option Value} {base : Heap} {f : Addr} {fd : FuncData}
theorem okFirst (hE : ∀ x ∈ eNames, ErrOk P w K mg base x) (F : FnP K "_law_first" sFirst f fd) : FnOk P w K mg base CX0 3 f fd ["_law_thing"] (spFirst K) := by
  refine F.ok scFirst (fun vs H Q E h => ?_) (fun cdv A outer s H vs Q E hr h => ⟨_, PSs.nox (pss_cons (ps_set (i := 1) scFirst.nd rfl (.inl rfl) (pe_lst (pa_cons (pe_E1 (hE "InvalidTable" (by decide +kernel)) hr (pv 0)) (pa_cons (pe_E1 (hE "InvalidKinds" (by decide +kernel)) hr (pv 0)) (pa_cons (pe_E1 (hE "InvalidKind" (by decide +kernel)) hr (pv 0)) (pa_cons (pe_E1 (hE "InvalidMap" (by decide +kernel)) hr (pv 0)) pa_nil))))))
      (pss_cons (ps_set (i := 1) scFirst.nd rfl (.inl rfl) (pe_op op_cat (pv 1) (pe_lst (pa_cons (pe_E1 (hE "InvalidTriples" (by decide +kernel)) hr (pv 0)) (pa_cons (pe_E1 (hE "InvalidRule" (by decide +kernel)) hr (pv 0)) (pa_cons (pe_E1 (hE "InvalidThings" (by decide +kernel)) hr (pv 0)) (pa_cons (pe_E1 (hE "InvalidBook" (by decide +kernel)) hr (pv 0)) pa_nil)))))))
      (pss_cons (ps_set (i := 1) scFirst.nd rfl (.inl rfl) (pe_op op_cat (pv 1) (pe_lst (pa_cons (pe_E1 (hE "InvalidTerm" (by decide +kernel)) hr (pv 0)) (pa_cons (pe_E1 (hE "InvalidTerms" (by decide +kernel)) hr (pv 0)) (pa_cons (pe_E1 (hE "InvalidWord" (by decide +kernel)) hr (pv 0)) (pa_cons (pe_E1 (hE "InvalidCount" (by decide +kernel)) hr (pv 0)) pa_nil)))))))
      (pss_cons (ps_set (i := 1) scFirst.nd rfl (.inl rfl) (pe_op op_cat (pv 1) (pe_lst (pa_cons (pe_E1 (hE "InvalidPrices" (by decide +kernel)) hr (pv 0)) (pa_cons (pe_E1 (hE "InvalidHolding" (by decide +kernel)) hr (pv 0)) (pa_cons (pe_E1 (hE "InvalidWorld" (by decide +kernel)) hr (pv 0)) (pa_cons (pe_E1 (hE "InvalidInputs" (by decide +kernel)) hr (pv 0)) pa_nil)))))))
      (pss_cons (ps_set (i := 1) scFirst.nd rfl (.inl rfl) (pe_op op_cat (pv 1) (pe_lst (pa_cons (pe_E1 (hE "InvalidLines" (by decide +kernel)) hr (pv 0)) (pa_cons (pe_E1 (hE "InvalidProgram" (by decide +kernel)) hr (pv 0)) (pa_cons (pe_E1 (hE "InvalidFolding" (by decide +kernel)) hr (pv 0)) (pa_cons (pe_E1 (hE "InvalidBench" (by decide +kernel)) hr (pv 0)) pa_nil)))))))
      (pss_cons (ps_set (i := 1) scFirst.nd rfl (.inl rfl) (pe_op op_cat (pv 1) (pe_lst (pa_cons (pe_E1 (hE "InvalidSpot" (by decide +kernel)) hr (pv 0)) (pa_cons (pe_E1 (hE "InvalidScript" (by decide +kernel)) hr (pv 0)) (pa_cons (pe_E1 (hE "InvalidText" (by decide +kernel)) hr (pv 0)) (pa_cons (pe_E1 (hE "InvalidRecord" (by decide +kernel)) hr (pv 0)) pa_nil)))))))
      (pss_cons (ps_set (i := 1) scFirst.nd rfl (.inl rfl) (pe_op op_cat (pv 1) (pe_lst (pa_cons (pe_E1 (hE "Unlike" (by decide +kernel)) hr (pv 0)) (pa_cons (pe_E1 (hE "Unsettled" (by decide +kernel)) hr (pv 0)) (pa_cons (pe_E1 (hE "Apart" (by decide +kernel)) hr (pv 0)) (pa_cons (pe_E1 (hE "Refused" (by decide +kernel)) hr (pv 0)) pa_nil)))))))
      (pss_one (ps_ret (pv 1)))))))))), ?_⟩)
  · obtain ⟨v, rfl, _⟩ := h
    rfl
  · obtain ⟨v, rfl, hq⟩ := h
    refine st_first (te := tVar 0) (v := v) (i := 1) (fun H Q q => ⟨v, rfl, q⟩) (cs K [("InvalidTable" : Str), ("InvalidKinds" : Str), ("InvalidKind" : Str), ("InvalidMap" : Str)]) (Nat.le_of_ble_eq_true rfl) fun a0 G0 p0 w0 z0 h0 f0 => ?_
    refine st_more (te := tVar 0) (v := v) (i := 1) (fun H Q q => ⟨v, rfl, q⟩) (cs K [("InvalidTriples" : Str), ("InvalidRule" : Str), ("InvalidThings" : Str), ("InvalidBook" : Str)]) rfl h0 f0 (Nat.le_of_ble_eq_true rfl) fun a1 G1 p1 w1 z1 h1 f1 => ?_
    have z1 := w0.free z1
    have w1 := w0.trans w1
    refine st_more (te := tVar 0) (v := v) (i := 1) (fun H Q q => ⟨v, rfl, q⟩) (cs K [("InvalidTerm" : Str), ("InvalidTerms" : Str), ("InvalidWord" : Str), ("InvalidCount" : Str)]) rfl h1 f1 (Nat.le_of_ble_eq_true rfl) fun a2 G2 p2 w2 z2 h2 f2 => ?_
    have z2 := w1.free z2
    have w2 := w1.trans w2
    refine st_more (te := tVar 0) (v := v) (i := 1) (fun H Q q => ⟨v, rfl, q⟩) (cs K [("InvalidPrices" : Str), ("InvalidHolding" : Str), ("InvalidWorld" : Str), ("InvalidInputs" : Str)]) rfl h2 f2 (Nat.le_of_ble_eq_true rfl) fun a3 G3 p3 w3 z3 h3 f3 => ?_
    have z3 := w2.free z3
    have w3 := w2.trans w3
    refine st_more (te := tVar 0) (v := v) (i := 1) (fun H Q q => ⟨v, rfl, q⟩) (cs K [("InvalidLines" : Str), ("InvalidProgram" : Str), ("InvalidFolding" : Str), ("InvalidBench" : Str)]) rfl h3 f3 (Nat.le_of_ble_eq_true rfl) fun a4 G4 p4 w4 z4 h4 f4 => ?_
    have z4 := w3.free z4
    have w4 := w3.trans w4
    refine st_more (te := tVar 0) (v := v) (i := 1) (fun H Q q => ⟨v, rfl, q⟩) (cs K [("InvalidSpot" : Str), ("InvalidScript" : Str), ("InvalidText" : Str), ("InvalidRecord" : Str)]) rfl h4 f4 (Nat.le_of_ble_eq_true rfl) fun a5 G5 p5 w5 z5 h5 f5 => ?_
    have z5 := w4.free z5
    have w5 := w4.trans w5
    refine st_more (te := tVar 0) (v := v) (i := 1) (fun H Q q => ⟨v, rfl, q⟩) (cs K [("Unlike" : Str), ("Unsettled" : Str), ("Apart" : Str), ("Refused" : Str)]) rfl h5 f5 (Nat.le_of_ble_eq_true rfl) fun a6 G6 p6 w6 z6 h6 f6 => ?_
    have z6 := w5.free z6
    have w6 := w5.trans w6
    exact ⟨_, rfl, hq G6 p6 a6 w6 z6 h6 f6⟩
theorem okCalled (hE : ∀ x ∈ eNames, ErrOk P w K mg base x) (F : FnP K "_law_called" sCalled f fd) : FnOk P w K mg base CX0 3 f fd ["_law_thing"] (spFirst K) := by
  refine F.ok scCalled (fun vs H Q E h => ?_) (fun cdv A outer s H vs Q E hr h => ⟨_, PSs.nox (pss_cons (ps_set (i := 1) scCalled.nd rfl (.inl rfl) (pe_lst (pa_cons (pe_Ek (hE "InvalidTable" (by decide +kernel)) hr (pv 0)) (pa_cons (pe_Ek (hE "InvalidKinds" (by decide +kernel)) hr (pv 0)) (pa_cons (pe_Ek (hE "InvalidKind" (by decide +kernel)) hr (pv 0)) pa_nil)))))
      (pss_cons (ps_set (i := 1) scCalled.nd rfl (.inl rfl) (pe_op op_cat (pv 1) (pe_lst (pa_cons (pe_Ek (hE "InvalidMap" (by decide +kernel)) hr (pv 0)) (pa_cons (pe_Ek (hE "InvalidTriples" (by decide +kernel)) hr (pv 0)) (pa_cons (pe_Ek (hE "InvalidRule" (by decide +kernel)) hr (pv 0)) pa_nil))))))
      (pss_cons (ps_set (i := 1) scCalled.nd rfl (.inl rfl) (pe_op op_cat (pv 1) (pe_lst (pa_cons (pe_Ek (hE "InvalidThings" (by decide +kernel)) hr (pv 0)) (pa_cons (pe_Ek (hE "InvalidBook" (by decide +kernel)) hr (pv 0)) (pa_cons (pe_Ek (hE "InvalidTerm" (by decide +kernel)) hr (pv 0)) pa_nil))))))
      (pss_cons (ps_set (i := 1) scCalled.nd rfl (.inl rfl) (pe_op op_cat (pv 1) (pe_lst (pa_cons (pe_Ek (hE "InvalidTerms" (by decide +kernel)) hr (pv 0)) (pa_cons (pe_Ek (hE "InvalidWord" (by decide +kernel)) hr (pv 0)) (pa_cons (pe_Ek (hE "InvalidCount" (by decide +kernel)) hr (pv 0)) pa_nil))))))
      (pss_cons (ps_set (i := 1) scCalled.nd rfl (.inl rfl) (pe_op op_cat (pv 1) (pe_lst (pa_cons (pe_Ek (hE "InvalidPrices" (by decide +kernel)) hr (pv 0)) (pa_cons (pe_Ek (hE "InvalidHolding" (by decide +kernel)) hr (pv 0)) (pa_cons (pe_Ek (hE "InvalidWorld" (by decide +kernel)) hr (pv 0)) pa_nil))))))
      (pss_cons (ps_set (i := 1) scCalled.nd rfl (.inl rfl) (pe_op op_cat (pv 1) (pe_lst (pa_cons (pe_Ek (hE "InvalidInputs" (by decide +kernel)) hr (pv 0)) (pa_cons (pe_Ek (hE "InvalidLines" (by decide +kernel)) hr (pv 0)) (pa_cons (pe_Ek (hE "InvalidProgram" (by decide +kernel)) hr (pv 0)) pa_nil))))))
      (pss_cons (ps_set (i := 1) scCalled.nd rfl (.inl rfl) (pe_op op_cat (pv 1) (pe_lst (pa_cons (pe_Ek (hE "InvalidFolding" (by decide +kernel)) hr (pv 0)) (pa_cons (pe_Ek (hE "InvalidBench" (by decide +kernel)) hr (pv 0)) (pa_cons (pe_Ek (hE "InvalidSpot" (by decide +kernel)) hr (pv 0)) pa_nil))))))
      (pss_cons (ps_set (i := 1) scCalled.nd rfl (.inl rfl) (pe_op op_cat (pv 1) (pe_lst (pa_cons (pe_Ek (hE "InvalidScript" (by decide +kernel)) hr (pv 0)) (pa_cons (pe_Ek (hE "InvalidText" (by decide +kernel)) hr (pv 0)) (pa_cons (pe_Ek (hE "InvalidRecord" (by decide +kernel)) hr (pv 0)) pa_nil))))))
      (pss_cons (ps_set (i := 1) scCalled.nd rfl (.inl rfl) (pe_op op_cat (pv 1) (pe_lst (pa_cons (pe_Ek (hE "Unlike" (by decide +kernel)) hr (pv 0)) (pa_cons (pe_Ek (hE "Unsettled" (by decide +kernel)) hr (pv 0)) (pa_cons (pe_Ek (hE "Apart" (by decide +kernel)) hr (pv 0)) (pa_cons (pe_Ek (hE "Refused" (by decide +kernel)) hr (pv 0)) pa_nil)))))))
      (pss_one (ps_ret (pv 1)))))))))))), ?_⟩)
  · obtain ⟨v, rfl, _⟩ := h
    rfl
  · obtain ⟨v, rfl, hq⟩ := h
    refine st_first (te := tVar 0) (v := v) (i := 1) (fun H Q q => ⟨v, rfl, q⟩) (cs K [("InvalidTable" : Str), ("InvalidKinds" : Str), ("InvalidKind" : Str)]) (Nat.le_of_ble_eq_true rfl) fun a0 G0 p0 w0 z0 h0 f0 => ?_
    refine st_more (te := tVar 0) (v := v) (i := 1) (fun H Q q => ⟨v, rfl, q⟩) (cs K [("InvalidMap" : Str), ("InvalidTriples" : Str), ("InvalidRule" : Str)]) rfl h0 f0 (Nat.le_of_ble_eq_true rfl) fun a1 G1 p1 w1 z1 h1 f1 => ?_
    have z1 := w0.free z1
    have w1 := w0.trans w1
    refine st_more (te := tVar 0) (v := v) (i := 1) (fun H Q q => ⟨v, rfl, q⟩) (cs K [("InvalidThings" : Str), ("InvalidBook" : Str), ("InvalidTerm" : Str)]) rfl h1 f1 (Nat.le_of_ble_eq_true rfl) fun a2 G2 p2 w2 z2 h2 f2 => ?_
    have z2 := w1.free z2
    have w2 := w1.trans w2
    refine st_more (te := tVar 0) (v := v) (i := 1) (fun H Q q => ⟨v, rfl, q⟩) (cs K [("InvalidTerms" : Str), ("InvalidWord" : Str), ("InvalidCount" : Str)]) rfl h2 f2 (Nat.le_of_ble_eq_true rfl) fun a3 G3 p3 w3 z3 h3 f3 => ?_
    have z3 := w2.free z3
    have w3 := w2.trans w3
    refine st_more (te := tVar 0) (v := v) (i := 1) (fun H Q q => ⟨v, rfl, q⟩) (cs K [("InvalidPrices" : Str), ("InvalidHolding" : Str), ("InvalidWorld" : Str)]) rfl h3 f3 (Nat.le_of_ble_eq_true rfl) fun a4 G4 p4 w4 z4 h4 f4 => ?_
    have z4 := w3.free z4
    have w4 := w3.trans w4
    refine st_more (te := tVar 0) (v := v) (i := 1) (fun H Q q => ⟨v, rfl, q⟩) (cs K [("InvalidInputs" : Str), ("InvalidLines" : Str), ("InvalidProgram" : Str)]) rfl h4 f4 (Nat.le_of_ble_eq_true rfl) fun a5 G5 p5 w5 z5 h5 f5 => ?_
    have z5 := w4.free z5
    have w5 := w4.trans w5
    refine st_more (te := tVar 0) (v := v) (i := 1) (fun H Q q => ⟨v, rfl, q⟩) (cs K [("InvalidFolding" : Str), ("InvalidBench" : Str), ("InvalidSpot" : Str)]) rfl h5 f5 (Nat.le_of_ble_eq_true rfl) fun a6 G6 p6 w6 z6 h6 f6 => ?_
    have z6 := w5.free z6
    have w6 := w5.trans w6
    refine st_more (te := tVar 0) (v := v) (i := 1) (fun H Q q => ⟨v, rfl, q⟩) (cs K [("InvalidScript" : Str), ("InvalidText" : Str), ("InvalidRecord" : Str)]) rfl h6 f6 (Nat.le_of_ble_eq_true rfl) fun a7 G7 p7 w7 z7 h7 f7 => ?_
    have z7 := w6.free z7
    have w7 := w6.trans w7
    refine st_more (te := tVar 0) (v := v) (i := 1) (fun H Q q => ⟨v, rfl, q⟩) (cs K [("Unlike" : Str), ("Unsettled" : Str), ("Apart" : Str), ("Refused" : Str)]) rfl h7 f7 (Nat.le_of_ble_eq_true rfl) fun a8 G8 p8 w8 z8 h8 f8 => ?_
    have z8 := w7.free z8
    have w8 := w7.trans w8
    exact ⟨_, rfl, hq G8 p8 a8 w8 z8 h8 f8⟩
theorem okBare (hE : ∀ x ∈ eNames, ErrOk P w K mg base x) (F : FnP K "_law_bare" sBare f fd) : FnOk P w K mg base CX0 3 f fd [] (spBare K) := by
  refine F.ok scBare (fun vs H Q E h => ?_) (fun cdv A outer s H vs Q E hr h => ⟨_, PSs.nox (pss_cons (ps_set (i := 0) scBare.nd rfl (.inl rfl) (pe_lst (pa_cons (pe_E0 (hE "InvalidTable" (by decide +kernel)) hr) (pa_cons (pe_E0 (hE "InvalidKinds" (by decide +kernel)) hr) (pa_cons (pe_E0 (hE "InvalidKind" (by decide +kernel)) hr) (pa_cons (pe_E0 (hE "InvalidMap" (by decide +kernel)) hr) (pa_cons (pe_E0 (hE "InvalidTriples" (by decide +kernel)) hr) (pa_cons (pe_E0 (hE "InvalidRule" (by decide +kernel)) hr) pa_nil))))))))
      (pss_cons (ps_set (i := 0) scBare.nd rfl (.inl rfl) (pe_op op_cat (pv 0) (pe_lst (pa_cons (pe_E0 (hE "InvalidThings" (by decide +kernel)) hr) (pa_cons (pe_E0 (hE "InvalidBook" (by decide +kernel)) hr) (pa_cons (pe_E0 (hE "InvalidTerm" (by decide +kernel)) hr) (pa_cons (pe_E0 (hE "InvalidTerms" (by decide +kernel)) hr) (pa_cons (pe_E0 (hE "InvalidWord" (by decide +kernel)) hr) (pa_cons (pe_E0 (hE "InvalidCount" (by decide +kernel)) hr) pa_nil)))))))))
      (pss_cons (ps_set (i := 0) scBare.nd rfl (.inl rfl) (pe_op op_cat (pv 0) (pe_lst (pa_cons (pe_E0 (hE "InvalidPrices" (by decide +kernel)) hr) (pa_cons (pe_E0 (hE "InvalidHolding" (by decide +kernel)) hr) (pa_cons (pe_E0 (hE "InvalidWorld" (by decide +kernel)) hr) (pa_cons (pe_E0 (hE "InvalidInputs" (by decide +kernel)) hr) (pa_cons (pe_E0 (hE "InvalidLines" (by decide +kernel)) hr) pa_nil))))))))
      (pss_cons (ps_set (i := 0) scBare.nd rfl (.inl rfl) (pe_op op_cat (pv 0) (pe_lst (pa_cons (pe_E0 (hE "InvalidProgram" (by decide +kernel)) hr) (pa_cons (pe_E0 (hE "InvalidFolding" (by decide +kernel)) hr) (pa_cons (pe_E0 (hE "InvalidBench" (by decide +kernel)) hr) (pa_cons (pe_E0 (hE "InvalidSpot" (by decide +kernel)) hr) (pa_cons (pe_E0 (hE "InvalidScript" (by decide +kernel)) hr) pa_nil))))))))
      (pss_cons (ps_set (i := 0) scBare.nd rfl (.inl rfl) (pe_op op_cat (pv 0) (pe_lst (pa_cons (pe_E0 (hE "InvalidText" (by decide +kernel)) hr) (pa_cons (pe_E0 (hE "InvalidRecord" (by decide +kernel)) hr) (pa_cons (pe_E0 (hE "Unlike" (by decide +kernel)) hr) (pa_cons (pe_E0 (hE "Unsettled" (by decide +kernel)) hr) (pa_cons (pe_E0 (hE "Apart" (by decide +kernel)) hr) (pa_cons (pe_E0 (hE "Refused" (by decide +kernel)) hr) pa_nil)))))))))
      (pss_one (ps_ret (pv 0)))))))), ?_⟩)
  · obtain ⟨rfl, _⟩ := h
    rfl
  · obtain ⟨rfl, hq⟩ := h
    refine st_first (te := tC .non) (v := .non) (i := 0) (fun H Q q => q) (cs K [("InvalidTable" : Str), ("InvalidKinds" : Str), ("InvalidKind" : Str), ("InvalidMap" : Str), ("InvalidTriples" : Str), ("InvalidRule" : Str)]) (Nat.le_of_ble_eq_true rfl) fun a0 G0 p0 w0 z0 h0 f0 => ?_
    refine st_more (te := tC .non) (v := .non) (i := 0) (fun H Q q => q) (cs K [("InvalidThings" : Str), ("InvalidBook" : Str), ("InvalidTerm" : Str), ("InvalidTerms" : Str), ("InvalidWord" : Str), ("InvalidCount" : Str)]) rfl h0 f0 (Nat.le_of_ble_eq_true rfl) fun a1 G1 p1 w1 z1 h1 f1 => ?_
    have z1 := w0.free z1
    have w1 := w0.trans w1
    refine st_more (te := tC .non) (v := .non) (i := 0) (fun H Q q => q) (cs K [("InvalidPrices" : Str), ("InvalidHolding" : Str), ("InvalidWorld" : Str), ("InvalidInputs" : Str), ("InvalidLines" : Str)]) rfl h1 f1 (Nat.le_of_ble_eq_true rfl) fun a2 G2 p2 w2 z2 h2 f2 => ?_
    have z2 := w1.free z2
    have w2 := w1.trans w2
    refine st_more (te := tC .non) (v := .non) (i := 0) (fun H Q q => q) (cs K [("InvalidProgram" : Str), ("InvalidFolding" : Str), ("InvalidBench" : Str), ("InvalidSpot" : Str), ("InvalidScript" : Str)]) rfl h2 f2 (Nat.le_of_ble_eq_true rfl) fun a3 G3 p3 w3 z3 h3 f3 => ?_
    have z3 := w2.free z3
    have w3 := w2.trans w3
    refine st_more (te := tC .non) (v := .non) (i := 0) (fun H Q q => q) (cs K [("InvalidText" : Str), ("InvalidRecord" : Str), ("Unlike" : Str), ("Unsettled" : Str), ("Apart" : Str), ("Refused" : Str)]) rfl h3 f3 (Nat.le_of_ble_eq_true rfl) fun a4 G4 p4 w4 z4 h4 f4 => ?_
    have z4 := w3.free z4
    have w4 := w3.trans w4
    exact ⟨_, rfl, hq G4 p4 a4 w4 z4 h4 f4⟩
end
end K01
set_option Elab.async false
set_option linter.all false
set_option maxRecDepth 100000
set_option maxHeartbeats 4000000
/-! of which class an error is -/
namespace K01
open PySem PySem.Spec PyProof.Rows L2
abbrev sCode : Stmt := top 42
abbrev sIsErr : Stmt := top 43
def cNames : List Str := ["InvalidTable", "InvalidKinds", "InvalidKind", "InvalidMap", "InvalidTriples", "InvalidRule", "InvalidThings", "InvalidBook", "InvalidTerm", "InvalidTerms", "InvalidWord", "InvalidCount", "InvalidPrices", "InvalidHolding", "InvalidWorld", "InvalidInputs", "InvalidLines", "InvalidProgram", "InvalidFolding", "InvalidBench", "InvalidSpot", "InvalidScript", "InvalidText", "InvalidRecord", "Unlike", "Unsettled", "Apart", "Refused", "NothingToUndo", "NothingToRedo"]
theorem scCode : FnScope ["_law_error", "_law_found", "_law_at"] ["_law_error"] (defScope sCode) := ⟨rfl, rfl, rfl, by decide +kernel, rfl, by decide +kernel, by decide +kernel⟩
theorem scIsErr : FnScope ["_law_error"] ["_law_error"] (defScope sIsErr) := ⟨rfl, rfl, rfl, by decide +kernel, rfl, by decide +kernel, by decide +kernel⟩
/-- what the top says of the classes: x one of an error's classes, y one that is asked for -/
structure ClsOk (K : PySem.W.Frag) (mg : Str → Option Value) : Prop where
  g : ∀ y ∈ cNames, mg y = some (.ref (He.ga K y))
  gS : mg "SpreadError" = some (.ref (He.ga K "SpreadError"))
  x : ∀ y ∈ cNames, ExcC K (He.ga K y)
  xS : ExcC K (He.ga K "SpreadError")
  kit : ∀ x ∈ cNames, ∀ y ∈ cNames, PySem.W.kitOne K (.ref (He.ga K x)) (.ref (He.ga K y)) = some (decide (x = y))
  kitS : ∀ y ∈ cNames, PySem.W.kitOne K (.ref (He.ga K "SpreadError")) (.ref (He.ga K y)) = some false
  sp : ∀ x ∈ cNames, PySem.W.kitOne K (.ref (He.ga K x)) (.ref (He.ga K "SpreadError")) = some true
  spS : PySem.W.kitOne K (.ref (He.ga K "SpreadError")) (.ref (He.ga K "SpreadError")) = some true
  ve : ∀ x ∈ cNames, PySem.W.kitOne K (.ref (He.ga K x)) (.type "ValueError") = some true
  veS : PySem.W.kitOne K (.ref (He.ga K "SpreadError")) (.type "ValueError") = some true
def taIs (K : PySem.W.Frag) : List Str → TA
  | [] => tNil
  | y :: ys => tCons (tCB (rIsX2 K) (tCons (tVar 0) (tCons (tC (.ref (He.ga K y))) tNil))) (taIs K ys)
section
variable {K : PySem.W.Frag} {σ : L2.St} {H : Hp} {D : Ends} {rest : TS} {q a C : Addr} {bs : List Bool} {b : Str → Bool}
theorem taIs_read (hσ : σ[0]? = some (some (.ref a))) (hi : InstX H a C) (T : ExcC K C) : ∀ (ys : List Str) (Q : List V → Hp → Prop), (∀ y ∈ ys, PySem.W.kitOne K (.ref C) (.ref (He.ga K y)) = some (b y)) → Q ((ys.map b).map V.bl) H → taIs K ys σ H Q
  | [], Q, _, h => h
  | y :: ys, Q, hk, h => by
    refine ⟨_, hσ, a, C, _, _, _, rfl, .own _, hi, T, hk y (List.mem_cons_self ..), ?_⟩
    exact taIs_read hσ hi T ys _ (fun z hz => hk z (List.mem_cons_of_mem _ hz)) h
theorem instX_same {H' : Hp} (h : InstX H a C) (s : Same H H') : InstX H' a C := by
  rcases h with ⟨d, v, e⟩ | e
  · exact .inl ⟨d, v, e.same s⟩
  · exact .inr (s _ _ e)
theorem sc_first (hσ : σ[0]? = some (some (.ref a))) (hi : InstX H a C) (T : ExcC K C) (ys : List Str) (hk : ∀ y ∈ ys, PySem.W.kitOne K (.ref C) (.ref (He.ga K y)) = some (b y)) (hl : ys.length ≤ 1000)
    (h : ∀ G p, Same H G → H p = none → G p = some (.lst ((ys.map b).map V.bl)) → InstX G a C → rest D (σ.set 1 (some (.ref p))) G) : tSeq (tAsg (tLst (taIs K ys)) (gName 1)) rest D σ H := by
  unfold tSeq tAsg tLst gName
  refine taIs_read hσ hi T ys _ hk ⟨few_ok (by rw [List.length_map, List.length_map]; exact hl), fun p np => ?_⟩
  exact h _ p (Same.upd np) np upd_same (instX_same hi (Same.upd np))
theorem sc_more (hσ0 : σ[0]? = some (some (.ref a))) (hi : InstX H a C) (T : ExcC K C) (hσ : σ[1]? = some (some (.ref q))) (ys zs : List Str) (hq : H q = some (.lst ((ys.map b).map V.bl))) (hk : ∀ y ∈ zs, PySem.W.kitOne K (.ref C) (.ref (He.ga K y)) = some (b y)) (hl : (ys ++ zs).length ≤ 1000)
    (h : ∀ G p, Same H G → H p = none → G p = some (.lst (((ys ++ zs).map b).map V.bl)) → InstX G a C → rest D (σ.set 1 (some (.ref p))) G) : tSeq (tAsg (tOp rCat (tVar 1) (tLst (taIs K zs))) (gName 1)) rest D σ H := by
  rw [List.length_append] at hl
  unfold tSeq tAsg tOp tLst gName
  refine ⟨_, hσ, taIs_read hσ0 hi T zs _ hk ⟨few_ok (by rw [List.length_map, List.length_map]; omega), fun q1 m1 => ?_⟩⟩
  have x1 : Same H (upd H q1 (.lst ((zs.map b).map V.bl))) := Same.upd m1
  refine ⟨_, _, _, _, rfl, rfl, x1 _ _ hq, upd_same, (by rw [List.length_map, List.length_map, List.length_map, List.length_map, sizeLine_eq]; omega), fun p1 n1 => ?_⟩
  rw [← List.map_append, ← List.map_append]
  exact h _ p1 (x1.trans (Same.upd n1)) (x1.free n1) upd_same (instX_same (instX_same hi x1) (Same.upd n1))
end
def rLenQ (K : PySem.W.Frag) : List V → Hp → VK → Prop := fun xs H Q => ∃ p ys, xs = [V.ref p] ∧ (SqL K H p ys ∨ SqT K H p ys) ∧ Q (.int (ys.length : Nat)) H
theorem code_end {K : PySem.W.Frag} {L : List Bool} {a p : Addr} {G : Hp} {D : Ends} (hl : L.length = 30) (h : G p = some (.lst (L.map V.bl)))
    (hq : ∀ H' q, Same G H' → G q = none → H' q = some (.lst (((List.range 30).filter fun i => L.getD i false).map fun (i : Nat) => V.int i)) → D.rt (.ref q) H') :
    tRet (tLc (iRng1 (tCons (tCB (rLenQ K) (tCons (tVar 1) tNil)) tNil)) (gName 2) (tTest (tOp (rIxL K) (tVar 1) (tVar 2))) (tVar 2) [2]) D [some (.ref a), some (.ref p), none] G := by
  have t30 : (L.map V.bl).length = 30 := by rw [List.length_map]; exact hl
  refine ⟨_, rfl, _, _, rfl, .inl (SqL.of h), 30, congrArg (fun z : Nat => [V.int (z : Int)]) t30, by decide, by decide, fun E nE => ?_⟩
  refine lc_range (lo := 0) (n := 30) (fun i H' => But E G H' ∧ (∀ b, H' b = none → G b = none) ∧ H' E = some (.lst (((List.range i).filter fun j => L.getD j false).map fun (j : Nat) => V.int j))) ⟨(Same.upd nE).but, fun b hb => (Same.upd nE).free hb, upd_same⟩ ?_ ?_
  · rintro i H3 hi3 ⟨hb3, hf3, e3⟩
    have hpE : p ≠ E := fun z => by rw [z, nE] at h; cases h
    have hv : (L.map V.bl)[i]? = some (V.bl (L.getD i false)) := by
      rw [List.getElem?_map, List.getD, List.getElem?_eq_getElem (by omega)]
      rfl
    have ei : (V.int (0 + (i : Int))) = V.int ((i : Nat) : Int) := congrArg V.int (Int.zero_add _)
    refine ⟨rfl, _, rfl, _, rfl, p, _, ((i : Nat) : Int), _, rfl, ei, SqL.of (hb3 _ _ hpE h), atI_nat hv, _, rfl, ?_⟩
    cases hbv : L.getD i false with
    | true =>
      refine ⟨_, rfl, _, e3, ?_, ?_, ?_, ?_⟩
      · rw [sizeLine_eq, List.length_map]
        exact Nat.lt_of_le_of_lt (List.length_filter_le _ _) (by rw [List.length_range]; omega)
      · intro b o hb z
        rw [upd_ne hb]
        exact hb3 b o hb z
      · intro b' hb'
        by_cases z : b' = E
        · rw [z, upd_same] at hb'; cases hb'
        · rw [upd_ne z] at hb'; exact hf3 b' hb'
      · rw [upd_same, List.range_succ, List.filter_append, List.map_append, ei]
        simp only [List.filter, hbv, List.map]
    | false =>
      refine ⟨hb3, hf3, ?_⟩
      rw [e3, List.range_succ, List.filter_append, List.map_append]
      simp only [List.filter, hbv, List.map, List.append_nil]
  · rintro H3 ⟨hb3, hf3, e3⟩
    exact hq H3 E (fun b o e => hb3 b o (ne_of_none e nE) e) nE e3
def spCode (K : PySem.W.Frag) : Sp := fun vs H Q _ => ∃ (a C : Addr) (b : Str → Bool), vs = [.ref a] ∧ InstX H a C ∧ ExcC K C ∧ (∀ y ∈ cNames, PySem.W.kitOne K (.ref C) (.ref (He.ga K y)) = some (b y)) ∧
  ∀ H' p, Same H H' → H p = none → H' p = some (.lst (((List.range 30).filter fun i => (cNames.map b).getD i false).map fun (i : Nat) => V.int i)) → Q (.ref p) H'
theorem sub_names {l : List Str} (h : (l.all fun y => cNames.contains y) = true) {y : Str} (hy : y ∈ l) : y ∈ cNames := by
  have := List.all_eq_true.mp h y hy
  simpa using this
section
variable {P : Program} {w : World} {K : PySem.W.Frag} {mg : Str → Option Value} {base : Heap} {f : Addr} {fd : FuncData}
theorem okCode (B : Bt mg) (O : ClsOk K mg) (F : FnP K "_law_code" sCode f fd) : FnOk P w K mg base CX0 1 f fd ["_law_error"] (spCode K) := by
  refine F.ok scCode (fun vs H Q E h => ?_) (fun cdv A outer s H vs Q E hr h => ⟨_, PSs.nox (pss_cons (ps_set (i := 1) scCode.nd rfl (.inr rfl) (pe_lst (pa_cons (pe_callB call_isX2 (by rfl) B.isi boot_isinstance (pa_cons (pv 0) (pa_cons (pe_glob (v := .ref (He.ga K "InvalidTable")) (by rfl) (O.g "InvalidTable" (by decide +kernel)) rfl) pa_nil))) (pa_cons (pe_callB call_isX2 (by rfl) B.isi boot_isinstance (pa_cons (pv 0) (pa_cons (pe_glob (v := .ref (He.ga K "InvalidKinds")) (by rfl) (O.g "InvalidKinds" (by decide +kernel)) rfl) pa_nil))) (pa_cons (pe_callB call_isX2 (by rfl) B.isi boot_isinstance (pa_cons (pv 0) (pa_cons (pe_glob (v := .ref (He.ga K "InvalidKind")) (by rfl) (O.g "InvalidKind" (by decide +kernel)) rfl) pa_nil))) pa_nil)))))
      (pss_cons (ps_set (i := 1) scCode.nd rfl (.inr rfl) (pe_op op_cat (pv 1) (pe_lst (pa_cons (pe_callB call_isX2 (by rfl) B.isi boot_isinstance (pa_cons (pv 0) (pa_cons (pe_glob (v := .ref (He.ga K "InvalidMap")) (by rfl) (O.g "InvalidMap" (by decide +kernel)) rfl) pa_nil))) (pa_cons (pe_callB call_isX2 (by rfl) B.isi boot_isinstance (pa_cons (pv 0) (pa_cons (pe_glob (v := .ref (He.ga K "InvalidTriples")) (by rfl) (O.g "InvalidTriples" (by decide +kernel)) rfl) pa_nil))) pa_nil)))))
      (pss_cons (ps_set (i := 1) scCode.nd rfl (.inr rfl) (pe_op op_cat (pv 1) (pe_lst (pa_cons (pe_callB call_isX2 (by rfl) B.isi boot_isinstance (pa_cons (pv 0) (pa_cons (pe_glob (v := .ref (He.ga K "InvalidRule")) (by rfl) (O.g "InvalidRule" (by decide +kernel)) rfl) pa_nil))) (pa_cons (pe_callB call_isX2 (by rfl) B.isi boot_isinstance (pa_cons (pv 0) (pa_cons (pe_glob (v := .ref (He.ga K "InvalidThings")) (by rfl) (O.g "InvalidThings" (by decide +kernel)) rfl) pa_nil))) pa_nil)))))
      (pss_cons (ps_set (i := 1) scCode.nd rfl (.inr rfl) (pe_op op_cat (pv 1) (pe_lst (pa_cons (pe_callB call_isX2 (by rfl) B.isi boot_isinstance (pa_cons (pv 0) (pa_cons (pe_glob (v := .ref (He.ga K "InvalidBook")) (by rfl) (O.g "InvalidBook" (by decide +kernel)) rfl) pa_nil))) (pa_cons (pe_callB call_isX2 (by rfl) B.isi boot_isinstance (pa_cons (pv 0) (pa_cons (pe_glob (v := .ref (He.ga K "InvalidTerm")) (by rfl) (O.g "InvalidTerm" (by decide +kernel)) rfl) pa_nil))) pa_nil)))))
      (pss_cons (ps_set (i := 1) scCode.nd rfl (.inr rfl) (pe_op op_cat (pv 1) (pe_lst (pa_cons (pe_callB call_isX2 (by rfl) B.isi boot_isinstance (pa_cons (pv 0) (pa_cons (pe_glob (v := .ref (He.ga K "InvalidTerms")) (by rfl) (O.g "InvalidTerms" (by decide +kernel)) rfl) pa_nil))) (pa_cons (pe_callB call_isX2 (by rfl) B.isi boot_isinstance (pa_cons (pv 0) (pa_cons (pe_glob (v := .ref (He.ga K "InvalidWord")) (by rfl) (O.g "InvalidWord" (by decide +kernel)) rfl) pa_nil))) pa_nil)))))
      (pss_cons (ps_set (i := 1) scCode.nd rfl (.inr rfl) (pe_op op_cat (pv 1) (pe_lst (pa_cons (pe_callB call_isX2 (by rfl) B.isi boot_isinstance (pa_cons (pv 0) (pa_cons (pe_glob (v := .ref (He.ga K "InvalidCount")) (by rfl) (O.g "InvalidCount" (by decide +kernel)) rfl) pa_nil))) (pa_cons (pe_callB call_isX2 (by rfl) B.isi boot_isinstance (pa_cons (pv 0) (pa_cons (pe_glob (v := .ref (He.ga K "InvalidPrices")) (by rfl) (O.g "InvalidPrices" (by decide +kernel)) rfl) pa_nil))) pa_nil)))))
      (pss_cons (ps_set (i := 1) scCode.nd rfl (.inr rfl) (pe_op op_cat (pv 1) (pe_lst (pa_cons (pe_callB call_isX2 (by rfl) B.isi boot_isinstance (pa_cons (pv 0) (pa_cons (pe_glob (v := .ref (He.ga K "InvalidHolding")) (by rfl) (O.g "InvalidHolding" (by decide +kernel)) rfl) pa_nil))) (pa_cons (pe_callB call_isX2 (by rfl) B.isi boot_isinstance (pa_cons (pv 0) (pa_cons (pe_glob (v := .ref (He.ga K "InvalidWorld")) (by rfl) (O.g "InvalidWorld" (by decide +kernel)) rfl) pa_nil))) pa_nil)))))
      (pss_cons (ps_set (i := 1) scCode.nd rfl (.inr rfl) (pe_op op_cat (pv 1) (pe_lst (pa_cons (pe_callB call_isX2 (by rfl) B.isi boot_isinstance (pa_cons (pv 0) (pa_cons (pe_glob (v := .ref (He.ga K "InvalidInputs")) (by rfl) (O.g "InvalidInputs" (by decide +kernel)) rfl) pa_nil))) (pa_cons (pe_callB call_isX2 (by rfl) B.isi boot_isinstance (pa_cons (pv 0) (pa_cons (pe_glob (v := .ref (He.ga K "InvalidLines")) (by rfl) (O.g "InvalidLines" (by decide +kernel)) rfl) pa_nil))) pa_nil)))))
      (pss_cons (ps_set (i := 1) scCode.nd rfl (.inr rfl) (pe_op op_cat (pv 1) (pe_lst (pa_cons (pe_callB call_isX2 (by rfl) B.isi boot_isinstance (pa_cons (pv 0) (pa_cons (pe_glob (v := .ref (He.ga K "InvalidProgram")) (by rfl) (O.g "InvalidProgram" (by decide +kernel)) rfl) pa_nil))) (pa_cons (pe_callB call_isX2 (by rfl) B.isi boot_isinstance (pa_cons (pv 0) (pa_cons (pe_glob (v := .ref (He.ga K "InvalidFolding")) (by rfl) (O.g "InvalidFolding" (by decide +kernel)) rfl) pa_nil))) pa_nil)))))
      (pss_cons (ps_set (i := 1) scCode.nd rfl (.inr rfl) (pe_op op_cat (pv 1) (pe_lst (pa_cons (pe_callB call_isX2 (by rfl) B.isi boot_isinstance (pa_cons (pv 0) (pa_cons (pe_glob (v := .ref (He.ga K "InvalidBench")) (by rfl) (O.g "InvalidBench" (by decide +kernel)) rfl) pa_nil))) (pa_cons (pe_callB call_isX2 (by rfl) B.isi boot_isinstance (pa_cons (pv 0) (pa_cons (pe_glob (v := .ref (He.ga K "InvalidSpot")) (by rfl) (O.g "InvalidSpot" (by decide +kernel)) rfl) pa_nil))) pa_nil)))))
      (pss_cons (ps_set (i := 1) scCode.nd rfl (.inr rfl) (pe_op op_cat (pv 1) (pe_lst (pa_cons (pe_callB call_isX2 (by rfl) B.isi boot_isinstance (pa_cons (pv 0) (pa_cons (pe_glob (v := .ref (He.ga K "InvalidScript")) (by rfl) (O.g "InvalidScript" (by decide +kernel)) rfl) pa_nil))) (pa_cons (pe_callB call_isX2 (by rfl) B.isi boot_isinstance (pa_cons (pv 0) (pa_cons (pe_glob (v := .ref (He.ga K "InvalidText")) (by rfl) (O.g "InvalidText" (by decide +kernel)) rfl) pa_nil))) pa_nil)))))
      (pss_cons (ps_set (i := 1) scCode.nd rfl (.inr rfl) (pe_op op_cat (pv 1) (pe_lst (pa_cons (pe_callB call_isX2 (by rfl) B.isi boot_isinstance (pa_cons (pv 0) (pa_cons (pe_glob (v := .ref (He.ga K "InvalidRecord")) (by rfl) (O.g "InvalidRecord" (by decide +kernel)) rfl) pa_nil))) (pa_cons (pe_callB call_isX2 (by rfl) B.isi boot_isinstance (pa_cons (pv 0) (pa_cons (pe_glob (v := .ref (He.ga K "Unlike")) (by rfl) (O.g "Unlike" (by decide +kernel)) rfl) pa_nil))) (pa_cons (pe_callB call_isX2 (by rfl) B.isi boot_isinstance (pa_cons (pv 0) (pa_cons (pe_glob (v := .ref (He.ga K "Unsettled")) (by rfl) (O.g "Unsettled" (by decide +kernel)) rfl) pa_nil))) pa_nil))))))
      (pss_cons (ps_set (i := 1) scCode.nd rfl (.inr rfl) (pe_op op_cat (pv 1) (pe_lst (pa_cons (pe_callB call_isX2 (by rfl) B.isi boot_isinstance (pa_cons (pv 0) (pa_cons (pe_glob (v := .ref (He.ga K "Apart")) (by rfl) (O.g "Apart" (by decide +kernel)) rfl) pa_nil))) (pa_cons (pe_callB call_isX2 (by rfl) B.isi boot_isinstance (pa_cons (pv 0) (pa_cons (pe_glob (v := .ref (He.ga K "Refused")) (by rfl) (O.g "Refused" (by decide +kernel)) rfl) pa_nil))) (pa_cons (pe_callB call_isX2 (by rfl) B.isi boot_isinstance (pa_cons (pv 0) (pa_cons (pe_glob (v := .ref (He.ga K "NothingToUndo")) (by rfl) (O.g "NothingToUndo" (by decide +kernel)) rfl) pa_nil))) pa_nil))))))
      (pss_cons (ps_set (i := 1) scCode.nd rfl (.inr rfl) (pe_op op_cat (pv 1) (pe_lst (pa_cons (pe_callB call_isX2 (by rfl) B.isi boot_isinstance (pa_cons (pv 0) (pa_cons (pe_glob (v := .ref (He.ga K "NothingToRedo")) (by rfl) (O.g "NothingToRedo" (by decide +kernel)) rfl) pa_nil))) pa_nil))))
      (pss_one (ps_ret (pe_lc (own := [("_law_at", 2)]) (g := gName 2) (tt := tTest (tOp (rIxL K) (tVar 1) (tVar 2))) rfl scCode.nd (pi_range1 (by rfl) B.range (pa_cons (pe_callB call_len_seq (by rfl) B.len boot_len (pa_cons (pv 1) pa_nil)) pa_nil))
        (blkOk_by (N := ["_law_error", "_law_found", "_law_at"]) (sc := defScope sCode) (by decide +kernel)) (fun _ _ _ _ _ => pg_name (i := 2) scCode.nd rfl (Or.inl rfl))
        (fun _ _ _ _ _ => pts_one (pt_val (pe_ix ix_list (pv 1) (pv 2) (fun _ _ => rfl)))) (fun _ _ _ _ _ => pv 2)))))))))))))))))), ?_⟩)
  · obtain ⟨a, C, b, rfl, _⟩ := h
    rfl
  · obtain ⟨a, C, b, rfl, hi0, T, hk, hq⟩ := h
    refine sc_first (b := b) rfl hi0 T [("InvalidTable" : Str), ("InvalidKinds" : Str), ("InvalidKind" : Str)] (fun y hy => hk y (sub_names (by decide +kernel) hy)) (Nat.le_of_ble_eq_true rfl) fun G0 p0 w0 z0 h0 i0 => ?_
    refine sc_more (b := b) rfl i0 T rfl _ [("InvalidMap" : Str), ("InvalidTriples" : Str)] h0 (fun y hy => hk y (sub_names (by decide +kernel) hy)) (Nat.le_of_ble_eq_true rfl) fun G1 p1 w1 z1 h1 i1 => ?_
    have z1 := w0.free z1
    have w1 := w0.trans w1
    refine sc_more (b := b) rfl i1 T rfl _ [("InvalidRule" : Str), ("InvalidThings" : Str)] h1 (fun y hy => hk y (sub_names (by decide +kernel) hy)) (Nat.le_of_ble_eq_true rfl) fun G2 p2 w2 z2 h2 i2 => ?_
    have z2 := w1.free z2
    have w2 := w1.trans w2
    refine sc_more (b := b) rfl i2 T rfl _ [("InvalidBook" : Str), ("InvalidTerm" : Str)] h2 (fun y hy => hk y (sub_names (by decide +kernel) hy)) (Nat.le_of_ble_eq_true rfl) fun G3 p3 w3 z3 h3 i3 => ?_
    have z3 := w2.free z3
    have w3 := w2.trans w3
    refine sc_more (b := b) rfl i3 T rfl _ [("InvalidTerms" : Str), ("InvalidWord" : Str)] h3 (fun y hy => hk y (sub_names (by decide +kernel) hy)) (Nat.le_of_ble_eq_true rfl) fun G4 p4 w4 z4 h4 i4 => ?_
    have z4 := w3.free z4
    have w4 := w3.trans w4
    refine sc_more (b := b) rfl i4 T rfl _ [("InvalidCount" : Str), ("InvalidPrices" : Str)] h4 (fun y hy => hk y (sub_names (by decide +kernel) hy)) (Nat.le_of_ble_eq_true rfl) fun G5 p5 w5 z5 h5 i5 => ?_
    have z5 := w4.free z5
    have w5 := w4.trans w5
    refine sc_more (b := b) rfl i5 T rfl _ [("InvalidHolding" : Str), ("InvalidWorld" : Str)] h5 (fun y hy => hk y (sub_names (by decide +kernel) hy)) (Nat.le_of_ble_eq_true rfl) fun G6 p6 w6 z6 h6 i6 => ?_
    have z6 := w5.free z6
    have w6 := w5.trans w6
    refine sc_more (b := b) rfl i6 T rfl _ [("InvalidInputs" : Str), ("InvalidLines" : Str)] h6 (fun y hy => hk y (sub_names (by decide +kernel) hy)) (Nat.le_of_ble_eq_true rfl) fun G7 p7 w7 z7 h7 i7 => ?_
    have z7 := w6.free z7
    have w7 := w6.trans w7
    refine sc_more (b := b) rfl i7 T rfl _ [("InvalidProgram" : Str), ("InvalidFolding" : Str)] h7 (fun y hy => hk y (sub_names (by decide +kernel) hy)) (Nat.le_of_ble_eq_true rfl) fun G8 p8 w8 z8 h8 i8 => ?_
    have z8 := w7.free z8
    have w8 := w7.trans w8
    refine sc_more (b := b) rfl i8 T rfl _ [("InvalidBench" : Str), ("InvalidSpot" : Str)] h8 (fun y hy => hk y (sub_names (by decide +kernel) hy)) (Nat.le_of_ble_eq_true rfl) fun G9 p9 w9 z9 h9 i9 => ?_
    have z9 := w8.free z9
    have w9 := w8.trans w9
    refine sc_more (b := b) rfl i9 T rfl _ [("InvalidScript" : Str), ("InvalidText" : Str)] h9 (fun y hy => hk y (sub_names (by decide +kernel) hy)) (Nat.le_of_ble_eq_true rfl) fun G10 p10 w10 z10 h10 i10 => ?_
    have z10 := w9.free z10
    have w10 := w9.trans w10
    refine sc_more (b := b) rfl i10 T rfl _ [("InvalidRecord" : Str), ("Unlike" : Str), ("Unsettled" : Str)] h10 (fun y hy => hk y (sub_names (by decide +kernel) hy)) (Nat.le_of_ble_eq_true rfl) fun G11 p11 w11 z11 h11 i11 => ?_
    have z11 := w10.free z11
    have w11 := w10.trans w11
    refine sc_more (b := b) rfl i11 T rfl _ [("Apart" : Str), ("Refused" : Str), ("NothingToUndo" : Str)] h11 (fun y hy => hk y (sub_names (by decide +kernel) hy)) (Nat.le_of_ble_eq_true rfl) fun G12 p12 w12 z12 h12 i12 => ?_
    have z12 := w11.free z12
    have w12 := w11.trans w12
    refine sc_more (b := b) rfl i12 T rfl _ [("NothingToRedo" : Str)] h12 (fun y hy => hk y (sub_names (by decide +kernel) hy)) (Nat.le_of_ble_eq_true rfl) fun G13 p13 w13 z13 h13 i13 => ?_
    have z13 := w12.free z13
    have w13 := w12.trans w13
    exact code_end (L := cNames.map b) (by rw [List.length_map]; rfl) h13 fun H' p s n e => hq H' p (w13.trans s) (w13.free n) e
end
end K01
set_option Elab.async false
set_option linter.all false
set_option maxRecDepth 100000
set_option maxHeartbeats 2000000
/-! is it an error of ours; are all right -/
namespace K01
open PySem PySem.Spec PyProof.Rows L2
def spIsErr (K : PySem.W.Frag) : Sp := fun vs H Q _ => ∃ (a C : Addr), vs = [.ref a] ∧ InstX H a C ∧ ExcC K C ∧ PySem.W.kitOne K (.ref C) (.ref (He.ga K "SpreadError")) = some true ∧ PySem.W.kitOne K (.ref C) (.type "ValueError") = some true ∧ Q (.bl true) H
section
variable {P : Program} {w : World} {K : PySem.W.Frag} {mg : Str → Option Value} {base : Heap} {f : Addr} {fd : FuncData}
theorem okIsErr (B : Bt mg) (O : ClsOk K mg) (F : FnP K "_law_is_error" sIsErr f fd) : FnOk P w K mg base CX0 1 f fd ["_law_error"] (spIsErr K) := by
  refine F.ok scIsErr (fun vs H Q E h => ?_) (fun cdv A outer s H vs Q E hr h => ⟨_, PSs.nox (pss_one (ps_ret
    (pe_and (pe_callB call_isX2 (by rfl) B.isi boot_isinstance (pa_cons (pv 0) (pa_cons (pe_glob (v := .ref (He.ga K "SpreadError")) (by rfl) O.gS rfl) pa_nil)))
      (pe_one (pe_callB call_isX2 (by rfl) B.isi boot_isinstance (pa_cons (pv 0) (pa_cons (pe_bltn (v := .ty "ValueError") (by rfl) B.ve (by decide +kernel) rfl) pa_nil))))))), ?_⟩)
  · obtain ⟨a, C, rfl, _⟩ := h
    rfl
  · obtain ⟨a, C, rfl, hi, T, k1, k2, hq⟩ := h
    exact ⟨_, rfl, a, C, _, _, _, rfl, .own _, hi, T, k1, _, rfl, ⟨_, rfl, a, C, _, _, _, rfl, .ty _, hi, T, k2, hq⟩⟩
end
abbrev sRight : Stmt := top 44
theorem scRight : FnScope ["_law_some", "_law_noted", "_law_error", "_law_at"] ["_law_some", "_law_noted"] (defScope sRight) := ⟨rfl, rfl, rfl, by decide +kernel, rfl, by decide +kernel, by decide +kernel⟩
theorem bl_fun : ((List.range 28).all fun i => decide (((List.range 30).filter fun j => (cNames.map fun y => decide (eNames.getD i "" = y)).getD j false) = [i])) = true := by decide +kernel
theorem bl_at {i : Nat} (h : i < 28) : ((List.range 30).filter fun j => (cNames.map fun y => decide (eNames.getD i "" = y)).getD j false) = [i] :=
  of_decide_eq_true (List.all_eq_true.mp bl_fun i (List.mem_range.mpr h))
theorem e_sub : (eNames.all fun y => cNames.contains y) = true := by decide +kernel
theorem e_len : eNames.length = 28 := by decide +kernel
theorem e_at {i : Nat} (h : i < 28) : eNames[i]? = some (eNames.getD i "") := by
  rw [List.getD, List.getElem?_eq_getElem (by rw [e_len]; exact h)]
  rfl
theorem e_in {i : Nat} (h : i < 28) : eNames.getD i "" ∈ cNames := sub_names e_sub (List.mem_of_getElem? (e_at h))
def nums (n : Nat) : List PyData := (List.range n).map fun (i : Nat) => PyData.list [.int i]
theorem nums_succ (n : Nat) : nums (n + 1) = nums n ++ [.list [.int n]] := by
  unfold nums
  rw [List.range_succ, List.map_append]
  rfl
theorem nums_ok : SeqAt.shaped (.list (nums 28)) = true := by decide +kernel
theorem nums_eq : PyData.eqv (.list (nums 28)) (.list (nums 28)) = true := by decide +kernel
theorem DpAll.snoc {K : PySem.W.Frag} {H : Hp} {v : V} {d : PyData} : ∀ {vs : List V} {ds : List PyData}, DpAll K H vs ds → Dp K H v d → DpAll K H (vs ++ [v]) (ds ++ [d])
  | _, _, .nil, h => .cons h .nil
  | _, _, .cons a r, h => .cons a (DpAll.snoc r h)
theorem same_tup {K : PySem.W.Frag} {H H' : Hp} {a : Addr} {xs : List V} (s : Same H H') (h : SqT K H a xs) : SqT K H' a xs := by
  rcases h with (h | ⟨o, h⟩) | h
  · exact .inl (.inl (s _ _ h))
  · exact .inl (.inr ⟨o, s _ _ h⟩)
  · exact .inr h
mutual
theorem dp_same {K : PySem.W.Frag} {H H' : Hp} (s : Same H H') : ∀ (d : PyData) (v : V), Dp K H v d → Dp K H' v d
  | .none, _, h => by cases h; exact .non
  | .bool b, _, h => by cases h; exact .bl b
  | .int i, _, h => by cases h; exact .int i
  | .str x, _, h => by cases h; exact .str x
  | .list ds, _, h => by
    cases h with
    | lst hs ha => exact .lst (s.seq hs) (dpAll_same s ds _ ha)
  | .tuple ds, _, h => by
    cases h with
    | tup hs ha => exact .tup (same_tup s hs) (dpAll_same s ds _ ha)
  | .dict _, _, h => by cases h
theorem dpAll_same {K : PySem.W.Frag} {H H' : Hp} (s : Same H H') : ∀ (ds : List PyData) (vs : List V), DpAll K H vs ds → DpAll K H' vs ds
  | [], _, h => by cases h; exact .nil
  | d :: ds, _, h => by
    cases h with
    | cons a r => exact .cons (dp_same s d _ a) (dpAll_same s ds _ r)
end
end K01
set_option Elab.async false
set_option linter.all false
set_option maxRecDepth 100000
set_option maxHeartbeats 2000000
/-! are all right -/
namespace K01
open PySem PySem.Spec PyProof.Rows L2
def spRight (K : PySem.W.Frag) : Sp := fun vs H Q _ => ∃ (p : Addr) (as : List Addr) (v : V) (d : PyData), vs = [.ref p, .str d.shown] ∧ H p = some (.lst (as.map V.ref)) ∧ Errs H v (cs K eNames) as ∧
  (∀ H', Same H H' → Dd H' v d) ∧ d.showable = true ∧ d.shown.length ≤ sizeLine ∧ d.depth ≤ 100 ∧ ∀ H', Same H H' → Q (.bl true) H'
theorem u64 {k : Nat} {A : Around} (r : Room k A) : A.units + 64 < cLine := by
  have := r.un
  omega
/-- lists of one number each, 0, 1, .., none of them at D -/
structure Rows (H : Hp) (D : Addr) (qs : List V) (n : Nat) : Prop where
  len : qs.length = n
  at_ : ∀ (j : Nat) (x : V), qs[j]? = some x → ∃ q, x = .ref q ∧ q ≠ D ∧ H q = some (.lst [.int j])
theorem Rows.nil {H : Hp} {D : Addr} : Rows H D [] 0 := ⟨rfl, fun j x h => by simp at h⟩
theorem Rows.but {H H' : Hp} {D : Addr} {qs : List V} {n : Nat} (r : Rows H D qs n) (b : But D H H') : Rows H' D qs n :=
  ⟨r.len, fun j x h => let ⟨q, e, ne, hq⟩ := r.at_ j x h; ⟨q, e, ne, b q _ ne hq⟩⟩
theorem Rows.snoc {H : Hp} {D q : Addr} {qs : List V} {n : Nat} (r : Rows H D qs n) (ne : q ≠ D) (h : H q = some (.lst [.int (n : Int)])) : Rows H D (qs ++ [.ref q]) (n + 1) := by
  refine ⟨by rw [List.length_append, r.len]; rfl, fun j x hx => ?_⟩
  by_cases hj : j < qs.length
  · rw [List.getElem?_append_left hj] at hx
    exact r.at_ j x hx
  · rw [List.getElem?_append_right (by omega)] at hx
    have e : j - qs.length = 0 := by
      refine Classical.byContradiction fun z => ?_
      rw [List.getElem?_eq_none (by simp; omega)] at hx
      cases hx
    rw [e] at hx
    cases hx
    have : j = n := by rw [← r.len]; omega
    subst this
    exact ⟨q, rfl, ne, h⟩
theorem rows_dp {K : PySem.W.Frag} {H : Hp} : ∀ (qs : List V) (k : Nat), (∀ (j : Nat) (x : V), qs[j]? = some x → ∃ q, x = .ref q ∧ H q = some (.lst [.int ((k + j : Nat) : Int)])) → DpAll K H qs ((List.range' k qs.length).map fun (i : Nat) => PyData.list [.int i])
  | [], k, _ => .nil
  | x :: qs, k, h => by
    obtain ⟨q, rfl, hq⟩ := h 0 x rfl
    refine .cons (.lst (SqL.of hq) (.cons (.int _) .nil)) (rows_dp qs (k + 1) fun j y hy => ?_)
    obtain ⟨q', e, hq'⟩ := h (j + 1) y hy
    exact ⟨q', e, by rw [hq', show k + 1 + j = k + (j + 1) by omega]⟩
theorem Rows.dp {K : PySem.W.Frag} {H : Hp} {D : Addr} {qs : List V} {n : Nat} (r : Rows H D qs n) (hD : H D = some (.lst qs)) : Dp K H (.ref D) (.list (nums n)) := by
  refine .lst (SqL.of hD) ?_
  have h := rows_dp (K := K) (H := H) qs 0 fun j x hx => let ⟨q, e, _, hq⟩ := r.at_ j x hx; ⟨q, e, by rw [hq, Nat.zero_add]⟩
  rw [r.len, ← List.range_eq_range'] at h
  exact h
section
variable {P : Program} {w : World} {K : PySem.W.Frag} {mg : Str → Option Value} {base : Heap} {f : Addr} {fd : FuncData}
theorem okRight {fC fI : Addr} {fdC fdI : FuncData} (B : Bt mg) (O : ClsOk K mg) (hE : ∀ x ∈ eNames, ErrOk P w K mg base x) (hb : ∃ o, base.get? sysModules = some o) (F : FnP K "_law_right" sRight f fd)
    (FC : FnP K "_law_code" sCode fC fdC) (gC : mg "_law_code" = some (.ref fC)) (FI : FnP K "_law_is_error" sIsErr fI fdI) (gI : mg "_law_is_error" = some (.ref fI)) : FnG P w K mg base CX0 2 f fd ["_law_some", "_law_noted"] (spRight K) := by
  have GC : FnOk P w K mg base CX0 1 fC fdC ["_law_error"] (spCode K) := okCode B O FC
  have GI : FnOk P w K mg base CX0 1 fI fdI ["_law_error"] (spIsErr K) := okIsErr B O FI
  have bC : Binds K fdC ["_law_error"] [] := FC.bindsN fun _ _ _ _ _ _ us hl => match us, hl with | [_], _ => rfl
  have bI : Binds K fdI ["_law_error"] [] := FI.bindsN fun _ _ _ _ _ _ us hl => match us, hl with | [_], _ => rfl
  refine F.okG scRight (fun vs H Q E h => ?_) (fun cdv A outer s H vs Q E hg hr h => ⟨_, PSs.nox (pss_cons
      (ps_if (pt_cmpR (op_neD (u64 hr))
          (pe_lc (own := [("_law_error", 2)]) (g := gName 2) (tt := tYes) rfl scRight.nd (pi_list (pv 0)) (blkOk_by (N := ["_law_some", "_law_noted", "_law_error", "_law_at"]) (sc := defScope sRight) (by decide +kernel))
            (fun _ _ _ _ _ => pg_name (i := 2) scRight.nd rfl (Or.inl rfl)) (fun _ _ _ _ _ => pts_nil) (fun _ _ _ _ _ => pe_call GC hr (by rfl) gC FC.kp bC .nil pass0 (pa_cons (pv 2) pa_nil)))
          (pe_lc (own := [("_law_at", 3)]) (g := gName 3) (tt := tYes) rfl scRight.nd (pi_range1 (by rfl) B.range (pa_cons pe_int pa_nil)) (blkOk_by (N := ["_law_some", "_law_noted", "_law_error", "_law_at"]) (sc := defScope sRight) (by decide +kernel))
            (fun _ _ _ _ _ => pg_name (i := 3) scRight.nd rfl (Or.inl rfl)) (fun _ _ _ _ _ => pts_nil) (fun _ _ _ _ _ => pe_lst (pa_cons (pv 3) pa_nil))) (nomark _))
        (pss_one (ps_ret pe_bl)) pss_nil)
      (pss_one (ps_ret (pe_cmpR (op_eqD (u64 hr))
          (pe_lc (own := [("_law_error", 2)]) (g := gName 2) (tt := tOr (tNot (tB (tCall (spIsErr K) [] E0 (tCons (tVar 2) tNil)))) (tTest (tOp rNe (tCB rRepr (tCons (tVal K (tVar 2)) tNil)) (tVar 1)))) rfl scRight.nd (pi_list (pv 0))
            (blkOk_by (N := ["_law_some", "_law_noted", "_law_error", "_law_at"]) (sc := defScope sRight) (by decide +kernel)) (fun _ _ _ _ _ => pg_name (i := 2) scRight.nd rfl (Or.inl rfl))
            (fun _ _ _ _ _ => pts_one (PW.pt (pw_or (pt_not (pt_val (pe_call GI hr (by rfl) gI FI.kp bI .nil pass0 (pa_cons (pv 2) pa_nil)))) (pw_or1 (pt_cmpR op_ne (pe_callB (call_repr hg hr hb) (by rfl) B.repr (by decide +kernel) (pa_cons (pe_val (pv 2)) pa_nil)) (pv 1) (nomark _))))))
            (fun _ _ _ _ _ => pv 2)) (pe_lst pa_nil) (nomark _))))), ?_⟩)
  · obtain ⟨p, as, v, d, rfl, _⟩ := h
    rfl
  · obtain ⟨p, as, v, d, rfl, hp, he, hd, hs, hz, hdp, hq⟩ := h
    have hl : as.length = 28 := by rw [he.length, List.length_map]; exact e_len
    refine ⟨_, rfl, p, rfl, ⟨_, SqL.of hp⟩, fun D nD => ?_⟩
    -- the first list
    refine lc_list (K := K) (a := p) (xs := as.map V.ref) (fun i H' => ∃ qs, Rows H' D qs i ∧ H' D = some (.lst qs) ∧ But D H H') ⟨[], .nil, upd_same, (Same.upd nD).but⟩ ?_ ?_ ?_
    · rintro i H' hi ⟨qs, _, _, hb'⟩
      exact SqL.of (hb' _ _ (ne_of_none hp nD) hp)
    · rintro i x H' hx ⟨qs, hR, hD, hb'⟩
      have hi : i < 28 := by
        have := (List.getElem?_eq_some_iff.mp hx).1
        rw [List.length_map, hl] at this
        exact this
      have hC : (cs K eNames)[i]? = some (He.ga K (eNames.getD i "")) := by
        rw [List.getElem?_map, e_at hi]
        rfl
      obtain ⟨a, dd, ha, hea⟩ := he.get hC
      rw [List.getElem?_map, ha] at hx
      cases hx
      have heA : ErrAt H' a (He.ga K (eNames.getD i "")) dd v := ⟨hb' _ _ (ne_of_none hea.1 nD) hea.1, hb' _ _ (ne_of_none hea.2 nD) hea.2⟩
      refine ⟨rfl, _, rfl, a, _, fun y => decide (eNames.getD i "" = y), rfl, .inl ⟨dd, v, heA⟩, O.x _ (e_in hi), fun y hy => O.kit _ (e_in hi) y hy, fun H2 q s2 nq eq => ?_⟩
      rw [bl_at hi] at eq
      have hqD : q ≠ D := fun z => by rw [z, hD] at nq; cases nq
      have hD2 : H2 D = some (.lst qs) := s2 _ _ hD
      refine ⟨qs, hD2, ?_, qs ++ [.ref q], ?_, upd_same, ?_⟩
      · rw [hR.len, sizeLine_eq]; omega
      · exact ((hR.but s2.but).but But.upd).snoc hqD (by rw [upd_ne hqD]; exact eq)
      · exact (hb'.trans s2.but).trans But.upd
    · rintro H1 ⟨qs, hR, hD, hb1⟩
      rw [List.length_map, hl] at hR
      have s1 : Same H H1 := fun b o e => hb1 b o (ne_of_none e nD) e
      have d1 : Dp K H1 (.ref D) (.list (nums 28)) := hR.dp hD
      -- the second list
      refine ⟨28, rfl, by decide, by decide, fun D2 nD2 => ?_⟩
      refine lc_range (lo := 0) (n := 28) (fun i H' => ∃ qs, Rows H' D2 qs i ∧ H' D2 = some (.lst qs) ∧ But D2 H1 H') ⟨[], .nil, upd_same, (Same.upd nD2).but⟩ ?_ ?_
      · rintro i H' hi ⟨qs, hR, hD', hb'⟩
        refine ⟨rfl, _, rfl, (by show 1 ≤ sizeLine; decide), fun q nq => ?_⟩
        have hqD : q ≠ D2 := fun z => by rw [z, hD'] at nq; cases nq
        refine ⟨qs, (Same.upd nq) _ _ hD', ?_, qs ++ [.ref q], ?_, upd_same, ?_⟩
        · rw [hR.len, sizeLine_eq]; omega
        · refine ((hR.but (Same.upd nq).but).but But.upd).snoc hqD ?_
          rw [upd_ne hqD, upd_same, show (0 : Int) + (i : Int) = (i : Int) by omega]
        · exact (hb'.trans (Same.upd nq).but).trans But.upd
      · rintro H2 ⟨qs2, hR2, hD2, hb2⟩
        have s2 : Same H1 H2 := fun b o e => hb2 b o (ne_of_none e nD2) e
        refine ⟨_, _, dp_same s2 _ _ d1, hR2.dp hD2, nums_ok, nums_ok, _, rfl, ?_⟩
        rw [nums_eq]
        refine ifF rfl ?_
        have s12 : Same H H2 := s1.trans s2
        refine ⟨_, rfl, p, rfl, ⟨_, SqL.of (s12 _ _ hp)⟩, fun D3 nD3 => ?_⟩
        refine lc_list (K := K) (a := p) (xs := as.map V.ref) (fun i H' => H' D3 = some (.lst []) ∧ But D3 H2 H') ⟨upd_same, (Same.upd nD3).but⟩ ?_ ?_ ?_
        · rintro i H' hi ⟨_, hb'⟩
          exact SqL.of (hb' _ _ (ne_of_none (s12 _ _ hp) nD3) (s12 _ _ hp))
        · rintro i x H' hx ⟨hD3, hb'⟩
          have hi : i < 28 := by
            have := (List.getElem?_eq_some_iff.mp hx).1
            rw [List.length_map, hl] at this
            exact this
          have hC : (cs K eNames)[i]? = some (He.ga K (eNames.getD i "")) := by
            rw [List.getElem?_map, e_at hi]
            rfl
          obtain ⟨a, dd, ha, hea⟩ := he.get hC
          rw [List.getElem?_map, ha] at hx
          cases hx
          have s3 : Same H H' := fun b o e => hb' b o (ne_of_none (s12 _ _ e) nD3) (s12 _ _ e)
          have heA := hea.same s3
          obtain ⟨fI', fd', _, T, _, _⟩ := (hE _ (List.mem_of_getElem? (e_at hi))).ex
          have en : (!decide (V.str d.shown = V.str d.shown)) = false := by simp
          refine ⟨rfl, _, rfl, a, _, rfl, .inl ⟨dd, v, heA⟩, O.x _ (e_in hi), O.sp _ (e_in hi), O.ve _ (e_in hi), _, rfl, ?_⟩
          refine ifF rfl ?_
          refine ⟨_, rfl, a, _, dd, fI', v, rfl, heA, T, v, d, rfl, hd _ s3, hs, hz, hdp, _, rfl, rfl, false, congrArg V.bl en, ?_⟩
          exact ⟨hD3, hb'⟩
        · rintro H3 ⟨hD3, hb3⟩
          have s3 : Same H2 H3 := fun b o e => hb3 b o (ne_of_none e nD3) e
          refine ⟨by show 0 ≤ sizeLine; exact Nat.zero_le _, fun p4 np4 => ⟨.list [], .list [], .lst (SqL.of ((Same.upd np4) _ _ hD3)) .nil, .lst (SqL.of upd_same) .nil, rfl, rfl, ?_⟩⟩
          have ee : PyData.eqv (.list []) (.list []) = true := by decide +kernel
          rw [ee]
          exact hq _ ((s12.trans s3).trans (Same.upd np4))
end
end K01
set_option Elab.async false
set_option linter.all false
set_option maxRecDepth 100000
set_option maxHeartbeats 2000000
/-! the things that an error is made with -/
namespace K01
open PySem PySem.Spec PyProof.Rows L2
structure Ok (d : PyData) : Prop where
  show_ : d.showable = true
  short : d.leavesShort 13 = true
  bulk : d.bulk ≤ 1000
  depth : d.depth ≤ 100
theorem Ok.size {d : PyData} (h : Ok d) : d.shown.length ≤ sizeLine := PyData.shown_fits_bulk (by decide) (by decide) h.short (Nat.le_trans h.bulk (by decide))
theorem int_short {i : Int} (h0 : -(10 ^ 10) < i) (h1 : i < 10 ^ 10) : (PyData.shown (.int i)).length ≤ 13 := by
  have e : PyData.shown (.int i) = PySem.Str.ofString (toString i) := by simp only [PyData.shown]
  rw [e]
  by_cases hn : i < 0
  · rw [len_text_neg hn]
    have := toString_length_le (v := 0 - i) (by omega) (k := 10) (by decide) (by omega)
    omega
  · have := toString_length_le (v := i) (by omega) (k := 10) (by decide) h1
    omega
/-- z: the word; v: the thing in the heap H, d: its data -/
inductive Thing (z : Str) (H : Hp) : V → PyData → Prop
  | non : Thing z H .non .none
  | bl (b : Bool) : Thing z H (.bl b) (.bool b)
  | int (i : Int) (h0 : -(10 ^ 10) < i) (h1 : i < 10 ^ 10) : Thing z H (.int i) (.int i)
  | str : Thing z H (.str z) (.str z)
  | tupS {t : Addr} (e : H t = some (.tup [.str "says", .str z, .int 1, .int 2])) : Thing z H (.ref t) (.tuple [.str "says", .str z, .int 1, .int 2])
  | tupL {t l : Addr} (e : H t = some (.tup [.str z, .ref l])) (el : H l = some (.lst [.str z])) : Thing z H (.ref t) (.tuple [.str z, .list [.str z]])
  | dic {t l : Addr} (e : H t = some (.dK [(Sum.inr z, .ref l)])) (el : H l = some (.lst [.str z])) : Thing z H (.ref t) (.dict [(.str z, .list [.str z])])
  | lst1 {t : Addr} (e : H t = some (.lst [.str z])) : Thing z H (.ref t) (.list [.str z])
  | lst2 {t l m : Addr} (e : H t = some (.lst [.ref l, .ref m])) (el : H l = some (.lst [.str z])) (em : H m = some (.dK [(Sum.inr "odd", .str z)])) : Thing z H (.ref t) (.list [.list [.str z], .dict [(.str "odd", .str z)]])
theorem Thing.same {z : Str} {H H' : Hp} (s : Same H H') {v : V} {d : PyData} (t : Thing z H v d) : Thing z H' v d := by
  cases t with
  | non => exact .non
  | bl b => exact .bl b
  | int i h0 h1 => exact .int i h0 h1
  | str => exact .str
  | tupS e => exact .tupS (s _ _ e)
  | tupL e el => exact .tupL (s _ _ e) (s _ _ el)
  | dic e el => exact .dic (s _ _ e) (s _ _ el)
  | lst1 e => exact .lst1 (s _ _ e)
  | lst2 e el em => exact .lst2 (s _ _ e) (s _ _ el) (s _ _ em)
theorem dd_list {H : Hp} {l : Addr} {xs : List V} {ds : List PyData} (e : H l = some (.lst xs)) (h : DdAll H xs ds) : Dd H (.ref l) (.list ds) := .lst e h
theorem dd_dict1 {H : Hp} {t : Addr} {k : Str} {v : V} {d : PyData} (e : H t = some (.dK [(Sum.inr k, v)])) (h : Dd H v d) : Dd H (.ref t) (.dict [(.str k, d)]) :=
  .dic (kvs := [(k, v)]) e rfl (.cons h .nil)
theorem dd_dict2 {H : Hp} {t : Addr} {k k' : Str} {v v' : V} {d d' : PyData} (e : H t = some (.dK [(Sum.inr k, v), (Sum.inr k', v')])) (h : Dd H v d) (h' : Dd H v' d') : Dd H (.ref t) (.dict [(.str k, d), (.str k', d')]) :=
  .dic (kvs := [(k, v), (k', v')]) e rfl (.cons h (.cons h' .nil))
theorem Thing.dd {z : Str} {H : Hp} {v : V} {d : PyData} (t : Thing z H v d) : Dd H v d := by
  cases t with
  | non => exact .non
  | bl b => exact .bl b
  | int i h0 h1 => exact .int i
  | str => exact .str z
  | tupS e => exact .tup e (.cons (.str _) (.cons (.str _) (.cons (.int _) (.cons (.int _) .nil))))
  | tupL e el => exact .tup e (.cons (.str _) (.cons (dd_list el (.cons (.str _) .nil)) .nil))
  | dic e el => exact dd_dict1 e (dd_list el (.cons (.str _) .nil))
  | lst1 e => exact dd_list e (.cons (.str _) .nil)
  | lst2 e el em => exact dd_list e (.cons (dd_list el (.cons (.str _) .nil)) (.cons (dd_dict1 em (.str _)) .nil))
theorem wd_short {z : Str} (h : Wd z) : (z.cps.toList.all fun c => decide (c < 16 ^ 8)) = true := List.all_eq_true.mpr fun c hc => decide_eq_true (by have := (h.low c hc).2; omega)
theorem wd_bulk {z : Str} (h : Wd z) : z.cps.size ≤ 8 := h.len
theorem Thing.ok {z : Str} {H : Hp} {v : V} {d : PyData} (hz : Wd z) (t : Thing z H v d) : Ok d := by
  have h1 := wd_short hz
  have h2 := wd_bulk hz
  have k1 : (("says" : Str).cps.toList.all fun c => decide (c < 16 ^ 8)) = true := by decide +kernel
  have k2 : ("says" : Str).cps.size = 4 := by decide +kernel
  have k3 : (("odd" : Str).cps.toList.all fun c => decide (c < 16 ^ 8)) = true := by decide +kernel
  have k4 : ("odd" : Str).cps.size = 3 := by decide +kernel
  have i1 : decide ((PyData.shown (.int 1)).length ≤ 13) = true := decide_eq_true (int_short (by decide) (by decide))
  have i2 : decide ((PyData.shown (.int 2)).length ≤ 13) = true := decide_eq_true (int_short (by decide) (by decide))
  cases t with
  | non => exact ⟨rfl, rfl, by decide, by decide⟩
  | bl b => exact ⟨rfl, rfl, by simp [PyData.bulk], by simp [PyData.depth]⟩
  | int i h0 h1 =>
    refine ⟨?_, ?_, by simp [PyData.bulk], by simp [PyData.depth]⟩
    · simp only [PyData.showable]
      exact decide_eq_true (Nat.lt_trans (PySem.Flt.log2_lt_of (k := 40) (by decide) (by omega)) (by decide))
    · simp only [PyData.leavesShort]
      exact decide_eq_true (int_short h0 h1)
  | _ =>
    refine ⟨?_, ?_, ?_, ?_⟩
    · simp [PyData.showable, PyData.showableAll, PyData.showableKv]
      try (constructor <;> decide)
    · simp [PyData.leavesShort, PyData.leavesShortAll, PyData.leavesShortKv, h1, k1, k3, i1, i2]
    · simp [PyData.bulk, PyData.bulkAll, PyData.bulkKv, k2, k4]
      try omega
    · simp [PyData.depth, PyData.depthAll, PyData.depthKv]
end K01
set_option Elab.async false
set_option linter.all false
set_option maxRecDepth 100000
set_option maxHeartbeats 2000000
/-! what the law keeps -/
namespace K01
open PySem PySem.Spec PyProof.Rows L2
theorem Same.upd2 {H : Hp} {m : Addr} {o1 o2 : HO} (h : H m = none) : Same H (upd (upd H m o1) m o2) := fun b o e => by
  have hb := ne_of_none e h
  rw [upd_ne hb, upd_ne hb]
  exact e
theorem Same.upd3 {H : Hp} {m l : Addr} {o1 o2 o3 : HO} (h : H m = none) (hl : (L2.upd H m o1) l = none) : Same H (upd (upd (upd H m o1) l o2) m o3) := fun b o e => by
  have hb := ne_of_none e h
  have hb2 : b ≠ l := ne_of_none (o := o) (by rw [upd_ne hb]; exact e) hl
  rw [upd_ne hb, upd_ne hb2, upd_ne hb]
  exact e
theorem but_at {q b : Addr} {H H' : Hp} {o u : HO} (hb : But q H H') (hq : H q = some u) (h : H b = some o) (d : o ≠ u) : H' b = some o := hb b o (ne_of h hq d) h
theorem pur_tup {xs : List V} {x y c t : Int} : HO.tup xs ≠ purV x y c t := fun e => nomatch (show HO.tup xs = HO.lst _ from e)
theorem pur_dic {kvs : List (Key × V)} {x y c t : Int} : HO.dK kvs ≠ purV x y c t := fun e => nomatch (show HO.dK kvs = HO.lst _ from e)
theorem pur_str {z : Str} {xs : List V} {x y c t : Int} : HO.lst (.str z :: xs) ≠ purV x y c t := fun e => by
  have e' : HO.lst (.str z :: xs) = HO.lst [.int x, .int y, .int c, .int t] := e
  simp at e'
theorem pur_ref {a : Addr} {xs : List V} {x y c t : Int} : HO.lst (.ref a :: xs) ≠ purV x y c t := fun e => by
  have e' : HO.lst (.ref a :: xs) = HO.lst [.int x, .int y, .int c, .int t] := e
  simp at e'
theorem isi_rd {K : PySem.W.Frag} {H : Hp} {x : V} {t T : String} {b : Bool} {Q : VK} (ty : TyX K H x (.type t)) (k : kitB t T = some b) (q : Q (.bl b) H) : rIsi K [x, .ty T] H Q := ⟨x, .ty T, .type t, .type T, b, rfl, .ty T, ty, kit_ty k, q⟩
theorem exo_nlst {a C : Addr} {d : Option Addr} {xs : List V} : exo a C d ≠ .lst xs := fun e => nomatch (show HO.ext _ = HO.lst xs from e)
theorem exd_nlst {a : Addr} {fs : List (Str × V)} {xs : List V} : exd a fs ≠ .lst xs := fun e => nomatch (show HO.ext _ = HO.lst xs from e)
theorem exo_ndic {a C : Addr} {d : Option Addr} {xs : List (Key × V)} : exo a C d ≠ .dK xs := fun e => nomatch (show HO.ext _ = HO.dK xs from e)
theorem exd_ndic {a : Addr} {fs : List (Str × V)} {xs : List (Key × V)} : exd a fs ≠ .dK xs := fun e => nomatch (show HO.ext _ = HO.dK xs from e)
theorem Errs.updL {H : Hp} {v : V} {l : Addr} {xs : List V} {o : HO} (hl : H l = some (.lst xs)) : ∀ {Cs as : List Addr}, Errs H v Cs as → Errs (upd H l o) v Cs as
  | [], [], _ => trivial
  | _ :: _, _ :: _, ⟨⟨d, e⟩, r⟩ => ⟨⟨d, by rw [upd_ne (ne_of e.1 hl exo_nlst)]; exact e.1, by rw [upd_ne (ne_of e.2 hl exd_nlst)]; exact e.2⟩, Errs.updL hl r⟩
  | [], _ :: _, h => h.elim
  | _ :: _, [], h => h.elim
theorem Errs.updD {H : Hp} {v : V} {l : Addr} {xs : List (Key × V)} {o : HO} (hl : H l = some (.dK xs)) : ∀ {Cs as : List Addr}, Errs H v Cs as → Errs (upd H l o) v Cs as
  | [], [], _ => trivial
  | _ :: _, _ :: _, ⟨⟨d, e⟩, r⟩ => ⟨⟨d, by rw [upd_ne (ne_of e.1 hl exo_ndic)]; exact e.1, by rw [upd_ne (ne_of e.2 hl exd_ndic)]; exact e.2⟩, Errs.updD hl r⟩
  | [], _ :: _, h => h.elim
  | _ :: _, [], h => h.elim
/-- what the law still needs when the thing has been changed -/
structure Kept (K : PySem.W.Frag) (v : V) (p q p6 p7 : Addr) (as6 as7 : List Addr) (H : Hp) : Prop where
  e6 : H p6 = some (.lst (as6.map V.ref))
  r6 : Errs H v (cs K eNames) as6
  e7 : H p7 = some (.lst (as7.map V.ref))
  r7 : Errs H v (cs K eNames) as7
  ep : H p = some (.lst [.ref q])
section
variable {K : PySem.W.Frag} {v : V} {p q p6 p7 l : Addr} {as6 as7 : List Addr} {H H' : Hp} {xs : List V} {o : HO}
theorem Kept.same (k : Kept K v p q p6 p7 as6 as7 H) (s : Same H H') : Kept K v p q p6 p7 as6 as7 H' := ⟨s _ _ k.e6, k.r6.same s, s _ _ k.e7, k.r7.same s, s _ _ k.ep⟩
theorem long_ne {as : List Addr} (hl : as.length = 28) (hx : xs.length < 28) : HO.lst (as.map V.ref) ≠ HO.lst xs := fun e => by
  injection e with e
  have := congrArg List.length e
  rw [List.length_map, hl] at this
  omega
theorem n28 : (cs K eNames).length = 28 := by rw [List.length_map]; exact e_len
theorem Kept.updL (k : Kept K v p q p6 p7 as6 as7 H) (hl : H l = some (.lst xs)) (hx : xs.length < 28) (hq : xs ≠ [.ref q]) : Kept K v p q p6 p7 as6 as7 (upd H l o) :=
  ⟨by rw [upd_ne (ne_of k.e6 hl (long_ne (by rw [k.r6.length]; exact n28) hx))]; exact k.e6, Errs.updL hl k.r6, by rw [upd_ne (ne_of k.e7 hl (long_ne (by rw [k.r7.length]; exact n28) hx))]; exact k.e7, Errs.updL hl k.r7,
    by rw [upd_ne (ne_of k.ep hl fun e => hq (HO.lst.inj e).symm)]; exact k.ep⟩
theorem Kept.updD {xs : List (Key × V)} (k : Kept K v p q p6 p7 as6 as7 H) (hl : H l = some (.dK xs)) : Kept K v p q p6 p7 as6 as7 (upd H l o) :=
  ⟨by rw [upd_ne (ne_of k.e6 hl fun e => nomatch e)]; exact k.e6, Errs.updD hl k.r6, by rw [upd_ne (ne_of k.e7 hl fun e => nomatch e)]; exact k.e7, Errs.updD hl k.r7, by rw [upd_ne (ne_of k.ep hl fun e => nomatch e)]; exact k.ep⟩
end
/-- behind the changes: the thing has some data -/
def Has (H : Hp) (v : V) : Prop := ∃ d, Ok d ∧ ∀ H', Same H H' → Dd H' v d
theorem Thing.has {z : Str} {H : Hp} {v : V} {d : PyData} (hz : Wd z) (t : Thing z H v d) : Has H v := ⟨d, t.ok hz, fun H' s => (t.same s).dd⟩
def wLater : Str := "later"
theorem later_facts : (wLater.cps.toList.all fun c => decide (c < 16 ^ 8)) = true ∧ wLater.cps.size = 5 := by decide +kernel
theorem upper_facts : (("LATER" : Str).cps.toList.all fun c => decide (c < 16 ^ 8)) = true ∧ ("LATER" : Str).cps.size = 5 := by decide +kernel
theorem ok_later {z : Str} (hz : Wd z) : Ok (.tuple [.str wLater, .str z]) := by
  have h1 := wd_short hz
  have h2 := wd_bulk hz
  have k1 := later_facts.1
  have k2 := later_facts.2
  refine ⟨by simp [PyData.showable, PyData.showableAll], by simp [PyData.leavesShort, PyData.leavesShortAll, h1, k1], ?_, by simp [PyData.depth, PyData.depthAll]⟩
  simp [PyData.bulk, PyData.bulkAll, k2]
  omega
theorem ok_pair {z : Str} (hz : Wd z) : Ok (.list [.str z, .str wLater]) := by
  have h1 := wd_short hz
  have h2 := wd_bulk hz
  have k1 := later_facts.1
  have k2 := later_facts.2
  refine ⟨by simp [PyData.showable, PyData.showableAll], by simp [PyData.leavesShort, PyData.leavesShortAll, h1, k1], ?_, by simp [PyData.depth, PyData.depthAll]⟩
  simp [PyData.bulk, PyData.bulkAll, k2]
  omega
theorem ok_tupL {z : Str} (hz : Wd z) : Ok (.tuple [.str z, .list [.str z, .str wLater]]) := by
  have h1 := wd_short hz
  have h2 := wd_bulk hz
  have k1 := later_facts.1
  have k2 := later_facts.2
  refine ⟨by simp [PyData.showable, PyData.showableAll], by simp [PyData.leavesShort, PyData.leavesShortAll, h1, k1], ?_, by simp [PyData.depth, PyData.depthAll]⟩
  simp [PyData.bulk, PyData.bulkAll, k2]
  omega
theorem ok_lst2 {z : Str} (hz : Wd z) : Ok (.list [.list [.str z], .dict [(.str "odd", .str z)], .str wLater]) := by
  have h1 := wd_short hz
  have h2 := wd_bulk hz
  have k1 := later_facts.1
  have k2 := later_facts.2
  have k3 : (("odd" : Str).cps.toList.all fun c => decide (c < 16 ^ 8)) = true := by decide +kernel
  have k4 : ("odd" : Str).cps.size = 3 := by decide +kernel
  refine ⟨by simp [PyData.showable, PyData.showableAll, PyData.showableKv], by simp [PyData.leavesShort, PyData.leavesShortAll, PyData.leavesShortKv, h1, k1, k3], ?_, by simp [PyData.depth, PyData.depthAll, PyData.depthKv]⟩
  simp [PyData.bulk, PyData.bulkAll, PyData.bulkKv, k2, k4]
  omega
theorem ok_dic {z : Str} (hz : Wd z) : Ok (.dict [(.str z, .list [.str z, .str wLater]), (.str "LATER", .int 1)]) := by
  have h1 := wd_short hz
  have h2 := wd_bulk hz
  have k1 := later_facts.1
  have k2 := later_facts.2
  have k3 := upper_facts.1
  have k4 := upper_facts.2
  have i1 : decide ((PyData.shown (.int 1)).length ≤ 13) = true := decide_eq_true (int_short (by decide) (by decide))
  refine ⟨?_, by simp [PyData.leavesShort, PyData.leavesShortAll, PyData.leavesShortKv, h1, k1, k3, i1], ?_, by simp [PyData.depth, PyData.depthAll, PyData.depthKv]⟩
  · simp [PyData.showable, PyData.showableAll, PyData.showableKv]
    decide
  · simp [PyData.bulk, PyData.bulkAll, PyData.bulkKv, k2, k4]
    omega
theorem wd_ne {z : Str} (hz : Wd z) : z ≠ "LATER" := fun e => by
  have h := hz.low 76 (by rw [e]; decide +kernel)
  omega
theorem st11 {K : PySem.W.Frag} {D : Ends} {v : V} {a p q p6 p7 : Addr} {as6 as7 : List Addr} {z : Str} {w3 w5 w8 : Option V} {G : Hp} (k : Kept K v p q p6 p7 as6 as7 G) (h : Has G v)
    (hd : ∀ G', Same G G' → D.nx [some (.ref a), some (.ref q), some (.str z), w3, some v, w5, some (.ref p6), some (.ref p7), w8, none, none] G') :
    tIfS (tOr (tNot (tB (tCall (spRight K) [] E0 (tCons (tVar 6) (tCons (tCB rRepr (tCons (tVar 4) tNil)) tNil))))) (tNot (tB (tCall (spRight K) [] E0 (tCons (tVar 7) (tCons (tCB rRepr (tCons (tVar 4) tNil)) tNil))))))
      (tRet (tC (.bl false))) tNext D [some (.ref a), some (.ref q), some (.str z), w3, some v, w5, some (.ref p6), some (.ref p7), w8, none, none] G := by
  obtain ⟨d, o, hd'⟩ := h
  refine ⟨_, rfl, _, rfl, v, d, rfl, hd' _ (Same.refl _), o.show_, o.size, o.depth, ?_⟩
  refine ⟨p6, as6, v, d, rfl, k.e6, k.r6, hd', o.show_, o.size, o.depth, fun G1 s1 => ⟨true, rfl, ?_⟩⟩
  refine ifF rfl ?_
  have k1 := k.same s1
  refine ⟨_, rfl, _, rfl, v, d, rfl, hd' _ s1, o.show_, o.size, o.depth, ?_⟩
  refine ⟨p7, as7, v, d, rfl, k1.e7, k1.r7, fun G' s' => hd' _ (s1.trans s'), o.show_, o.size, o.depth, fun G2 s2 => ⟨true, rfl, ?_⟩⟩
  refine ifF rfl ?_
  exact hd G2 (s1.trans s2)
theorem exO_nlst {c : Value} {a : Addr} {xs : List V} : ExO c a ≠ .lst xs := fun e => nomatch (show HO.ext _ = HO.lst xs from e)
theorem bl_28 : ((List.range 30).filter fun j => (cNames.map fun y => decide (("NothingToUndo" : Str) = y)).getD j false) = [28] := by decide +kernel
theorem bl_29 : ((List.range 30).filter fun j => (cNames.map fun y => decide (("NothingToRedo" : Str) = y)).getD j false) = [29] := by decide +kernel
theorem bl_no : ((List.range 30).filter fun j => (cNames.map fun _ => false).getD j false) = [] := by decide +kernel
theorem put_later {z : Str} {l : Addr} (hz : Wd z) : putK [((Sum.inr z : Key), V.ref l)] (Sum.inr ("LATER" : Str) : Key) (.int 1) = [((Sum.inr z : Key), V.ref l), ((Sum.inr ("LATER" : Str) : Key), .int 1)] := by
  have h : ¬ ((Sum.inr z : Key) = (Sum.inr ("LATER" : Str) : Key)) := fun e => wd_ne hz (Sum.inr.inj e)
  unfold putK
  simp [h]
theorem get_word {H : Hp} {t l : Addr} {z : Str} (e : H t = some (.dK [(Sum.inr z, .ref l)])) : DGet H t (.str z) (some (.ref l)) := by
  have h := DGet.k (k := Sum.inr z) e
  rw [valV_pos rfl] at h
  exact h
end K01
set_option Elab.async false
set_option linter.all false
set_option maxRecDepth 100000
set_option maxHeartbeats 4000000
/-! the law -/
namespace K01
open PySem PySem.Spec PyProof.Rows L2
abbrev sLaw : Stmt := top 45
def lawN : List Str := ["_law_script", "_law_purse_here", "_law_word_here", "_law_plain", "_law_thing", "_law_noted", "_law_some", "_law_called_here", "_law_later", "_law_rest", "_law_error"]
theorem scLaw : FnScope lawN ["_law_script"] (defScope sLaw) := ⟨rfl, rfl, rfl, by decide +kernel, rfl, by decide +kernel, by decide +kernel⟩
structure NoF (K : PySem.W.Frag) (mg : Str → Option Value) (x : Str) : Prop where
  g : mg x = some (.ref (He.ga K x))
  q : PySem.W.excIn K (He.ga K x) He.veBase "ValueError.__new__" = true
  k : PySem.W.keepIn K (.ref (He.ga K x)) = true
/-- the defs of the law's own text -/
structure Defs (K : PySem.W.Frag) (mg : Str → Option Value) : Prop where
  ex : ∀ {R : Prop}, (∀ (f1 f2 f3 f4 f5 f6 f7 f8 f9 f10 f11 f12 : Addr) (d1 d2 d3 d4 d5 d6 d7 d8 d9 d10 d11 d12 : FuncData),
    FnP K "_law_purse" sPurse f1 d1 → mg "_law_purse" = some (.ref f1) → FnP K "_law_mixed" sMixed f2 d2 → mg "_law_mixed" = some (.ref f2) → FnP K "_law_draw" sDraw f3 d3 → mg "_law_draw" = some (.ref f3) →
    FnP K "_law_purses" sPurses f4 d4 → mg "_law_purses" = some (.ref f4) → FnP K "_law_one_of" sOne f5 d5 → mg "_law_one_of" = some (.ref f5) → FnP K "_law_word" sWord f6 d6 → mg "_law_word" = some (.ref f6) →
    FnP K "_law_first" sFirst f7 d7 → mg "_law_first" = some (.ref f7) → FnP K "_law_called" sCalled f8 d8 → mg "_law_called" = some (.ref f8) → FnP K "_law_bare" sBare f9 d9 → mg "_law_bare" = some (.ref f9) →
    FnP K "_law_code" sCode f10 d10 → mg "_law_code" = some (.ref f10) → FnP K "_law_is_error" sIsErr f11 d11 → mg "_law_is_error" = some (.ref f11) → FnP K "_law_right" sRight f12 d12 → mg "_law_right" = some (.ref f12) → R) → R
def spLaw (K : PySem.W.Frag) : Sp := fun vs H Q _ => ∃ (a : Addr) (ns : List Int), vs = [.ref a] ∧ SqL K H a (ns.map V.int) ∧ ∀ H', Q (.bl true) H'
section
variable {P : Program} {w : World} {K : PySem.W.Frag} {mg : Str → Option Value} {base : Heap} {f : Addr} {fd : FuncData}
theorem okLaw (B : Bt mg) (O : ClsOk K mg) (hE : ∀ x ∈ eNames, ErrOk P w K mg base x) (U : NoF K mg "NothingToUndo") (V' : NoF K mg "NothingToRedo") (W : NoF K mg "SpreadError") (hb : ∃ o, base.get? sysModules = some o) (D : Defs K mg) (F : FnP K "law" sLaw f fd) :
    FnG P w K mg base CX0 4 f fd ["_law_script"] (spLaw K) := by
  refine D.ex fun f1 f2 f3 f4 f5 f6 f7 f8 f9 f10 f11 f12 d1 d2 d3 d4 d5 d6 d7 d8 d9 d10 d11 d12 F1 g1 F2 g2 F3 g3 F4 g4 F5 g5 F6 g6 F7 g7 F8 g8 F9 g9 F10 g10 F11 g11 F12 g12 => ?_
  have G4 := ok_purses (P := P) (w := w) (base := base) B F4 F1 g1
  have G5 := ok_one (P := P) (w := w) (base := base) B F5 F3 g3 F2 g2
  have G6 := ok_word (P := P) (w := w) (base := base) B F6 F3 g3 F2 g2
  have G7 := okFirst hE F7
  have G8 := okCalled hE F8
  have G9 := okBare hE F9
  have G10 := okCode (P := P) (w := w) (base := base) B O F10
  have G11 := okIsErr (P := P) (w := w) (base := base) B O F11
  have G12 := okRight B O hE hb F12 F10 g10 F11 g11
  have b4 : Binds K d4 ["_law_script", "_law_few"] [] := F4.bindsN fun _ _ _ _ _ _ us hl => match us, hl with | [_, _], _ => rfl
  have b5 : Binds K d5 ["_law_purse_here", "_law_some"] [] := F5.bindsN fun _ _ _ _ _ _ us hl => match us, hl with | [_, _], _ => rfl
  have b6 : Binds K d6 ["_law_purse_here"] [] := F6.bindsN fun _ _ _ _ _ _ us hl => match us, hl with | [_], _ => rfl
  have b7 : Binds K d7 ["_law_thing"] [] := F7.bindsN fun _ _ _ _ _ _ us hl => match us, hl with | [_], _ => rfl
  have b8 : Binds K d8 ["_law_thing"] [] := F8.bindsN fun _ _ _ _ _ _ us hl => match us, hl with | [_], _ => rfl
  have b9 : Binds K d9 [] [] := F9.bindsN fun _ _ _ _ _ _ us hl => match us, hl with | [], _ => rfl
  have b10 : Binds K d10 ["_law_error"] [] := F10.bindsN fun _ _ _ _ _ _ us hl => match us, hl with | [_], _ => rfl
  have b11 : Binds K d11 ["_law_error"] [] := F11.bindsN fun _ _ _ _ _ _ us hl => match us, hl with | [_], _ => rfl
  have b12 : Binds K d12 ["_law_some", "_law_noted"] [] := F12.bindsN fun _ _ _ _ _ _ us hl => match us, hl with | [_, _], _ => rfl
  refine F.okG scLaw (fun vs H Q E h => ?_) (fun cdv A outer s H vs Q E hg hr h => ?_)
  · obtain ⟨a, ns, rfl, _⟩ := h
    rfl
  have r2 : Room 2 _ := hr.mono (by decide)
  have r1 : Room 1 _ := hr.mono (by decide)
  refine ⟨_, PSs.nox (pss_cons (ps_for PassesOwn.never rfl (pi_list (pe_call G4 r2 (by rfl) g4 F4.kp b4 .nil pass0 (pa_cons (pv 0) (pa_cons pe_int pa_nil)))) (pg_name (i := 1) scLaw.nd rfl (.inl rfl)) (pss_cons (ps_set (i := 2) scLaw.nd rfl (.inl rfl) (pe_call G6 hr (by rfl) g6 F6.kp b6 .nil pass0 (pa_cons (pv 1) pa_nil)))
      (pss_cons (ps_set (i := 3) scLaw.nd rfl (.inl rfl) (pe_lst (pa_cons pe_non (pa_cons pe_bl (pa_cons pe_bl (pa_cons pe_int (pa_cons (pv 2) (pa_cons (pe_un un_neg (pe_ix ix_list (pv 1) pe_int (fun _ _ => rfl))) (pa_cons (pe_tup (pa_cons pe_str (pa_cons (pv 2) (pa_cons pe_int (pa_cons pe_int pa_nil))))) (pa_cons (pe_tup (pa_cons (pv 2) (pa_cons (pe_lst (pa_cons (pv 2) pa_nil)) pa_nil))) (pa_cons (pe_disp (pps_cons (pv 2) (pe_lst (pa_cons (pv 2) pa_nil)) pps_nil) (by rfl) (by rfl) (fun z => by cases z) (by decide)) pa_nil)))))))))))
      (C8.pss_cut (ps_set (i := 4) scLaw.nd rfl (.inl rfl) (pe_call G5 hr (by rfl) g5 F5.kp b5 .nil pass0 (pa_cons (pv 1) (pa_cons (pe_op op_cat (pv 3) (pe_lst (pa_cons (pe_lst (pa_cons (pv 2) pa_nil)) (pa_cons (pe_lst (pa_cons (pe_lst (pa_cons (pv 2) pa_nil)) (pa_cons (pe_disp (pps_cons pe_str (pv 2) pps_nil) (by rfl) (by rfl) (fun z => by cases z) (by decide)) pa_nil))) pa_nil)))) pa_nil))))
      (pss_cons (ps_set (i := 5) scLaw.nd rfl (.inl rfl) (pe_callB (call_repr hg hr hb) (by rfl) B.repr (by decide +kernel) (pa_cons (pv 4) pa_nil)))
      (pss_cons (ps_par3 (i := 6) (j := 7) (l := 8) rfl scLaw.nd rfl rfl rfl (by decide) (by decide) (by decide) rfl rfl rfl (pa_cons (pe_call G7 hr (by rfl) g7 F7.kp b7 .nil pass0 (pa_cons (pv 4) pa_nil)) (pa_cons (pe_call G8 hr (by rfl) g8 F8.kp b8 .nil pass0 (pa_cons (pv 4) pa_nil)) (pa_cons (pe_call G7 hr (by rfl) g7 F7.kp b7 .nil pass0 (pa_cons (pe_tup (pa_cons pe_str (pa_cons (pv 2) pa_nil))) pa_nil)) pa_nil))) (by rfl))
      (pss_cons (ps_if (PW.pt (pw_or (pt_not (pt_val (pe_callG hg G12 r2 (by rfl) g12 F12.kp b12 .nil pass0 (pa_cons (pe_call0 G9 hr (by rfl) g9 F9.kp b9 .nil pass0) (pa_cons pe_str pa_nil))))) (pw_or1 (pt_not (pt_val (pe_callG hg G12 r2 (by rfl) g12 F12.kp b12 .nil pass0 (pa_cons (pv 8) (pa_cons (pe_callB (call_repr hg hr hb) (by rfl) B.repr (by decide +kernel) (pa_cons (pe_tup (pa_cons pe_str (pa_cons (pv 2) pa_nil))) pa_nil)) pa_nil)))))))) (pss_one (ps_ret pe_bl)) pss_nil)
      (pss_cons (ps_if (PW.pt (pw_or (pt_not (pt_val (pe_callG hg G12 r2 (by rfl) g12 F12.kp b12 .nil pass0 (pa_cons (pv 6) (pa_cons (pv 5) pa_nil))))) (pw_or1 (pt_not (pt_val (pe_callG hg G12 r2 (by rfl) g12 F12.kp b12 .nil pass0 (pa_cons (pv 7) (pa_cons (pv 5) pa_nil)))))))) (pss_one (ps_ret pe_bl)) pss_nil)
      (pss_cons (ps_if (pt_val (pe_callB call_isi (by rfl) B.isi boot_isinstance (pa_cons (pv 4) (pa_cons (pe_bltn (v := .ty "list") (by rfl) B.list (by decide +kernel) rfl) pa_nil)))) (pss_one (ps_expr (pe_bm PySem.F.plainAttrs_list PySem.F.slot_list_append PySem.F.type_list_append mt_append (pv 4) (pa_cons pe_str pa_nil)))) pss_nil)
      (pss_cons (ps_if (pt_val (pe_callB call_isi (by rfl) B.isi boot_isinstance (pa_cons (pv 4) (pa_cons (pe_bltn (v := .ty "dict") (by rfl) B.dict (by decide +kernel) rfl) pa_nil)))) (pss_cons (ps_expr (pe_bm PySem.F.plainAttrs_list PySem.F.slot_list_append PySem.F.type_list_append mt_append (pe_dget (hu_of hr) (pv 4) (pv 2) (fun _ _ => rfl)) (pa_cons pe_str pa_nil)))
      (pss_one (ps_dput (hu_of hr) (pv 4) pe_str pe_int (by rfl)))) pss_nil)
      (pss_cons (ps_if (PW.pt (pw_and (pt_val (pe_callB call_isi (by rfl) B.isi boot_isinstance (pa_cons (pv 4) (pa_cons (pe_bltn (v := .ty "tuple") (by rfl) B.tuple (by decide +kernel) rfl) pa_nil)))) (pw_and1 (pt_val (pe_callB call_isi (by rfl) B.isi boot_isinstance (pa_cons (pe_ix ix_tup (pv 4) pe_int (fun _ _ => rfl)) (pa_cons (pe_bltn (v := .ty "list") (by rfl) B.list (by decide +kernel) rfl) pa_nil))))))) (pss_one (ps_expr (pe_bm PySem.F.plainAttrs_list PySem.F.slot_list_append PySem.F.type_list_append mt_append (pe_ix ix_tup (pv 4) pe_int (fun _ _ => rfl)) (pa_cons pe_str pa_nil)))) pss_nil)
      (pss_one (ps_if (PW.pt (pw_or (pt_not (pt_val (pe_callG hg G12 r2 (by rfl) g12 F12.kp b12 .nil pass0 (pa_cons (pv 6) (pa_cons (pe_callB (call_repr hg hr hb) (by rfl) B.repr (by decide +kernel) (pa_cons (pv 4) pa_nil)) pa_nil))))) (pw_or1 (pt_not (pt_val (pe_callG hg G12 r2 (by rfl) g12 F12.kp b12 .nil pass0 (pa_cons (pv 7) (pa_cons (pe_callB (call_repr hg hr hb) (by rfl) B.repr (by decide +kernel) (pa_cons (pv 4) pa_nil)) pa_nil)))))))) (pss_one (ps_ret pe_bl)) pss_nil)))))))))))))
      (pss_cons (ps_set (i := 9) scLaw.nd rfl (.inl rfl) (pe_lst (pa_cons (pe_exc0 PySem.F.excBase_ValueError U.q U.g U.k (by rfl)) (pa_cons (pe_exc0 PySem.F.excBase_ValueError V'.q V'.g V'.k (by rfl)) pa_nil))))
      (pss_cons (ps_if (pt_cmpR (op_neD (u64 hr)) (pe_lc (own := [("_law_error", 10)]) (g := gName 10) (tt := tYes) rfl scLaw.nd (pi_list (pv 9)) (blkOk_by (N := lawN) (sc := defScope sLaw) (by decide +kernel)) (fun _ _ _ _ _ => pg_name (i := 10) scLaw.nd rfl (Or.inl rfl)) (fun _ _ _ _ _ => pts_nil) (fun _ _ _ _ _ => (pe_call G10 r1 (by rfl) g10 F10.kp b10 .nil pass0 (pa_cons (pv 10) pa_nil)))) (pe_lst (pa_cons (pe_lst (pa_cons pe_int pa_nil)) (pa_cons (pe_lst (pa_cons pe_int pa_nil)) pa_nil))) (nomark _)) (pss_one (ps_ret pe_bl)) pss_nil)
      (pss_cons (ps_expr (pe_bm PySem.F.plainAttrs_list PySem.F.slot_list_append PySem.F.type_list_append mt_append (pv 9) (pa_cons (pe_exc0 PySem.F.excBase_ValueError W.q W.g W.k (by rfl)) pa_nil)))
      (pss_one (ps_ret (pe_and (pe_callB (cr_all rfl) (by rfl) B.all (by decide +kernel) (pa_cons (pe_lc (own := [("_law_error", 10)]) (g := gName 10) (tt := tYes) rfl scLaw.nd (pi_list (pv 9)) (blkOk_by (N := lawN) (sc := defScope sLaw) (by decide +kernel)) (fun _ _ _ _ _ => pg_name (i := 10) scLaw.nd rfl (Or.inl rfl)) (fun _ _ _ _ _ => pts_nil) (fun _ _ _ _ _ => (pe_call G11 r1 (by rfl) g11 F11.kp b11 .nil pass0 (pa_cons (pv 10) pa_nil)))) pa_nil)) (pe_one (pe_cmpR (op_eqD (u64 hr)) (pe_call G10 r1 (by rfl) g10 F10.kp b10 .nil pass0 (pa_cons (pe_ix ix_list (pv 9) pe_int (fun _ _ => rfl)) pa_nil)) (pe_lst pa_nil) (nomark _)))))))))), ?_⟩
  · obtain ⟨a, ns, rfl, hS, hq⟩ := h
    refine ⟨_, rfl, a, ns, rfl, hS, fun H1 p q x y s1 np nq hpu eq ep => ?_⟩
    refine ⟨p, rfl, ⟨_, SqL.of ep⟩, for_list (K := K) (a := p) (xs := [.ref q]) (fun i σ H' => (i = 0 ∧ σ = [some (.ref a), none, none, none, none, none, none, none, none, none, none] ∧ H' = H1) ∨
      (i = 1 ∧ H' p = some (.lst [.ref q]) ∧ ∃ v1 v2 v3 v4 v5 v6 v7 v8, σ = [some (.ref a), v1, v2, v3, v4, v5, v6, v7, v8, none, none])) (.inl ⟨rfl, rfl, rfl⟩) ?_ ?_ ?_⟩
    · rintro i σ H' hi (⟨rfl, rfl, rfl⟩ | ⟨rfl, e, _⟩)
      · exact SqL.of ep
      · exact SqL.of e
    · rintro i x' σ H' hx (⟨rfl, rfl, rfl⟩ | ⟨rfl, _⟩)
      · cases hx
        -- the word
        refine ⟨_, rfl, q, x, y, 0, 0, rfl, eq, hpu, by decide, fun H2 x2 c2 z hb2 hf2 e2 p2 hc2 hz => ?_⟩
        have hqp : p ≠ q := fun e => by rw [e, eq] at ep; exact pur_ref (Option.some.inj ep).symm
        have ep2 : H2 p = some (.lst [.ref q]) := hb2 _ _ hqp ep
        -- the plain things
        refine ⟨_, rfl, _, rfl, q, _, 1, .int y, rfl, rfl, SqL.of e2, rfl, y, rfl, _, rfl, (show 4 ≤ sizeLine by decide), fun t6 n6 => ?_⟩
        have st6 : Same H2 (upd H2 t6 (.tup [.str "says", .str z, .int 1, .int 2])) := Same.upd n6
        have f6 : upd H2 t6 (.tup [.str "says", .str z, .int 1, .int 2]) t6 = some (.tup [.str "says", .str z, .int 1, .int 2]) := upd_same
        generalize upd H2 t6 (.tup [.str "says", .str z, .int 1, .int 2]) = At6 at st6 f6 ⊢
        replace e2 := st6 _ _ e2
        replace ep2 := st6 _ _ ep2
        refine ⟨_, rfl, _, rfl, (show 1 ≤ sizeLine by decide), fun l7 nl7 => ?_⟩
        have sl7 : Same At6 (upd At6 l7 (.lst [.str z])) := Same.upd nl7
        have g7 : upd At6 l7 (.lst [.str z]) l7 = some (.lst [.str z]) := upd_same
        generalize upd At6 l7 (.lst [.str z]) = Al7 at sl7 g7 ⊢
        replace e2 := sl7 _ _ e2
        replace ep2 := sl7 _ _ ep2
        replace f6 := sl7 _ _ f6
        refine ⟨(show 2 ≤ sizeLine by decide), fun t7 nt7 => ?_⟩
        have st7 : Same Al7 (upd Al7 t7 (.tup [.str z, .ref l7])) := Same.upd nt7
        have f7 : upd Al7 t7 (.tup [.str z, .ref l7]) t7 = some (.tup [.str z, .ref l7]) := upd_same
        generalize upd Al7 t7 (.tup [.str z, .ref l7]) = At7 at st7 f7 ⊢
        replace e2 := st7 _ _ e2
        replace ep2 := st7 _ _ ep2
        replace f6 := st7 _ _ f6
        replace g7 := st7 _ _ g7
        refine fun m8 nm8 => ?_
        refine ⟨_, rfl, _, rfl, (show 1 ≤ sizeLine by decide), fun l8 nl8 => ⟨by rw [upd_ne (ne_of_none upd_same nl8)]; exact upd_same, [(Sum.inr z, .ref l8)], rfl, (show 1 ≤ 15 by decide), ?_⟩⟩
        have s8 : Same At7 (upd (upd (upd At7 m8 (.dK [])) l8 (.lst [.str z])) m8 (.dK (mergeK [] [(Sum.inr z, .ref l8)]))) := Same.upd3 nm8 nl8
        have f8 : upd (upd (upd At7 m8 (.dK [])) l8 (.lst [.str z])) m8 (.dK (mergeK [] [(Sum.inr z, .ref l8)])) m8 = some (.dK [(Sum.inr z, .ref l8)]) := upd_same
        have g8 : upd (upd (upd At7 m8 (.dK [])) l8 (.lst [.str z])) m8 (.dK (mergeK [] [(Sum.inr z, .ref l8)])) l8 = some (.lst [.str z]) := by
          rw [upd_ne (fun e => by rw [e, upd_same] at nl8; cases nl8), upd_same]
        generalize upd (upd (upd At7 m8 (.dK [])) l8 (.lst [.str z])) m8 (.dK (mergeK [] [(Sum.inr z, .ref l8)])) = A8 at s8 f8 g8 ⊢
        replace e2 := s8 _ _ e2
        replace ep2 := s8 _ _ ep2
        replace f6 := s8 _ _ f6
        replace g7 := s8 _ _ g7
        replace f7 := s8 _ _ f7
        refine ⟨(show 9 ≤ sizeLine by decide), fun p0 np0 => ?_⟩
        have sp0 : Same A8 (upd A8 p0 (.lst [.non, .bl true, .bl false, .int 0, .str z, .int (-y), .ref t6, .ref t7, .ref m8])) := Same.upd np0
        have f0 : upd A8 p0 (.lst [.non, .bl true, .bl false, .int 0, .str z, .int (-y), .ref t6, .ref t7, .ref m8]) p0 = some (.lst [.non, .bl true, .bl false, .int 0, .str z, .int (-y), .ref t6, .ref t7, .ref m8]) := upd_same
        generalize upd A8 p0 (.lst [.non, .bl true, .bl false, .int 0, .str z, .int (-y), .ref t6, .ref t7, .ref m8]) = Ap0 at sp0 f0 ⊢
        replace e2 := sp0 _ _ e2
        replace ep2 := sp0 _ _ ep2
        replace f6 := sp0 _ _ f6
        replace g7 := sp0 _ _ g7
        replace f7 := sp0 _ _ f7
        replace f8 := sp0 _ _ f8
        replace g8 := sp0 _ _ g8
        -- one of them
        refine ⟨fun σ' H' => ∃ (v : V) (d : PyData) (w3 : Option V), σ' = [some (.ref a), some (.ref q), some (.str z), w3, some v, none, none, none, none, none, none] ∧ Thing z H' v d ∧ H' p = some (.lst [.ref q]), ?_, ?_⟩
        · refine ⟨_, rfl, _, rfl, _, rfl, (show 1 ≤ sizeLine by decide), fun l9 nl9 => ?_⟩
          have sl9 : Same Ap0 (upd Ap0 l9 (.lst [.str z])) := Same.upd nl9
          have f9 : upd Ap0 l9 (.lst [.str z]) l9 = some (.lst [.str z]) := upd_same
          generalize upd Ap0 l9 (.lst [.str z]) = Al9 at sl9 f9 ⊢
          replace e2 := sl9 _ _ e2
          replace ep2 := sl9 _ _ ep2
          replace f6 := sl9 _ _ f6
          replace g7 := sl9 _ _ g7
          replace f7 := sl9 _ _ f7
          replace f8 := sl9 _ _ f8
          replace g8 := sl9 _ _ g8
          replace f0 := sl9 _ _ f0
          refine ⟨_, rfl, (show 1 ≤ sizeLine by decide), fun l10 nl10 => ?_⟩
          have sl10 : Same Al9 (upd Al9 l10 (.lst [.str z])) := Same.upd nl10
          have g10 : upd Al9 l10 (.lst [.str z]) l10 = some (.lst [.str z]) := upd_same
          generalize upd Al9 l10 (.lst [.str z]) = Al10 at sl10 g10 ⊢
          replace e2 := sl10 _ _ e2
          replace ep2 := sl10 _ _ ep2
          replace f6 := sl10 _ _ f6
          replace g7 := sl10 _ _ g7
          replace f7 := sl10 _ _ f7
          replace f8 := sl10 _ _ f8
          replace g8 := sl10 _ _ g8
          replace f0 := sl10 _ _ f0
          replace f9 := sl10 _ _ f9
          refine fun m10 nm10 => ⟨_, rfl, upd_same, [(Sum.inr "odd", .str z)], rfl, (show 1 ≤ 15 by decide), ?_⟩
          have s10 : Same Al10 (upd (upd Al10 m10 (.dK [])) m10 (.dK (mergeK [] [(Sum.inr "odd", .str z)]))) := Same.upd2 nm10
          have h10 : upd (upd Al10 m10 (.dK [])) m10 (.dK (mergeK [] [(Sum.inr "odd", .str z)])) m10 = some (.dK [(Sum.inr "odd", .str z)]) := upd_same
          generalize upd (upd Al10 m10 (.dK [])) m10 (.dK (mergeK [] [(Sum.inr "odd", .str z)])) = A10 at s10 h10 ⊢
          replace e2 := s10 _ _ e2
          replace ep2 := s10 _ _ ep2
          replace f6 := s10 _ _ f6
          replace g7 := s10 _ _ g7
          replace f7 := s10 _ _ f7
          replace f8 := s10 _ _ f8
          replace g8 := s10 _ _ g8
          replace f0 := s10 _ _ f0
          replace f9 := s10 _ _ f9
          replace g10 := s10 _ _ g10
          refine ⟨(show 2 ≤ sizeLine by decide), fun t10 nt10 => ?_⟩
          have st10 : Same A10 (upd A10 t10 (.lst [.ref l10, .ref m10])) := Same.upd nt10
          have f10 : upd A10 t10 (.lst [.ref l10, .ref m10]) t10 = some (.lst [.ref l10, .ref m10]) := upd_same
          generalize upd A10 t10 (.lst [.ref l10, .ref m10]) = At10 at st10 f10 ⊢
          replace e2 := st10 _ _ e2
          replace ep2 := st10 _ _ ep2
          replace f6 := st10 _ _ f6
          replace g7 := st10 _ _ g7
          replace f7 := st10 _ _ f7
          replace f8 := st10 _ _ f8
          replace g8 := st10 _ _ g8
          replace f0 := st10 _ _ f0
          replace f9 := st10 _ _ f9
          replace g10 := st10 _ _ g10
          replace h10 := st10 _ _ h10
          refine ⟨(show 2 ≤ sizeLine by decide), fun p1 np1 => ?_⟩
          have sp1 : Same At10 (upd At10 p1 (.lst [.ref l9, .ref t10])) := Same.upd np1
          have f1p : upd At10 p1 (.lst [.ref l9, .ref t10]) p1 = some (.lst [.ref l9, .ref t10]) := upd_same
          generalize upd At10 p1 (.lst [.ref l9, .ref t10]) = Ap1 at sp1 f1p ⊢
          replace e2 := sp1 _ _ e2
          replace ep2 := sp1 _ _ ep2
          replace f6 := sp1 _ _ f6
          replace g7 := sp1 _ _ g7
          replace f7 := sp1 _ _ f7
          replace f8 := sp1 _ _ f8
          replace g8 := sp1 _ _ g8
          replace f0 := sp1 _ _ f0
          replace f9 := sp1 _ _ f9
          replace g10 := sp1 _ _ g10
          replace h10 := sp1 _ _ h10
          replace f10 := sp1 _ _ f10
          refine ⟨_, _, _, _, rfl, rfl, f0, f1p, (show 11 ≤ sizeLine by decide), fun p3 np3 => ?_⟩
          have sp3 : Same Ap1 (upd Ap1 p3 (.lst ([.non, .bl true, .bl false, .int 0, .str z, .int (-y), .ref t6, .ref t7, .ref m8] ++ [.ref l9, .ref t10]))) := Same.upd np3
          have f3p : upd Ap1 p3 (.lst ([.non, .bl true, .bl false, .int 0, .str z, .int (-y), .ref t6, .ref t7, .ref m8] ++ [.ref l9, .ref t10])) p3 = some (.lst ([.non, .bl true, .bl false, .int 0, .str z, .int (-y), .ref t6, .ref t7, .ref m8] ++ [.ref l9, .ref t10])) := upd_same
          generalize upd Ap1 p3 (.lst ([.non, .bl true, .bl false, .int 0, .str z, .int (-y), .ref t6, .ref t7, .ref m8] ++ [.ref l9, .ref t10])) = Ap3 at sp3 f3p ⊢
          replace e2 := sp3 _ _ e2
          replace ep2 := sp3 _ _ ep2
          replace f6 := sp3 _ _ f6
          replace g7 := sp3 _ _ g7
          replace f7 := sp3 _ _ f7
          replace f8 := sp3 _ _ f8
          replace g8 := sp3 _ _ g8
          replace f0 := sp3 _ _ f0
          replace f9 := sp3 _ _ f9
          replace g10 := sp3 _ _ g10
          replace h10 := sp3 _ _ h10
          replace f10 := sp3 _ _ f10
          replace f1p := sp3 _ _ f1p
          have hpq : p3 ≠ q := fun e => by
            rw [e, e2] at f3p
            have f3p' : purV x2 y c2 0 = _ := Option.some.inj f3p
            simp [purV] at f3p'
          refine ⟨q, p3, x2, y, c2, 0, _, rfl, hpq, e2, f3p, p2, by omega, (show 0 < 11 by decide), (show 11 < 1000 by decide), fun H3 x3 c3 i v hb3 hf3 e3 p3' hc3 hv => ?_⟩
          have B := fun {b : Addr} {o : HO} (h : Ap3 b = some o) (d : o ≠ purV x2 y c2 0) => but_at hb3 e2 h d
          have ep3 := B ep2 pur_ref
          have hy := p2.y0
          have hy1 := p2.y1
          have key : ∃ d, Thing z H3 v d := by
            match i, hv with
            | 0, hv => cases hv; exact ⟨_, .non⟩
            | 1, hv => cases hv; exact ⟨_, .bl true⟩
            | 2, hv => cases hv; exact ⟨_, .bl false⟩
            | 3, hv => cases hv; exact ⟨_, .int 0 (by decide) (by decide)⟩
            | 4, hv => cases hv; exact ⟨_, .str⟩
            | 5, hv => cases hv; exact ⟨_, .int (-y) (by omega) (by omega)⟩
            | 6, hv => cases hv; exact ⟨_, .tupS (B f6 pur_tup)⟩
            | 7, hv => cases hv; exact ⟨_, .tupL (B f7 pur_tup) (B g7 pur_str)⟩
            | 8, hv => cases hv; exact ⟨_, .dic (B f8 pur_dic) (B g8 pur_str)⟩
            | 9, hv => cases hv; exact ⟨_, .lst1 (B f9 pur_str)⟩
            | 10, hv => cases hv; exact ⟨_, .lst2 (B f10 pur_ref) (B g10 pur_str) (B h10 pur_dic)⟩
            | i + 11, hv => cases hv
          obtain ⟨d, T⟩ := key
          exact ⟨v, d, _, rfl, T, ep3⟩
        · rintro σ' H3 ⟨v, d, w3, rfl, T, ep3⟩
          have od := T.ok hz
          -- what it is told as; the three lists
          refine ⟨_, rfl, v, d, rfl, T.dd, od.show_, od.size, od.depth, ?_⟩
          refine ⟨_, rfl, v, rfl, fun H4 p6 as6 s4 n6 e6 r6 => ⟨_, rfl, v, rfl, fun H5 p7 as7 s5 n7 e7 r7 => ?_⟩⟩
          refine ⟨_, rfl, (show 2 ≤ sizeLine by decide), fun t8 nt8 => ⟨.ref t8, rfl, fun H6 p8 as8 s6 n8 e8 r8 => ⟨_, _, _, rfl, ?_⟩⟩⟩
          have T6 : Thing z H6 v d := (((T.same s4).same s5).same (Same.upd nt8)).same s6
          have e8t : H6 t8 = some (.tup [.str wLater, .str z]) := s6 _ _ upd_same
          have K6 : Kept K v p q p6 p7 as6 as7 H6 := ⟨s6 _ _ (Same.upd nt8 _ _ (s5 _ _ e6)), ((r6.same s5).same (Same.upd nt8)).same s6, s6 _ _ (Same.upd nt8 _ _ e7), (r7.same (Same.upd nt8)).same s6, s6 _ _ (Same.upd nt8 _ _ (s5 _ _ (s4 _ _ ep3)))⟩
          have oL := ok_later hz
          have DL : ∀ (t : Addr) (G : Hp), G t = some (.tup [.str wLater, .str z]) → Dd G (.ref t) (.tuple [.str wLater, .str z]) := fun t G e => .tup e (.cons (.str _) (.cons (.str _) .nil))
          -- the bare ones, the later ones
          refine ⟨rfl, fun H7 p9 as9 s7 n9 e9 r9 => ?_⟩
          refine ⟨p9, as9, .non, .none, rfl, e9, r9, fun _ _ => .non, rfl, (show 4 ≤ sizeLine by decide), by decide, fun H8 s8 => ⟨true, rfl, ?_⟩⟩
          refine ifF rfl ?_
          refine ⟨_, rfl, _, rfl, (show 2 ≤ sizeLine by decide), fun t9 nt9 => ⟨.ref t9, _, rfl, DL t9 _ upd_same, oL.show_, oL.size, oL.depth, ?_⟩⟩
          have s69 : Same H6 (upd H8 t9 (.tup [.str wLater, .str z])) := (s7.trans s8).trans (Same.upd nt9)
          refine ⟨p8, as8, .ref t8, _, rfl, s69 _ _ e8, r8.same s69, fun G sG => DL t8 G (sG _ _ (s69 _ _ e8t)), oL.show_, oL.size, oL.depth, fun H9 s9 => ⟨true, rfl, ?_⟩⟩
          refine ifF rfl ?_
          have T9 := (T6.same s69).same s9
          have K9 := (K6.same s69).same s9
          -- the two lists
          refine ⟨_, rfl, _, rfl, p6, as6, v, d, rfl, K9.e6, K9.r6, fun G sG => (T9.same sG).dd, od.show_, od.size, od.depth, fun Ha sa => ⟨true, rfl, ?_⟩⟩
          refine ifF rfl ?_
          have Ta := T9.same sa
          have Ka := K9.same sa
          refine ⟨_, rfl, _, rfl, p7, as7, v, d, rfl, Ka.e7, Ka.r7, fun G sG => (Ta.same sG).dd, od.show_, od.size, od.depth, fun Hb sb => ⟨true, rfl, ?_⟩⟩
          refine ifF rfl ?_
          have Tb := Ta.same sb
          have Kb := Ka.same sb
          -- the thing is changed
          have fin : ∀ (G : Hp) (w5 w8 : Option V), Kept K v p q p6 p7 as6 as7 G → ∀ σ, σ = [some (.ref a), some (.ref q), some (.str z), w3, some v, w5, some (.ref p6), some (.ref p7), w8, none, none] →
              (0 + 1 = 0 ∧ σ = [some (V.ref a), none, none, none, none, none, none, none, none, none, none] ∧ G = H') ∨ (0 + 1 = 1 ∧ G p = some (.lst [.ref q]) ∧ ∃ v1 v2 v3 v4 v5 v6 v7 v8, σ = [some (.ref a), v1, v2, v3, v4, v5, v6, v7, v8, none, none]) :=
            fun G w5 w8 k σ e => .inr ⟨rfl, k.ep, _, _, _, _, _, _, _, _, e⟩
          cases Tb with
          | non =>
            refine ⟨_, rfl, _, _, _, _, false, rfl, .ty _, (.base .non), kit_ty (by decide +kernel), _, rfl, ?_⟩
            refine ifF rfl ⟨_, rfl, _, _, _, _, false, rfl, .ty _, (.base .non), kit_ty (by decide +kernel), _, rfl, ?_⟩
            refine ifF rfl ⟨_, rfl, _, _, _, _, false, rfl, .ty _, (.base .non), kit_ty (by decide +kernel), _, rfl, ?_⟩
            exact ifF rfl (ifF rfl (st11 Kb (Thing.has hz .non) fun G' s' => fin G' _ _ (Kb.same s') _ rfl))
          | bl b =>
            refine ⟨_, rfl, _, _, _, _, false, rfl, .ty _, (.base (.bl b)), kit_ty (by decide +kernel), _, rfl, ?_⟩
            refine ifF rfl ⟨_, rfl, _, _, _, _, false, rfl, .ty _, (.base (.bl b)), kit_ty (by decide +kernel), _, rfl, ?_⟩
            refine ifF rfl ⟨_, rfl, _, _, _, _, false, rfl, .ty _, (.base (.bl b)), kit_ty (by decide +kernel), _, rfl, ?_⟩
            exact ifF rfl (ifF rfl (st11 Kb (Thing.has hz (.bl b)) fun G' s' => fin G' _ _ (Kb.same s') _ rfl))
          | int i h0 h1 =>
            refine ⟨_, rfl, _, _, _, _, false, rfl, .ty _, (.base (.int i)), kit_ty (by decide +kernel), _, rfl, ?_⟩
            refine ifF rfl ⟨_, rfl, _, _, _, _, false, rfl, .ty _, (.base (.int i)), kit_ty (by decide +kernel), _, rfl, ?_⟩
            refine ifF rfl ⟨_, rfl, _, _, _, _, false, rfl, .ty _, (.base (.int i)), kit_ty (by decide +kernel), _, rfl, ?_⟩
            exact ifF rfl (ifF rfl (st11 Kb (Thing.has hz (.int i h0 h1)) fun G' s' => fin G' _ _ (Kb.same s') _ rfl))
          | str =>
            refine ⟨_, rfl, _, _, _, _, false, rfl, .ty _, (.base (.str z)), kit_ty (by decide +kernel), _, rfl, ?_⟩
            refine ifF rfl ⟨_, rfl, _, _, _, _, false, rfl, .ty _, (.base (.str z)), kit_ty (by decide +kernel), _, rfl, ?_⟩
            refine ifF rfl ⟨_, rfl, _, _, _, _, false, rfl, .ty _, (.base (.str z)), kit_ty (by decide +kernel), _, rfl, ?_⟩
            exact ifF rfl (ifF rfl (st11 Kb (Thing.has hz .str) fun G' s' => fin G' _ _ (Kb.same s') _ rfl))
          | @tupS t e =>
            refine ⟨_, rfl, _, _, _, _, false, rfl, .ty _, (.base (.tup e)), kit_ty (by decide +kernel), _, rfl, ?_⟩
            refine ifF rfl ⟨_, rfl, _, _, _, _, false, rfl, .ty _, (.base (.tup e)), kit_ty (by decide +kernel), _, rfl, ?_⟩
            refine ifF rfl ⟨_, rfl, _, _, _, _, true, rfl, .ty _, (.base (.tup e)), kit_ty (by decide +kernel), _, rfl, ?_⟩
            refine ifT rfl ⟨_, rfl, t, _, 1, .str z, rfl, rfl, SqT.of e, rfl, _, _, _, _, false, rfl, .ty _, (.base (.str z)), kit_ty (by decide +kernel), _, rfl, ?_⟩
            exact ifF rfl (st11 Kb (Thing.has hz (.tupS e)) fun G' s' => fin G' _ _ (Kb.same s') _ rfl)
          | @tupL t l e el =>
            refine ⟨_, rfl, _, _, _, _, false, rfl, .ty _, (.base (.tup e)), kit_ty (by decide +kernel), _, rfl, ?_⟩
            refine ifF rfl ⟨_, rfl, _, _, _, _, false, rfl, .ty _, (.base (.tup e)), kit_ty (by decide +kernel), _, rfl, ?_⟩
            refine ifF rfl ⟨_, rfl, _, _, _, _, true, rfl, .ty _, (.base (.tup e)), kit_ty (by decide +kernel), _, rfl, ?_⟩
            refine ifT rfl ⟨_, rfl, t, _, 1, .ref l, rfl, rfl, SqT.of e, rfl, _, _, _, _, true, rfl, .ty _, (.base (.lst el)), kit_ty (by decide +kernel), _, rfl, ?_⟩
            refine ifT rfl ⟨_, rfl, t, _, 1, .ref l, rfl, rfl, SqT.of e, rfl, .inl ⟨rfl, _, SqL.of el⟩, l, _, _, rfl, rfl, el, (show 1 < sizeLine by decide), ?_⟩
            have htl : t ≠ l := ne_of e el fun z => nomatch z
            have Kc := Kb.updL (o := .lst ([.str z] ++ [.str wLater])) el (show 1 < 28 by decide) (by simp)
            refine st11 Kc ⟨_, ok_tupL hz, fun G s => .tup (s _ _ (by rw [upd_ne htl]; exact e)) (.cons (.str _) (.cons (.lst (s _ _ upd_same) (.cons (.str _) (.cons (.str _) .nil))) .nil))⟩ fun G' s' => fin G' _ _ (Kc.same s') _ rfl
          | @dic t l e el =>
            have htl : t ≠ l := ne_of e el fun z => nomatch z
            refine ⟨_, rfl, _, _, _, _, false, rfl, .ty _, (.base (.dK e)), kit_ty (by decide +kernel), _, rfl, ?_⟩
            refine ifF rfl ⟨_, rfl, _, _, _, _, true, rfl, .ty _, (.base (.dK e)), kit_ty (by decide +kernel), _, rfl, ?_⟩
            refine ifT rfl ⟨_, rfl, _, rfl, t, .ref l, rfl, get_word e, .inl ⟨rfl, _, SqL.of el⟩, l, _, _, rfl, rfl, el, (show 1 < sizeLine by decide), ?_⟩
            have e' : upd Hb l (.lst ([.str z] ++ [.str wLater])) t = some (.dK [(Sum.inr z, .ref l)]) := by rw [upd_ne htl]; exact e
            have Kc := Kb.updL (o := .lst ([.str z] ++ [.str wLater])) el (show 1 < 28 by decide) (by simp)
            refine ⟨_, rfl, t, _, rfl, DPut.k (k := Sum.inr "LATER") e' (show 1 < sizeLine by decide), ?_⟩
            rw [put_later hz]
            have Kd := Kc.updD (o := .dK [(Sum.inr z, .ref l), (Sum.inr "LATER", .int 1)]) e'
            have e2 : upd (upd Hb l (.lst ([.str z] ++ [.str wLater]))) t (.dK [(Sum.inr z, .ref l), (Sum.inr "LATER", .int 1)]) t = some (.dK [(Sum.inr z, .ref l), (Sum.inr "LATER", .int 1)]) := upd_same
            refine ⟨_, rfl, _, _, _, _, false, rfl, .ty _, (.base (.dK e2)), kit_ty (by decide +kernel), _, rfl, ?_⟩
            refine ifF rfl (ifF rfl (st11 Kd ⟨_, ok_dic hz, fun G s => dd_dict2 (s _ _ upd_same) (.lst (s _ _ (by rw [upd_ne (Ne.symm htl)]; exact upd_same)) (.cons (.str _) (.cons (.str _) .nil))) (.int 1)⟩ fun G' s' => fin G' _ _ (Kd.same s') _ rfl))
          | @lst1 t e =>
            refine ⟨_, rfl, _, _, _, _, true, rfl, .ty _, (.base (.lst e)), kit_ty (by decide +kernel), _, rfl, ?_⟩
            refine ifT rfl ⟨_, rfl, .inl ⟨rfl, _, SqL.of e⟩, t, _, _, rfl, rfl, e, (show 1 < sizeLine by decide), ?_⟩
            have Kc := Kb.updL (o := .lst ([.str z] ++ [.str wLater])) e (by simp only [List.length]; omega) (by simp)
            have e2 : upd Hb t (.lst ([.str z] ++ [.str wLater])) t = some (.lst ([.str z] ++ [.str wLater])) := upd_same
            refine ⟨_, rfl, _, _, _, _, false, rfl, .ty _, (.base (.lst e2)), kit_ty (by decide +kernel), _, rfl, ?_⟩
            refine ifF rfl ⟨_, rfl, _, _, _, _, false, rfl, .ty _, (.base (.lst e2)), kit_ty (by decide +kernel), _, rfl, ?_⟩
            exact ifF rfl (ifF rfl (st11 Kc ⟨_, ok_pair hz, fun G s => .lst (s _ _ upd_same) (.cons (.str _) (.cons (.str _) .nil))⟩ fun G' s' => fin G' _ _ (Kc.same s') _ rfl))
          | @lst2 t l m e el em =>
            refine ⟨_, rfl, _, _, _, _, true, rfl, .ty _, (.base (.lst e)), kit_ty (by decide +kernel), _, rfl, ?_⟩
            refine ifT rfl ⟨_, rfl, .inl ⟨rfl, _, SqL.of e⟩, t, _, _, rfl, rfl, e, (show 2 < sizeLine by decide), ?_⟩
            have Kc := Kb.updL (o := .lst ([.ref l, .ref m] ++ [.str wLater])) e (by simp only [List.length]; omega) (by simp)
            have e2 : upd Hb t (.lst ([.ref l, .ref m] ++ [.str wLater])) t = some (.lst ([.ref l, .ref m] ++ [.str wLater])) := upd_same
            have hlt : l ≠ t := ne_of el e fun z => by injection z with z; cases z
            have hmt : m ≠ t := ne_of em e fun z => nomatch z
            refine ⟨_, rfl, _, _, _, _, false, rfl, .ty _, (.base (.lst e2)), kit_ty (by decide +kernel), _, rfl, ?_⟩
            refine ifF rfl ⟨_, rfl, _, _, _, _, false, rfl, .ty _, (.base (.lst e2)), kit_ty (by decide +kernel), _, rfl, ?_⟩
            exact ifF rfl (ifF rfl (st11 Kc ⟨_, ok_lst2 hz, fun G s => .lst (s _ _ upd_same) (.cons (.lst (s _ _ (by rw [upd_ne hlt]; exact el)) (.cons (.str _) .nil)) (.cons (dd_dict1 (s _ _ (by rw [upd_ne hmt]; exact em)) (.str _)) (.cons (.str _) .nil)))⟩ fun G' s' => fin G' _ _ (Kc.same s') _ rfl))
      · simp at hx
    · rintro σ H2 (⟨h, _⟩ | ⟨_, ep2, v1, v2, v3, v4, v5, v6, v7, v8, rfl⟩)
      · cases h
      refine fun a8 n8 a9 n9 => ⟨(show 2 ≤ sizeLine by decide), fun p9 np9 => ?_⟩
      have i8 : (upd (upd (upd H2 a8 (ExO (.ref (He.ga K "NothingToUndo")) a8)) a9 (ExO (.ref (He.ga K "NothingToRedo")) a9)) p9 (.lst [.ref a8, .ref a9])) a8 = some (ExO (.ref (He.ga K "NothingToUndo")) a8) := Same.upd np9 _ _ (Same.upd n9 _ _ upd_same)
      have i9 : (upd (upd (upd H2 a8 (ExO (.ref (He.ga K "NothingToUndo")) a8)) a9 (ExO (.ref (He.ga K "NothingToRedo")) a9)) p9 (.lst [.ref a8, .ref a9])) a9 = some (ExO (.ref (He.ga K "NothingToRedo")) a9) := Same.upd np9 _ _ upd_same
      have ip : (upd (upd (upd H2 a8 (ExO (.ref (He.ga K "NothingToUndo")) a8)) a9 (ExO (.ref (He.ga K "NothingToRedo")) a9)) p9 (.lst [.ref a8, .ref a9])) p9 = some (.lst [.ref a8, .ref a9]) := upd_same
      generalize (upd (upd (upd H2 a8 (ExO (.ref (He.ga K "NothingToUndo")) a8)) a9 (ExO (.ref (He.ga K "NothingToRedo")) a9)) p9 (.lst [.ref a8, .ref a9])) = G at i8 i9 ip ⊢
      refine ⟨_, rfl, p9, rfl, ⟨_, SqL.of ip⟩, fun D nD => ?_⟩
      have hD9 : p9 ≠ D := ne_of_none ip nD
      have k8 : ("NothingToUndo" : Str) ∈ cNames := by decide +kernel
      have k9 : ("NothingToRedo" : Str) ∈ cNames := by decide +kernel
      refine lc_list (K := K) (a := p9) (xs := [.ref a8, .ref a9]) (fun i H' => But D G H' ∧ ((i = 0 ∧ H' D = some (.lst [])) ∨ (i = 1 ∧ ∃ q, q ≠ D ∧ H' q = some (.lst [.int 28]) ∧ H' D = some (.lst [.ref q])) ∨
        (i = 2 ∧ ∃ q r, q ≠ D ∧ r ≠ D ∧ H' q = some (.lst [.int 28]) ∧ H' r = some (.lst [.int 29]) ∧ H' D = some (.lst [.ref q, .ref r])))) ⟨(Same.upd nD).but, .inl ⟨rfl, upd_same⟩⟩ ?_ ?_ ?_
      · rintro i H' hi ⟨hb', _⟩
        exact SqL.of (hb' _ _ hD9 ip)
      · rintro i x H' hx ⟨hb', (⟨rfl, hD⟩ | ⟨rfl, q1, hq1, e1, hD⟩ | ⟨rfl, _⟩)⟩
        · cases hx
          refine ⟨rfl, _, rfl, a8, _, fun y => decide (("NothingToUndo" : Str) = y), rfl, .inr (hb' _ _ (ne_of_none i8 nD) i8), O.x _ k8, fun y hy => O.kit _ k8 y hy, fun H3 q3 s3 nq3 eq3 => ?_⟩
          rw [bl_28] at eq3
          have hqD : q3 ≠ D := fun z => by rw [z, hD] at nq3; cases nq3
          exact ⟨[], s3 _ _ hD, (show 0 < sizeLine by decide), (hb'.trans s3.but).trans But.upd, .inr (.inl ⟨rfl, q3, hqD, by rw [upd_ne hqD]; exact eq3, upd_same⟩)⟩
        · cases hx
          refine ⟨rfl, _, rfl, a9, _, fun y => decide (("NothingToRedo" : Str) = y), rfl, .inr (hb' _ _ (ne_of_none i9 nD) i9), O.x _ k9, fun y hy => O.kit _ k9 y hy, fun H3 q3 s3 nq3 eq3 => ?_⟩
          rw [bl_29] at eq3
          have hqD : q3 ≠ D := fun z => by rw [z, hD] at nq3; cases nq3
          exact ⟨_, s3 _ _ hD, (show 1 < sizeLine by decide), (hb'.trans s3.but).trans But.upd, .inr (.inr ⟨rfl, q1, q3, hq1, hqD, by rw [upd_ne hq1]; exact s3 _ _ e1, by rw [upd_ne hqD]; exact eq3, upd_same⟩)⟩
        · simp at hx
      · rintro H3 ⟨hb3, (⟨h, _⟩ | ⟨h, _⟩ | ⟨_, q1, q2, hq1, hq2, e1, e2, hD⟩)⟩
        · cases h
        · cases h
        have j8 := hb3 _ _ (ne_of_none i8 nD) i8
        have j9 := hb3 _ _ (ne_of_none i9 nD) i9
        have jp := hb3 _ _ hD9 ip
        refine ⟨(show 1 ≤ sizeLine by decide), fun l1 nl1 => ⟨(show 1 ≤ sizeLine by decide), fun l2 nl2 => ⟨(show 2 ≤ sizeLine by decide), fun l3 nl3 => ?_⟩⟩⟩
        have sl : Same H3 (upd (upd (upd H3 l1 (.lst [.int 28])) l2 (.lst [.int 29])) l3 (.lst [.ref l1, .ref l2])) := ((Same.upd nl1).trans (Same.upd nl2)).trans (Same.upd nl3)
        have c1 : (upd (upd (upd H3 l1 (.lst [.int 28])) l2 (.lst [.int 29])) l3 (.lst [.ref l1, .ref l2])) l1 = some (.lst [.int 28]) := Same.upd nl3 _ _ (Same.upd nl2 _ _ upd_same)
        have c2 : (upd (upd (upd H3 l1 (.lst [.int 28])) l2 (.lst [.int 29])) l3 (.lst [.ref l1, .ref l2])) l2 = some (.lst [.int 29]) := Same.upd nl3 _ _ upd_same
        have c3 : (upd (upd (upd H3 l1 (.lst [.int 28])) l2 (.lst [.int 29])) l3 (.lst [.ref l1, .ref l2])) l3 = some (.lst [.ref l1, .ref l2]) := upd_same
        generalize (upd (upd (upd H3 l1 (.lst [.int 28])) l2 (.lst [.int 29])) l3 (.lst [.ref l1, .ref l2])) = G2 at sl c1 c2 c3 ⊢
        refine ⟨.list [.list [.int 28], .list [.int 29]], .list [.list [.int 28], .list [.int 29]], .lst (SqL.of (sl _ _ hD)) (.cons (.lst (SqL.of (sl _ _ e1)) (.cons (.int _) .nil)) (.cons (.lst (SqL.of (sl _ _ e2)) (.cons (.int _) .nil)) .nil)),
          .lst (SqL.of c3) (.cons (.lst (SqL.of c1) (.cons (.int _) .nil)) (.cons (.lst (SqL.of c2) (.cons (.int _) .nil)) .nil)), by decide +kernel, by decide +kernel, _, rfl, ?_⟩
        have ee : PyData.eqv (.list [.list [.int 28], .list [.int 29]]) (.list [.list [.int 28], .list [.int 29]]) = true := by decide +kernel
        rw [ee]
        refine ifF rfl ?_
        have m8 := sl _ _ j8
        have m9 := sl _ _ j9
        have mp := sl _ _ jp
        -- one of the class of all
        refine ⟨_, rfl, .inl ⟨rfl, _, SqL.of mp⟩, fun a10 n10 => ⟨p9, _, _, rfl, rfl, Same.upd n10 _ _ mp, (show 2 < sizeLine by decide), ?_⟩⟩
        have h8 : a8 ≠ p9 := ne_of m8 mp exO_nlst
        have h9 : a9 ≠ p9 := ne_of m9 mp exO_nlst
        have h10 : a10 ≠ p9 := fun z => by rw [z, mp] at n10; cases n10
        have o8 : (upd (upd G2 a10 (ExO (.ref (He.ga K "SpreadError")) a10)) p9 (.lst ([.ref a8, .ref a9] ++ [.ref a10]))) a8 = some (ExO (.ref (He.ga K "NothingToUndo")) a8) := by rw [upd_ne h8]; exact Same.upd n10 _ _ m8
        have o9 : (upd (upd G2 a10 (ExO (.ref (He.ga K "SpreadError")) a10)) p9 (.lst ([.ref a8, .ref a9] ++ [.ref a10]))) a9 = some (ExO (.ref (He.ga K "NothingToRedo")) a9) := by rw [upd_ne h9]; exact Same.upd n10 _ _ m9
        have o10 : (upd (upd G2 a10 (ExO (.ref (He.ga K "SpreadError")) a10)) p9 (.lst ([.ref a8, .ref a9] ++ [.ref a10]))) a10 = some (ExO (.ref (He.ga K "SpreadError")) a10) := by rw [upd_ne h10]; exact upd_same
        have op : (upd (upd G2 a10 (ExO (.ref (He.ga K "SpreadError")) a10)) p9 (.lst ([.ref a8, .ref a9] ++ [.ref a10]))) p9 = some (.lst [.ref a8, .ref a9, .ref a10]) := upd_same
        generalize (upd (upd G2 a10 (ExO (.ref (He.ga K "SpreadError")) a10)) p9 (.lst ([.ref a8, .ref a9] ++ [.ref a10]))) = G3 at o8 o9 o10 op ⊢
        refine ⟨_, rfl, p9, rfl, ⟨_, SqL.of op⟩, fun D3 nD3 => ?_⟩
        have hD3 : p9 ≠ D3 := ne_of_none op nD3
        refine lc_list (K := K) (a := p9) (xs := [.ref a8, .ref a9, .ref a10]) (fun i H' => But D3 G3 H' ∧ H' D3 = some (.lst ((List.replicate i true).map V.bl))) ⟨(Same.upd nD3).but, upd_same⟩ ?_ ?_ ?_
        · rintro i H' hi ⟨hb', _⟩
          exact SqL.of (hb' _ _ hD3 op)
        · rintro i x H' hx ⟨hb', hD'⟩
          match i, hx with
          | 0, hx =>
            cases hx
            exact ⟨rfl, _, rfl, a8, _, rfl, .inr (hb' _ _ (ne_of_none o8 nD3) o8), O.x _ k8, O.sp _ k8, O.ve _ k8, _, hD', (show 0 < sizeLine by decide), hb'.trans But.upd, upd_same⟩
          | 1, hx =>
            cases hx
            exact ⟨rfl, _, rfl, a9, _, rfl, .inr (hb' _ _ (ne_of_none o9 nD3) o9), O.x _ k9, O.sp _ k9, O.ve _ k9, _, hD', (show 1 < sizeLine by decide), hb'.trans But.upd, upd_same⟩
          | 2, hx =>
            cases hx
            exact ⟨rfl, _, rfl, a10, _, rfl, .inr (hb' _ _ (ne_of_none o10 nD3) o10), O.xS, O.spS, O.veS, _, hD', (show 2 < sizeLine by decide), hb'.trans But.upd, upd_same⟩
          | i + 3, hx => cases hx
        · rintro H4 ⟨hb4, hD4⟩
          refine ⟨D3, _, rfl, SqL.of hD4, _, rfl, ?_⟩
          refine ⟨_, rfl, p9, _, 2, .ref a10, rfl, rfl, SqL.of (hb4 _ _ hD3 op), rfl, a10, _, fun _ => false, rfl, .inr (hb4 _ _ (ne_of_none o10 nD3) o10), O.xS, O.kitS, fun H5 q5 s5 nq5 eq5 => ⟨(show 0 ≤ sizeLine by decide), fun l5 nl5 => ?_⟩⟩
          rw [bl_no] at eq5
          refine ⟨.list [], .list [], .lst (SqL.of (Same.upd nl5 _ _ eq5)) .nil, .lst (SqL.of upd_same) .nil, rfl, rfl, ?_⟩
          have ee : PyData.eqv (.list []) (.list []) = true := by decide +kernel
          rw [ee]
          exact hq _
end
end K01
set_option Elab.async false
set_option linter.all false
set_option maxRecDepth 100000
set_option maxHeartbeats 4000000
/-! the head's facts -/
namespace L2
open PySem PySem.Spec PyProof.Rows
/-- the law's own call, of a promise that asks that no repr is under way -/
theorem law_callS {P : Program} {w : World} {K : PySem.W.Frag} {mg mb : Str → Option Value} {CX : CXT} {k : Nat} {fa a : Addr} {fd : FuncData} {x : Str} {sp : Sp} {s₁ : Shared} {vs : List Value} {ns : List Int}
    (KX : K.In s₁.heap) (hns : s₁.heap.Ns mainGlobals mg) (hb : s₁.heap.Ns builtinsNs mb) (hbb : ∀ x : Str, x ≠ "__name__" → mb x = bootBuiltins x) (hlim : s₁.heap.NoLimit) (hg : s₁.gens = #[])
    (ha : s₁.heap.get? a = some { cls := .type "list", data := .seq vs.toArray }) (hi : IntsAre vs ns) (hl : ns.length ≤ sizeLine) (hr : Room k callerA)
    (hs : ∃ o es n, s₁.heap.get? sysModules = some o ∧ o.data = .dict es n) (F : ∀ base : Heap, K.In base → base.Ns mainGlobals mg → (∃ o, base.get? sysModules = some o) → FnG P w K mg base CX k fa fd [x] sp) (hbind : ∀ (s : Shared) (u : Value), BindsTo s fd ⟨[u], []⟩ [(x, u)])
    (hsp : ∀ H : Hp, Only H → SqL K H a (ns.map V.int) → sp [.ref a] H (fun v _ => v = .bl true) fun _ _ _ => False)
    (hCX : ∀ H e s', CX [] H s₁ (fun _ _ _ => False) e s' → False) :
    codeAny (model P w) callerA (.call (.ref fa) ⟨[.ref a], []⟩) (fun r s' => r = .ok (.ret (.bool true)) ∧ OldK s₁.heap s'.heap ∧ s'.os = s₁.os ∧ AllBare s'.gens) s₁ := by
  have rv := vals_ints hi
  have lenV := hi.length
  have core : ∀ H : Hp, Only H → SqL K H a (ns.map V.int) → HOk P w H s₁.heap → (∀ b, H b ≠ none → b = a) → (H a ≠ none → K.lookup a = none) →
      codeAny (model P w) callerA (.call (.ref fa) ⟨[.ref a], []⟩) (fun r s' => r = .ok (.ret (.bool true)) ∧ OldK s₁.heap s'.heap ∧ s'.os = s₁.os ∧ AllBare s'.gens) s₁ := by
    intro H hO hS hok hA hK
    have base_of : ∀ {b : Addr} {o : Obj}, s₁.heap.get? b = some o → H b = none → (hidT s₁.heap H).get? b = some o := fun e n => hidT_get e n
    have noA : ∀ {b : Addr} {o : Obj} {es : Array DictEntry} {ep : Nat}, s₁.heap.get? b = some o → o.data = .dict es ep → H b = none := fun {b o es ep} e d => by
      refine Classical.byContradiction fun q => ?_
      obtain rfl : b = a := hA b q
      rw [ha] at e; cases e
      exact nomatch (show Data.seq vs.toArray _ = Data.dict es ep from d)
    have nsK : ∀ {b : Addr} {m : Str → Option Value}, s₁.heap.Ns b m → (hidT s₁.heap H).Ns b m := fun {b m} ⟨o, es, ep, e, d, r⟩ => ⟨o, es, ep, base_of e (noA e d), d, r⟩
    have hKb : K.In (hidT s₁.heap H) := fun b o e => base_of (KX b o e) (Classical.byContradiction fun q => by
      obtain rfl : b = a := hA b q
      rw [hK q] at e; cases e)
    have hM : Mod K mg (hidT s₁.heap H) := ⟨hKb, nsK hns, ⟨mb, nsK hb, hbb⟩, let ⟨mc, h1, h2⟩ := hlim; ⟨mc, nsK h1, h2⟩⟩
    have e0 : Env0 P w K mg (hidT s₁.heap H) callerA [] s₁ H := ⟨rfl, hM, fun b o e => of_hidT e, Nat.le_of_eq (hidT_size _ _), trivial, fun b hb => absurd (show b ∈ ([] : List Addr) from hb) (by simp), hok, .of_eq hg⟩
    refine codeAny_mono ((F _ hKb (nsK hns) (let ⟨o, es, n, e, d⟩ := hs; ⟨o, base_of e (noA e d)⟩)).go callerA [] s₁ H ⟨[.ref a], []⟩ [.ref a] [.ref a] _ _ rfl hr e0 (hbind s₁ (.ref a)) (.cons rfl .nil) (hsp H hO hS)) fun r s' h => ?_
    match r, h with
    | .error e, h => exact (hCX H e s' h).elim
    | .ok .next, h => exact False.elim h
    | .ok .brk, h => exact False.elim h
    | .ok .cont, h => exact False.elim h
    | .ok (.ret u), h =>
      obtain ⟨v, H', os, bare, un, hok', r', q⟩ := h
      obtain rfl : v = .bl true := q
      obtain rfl : u = Value.bool true := r'
      refine ⟨rfl, OldK.of_keep fun b o e => ?_, os, bare⟩
      cases q : H b with
      | none => exact un.keep b o e q (by intro z; exact absurd (show b ∈ ([] : List Addr) from z) (by simp)) (by simp)
      | some u =>
        rcases hO b with z | ⟨ob, xs, z⟩
        · rw [q] at z; cases z
        · obtain ⟨e1, _⟩ := hok b _ z
          obtain ⟨e2, _⟩ := hok' b _ (un.frzs b ob _ z)
          rw [e] at e1; cases e1
          exact e2
  cases hk : K.lookup a with
  | some o =>
    have e := KX a o hk
    rw [ha] at e
    cases e
    refine core (fun _ => none) (fun _ => .inl rfl) (.inr ⟨_, vs.toArray, _, hk, rfl, rfl, rfl, by rw [List.size_toArray, lenV]; exact hl, by simpa using rv⟩) (fun b u z => by have z' : (none : Option HO) = some u := z; cases z') (fun b z => absurd rfl z) fun z => absurd rfl z
  | none =>
    refine core (fun b => if b = a then some (.frz { cls := .type "list", data := .seq vs.toArray } (.lst (ns.map V.int))) else none) (fun b => ?_) (.inl (.inr ⟨{ cls := .type "list", data := .seq vs.toArray }, if_pos rfl⟩)) (fun b u z => ?_) (fun b z => ?_) fun _ => hk
    · by_cases hb : b = a
      · exact .inr ⟨_, _, if_pos hb⟩
      · exact .inl (if_neg hb)
    · by_cases hb : b = a
      · have z' := (if_pos hb).symm.trans z
        cases z'
        subst hb
        exact ⟨ha, by rw [List.length_map]; exact hl, vs, _, rv, ha⟩
      · have z' := (if_neg hb).symm.trans z
        cases z'
    · by_cases hb : b = a
      · exact hb
      · exact absurd (if_neg hb) z
theorem walk_ofS {l : PySem.W.OpenLaw} {n k : Nat} {q : Program} {loose : List Str} {XP : (Str → Option Value) → Heap → Prop} {YP : World → Heap → Prop} {d : DefRec} {CX : CXT} {x : Str}
    (hn : l.most = some n) (hn2 : n ≤ sizeLine) (hdf : d.params.defaults = []) (hr : Room k callerA)
    (F : ∀ (w : World) (mg : Str → Option Value) (fa : Addr) (h : Heap), YP w h → h.Ns mainGlobals mg → mg d.name = some (.ref fa) →
      ∃ (K : PySem.W.Frag) (fd : FuncData) (sp : Sp), K.In h ∧ (∃ o es n, h.get? sysModules = some o ∧ o.data = .dict es n) ∧ (∀ (s : Shared) (u : Value), BindsTo s fd ⟨[u], []⟩ [(x, u)]) ∧
        (∀ (H : Hp) (a : Addr) (ns : List Int), ns.length ≤ n → Only H → SqL K H a (ns.map V.int) → sp [.ref a] H (fun v _ => v = .bl true) fun _ _ _ => False) ∧
        ∀ base : Heap, K.In base → base.Ns mainGlobals mg → (∃ o, base.get? sysModules = some o) → FnG l.prog w K mg base CX k fa fd [x] sp)
    (hCX : ∀ (H : Hp) (s : Shared) (e : Value) (s' : Shared), CX [] H s (fun _ _ _ => False) e s' → False) :
    PySem.W.WalkO q loose XP YP l.row.toRowW d [] (fun f vs => PySem.call f vs) := by
  refine Att.attach_call hn hdf fun w s₀ s₁ mg mb fa o pm cd doc a vs ns G Y ho hd hcd hmg hobj hints hlen hg => ?_
  obtain ⟨K, fd, sp, KX, hs, hb, hsp, hF⟩ := F w mg fa _ Y G.T.g hmg
  exact law_callS KX G.T.g G.T.b G.T.builtins G.T.nolimit hg hobj hints (Nat.le_trans hlen hn2) hr hs hF hb (fun H hO hS => hsp H a ns hlen hO hS) fun H e s' => hCX H s₁ e s'

theorem binds_ev {K : PySem.W.Frag} {q : Str} {body : List Stmt} {p1 p2 p3 : Pos} {f : Addr} {fd : FuncData}
    (F : FunD K "__init__" q ⟨[], [⟨"self", none, p1⟩, ⟨"value", none, p2⟩], none, [], [], none, [.Constant .none 0 p3]⟩ body ⟨.function, [("self", .local), ("value", .local)], false, false, []⟩ [.non] [] f fd) : EvB K fd := by
  obtain ⟨ds1, r1, b1⟩ := F.binds1 (ps := ["self", "value"]) 2 1 (by simp) rfl fun T kV doc pm an cdv ct us its h1 h2 => match us, h1, its, h2 with | [_, _], _, [_], _ => ⟨_, rfl, rfl⟩
  obtain ⟨ds0, r0, b0⟩ := F.binds1 (ps := ["self", "value"]) 1 0 (by simp) rfl fun T kV doc pm an cdv ct us its h1 h2 => match us, h1, its, h2 with | [_], _, [_], _ => ⟨_, rfl, rfl⟩
  obtain ⟨its, bk⟩ := F.kbindsD (ps := ["self", "value"]) 1 ["value"] (fun us _ ws => us ++ ws) (by simp) (fun a _ c => a.append c) fun T kV doc pm an cdv ct us its ws h1 h2 h3 => match us, h1, its, h2, ws, h3 with | [_], _, [_], _, [_], _ => ⟨_, rfl, rfl⟩
  cases r1
  refine ⟨fun s self u X => b1 s [self, u] X rfl, fun s self X => ?_, fun s self u X => bk.to s [self] [u] X rfl rfl⟩
  cases r0 with
  | cons r rn =>
    cases rn
    rename_i u
    have e : u = Value.none := by
      cases u <;> first | rfl | exact False.elim r | cases r
    subst e
    exact b0 s [self] X rfl
def oexB (K : PySem.W.Frag) (C : Addr) : Bool := match K.lookup C with
  | some ⟨.type "type", _, .cls cd, sl⟩ => (match cd.mro, sl.toList with
    | .ref C' :: bm, [_, _, _, _, some (.builtin n), _] => C' == C && n == "ValueError.__new__" && !cd.hasDel && (cd.hasDict && PySem.HandSPX.refsVE bm)
    | _, _ => false)
  | _ => false
theorem oexB_ok {K : PySem.W.Frag} {C : Addr} (q : oexB K C = true) : ∃ nm q N bs bm sn sub ab col dd k0 k1 k2 k3 k5, K.lookup C = some (excClassObj nm q C N bs bm true sn sub ab col dd k0 k1 k2 k3 k5 "ValueError.__new__") ∧ PySem.HandSPX.refsVE bm = true := by
  unfold oexB at q
  split at q
  · rename_i dd cd sl ho
    split at q
    · rename_i C' bm k0 k1 k2 k3 n k5 hm hs
      simp only [Bool.and_eq_true, beq_iff_eq, Bool.not_eq_true'] at q
      obtain ⟨⟨⟨rfl, rfl⟩, hdel⟩, hdi, hbm⟩ := q
      obtain ⟨nm, bs, mro, ns, qn, hd, sn, sub, ab, col, del⟩ := cd
      dsimp only at hm hdel hdi
      subst hm hdel hdi
      have hsl : sl = #[k0, k1, k2, k3, some (.builtin "ValueError.__new__"), k5] := by
        obtain ⟨l⟩ := sl
        simp only at hs
        rw [hs]
      subst hsl
      exact ⟨nm, qn, ns, bs, bm, sn, sub, ab, col, dd, k0, k1, k2, k3, k5, ho, hbm⟩
    · cases q
  · cases q
abbrev FV : Type := Option (Option Value)
def excB (K : PySem.W.Frag) (C : Addr) : Bool := He.eqO (PySem.W.findIn K (.ref C) "__getattribute__") (some (some (.builtin "BaseException.__getattribute__"))) && (He.eqO (PySem.W.findIn K (.ref C) "__getattr__") (some none) &&
  (decide (PySem.W.subIn K (.ref C) (.type "BaseException") = some true) && (PySem.W.hasDictIn K C && (He.eqO (PySem.W.findIn K (.ref C) "__class__") (some (some (.builtin "object.__class__"))) &&
  (He.eqO (PySem.W.specialIn K (.builtin "object.__class__") "__get__") (some (some (.builtin "getset_descriptor.__get__"))) && (decide (PySem.W.takesIn K (.builtin "object.__class__") = some true) && decide (PySem.W.mroIn K C (.type "object") = some true)))))))
theorem excB_ok {K : PySem.W.Frag} {C : Addr} (h : excB K C = true) : ExcC K C := by
  obtain ⟨h1, h⟩ := He.ba h
  obtain ⟨h2, h⟩ := He.ba h
  obtain ⟨h3, h⟩ := He.ba h
  obtain ⟨h4, h⟩ := He.ba h
  obtain ⟨h5, h⟩ := He.ba h
  obtain ⟨h6, h⟩ := He.ba h
  obtain ⟨h7, h8⟩ := He.ba h
  exact ⟨He.eqO_ok h1, He.eqO_ok h2, of_decide_eq_true h3, h4, He.eqO_ok h5, He.eqO_ok h6, of_decide_eq_true h7, of_decide_eq_true h8⟩
def errB (K : PySem.W.Frag) (C fI : Addr) : Bool := oexB K C && (He.eqO (PySem.W.findIn K (.ref C) "__setattr__") (some (some (.builtin "object.__setattr__"))) && (decide (PySem.W.subIn K (.ref C) (.type "BaseException") = some true) &&
  (decide (PySem.W.typeIn K (.ref C) = some (.type "type")) && (PySem.W.keepIn K (.ref C) && (He.eqO (PySem.W.findIn K (.ref C) "__init__") (some (some (.ref fI))) && (decide (PySem.W.typeIn K (.ref fI) = some (.type "function")) &&
  (He.eqO (PySem.W.findIn K (.ref C) "value") (some none) && excB K C)))))))
theorem errB_ok {K : PySem.W.Frag} {C fI : Addr} (h : errB K C fI = true) : ErrC K C fI := by
  obtain ⟨h1, h⟩ := He.ba h
  obtain ⟨h2, h⟩ := He.ba h
  obtain ⟨h3, h⟩ := He.ba h
  obtain ⟨h4, h⟩ := He.ba h
  obtain ⟨h5, h⟩ := He.ba h
  obtain ⟨h6, h⟩ := He.ba h
  obtain ⟨h7, h⟩ := He.ba h
  obtain ⟨h8, h9⟩ := He.ba h
  exact ⟨⟨oexB_ok h1, He.eqO_ok h2, of_decide_eq_true h3, of_decide_eq_true h4, h5⟩, He.eqO_ok h6, of_decide_eq_true h7, He.eqO_ok h8, excB_ok h9⟩
/-! ### the Hook: facts, more of them, sys.modules -/
def sysB (g : Addr → Option Obj) : Bool := match g sysModules with
  | some ⟨_, _, .dict _ _, _⟩ => true
  | _ => false
theorem sysB_ok {g : Addr → Option Obj} (h : sysB g = true) : ∃ o es n, g sysModules = some o ∧ o.data = .dict es n := by
  unfold sysB at h
  split at h
  · rename_i es n _ e
    exact ⟨_, _, _, e, rfl⟩
  · cases h
abbrev AlS : Type := He.AlD × Bool
def obsS (n : Nat) (fa : List He.Fa) (fn : List He.DefD) (ex : PySem.W.Frag → Bool) (g : Addr → Option Obj) : AlS := (He.obsDG n fa fn g, ex (He.frG g (He.asD g n)) && sysB g)
structure SaysS (fa : List He.Fa) (fn : List He.DefD) (ex : PySem.W.Frag → Bool) (h : Heap) (K : PySem.W.Frag) : Prop where
  d : He.SaysD fa fn K
  more : ex K = true
  sys : ∃ o es n, h.get? sysModules = some o ∧ o.data = .dict es n
def hookS (n : Nat) (fa : List He.Fa) (fn : List He.DefD) (ex : PySem.W.Frag → Bool) : PySem.W.Hook where
  α := AlS
  obs := fun s => obsS n fa fn ex s.heap.get?
  val := fun _ => (He.valD fn, true)
  says := fun _ h => ∃ K : PySem.W.Frag, K.In h ∧ SaysS fa fn ex h K
  of := fun _ s e => by
    have e1 : He.obsDG n fa fn s.heap.get? = He.valD fn := congrArg (fun z : AlS => z.1) e
    have e2 : (ex (He.frG s.heap.get? (He.asD s.heap.get? n)) && sysB s.heap.get?) = true := congrArg (fun z : AlS => z.2) e
    obtain ⟨h1, h2⟩ := He.ba e2
    exact ⟨_, He.frG_in, e1, h1, sysB_ok h2⟩
  keeps := fun _ _ _ ⟨K, hK, c⟩ k => ⟨K, PySem.W.Frag.In.keeps hK k, c.d, c.more, let ⟨o, es, n, e, d⟩ := c.sys; ⟨o, es, n, k _ _ e, d⟩⟩
theorem obsS_eq {n : Nat} {fa : List He.Fa} {fn : List He.DefD} {ex : PySem.W.Frag → Bool} {g : Addr → Option Obj} {s : Shared} (h : ∀ a, g a = s.heap.get? a) : obsS n fa fn ex g = (hookS n fa fn ex).obs s := by
  have e : g = s.heap.get? := funext h
  rw [e] <;> rfl
end L2
namespace K01
open PySem PySem.Spec PyProof.Rows L2
def init (i : Nat) : Stmt := match top (i + 2) with
  | .ClassDef _ _ _ b _ _ _ _ _ _ _ => b.getD 0 (.Pass ⟨0, 0, 0, 0⟩)
  | _ => .Pass ⟨0, 0, 0, 0⟩
def initD (i : Nat) (x q : Str) : He.DefD := ⟨(x, some "__init__"), "__init__", q, defArgs (init i), defBody (init i), defScope (init i), [.non], []⟩
def lawD (x : Str) (st : Stmt) : He.DefD := ⟨(x, none), x, x, defArgs st, defBody st, defScope st, [], []⟩

def fn0 : List He.DefD := [initD 0 "InvalidTable" "InvalidTable.__init__", initD 1 "InvalidKinds" "InvalidKinds.__init__", initD 2 "InvalidKind" "InvalidKind.__init__", initD 3 "InvalidMap" "InvalidMap.__init__", initD 4 "InvalidTriples" "InvalidTriples.__init__", initD 5 "InvalidRule" "InvalidRule.__init__", initD 6 "InvalidThings" "InvalidThings.__init__", initD 7 "InvalidBook" "InvalidBook.__init__", initD 8 "InvalidTerm" "InvalidTerm.__init__", initD 9 "InvalidTerms" "InvalidTerms.__init__", initD 10 "InvalidWord" "InvalidWord.__init__", initD 11 "InvalidCount" "InvalidCount.__init__", initD 12 "InvalidPrices" "InvalidPrices.__init__", initD 13 "InvalidHolding" "InvalidHolding.__init__"]
def fn1 : List He.DefD := [initD 14 "InvalidWorld" "InvalidWorld.__init__", initD 15 "InvalidInputs" "InvalidInputs.__init__", initD 16 "InvalidLines" "InvalidLines.__init__", initD 17 "InvalidProgram" "InvalidProgram.__init__", initD 18 "InvalidFolding" "InvalidFolding.__init__", initD 19 "InvalidBench" "InvalidBench.__init__", initD 20 "InvalidSpot" "InvalidSpot.__init__", initD 21 "InvalidScript" "InvalidScript.__init__", initD 22 "InvalidText" "InvalidText.__init__", initD 23 "InvalidRecord" "InvalidRecord.__init__", initD 24 "Unlike" "Unlike.__init__", initD 25 "Unsettled" "Unsettled.__init__", initD 26 "Apart" "Apart.__init__", initD 27 "Refused" "Refused.__init__"]
def fn2 : List He.DefD := [lawD "_law_purse" sPurse, lawD "_law_mixed" sMixed, lawD "_law_draw" sDraw, lawD "_law_purses" sPurses, lawD "_law_one_of" sOne, lawD "_law_word" sWord, lawD "_law_first" sFirst, lawD "_law_called" sCalled, lawD "_law_bare" sBare, lawD "_law_code" sCode, lawD "_law_is_error" sIsErr, lawD "_law_right" sRight, lawD "law" sLaw]
def fn : List He.DefD := fn0 ++ (fn1 ++ fn2)
def fa0 : List He.Fa := [.glo "InvalidTable", .glo "InvalidKinds", .glo "InvalidKind", .glo "InvalidMap", .glo "InvalidTriples", .glo "InvalidRule", .glo "InvalidThings", .glo "InvalidBook", .glo "InvalidTerm", .glo "InvalidTerms", .glo "InvalidWord", .glo "InvalidCount", .glo "InvalidPrices", .glo "InvalidHolding", .glo "InvalidWorld", .glo "InvalidInputs", .glo "InvalidLines", .glo "InvalidProgram", .glo "InvalidFolding", .glo "InvalidBench"]
def fa1 : List He.Fa := [.glo "InvalidSpot", .glo "InvalidScript", .glo "InvalidText", .glo "InvalidRecord", .glo "Unlike", .glo "Unsettled", .glo "Apart", .glo "Refused", .glo "NothingToUndo", .glo "NothingToRedo", .glo "SpreadError", .glo "_law_purse", .glo "_law_mixed", .glo "_law_draw", .glo "_law_purses", .glo "_law_one_of", .glo "_law_word", .glo "_law_first", .glo "_law_called", .glo "_law_bare"]
def fa2 : List He.Fa := [.glo "_law_code", .glo "_law_is_error", .glo "_law_right", .glo "law", .free "int", .free "max", .free "min", .free "sum", .free "range", .free "len", .free "isinstance", .free "repr", .free "all", .free "ValueError", .free "list", .free "dict", .free "tuple", .exc "NothingToUndo", .exc "NothingToRedo", .exc "SpreadError"]
def fa : List He.Fa := fa0 ++ (fa1 ++ (fa2))
def kitIs (K : PySem.W.Frag) (x y : Value) (b : Bool) : Bool := decide (PySem.W.kitOne K x y = some b)
abbrev gv (K : PySem.W.Frag) (x : Str) : Value := .ref (He.ga K x)
def more (K : PySem.W.Frag) : Bool := (eNames.all fun x => errB K (He.ga K x) (He.ma K (He.ga K x) "__init__")) && ((cNames.all fun x => excB K (He.ga K x)) && (excB K (He.ga K "SpreadError") && ((cNames.all fun x => cNames.all fun y => kitIs K (gv K x) (gv K y) (decide (x = y))) &&
  ((cNames.all fun y => kitIs K (gv K "SpreadError") (gv K y) false) && ((cNames.all fun x => kitIs K (gv K x) (gv K "SpreadError") true) && (kitIs K (gv K "SpreadError") (gv K "SpreadError") true &&
  ((cNames.all fun x => kitIs K (gv K x) (.type "ValueError") true) && kitIs K (gv K "SpreadError") (.type "ValueError") true)))))))
theorem all_at {l : List Str} {p : Str → Bool} (h : l.all p = true) : ∀ x ∈ l, p x = true := List.all_eq_true.mp h
section
variable {P : Program} {w : World} {K : PySem.W.Frag} {mg : Str → Option Value} {base h : Heap}
theorem err_at {d : He.DefD} {x : Str} {i : Nat} {p1 p2 p3 p4 p5 p6 p7 : Pos} (c : He.SaysD fa fn K) (m : more K = true) (hx : x ∈ eNames) (hd : fn[i]? = some d) (e1 : d.at_ = (x, some ("__init__" : Str))) (e2 : d.name = "__init__")
    (e3 : d.params = ⟨[], [⟨"self", none, p1⟩, ⟨"value", none, p2⟩], none, [], [], none, [.Constant .none 0 p3]⟩) (e4 : d.body = [.Assign [.Attribute (.Name "self" p4) "value" p5] (.Name "value" p6) p7])
    (e5 : d.scope = ⟨.function, [("self", .local), ("value", .local)], false, false, []⟩) (e6 : d.dfl = [.non]) (e7 : d.kwd = []) (g : mg x = some (.ref (He.ga K x))) : ErrOk P w K mg base x := by
  obtain ⟨fd, F⟩ := c.def_ i hd
  have hf : He.fAd K d.at_ = He.ma K (He.ga K x) "__init__" := by rw [e1]; rfl
  have hv : d.dvs K = [.non] := by unfold He.DefD.dvs; rw [e6]; rfl
  have hk : d.kws K = [] := by unfold He.DefD.kws; rw [e7]; rfl
  rw [hf, hv, hk, e2, e3, e4, e5] at F
  have T := errB_ok (all_at (He.ba m).1 x hx)
  exact ⟨_, fd, g, T, ok_init T.oex T.noV F ⟨rfl, rfl, rfl, by decide +kernel, rfl, by decide +kernel, by decide +kernel⟩ rfl ⟨.inl rfl, .inl rfl⟩, binds_ev F⟩
theorem cons_all {p : Str → Prop} {a : Str} {l : List Str} (h : p a) (t : ∀ x ∈ l, p x) : ∀ x ∈ a :: l, p x := List.forall_mem_cons.mpr ⟨h, t⟩
theorem nil_all {p : Str → Prop} : ∀ x ∈ ([] : List Str), p x := fun _ h => nomatch h
theorem globs (X : K.In h) (G : h.Ns mainGlobals mg) (c : He.SaysD fa fn K) : ∀ y ∈ cNames, mg y = some (.ref (He.ga K y)) :=
  (cons_all (He.glo_ok X G (c.fact 0 (f := .glo "InvalidTable") rfl))
    (cons_all (He.glo_ok X G (c.fact 1 (f := .glo "InvalidKinds") rfl))
    (cons_all (He.glo_ok X G (c.fact 2 (f := .glo "InvalidKind") rfl))
    (cons_all (He.glo_ok X G (c.fact 3 (f := .glo "InvalidMap") rfl))
    (cons_all (He.glo_ok X G (c.fact 4 (f := .glo "InvalidTriples") rfl))
    (cons_all (He.glo_ok X G (c.fact 5 (f := .glo "InvalidRule") rfl))
    (cons_all (He.glo_ok X G (c.fact 6 (f := .glo "InvalidThings") rfl))
    (cons_all (He.glo_ok X G (c.fact 7 (f := .glo "InvalidBook") rfl))
    (cons_all (He.glo_ok X G (c.fact 8 (f := .glo "InvalidTerm") rfl))
    (cons_all (He.glo_ok X G (c.fact 9 (f := .glo "InvalidTerms") rfl))
    (cons_all (He.glo_ok X G (c.fact 10 (f := .glo "InvalidWord") rfl))
    (cons_all (He.glo_ok X G (c.fact 11 (f := .glo "InvalidCount") rfl))
    (cons_all (He.glo_ok X G (c.fact 12 (f := .glo "InvalidPrices") rfl))
    (cons_all (He.glo_ok X G (c.fact 13 (f := .glo "InvalidHolding") rfl))
    (cons_all (He.glo_ok X G (c.fact 14 (f := .glo "InvalidWorld") rfl))
    (cons_all (He.glo_ok X G (c.fact 15 (f := .glo "InvalidInputs") rfl))
    (cons_all (He.glo_ok X G (c.fact 16 (f := .glo "InvalidLines") rfl))
    (cons_all (He.glo_ok X G (c.fact 17 (f := .glo "InvalidProgram") rfl))
    (cons_all (He.glo_ok X G (c.fact 18 (f := .glo "InvalidFolding") rfl))
    (cons_all (He.glo_ok X G (c.fact 19 (f := .glo "InvalidBench") rfl))
    (cons_all (He.glo_ok X G (c.fact 20 (f := .glo "InvalidSpot") rfl))
    (cons_all (He.glo_ok X G (c.fact 21 (f := .glo "InvalidScript") rfl))
    (cons_all (He.glo_ok X G (c.fact 22 (f := .glo "InvalidText") rfl))
    (cons_all (He.glo_ok X G (c.fact 23 (f := .glo "InvalidRecord") rfl))
    (cons_all (He.glo_ok X G (c.fact 24 (f := .glo "Unlike") rfl))
    (cons_all (He.glo_ok X G (c.fact 25 (f := .glo "Unsettled") rfl))
    (cons_all (He.glo_ok X G (c.fact 26 (f := .glo "Apart") rfl))
    (cons_all (He.glo_ok X G (c.fact 27 (f := .glo "Refused") rfl))
    (cons_all (He.glo_ok X G (c.fact 28 (f := .glo "NothingToUndo") rfl))
    (cons_all (He.glo_ok X G (c.fact 29 (f := .glo "NothingToRedo") rfl))
    nil_all))))))))))))))))))))))))))))))
theorem errs (X : K.In h) (G : h.Ns mainGlobals mg) (c : He.SaysD fa fn K) (m : more K = true) : ∀ x ∈ eNames, ErrOk P w K mg base x :=
  (cons_all (err_at c m (i := 0) (by decide +kernel) rfl rfl rfl rfl rfl rfl rfl rfl (globs X G c _ (by decide +kernel)))
    (cons_all (err_at c m (i := 1) (by decide +kernel) rfl rfl rfl rfl rfl rfl rfl rfl (globs X G c _ (by decide +kernel)))
    (cons_all (err_at c m (i := 2) (by decide +kernel) rfl rfl rfl rfl rfl rfl rfl rfl (globs X G c _ (by decide +kernel)))
    (cons_all (err_at c m (i := 3) (by decide +kernel) rfl rfl rfl rfl rfl rfl rfl rfl (globs X G c _ (by decide +kernel)))
    (cons_all (err_at c m (i := 4) (by decide +kernel) rfl rfl rfl rfl rfl rfl rfl rfl (globs X G c _ (by decide +kernel)))
    (cons_all (err_at c m (i := 5) (by decide +kernel) rfl rfl rfl rfl rfl rfl rfl rfl (globs X G c _ (by decide +kernel)))
    (cons_all (err_at c m (i := 6) (by decide +kernel) rfl rfl rfl rfl rfl rfl rfl rfl (globs X G c _ (by decide +kernel)))
    (cons_all (err_at c m (i := 7) (by decide +kernel) rfl rfl rfl rfl rfl rfl rfl rfl (globs X G c _ (by decide +kernel)))
    (cons_all (err_at c m (i := 8) (by decide +kernel) rfl rfl rfl rfl rfl rfl rfl rfl (globs X G c _ (by decide +kernel)))
    (cons_all (err_at c m (i := 9) (by decide +kernel) rfl rfl rfl rfl rfl rfl rfl rfl (globs X G c _ (by decide +kernel)))
    (cons_all (err_at c m (i := 10) (by decide +kernel) rfl rfl rfl rfl rfl rfl rfl rfl (globs X G c _ (by decide +kernel)))
    (cons_all (err_at c m (i := 11) (by decide +kernel) rfl rfl rfl rfl rfl rfl rfl rfl (globs X G c _ (by decide +kernel)))
    (cons_all (err_at c m (i := 12) (by decide +kernel) rfl rfl rfl rfl rfl rfl rfl rfl (globs X G c _ (by decide +kernel)))
    (cons_all (err_at c m (i := 13) (by decide +kernel) rfl rfl rfl rfl rfl rfl rfl rfl (globs X G c _ (by decide +kernel)))
    (cons_all (err_at c m (i := 14) (by decide +kernel) rfl rfl rfl rfl rfl rfl rfl rfl (globs X G c _ (by decide +kernel)))
    (cons_all (err_at c m (i := 15) (by decide +kernel) rfl rfl rfl rfl rfl rfl rfl rfl (globs X G c _ (by decide +kernel)))
    (cons_all (err_at c m (i := 16) (by decide +kernel) rfl rfl rfl rfl rfl rfl rfl rfl (globs X G c _ (by decide +kernel)))
    (cons_all (err_at c m (i := 17) (by decide +kernel) rfl rfl rfl rfl rfl rfl rfl rfl (globs X G c _ (by decide +kernel)))
    (cons_all (err_at c m (i := 18) (by decide +kernel) rfl rfl rfl rfl rfl rfl rfl rfl (globs X G c _ (by decide +kernel)))
    (cons_all (err_at c m (i := 19) (by decide +kernel) rfl rfl rfl rfl rfl rfl rfl rfl (globs X G c _ (by decide +kernel)))
    (cons_all (err_at c m (i := 20) (by decide +kernel) rfl rfl rfl rfl rfl rfl rfl rfl (globs X G c _ (by decide +kernel)))
    (cons_all (err_at c m (i := 21) (by decide +kernel) rfl rfl rfl rfl rfl rfl rfl rfl (globs X G c _ (by decide +kernel)))
    (cons_all (err_at c m (i := 22) (by decide +kernel) rfl rfl rfl rfl rfl rfl rfl rfl (globs X G c _ (by decide +kernel)))
    (cons_all (err_at c m (i := 23) (by decide +kernel) rfl rfl rfl rfl rfl rfl rfl rfl (globs X G c _ (by decide +kernel)))
    (cons_all (err_at c m (i := 24) (by decide +kernel) rfl rfl rfl rfl rfl rfl rfl rfl (globs X G c _ (by decide +kernel)))
    (cons_all (err_at c m (i := 25) (by decide +kernel) rfl rfl rfl rfl rfl rfl rfl rfl (globs X G c _ (by decide +kernel)))
    (cons_all (err_at c m (i := 26) (by decide +kernel) rfl rfl rfl rfl rfl rfl rfl rfl (globs X G c _ (by decide +kernel)))
    (cons_all (err_at c m (i := 27) (by decide +kernel) rfl rfl rfl rfl rfl rfl rfl rfl (globs X G c _ (by decide +kernel)))
    nil_all))))))))))))))))))))))))))))
theorem bts (X : K.In h) (G : h.Ns mainGlobals mg) (c : He.SaysD fa fn K) : Bt mg := ⟨He.free_ok X G (c.fact 44 (f := .free "int") rfl), He.free_ok X G (c.fact 45 (f := .free "max") rfl), He.free_ok X G (c.fact 46 (f := .free "min") rfl), He.free_ok X G (c.fact 47 (f := .free "sum") rfl), He.free_ok X G (c.fact 48 (f := .free "range") rfl), He.free_ok X G (c.fact 49 (f := .free "len") rfl), He.free_ok X G (c.fact 50 (f := .free "isinstance") rfl), He.free_ok X G (c.fact 51 (f := .free "repr") rfl), He.free_ok X G (c.fact 52 (f := .free "all") rfl), He.free_ok X G (c.fact 53 (f := .free "ValueError") rfl), He.free_ok X G (c.fact 54 (f := .free "list") rfl), He.free_ok X G (c.fact 55 (f := .free "dict") rfl), He.free_ok X G (c.fact 56 (f := .free "tuple") rfl)⟩
theorem noF (X : K.In h) (G : h.Ns mainGlobals mg) (c : He.SaysD fa fn K) {x : Str} {i j : Nat} (h1 : fa[i]? = some (.glo x)) (h2 : fa[j]? = some (.exc x)) : NoF K mg x := by
  obtain ⟨k1, k2, _⟩ := He.exc_ok (c.fact j h2)
  exact ⟨He.glo_ok X G (c.fact i h1), k1, k2⟩
theorem kitIs_ok {x y : Value} {b : Bool} (h : kitIs K x y b = true) : PySem.W.kitOne K x y = some b := of_decide_eq_true h
theorem clsOk (X : K.In h) (G : h.Ns mainGlobals mg) (c : He.SaysD fa fn K) (m : more K = true) : ClsOk K mg := by
  obtain ⟨_, m⟩ := He.ba m
  obtain ⟨m1, m⟩ := He.ba m
  obtain ⟨m2, m⟩ := He.ba m
  obtain ⟨m3, m⟩ := He.ba m
  obtain ⟨m4, m⟩ := He.ba m
  obtain ⟨m5, m⟩ := He.ba m
  obtain ⟨m6, m⟩ := He.ba m
  obtain ⟨m7, m8⟩ := He.ba m
  exact ⟨globs X G c, He.glo_ok X G (c.fact 30 (f := .glo "SpreadError") rfl), fun y hy => excB_ok (all_at m1 y hy), excB_ok m2, fun x hx y hy => kitIs_ok (all_at (all_at m3 x hx) y hy), fun y hy => kitIs_ok (all_at m4 y hy),
    fun y hy => kitIs_ok (all_at m5 y hy), kitIs_ok m6, fun y hy => kitIs_ok (all_at m7 y hy), kitIs_ok m8⟩
theorem defsOk (X : K.In h) (G : h.Ns mainGlobals mg) (c : He.SaysD fa fn K) : Defs K mg := by
  obtain ⟨d1, F1⟩ := c.def_ 28 (d := lawD "_law_purse" sPurse) rfl
  obtain ⟨d2, F2⟩ := c.def_ 29 (d := lawD "_law_mixed" sMixed) rfl
  obtain ⟨d3, F3⟩ := c.def_ 30 (d := lawD "_law_draw" sDraw) rfl
  obtain ⟨d4, F4⟩ := c.def_ 31 (d := lawD "_law_purses" sPurses) rfl
  obtain ⟨d5, F5⟩ := c.def_ 32 (d := lawD "_law_one_of" sOne) rfl
  obtain ⟨d6, F6⟩ := c.def_ 33 (d := lawD "_law_word" sWord) rfl
  obtain ⟨d7, F7⟩ := c.def_ 34 (d := lawD "_law_first" sFirst) rfl
  obtain ⟨d8, F8⟩ := c.def_ 35 (d := lawD "_law_called" sCalled) rfl
  obtain ⟨d9, F9⟩ := c.def_ 36 (d := lawD "_law_bare" sBare) rfl
  obtain ⟨d10, F10⟩ := c.def_ 37 (d := lawD "_law_code" sCode) rfl
  obtain ⟨d11, F11⟩ := c.def_ 38 (d := lawD "_law_is_error" sIsErr) rfl
  obtain ⟨d12, F12⟩ := c.def_ 39 (d := lawD "_law_right" sRight) rfl
  exact ⟨fun k => k _ _ _ _ _ _ _ _ _ _ _ _ _ _ _ _ _ _ _ _ _ _ _ _ F1 (He.glo_ok X G (c.fact 31 (f := .glo "_law_purse") rfl)) F2 (He.glo_ok X G (c.fact 32 (f := .glo "_law_mixed") rfl)) F3 (He.glo_ok X G (c.fact 33 (f := .glo "_law_draw") rfl)) F4 (He.glo_ok X G (c.fact 34 (f := .glo "_law_purses") rfl)) F5 (He.glo_ok X G (c.fact 35 (f := .glo "_law_one_of") rfl)) F6 (He.glo_ok X G (c.fact 36 (f := .glo "_law_word") rfl)) F7 (He.glo_ok X G (c.fact 37 (f := .glo "_law_first") rfl)) F8 (He.glo_ok X G (c.fact 38 (f := .glo "_law_called") rfl)) F9 (He.glo_ok X G (c.fact 39 (f := .glo "_law_bare") rfl)) F10 (He.glo_ok X G (c.fact 40 (f := .glo "_law_code") rfl)) F11 (He.glo_ok X G (c.fact 41 (f := .glo "_law_is_error") rfl)) F12 (He.glo_ok X G (c.fact 42 (f := .glo "_law_right") rfl))⟩
theorem facts {f : Addr} (X : K.In h) (G : h.Ns mainGlobals mg) (hfa : mg ("law" : Str) = some (.ref f)) (s : SaysS fa fn more h K) :
    ∃ fd : FuncData, (∀ (s : Shared) (v : Value), BindsTo s fd ⟨[v], []⟩ [("_law_script", v)]) ∧ ∀ base : Heap, K.In base → base.Ns mainGlobals mg → (∃ o, base.get? sysModules = some o) → FnG P w K mg base CX0 4 f fd ["_law_script"] (spLaw K) := by
  have c := s.d
  obtain ⟨fd, F⟩ := c.def_ 40 (d := lawD "law" sLaw) rfl
  have e := hfa.symm.trans (He.glo_ok X G (c.fact 43 (f := .glo "law") rfl))
  cases e
  have b := FunD.bindsA (ps := ["_law_script"]) F fun _ _ _ _ _ _ us hl => match us, hl with | [_], _ => rfl
  exact ⟨fd, fun s v => b s [v] rfl, fun base Xb Gb hb => okLaw (bts X G c) (clsOk X G c s.more) (errs X G c s.more) (noF X G c (i := 28) (j := 57) rfl rfl) (noF X G c (i := 29) (j := 58) rfl rfl) (noF X G c (i := 30) (j := 59) rfl rfl) hb (defsOk X G c) F⟩
end
end K01
set_option Elab.async false
set_option linter.all false
set_option maxRecDepth 100000
set_option maxHeartbeats 0
/-! the head's run -/
namespace K01
open PySem PySem.Spec PyProof.Rows L2
abbrev R : PySem.W.OpenRow := PySem.W.OpenLaw.row PySem.Challenge.rw_kindspreads_k01_errors_made
abbrev hk : PySem.W.Hook := hookS 5 fa fn more
def ob (s : PySem.W.SharedT) : AlS := obsS 5 fa fn more (HandSHeadRun.getT s)
theorem ob_eq (s : PySem.W.SharedT) : ob s = hk.obs s.abs := obsS_eq (HandSHeadRun.getT_eq s)
def loose : List Str := [("SpreadError" : Str)] ++ (cNames ++ (["_law_purse", "_law_mixed", "_law_draw", "_law_purses", "_law_one_of", "_law_word", "_law_first", "_law_called", "_law_bare", "_law_code", "_law_is_error", "_law_right"] : List Str))
theorem run (w : World) : HandSHeadRun.RunEq R (PySem.W.view R.prog [45]) hk ob 9000 loose w := by
  intro os
  kernel_rfl
end K01
set_option Elab.async false
set_option linter.all false
set_option maxRecDepth 100000
set_option maxHeartbeats 0
open PySem PySem.W PySem.Calls PyProof.Rows
theorem PySem.Challenge.cw_kindspreads_k01_errors_made_holds : PySem.Challenge.rw_kindspreads_k01_errors_made.Holds := by
  w_on; o_law
  refine HandSHeadRun.head_any (r := OpenLaw.row PySem.Challenge.rw_kindspreads_k01_errors_made) (q := view (OpenLaw.row PySem.Challenge.rw_kindspreads_k01_errors_made).prog [45]) (H := K01.hk) (ob := K01.ob) (M := 9000) (loose := K01.loose) (d := HandSHeadRun.topDef (OpenLaw.row PySem.Challenge.rw_kindspreads_k01_errors_made).prog 45) (kwd := []) K01.ob_eq
    (by kernel_rfl) (fun s => by kernel_rfl) K01.run (by kernel_rfl) (by kernel_rfl) (by kernel_rfl) (by rfl) (by first | assumption | decide +kernel) (by decide +kernel) ⟨rfl, rfl, rfl, rfl, rfl, by decide +kernel⟩ ?hw ?hc
  case hw => w_witness2
  case hc =>
    refine L2.walk_ofS (l := PySem.Challenge.rw_kindspreads_k01_errors_made) (n := 63) (k := 4) (x := "_law_script") (CX := L2.CX0) rfl (by decide) (by kernel_rfl) ⟨rfl, by decide, by decide⟩ ?F (fun _ _ _ _ z => z)
    intro w mg fa h Y G hmg0
    obtain ⟨K, KX, c⟩ := Y
    have hmg : mg ("law" : PySem.Str) = some (.ref fa) := by
      have e : (HandSHeadRun.topDef (OpenLaw.row PySem.Challenge.rw_kindspreads_k01_errors_made).prog 45).name = ("law" : PySem.Str) := by kernel_rfl
      rw [← e]
      exact hmg0
    obtain ⟨fd, hb, hF⟩ := K01.facts (P := (PySem.Challenge.rw_kindspreads_k01_errors_made).prog) (w := w) KX G hmg c
    exact ⟨K, fd, K01.spLaw K, KX, c.sys, hb, fun H a ns hl _ hS => ⟨a, ns, rfl, hS, fun _ => rfl⟩, hF⟩
