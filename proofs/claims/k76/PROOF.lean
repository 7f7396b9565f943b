import PyProof.Rows.All
import Wide.All
import OpenK.AllK
import Wide.FinOn
import Lean
import PyProof.EqAt
import PyProof.EqKinds
import PyProof.TupleCall
import PyProof.NeKinds
import PyProof.ConsumeWalk
import PyProof.ReprRoads
import PyProof.ReprLen
import PyProof.ZipIter
import PyProof.Draws
import PyProof.EnumMake
import PySem.SetTable
import PyProof.TupleKey
import PyProof.Rows.SetFrom
import PyProof.InstEq
import PyProof.WalksMore
import PyProof.SumWalkG
import PyProof.Rows.SortWalk
import PyProof.ListRange
import KE.KSortTup
import PySem.Challenge.RW_platerest_k76_plates_as_texts
set_option Elab.async false
set_option linter.all false
set_option maxRecDepth 100000
namespace L2
open PySem PySem.W PyProof.Rows
def topRunT (tb : String → Option Builtin) (p : Program) (w : World) (n0 : Nat) (ann : Option Value) : Nat → SharedT → Thread → Option SharedT
  | 0, _, _ => none
  | n + 1, s, t => match through t with
    | true => some s
    | false => match stepOk n0 ann t with
      | false => none
      | true => match stepT (denote tb) p w s t with
        | some (s', t') => topRunT tb p w n0 ann n s' t'
        | none => none
theorem topRun_of {tb : String → Option Builtin} {p : Program} {w : World} {n0 : Nat} {ann : Option Value} : ∀ {n : Nat} {s s' : SharedT} {t : Thread}, topRunT tb p w n0 ann n s t = some s' → topRun tb p w n0 ann n s.abs t = some s'.abs
  | 0, _, _, _, h => by cases h
  | n + 1, s, s', t, h => by
    unfold topRunT at h
    unfold topRun
    cases he : through t with
    | true => rw [he] at h; cases h; rfl
    | false =>
      rw [he] at h
      cases hk : stepOk n0 ann t with
      | false => rw [hk] at h; cases h
      | true =>
        rw [hk] at h
        cases hs : stepT (denote tb) p w s t with
        | none => rw [hs] at h; cases h
        | some r => obtain ⟨s2, t2⟩ := r; rw [hs] at h; rw [stepT_spec hs]; exact topRun_of h
def btOf : List Obj → Nat → BT → BT
  | [], _, t => t
  | o :: os, n, t => btOf os (n + 1) (t.ins n o)
theorem left_of_run {p q : Program} {loose : List Str} {Xt : Shared → Bool} {α : Type} {Yf : Shared → α} {Ya : World → α} {N : Nat} {g0 : Bool} {T0 : Params → BT} {n0 : Nat} {life : Life} {ann : Option Value}
    (e : opening p = plainProg p.main.scope.names) (hN : Nat.ble 600 N = true) (f : ∀ s, fenceModules? p s = some s)
    (h0 : ∀ P, absHeap (T0 P) n0 life = boot_heap P)
    (size : ∀ P, ((boot_heap P).isNs mainGlobals, (boot_heap P).objs.size, (boot_heap P).nsMap mainGlobals "__annotations__") = (true, n0, ann))
    (run : ∀ (w : World) (os : OsState), (topRunT treeTable p w n0 ann N ⟨T0 w.params, n0, life, Array.mk [], boot_drawn, boot_toks, os⟩ (topStub p)).map (fun s => ((staticsOk (importedModules p.main.body) (boot_heap w.params) s.abs.heap && namesBound p s.abs.heap && gensDone s.abs && laidKept (boot_heap w.params) s.abs.heap), openSeen q loose (importedModules p.main.body) Xt g0 s.abs, Yf s.abs)) = some (true, openGood q loose, Ya w)) : LeftO p q loose Xt Yf Ya N g0 := fun w => by
  obtain ⟨⟨h, gs, d, k, os⟩, e1, e2⟩ := Option.map_eq_some_iff.mp (boot_open e hN f w)
  obtain ⟨rfl, rfl, rfl, rfl⟩ : h = boot_heap w.params ∧ gs = Array.mk [] ∧ d = boot_drawn ∧ k = boot_toks := by simpa using e2
  obtain ⟨z1, z2, z3⟩ : _ ∧ _ ∧ _ := by simpa only [Prod.mk.injEq] using size w.params
  obtain ⟨s, r1, r2⟩ := Option.map_eq_some_iff.mp (run w os)
  obtain ⟨l1, l2, l3⟩ : _ ∧ _ ∧ _ := by simpa only [Prod.mk.injEq] using r2
  have r := topRun_of r1
  have ha : SharedT.abs ⟨T0 w.params, n0, life, Array.mk [], boot_drawn, boot_toks, os⟩ = ⟨boot_heap w.params, Array.mk [], boot_drawn, boot_toks, os⟩ := by
    unfold SharedT.abs
    rw [h0]
  rw [ha] at r
  have t : topFrom treeTable p w N ⟨boot_heap w.params, Array.mk [], boot_drawn, boot_toks, os⟩ = some s.abs := by
    unfold topFrom
    dsimp only
    rw [z1, z2, z3, r]
    show (match staticsOk (importedModules p.main.body) (boot_heap w.params) s.abs.heap && namesBound p s.abs.heap && gensDone s.abs && laidKept (boot_heap w.params) s.abs.heap with | true => _ | false => _) = _
    rw [l1]
  unfold openEnds
  rw [e1]
  show (topFrom treeTable p w N _).map _ = _
  rw [t]
  exact congrArg some (Prod.ext l2 l3)
lay_quick L2.topRunT
end L2
namespace L2
open PySem PySem.W PyProof.Rows
theorem run_of_parts {p q : Program} {loose : List Str} {Xt : Shared → Bool} {α : Type} {Yf : Shared → α} {Ya : World → α} {g0 : Bool} {R : World → OsState → Option SharedT}
    (h1 : ∀ w os, (R w os).map (fun s => (staticsOk (importedModules p.main.body) (boot_heap w.params) s.abs.heap && namesBound p s.abs.heap && gensDone s.abs && laidKept (boot_heap w.params) s.abs.heap)) = some true)
    (h2 : ∀ w os, (R w os).map (fun s => openSeen q loose (importedModules p.main.body) Xt g0 s.abs) = some (openGood q loose))
    (h3 : ∀ w os, (R w os).map (fun s => Yf s.abs) = some (Ya w)) (w : World) (os : OsState) :
    (R w os).map (fun s => ((staticsOk (importedModules p.main.body) (boot_heap w.params) s.abs.heap && namesBound p s.abs.heap && gensDone s.abs && laidKept (boot_heap w.params) s.abs.heap), openSeen q loose (importedModules p.main.body) Xt g0 s.abs, Yf s.abs)) = some (true, openGood q loose, Ya w) := by
  have a := h1 w os
  have b := h2 w os
  have c := h3 w os
  cases e : R w os with
  | none => rw [e] at a; cases a
  | some s =>
    rw [e] at a b c
    exact congrArg some (Prod.ext (Option.some.inj a) (Prod.ext (Option.some.inj b) (Option.some.inj c)))
noncomputable abbrev bootT (P : Params) : BT := btOf (boot_heap P).objs.toList 0 .nil
noncomputable def topK (p : Program) (N : Nat) (w : World) (os : OsState) : Option SharedT := topRunT treeTable p w 11 (some (.ref 6)) N ⟨bootT w.params, 11, {}, Array.mk [], boot_drawn, boot_toks, os⟩ (topStub p)
theorem boot_abs : ∀ P, absHeap (bootT P) 11 {} = boot_heap P := fun P => by kernel_rfl
theorem boot_size : ∀ P, ((boot_heap P).isNs mainGlobals, (boot_heap P).objs.size, (boot_heap P).nsMap mainGlobals "__annotations__") = (true, 11, some (.ref 6)) := fun P => by kernel_rfl
def looseOf (p : Program) (names : List Str) : List Str := ((p.main.body.flatMap bindsAtTop).filter fun x => !startupNames.contains x && !names.contains x).eraseDups
end L2

namespace My
open PySem PySem.W PyProof.Rows L2
noncomputable abbrev pw : Program := PySem.Challenge.pw_platerest_k76_plates_as_texts
noncomputable abbrev rr : OpenRow := OpenLaw.row PySem.Challenge.rw_platerest_k76_plates_as_texts
noncomputable abbrev qq : Program := view pw [54]
noncomputable abbrev ll : List Str := looseOf pw ["law"]
set_option maxRecDepth 1000000
set_option maxHeartbeats 0
theorem ws : OpenLaw.wellSaid PySem.Challenge.rw_platerest_k76_plates_as_texts = true := by kernel_rfl
theorem h1 : ∀ w os, (topK pw 3918 w os).map (fun s => (staticsOk (importedModules pw.main.body) (boot_heap w.params) s.abs.heap && namesBound pw s.abs.heap && gensDone s.abs && laidKept (boot_heap w.params) s.abs.heap)) = some true := fun w os => by
  unfold topK topStub
  rw [PySem.W.Fast.te4652649595001227023, PySem.W.Fast.te14364793385576792824, PySem.W.Fast.te17154629097778926822, PySem.W.Fast.te12822647523644345616]
  kernel_rfl
theorem h2 : ∀ w os, (topK pw 3918 w os).map (fun s => openSeen qq ll (importedModules pw.main.body) (fun s => xlAt qq [] s && recOk (RowW.records (OpenRow.toRowW rr)) s) true s.abs) = some (openGood qq ll) := fun w os => by
  unfold topK topStub
  rw [PySem.W.Fast.te4652649595001227023, PySem.W.Fast.te14364793385576792824, PySem.W.Fast.te17154629097778926822, PySem.W.Fast.te12822647523644345616, PySem.W.Fast.te4187177175401517315]
  kernel_rfl
end My
noncomputable section
set_option Elab.async false
set_option linter.all false
set_option maxRecDepth 100000
namespace L2
open PySem PySem.Spec PyProof.Rows
abbrev Key:=Sum Int Str
def keyIs:Key→Value→Bool
 | .inl k,v=>Value.isInt k v
 | .inr x,v=>Value.isStrOf x v
def keyH (w:World):Key→Int
 | .inl k=>hashInt k
 | .inr x=>hashStr w x
theorem keyIs_shape:∀ {k:Key} {v:Value},keyIs k v=true→(∃ i t,k=Sum.inl i∧v=Value.int i t)∨(∃ x t,k=Sum.inr x∧v=Value.str x t)
 | .inl i,v,h=>by
   obtain ⟨t,e⟩:=Value.isInt_shape (k:=i) (v:=v) h
   exact .inl ⟨i,t,rfl,e⟩
 | .inr x,v,h=>by
   obtain ⟨t,e⟩:=Value.isStrOf_shape (x:=x) (v:=v) h
   exact .inr ⟨x,t,rfl,e⟩
theorem keyIs_int (i:Int) (t:Tok):keyIs (.inl i) (.int i t)=true:=by simp [keyIs,Value.isInt]
theorem keyIs_str (x:Str) (t:Tok):keyIs (.inr x) (.str x t)=true:=by simp [keyIs,Value.isStrOf]
theorem key_ll (a b:Int):decide ((Sum.inl a:Key)=Sum.inl b)=(a == b):=by
 by_cases e:a=b
 · subst e; simp
 · have h:¬ (Sum.inl a:Key)=Sum.inl b:=fun q=>e (Sum.inl.inj q)
   rw [decide_eq_false h]
   exact (beq_eq_false_iff_ne.mpr e).symm
theorem key_rr (a b:Str):decide ((Sum.inr a:Key)=Sum.inr b)=decide (a=b):=by
 by_cases e:a=b
 · subst e; simp
 · have h:¬ (Sum.inr a:Key)=Sum.inr b:=fun q=>e (Sum.inr.inj q)
   rw [decide_eq_false h,decide_eq_false e]
theorem key_lr (a:Int) (b:Str):decide ((Sum.inl a:Key)=Sum.inr b)=false:=decide_eq_false (fun q=>nomatch q)
theorem key_rl (a:Str) (b:Int):decide ((Sum.inr a:Key)=Sum.inl b)=false:=decide_eq_false (fun q=>nomatch q)
def mixKind (prog:Program) (w:World):PySem.KeyKind prog w Key where
 is:=keyIs
 hash:=keyH w
 inj:=fun v a b ha hb=>by
  rcases keyIs_shape ha with ⟨i,t,rfl,rfl⟩ | ⟨x,t,rfl,rfl⟩
  · rcases keyIs_shape hb with ⟨j,u,rfl,e⟩ | ⟨y,u,rfl,e⟩
    · injection e with e1 _; rw [e1]
    · exact nomatch e
  · rcases keyIs_shape hb with ⟨j,u,rfl,e⟩ | ⟨y,u,rfl,e⟩
    · exact nomatch e
    · injection e with e1 _; rw [e1]
 byValue:=fun k v h=>by
  rcases keyIs_shape h with ⟨i,t,rfl,rfl⟩ | ⟨x,t,rfl,rfl⟩ <;> rfl
 pyHash:=fun hv h=>by
  rcases keyIs_shape hv with ⟨i,t,rfl,rfl⟩ | ⟨x,t,rfl,rfl⟩
  · exact wpAny_pyHash_int h
  · exact wpAny_pyHash_str h
 eqBool:=fun hu hv h=>by
  rcases keyIs_shape hu with ⟨i,t,rfl,rfl⟩ | ⟨x,t,rfl,rfl⟩
  · rcases keyIs_shape hv with ⟨j,u,rfl,rfl⟩ | ⟨y,u,rfl,rfl⟩
    · rw [key_ll] at h; exact wpAny_eqBool_int h
    · rw [key_lr] at h; exact SeqAt.EqAt.int_str i t y u _ _ _ _ h
  · rcases keyIs_shape hv with ⟨j,u,rfl,rfl⟩ | ⟨y,u,rfl,rfl⟩
    · rw [key_rl] at h; exact SeqAt.EqAt.str_int x t j u _ _ _ _ h
    · rw [key_rr] at h; exact wpAny_eqBool_str h
 «strs»:=fun k x t v h=>by
  rcases keyIs_shape h with ⟨i,u,rfl,e⟩ | ⟨y,u,rfl,e⟩
  · exact nomatch e
  · injection e with e1 _
    subst e1
    cases v <;> rfl
theorem mixKind_int (prog:Program) (w:World) (i:Int) (t:Tok):(mixKind prog w).is (.inl i) (.int i t)=true:=keyIs_int i t
theorem mixKind_str (prog:Program) (w:World) (x:Str) (t:Tok):(mixKind prog w).is (.inr x) (.str x t)=true:=keyIs_str x t
end L2
namespace L2
open PySem PySem.Spec PyProof.Rows
inductive V where
 | non | bl (b:Bool) | int (i:Int) | str (x:Str) | byt (b:Array UInt8) | flt (b:UInt64) | ref (a:Addr) | ty (n:String)
 deriving DecidableEq
def RelV:V→Value→Prop
 | .non,u=>u=Value.none
 | .bl b,u=>u=Value.bool b
 | .int i,u=>∃ t,u=Value.int i t
 | .str x,u=>∃ t,u=Value.str x t
 | .byt b,u=>∃ t,u=Value.bytes b t
 | .flt b,u=>∃ t,u=Value.float b t
 | .ref a,u=>u=Value.ref a
 | .ty n,u=>u=Value.type n
abbrev Vals:List V→List Value→Prop:=Paired RelV
theorem Vals.length {xs:List V} {us:List Value} (r:Vals xs us):xs.length=us.length:=Paired.length r
theorem Vals.get:∀ {xs:List V} {us:List Value} {i:Nat} {x:V},Vals xs us→xs[i]? = some x→∃ u,us[i]? = some u∧RelV x u
 | _,_,_,_,.nil,e=>by simp at e
 | _,_,0,_,.cons r _,e=>by simp at e; subst e; exact ⟨_,rfl,r⟩
 | _,_,i+1,x,.cons _ t,e=>by
   obtain ⟨u,h1,h2⟩:=Vals.get (i:=i) (x:=x) t (by simpa using e)
   exact ⟨u,by simpa using h1,h2⟩
theorem Vals.set {x:V} {u:Value} (r:RelV x u):∀ {xs:List V} {us:List Value} (i:Nat),Vals xs us→Vals (xs.set i x) (us.set i u)
 | _,_,_,.nil=>.nil
 | _,_,0,.cons _ t=>.cons r t
 | _,_,i+1,.cons q t=>.cons q (Vals.set r i t)
theorem Vals.append:∀ {xs ys:List V} {us ws:List Value},Vals xs us→Vals ys ws→Vals (xs++ys) (us++ws)
 | _,_,_,_,.nil,s=>s
 | _,_,_,_,.cons r t,s=>.cons r (Vals.append t s)
theorem Vals.take:∀ {xs:List V} {us:List Value} (n:Nat),Vals xs us→Vals (xs.take n) (us.take n)
 | _,_,0,_=>.nil
 | _,_,_+1,.nil=>.nil
 | _,_,n+1,.cons r t=>.cons r (Vals.take n t)
theorem Vals.drop:∀ {xs:List V} {us:List Value} (n:Nat),Vals xs us→Vals (xs.drop n) (us.drop n)
 | _,_,0,r=>r
 | _,_,_+1,.nil=>.nil
 | _,_,n+1,.cons _ t=>Vals.drop n t
def RelO:Option V→Option Value→Prop
 | some v,some u=>RelV v u
 | none,none=>True
 | _,_=>False
def KV {κ:Type}:List (κ×V)→List (κ×Value)→Prop:=Paired fun (p:κ×V) (q:κ×Value)=>p.1=q.1∧RelV p.2 q.2
def kV:Key→V
 | .inl i=>.int i
 | .inr x=>.str x
inductive HO where
 | lst (xs:List V)
 | tup (xs:List V)
 | dK (kvs:List (Key×V)) | dT (kvs:List (List Key×V))
 | set (S:Int→Bool) (n:Nat)
 | ins (C dx:Addr) (fs:List (Str×V))
 | own (x:Addr)
 | xd (fs:List (Str×V))
 | met (f x:Addr)
 | rng (lo hi:Int)
 | frz (o:Obj) (u:HO)
 | tbl (ps:Array Value)
 | ext (φ:Heap→Prop)
abbrev Hp:=Addr→Option HO
def upd (H:Hp) (a:Addr) (o:HO):Hp:=fun b=>if b=a then some o else H b
theorem upd_same {H:Hp} {a:Addr} {o:HO}:upd H a o a=some o:=by unfold upd; rw [if_pos rfl]
theorem upd_ne {H:Hp} {a b:Addr} {o:HO} (h:b≠a):upd H a o b=H b:=by unfold upd; rw [if_neg h]
theorem upd_upd {H:Hp} {a:Addr} {o u:HO}:upd (upd H a o) a u=upd H a u:=by
 funext b; unfold upd; split <;> rfl
theorem ne_of {H:Hp} {a b:Addr} {o u:HO} (h:H a=some o) (h':H b=some u) (d:o≠u):a≠b:=by
 intro e; subst e; rw [h] at h'; exact d (Option.some.inj h')
theorem ne_of_none {H:Hp} {a b:Addr} {o:HO} (h:H a=some o) (h':H b=none):a≠b:=by
 intro e; subst e; rw [h] at h'; cases h'
section
variable (P:Program) (w:World)
def ObjOk (H:Hp) (h:Heap) (a:Addr):HO→Prop
 | .lst xs=>xs.length≤sizeLine∧∃ (its:List Value) (n:Nat),Vals xs its∧h.get? a=some { cls:=.type "list",data:=.seq its.toArray n }
 | .tup xs=>xs.length≤sizeLine∧∃ its:List Value,Vals xs its∧IsTup h a its.toArray
 | .dK kvs=>kvs.length≤sizeLine∧(a == sysModules)=false∧∃ vs,KV kvs vs∧h.DictOf (mixKind P w) a vs
 | .dT kvs=>kvs.length≤sizeLine∧(a == sysModules)=false∧∃ xs:List (List Key×Addr×Value),
    Paired (fun (p:List Key×V) (q:List Key×Addr×Value)=>p.1=q.1∧H q.2.1=some (.tup (p.1.map kV))∧RelV p.2 q.2.2) kvs xs ∧
    ∃ o es ep,h.get? a=some o∧o.ExactDict∧o.data=.dict es ep∧es.toList=xs.map (entryOfKey (tupleKind (mixKind P w)))∧(xs.map (·.1)).Nodup
 | .set S n=>h.SetOf (intKind P w) a S n
 | .ins C dx fs=>H dx=some (.own a)∧fs.length≤1000∧dx≠a∧h.get? a=some (PySem.W.instObj C dx) ∧
    ∃ mA,h.Ns1 dx mA∧(∀ f,RelO (fs.lookup f) (mA f))∧PySem.Within mA (fs.map (·.1))
 | .own _=>∃ o,h.get? a=some o
 | .xd fs=>∃ mA,h.Ns1 a mA∧∀ f,RelO (fs.lookup f) (mA f)
 | .rng lo hi=>∃ t u v,h.get? a=some { cls:=.type "range",data:=.fields #[.int lo t,.int hi u,.int 1 v] }
 | .frz o u=>h.get? a=some o∧ObjOk H h a u
 | .tbl ps=>h.get? a=some { cls:=.none,data:=.fields ps }
 | .met f x=>h.get? a=some (PySem.W.methodObj (.ref f) (.ref x))
 | .ext φ=>φ h∧(∃ o,h.get? a=some o)∧∀ h1 h2:Heap,φ h1→(∀ o,h1.get? a=some o→h2.get? a=some o)→φ h2
def HOk (H:Hp) (h:Heap):Prop:=∀ a o,H a=some o→ObjOk P w H h a o
end
section
variable {P:Program} {w:World} {H H':Hp} {h h':Heap} {a:Addr} {o:HO}
theorem ObjOk.lt (x:ObjOk P w H h a o):a < h.objs.size:=by
 cases o with
 | lst xs=>obtain ⟨_,_,_,_,e⟩:=x; exact Heap.lt_size e
 | tup xs=>obtain ⟨_,_,_,p⟩:=x; exact p.lt
 | dK kvs=>obtain ⟨_,_,_,_,o,_,_,e,_⟩:=x; exact Heap.lt_size e
 | dT kvs=>obtain ⟨_,_,_,_,o,_,_,e,_⟩:=x; exact Heap.lt_size e
 | set S n=>obtain ⟨o,_,_,_,e,_⟩:=x; exact Heap.lt_size e
 | ins C dx fs=>obtain ⟨_,_,_,e,_⟩:=x; exact Heap.lt_size e
 | own y=>obtain ⟨_,e⟩:=x; exact Heap.lt_size e
 | xd fs=>obtain ⟨_,⟨_,_,_,e,_⟩,_⟩:=x; exact Heap.lt_size e
 | rng lo hi=>obtain ⟨_,_,_,e⟩:=x; exact Heap.lt_size e
 | frz ob u=>obtain ⟨e,_⟩:=x; exact Heap.lt_size e
 | tbl ps=>exact Heap.lt_size (show h.get? a=some _ from x)
 | met f y=>exact Heap.lt_size (show h.get? a=some _ from x)
 | ext φ=>obtain ⟨_,⟨_,e⟩,_⟩:=x; exact Heap.lt_size e
theorem Paired.mapP {α β:Type} {F G:α→β→Prop}:∀ {l₁:List α} {l₂:List β},Paired F l₁ l₂→(∀ a b,F a b→G a b)→Paired G l₁ l₂
 | _,_,.nil,_=>.nil
 | _,_,.cons r t,f=>.cons (f _ _ r) (Paired.mapP t f)
theorem ObjOk.stay (x:ObjOk P w H h a o) (k:∀ b u,(b=a∨H b=some (.own a))→h.get? b=some u→h'.get? b=some u)
 (ho:∀ b,H b=some (.own a)→H' b=some (.own a)) (ht:∀ b xs,H b=some (.tup xs)→H' b=some (.tup xs)):ObjOk P w H' h' a o:=by
 induction o with
 | lst xs=>obtain ⟨z,its,n,r,e⟩:=x; exact ⟨z,its,n,r,k _ _ (.inl rfl) e⟩
 | tup xs=>obtain ⟨z,its,r,ob,e,c⟩:=x; exact ⟨z,its,r,ob,k _ _ (.inl rfl) e,c⟩
 | dK kvs=>obtain ⟨z,y,vs,r,ob,es,ep,e,c⟩:=x; exact ⟨z,y,vs,r,ob,es,ep,k _ _ (.inl rfl) e,c⟩
 | dT kvs =>
   obtain ⟨z,y,xs,r,ob,es,ep,e,c⟩:=x
   exact ⟨z,y,xs,Paired.mapP r fun p q z=>⟨z.1,ht _ _ z.2.1,z.2.2⟩,ob,es,ep,k _ _ (.inl rfl) e,c⟩
 | set S n=>obtain ⟨ob,es,ep,t,e,c⟩:=x; exact ⟨ob,es,ep,t,k _ _ (.inl rfl) e,c⟩
 | ins C dx fs =>
   obtain ⟨d,z,ne,e,mA,⟨od,es,ep,e2,c⟩,r⟩:=x
   exact ⟨ho _ d,z,ne,k _ _ (.inl rfl) e,mA,⟨od,es,ep,k _ _ (.inr d) e2,c⟩,r⟩
 | own y=>obtain ⟨ob,e⟩:=x; exact ⟨ob,k _ _ (.inl rfl) e⟩
 | xd fs=>obtain ⟨mA,⟨od,es,ep,e,c⟩,r⟩:=x; exact ⟨mA,⟨od,es,ep,k _ _ (.inl rfl) e,c⟩,r⟩
 | rng lo hi=>obtain ⟨t,u,v,e⟩:=x; exact ⟨t,u,v,k _ _ (.inl rfl) e⟩
 | frz ob u ih=>obtain ⟨e,q⟩:=x; exact ⟨k _ _ (.inl rfl) e,ih q⟩
 | tbl ps =>
   have e:h.get? a=some { cls:=.none,data:=.fields ps }:=x
   show h'.get? a=some { cls:=.none,data:=.fields ps }
   exact k a _ (.inl rfl) e
 | met f y =>
   have e:h.get? a=some (PySem.W.methodObj (.ref f) (.ref y)):=x
   show h'.get? a=some (PySem.W.methodObj (.ref f) (.ref y))
   exact k a _ (.inl rfl) e
 | ext φ=>obtain ⟨p,⟨o,e⟩,st⟩:=x; exact ⟨st _ _ p fun o q=>k _ _ (.inl rfl) q,⟨o,k _ _ (.inl rfl) e⟩,st⟩
theorem HOk.lt (x:HOk P w H h) (e:H a=some o):a < h.objs.size:=(x a o e).lt
theorem HOk.fresh (x:HOk P w H h) (e:h.objs.size≤a):H a=none:=by
 cases q:H a with
 | none=>rfl
 | some u=>exact absurd (Nat.lt_of_lt_of_le (x.lt q) e) (Nat.lt_irrefl _)
theorem HOk.kept (x:HOk P w H h) (k:∀ b u,h.get? b=some u→h'.get? b=some u):HOk P w H h':=fun a o e =>
 (x a o e).stay (fun b u _ q=>k b u q) (fun _ q=>q) fun _ _ q=>q
theorem HOk.laid (x:HOk P w H h) (k:∀ b u,h.get? b=some u→h'.get? b=some u) (hp:h.objs.size≤a) (new:ObjOk P w (upd H a o) h' a o):HOk P w (upd H a o) h':=fun b u e=>by
 have hn:=x.fresh hp
 by_cases hb:b=a
 · subst hb; rw [upd_same] at e; cases e; exact new
 · rw [upd_ne hb] at e
   exact (x b u e).stay (fun c v _ q=>k c v q) (fun c q=>by rw [upd_ne (ne_of_none q hn)]; exact q) fun c xs q=>by rw [upd_ne (ne_of_none q hn)]; exact q
end
def Rd (H:Hp) (a:Addr) (u:HO):Prop:=H a=some u∨∃ o,H a=some (.frz o u)
theorem Rd.ok {P:Program} {w:World} {H:Hp} {h:Heap} {a:Addr} {u:HO} (r:Rd H a u) (x:HOk P w H h):ObjOk P w H h a u:=by
 rcases r with r | ⟨o,r⟩
 · exact x a u r
 · obtain ⟨_,q⟩:=x a _ r
   exact q
def Mut:Option HO→Prop
 | some (.lst _)=>True
 | some (.dK _)=>True
 | some (.dT _)=>True
 | some (.set _ _)=>True
 | some (.ins _ _ _)=>True
 | some (.ext _)=>True
 | _=>False
section
variable {P:Program} {w:World} {H:Hp} {h h':Heap} {x e:Addr} {o':HO}
theorem HOk.write (ok:HOk P w H h) (mu:Mut (H x)) (he:e=x∨H e=some (.own x)) (k:∀ b u,b≠e→h.get? b=some u→h'.get? b=some u) (heo:∃ u,h'.get? e=some u)
 (new:ObjOk P w (upd H x o') h' x o'):HOk P w (upd H x o') h':=fun b u q=>by
 have nown:∀ c y,H c=some (.own y)→c≠x:=fun c y r z=>by subst z; rw [r] at mu; exact mu
 have ntup:∀ c xs,H c=some (.tup xs)→c≠x:=fun c xs r z=>by subst z; rw [r] at mu; exact mu
 by_cases hb:b=x
 · subst hb; rw [upd_same] at q; cases q; exact new
 · rw [upd_ne hb] at q
   by_cases hbe:b=e
   · have q':H b=some (.own x):=by
      rcases he with z | z
      · exact absurd (hbe.trans z) hb
      · rw [hbe]; exact z
     rw [q] at q'; cases q'
     obtain ⟨v,hv⟩:=heo
     exact ⟨v,by rw [hbe]; exact hv⟩
   · refine (ok b u q).stay (fun c v hc r=>k c v ?_ r) (fun c r=>by rw [upd_ne (nown c b r)]; exact r) fun c xs r=>by rw [upd_ne (ntup c xs r)]; exact r
     rcases hc with rfl | hc
     · exact hbe
     · rintro rfl
       rcases he with z | z
       · exact nown c b hc z
       · rw [hc] at z; cases z; exact hb rfl
end
structure Un (fs ex:List Addr) (H H':Hp) (h h':Heap):Prop where
 keep:∀ b o,h.get? b=some o→H b=none→b∉fs→b∉ex→h'.get? b=some o
 slot:∀ b o,h.get? b=some o→H b=none→b∈fs→b∉ex→∃ sl,h'.get? b=some { o with slots:=sl }
 free:∀ b o,h.get? b=some o→H b=none→b∉ex→H' b=none
 there:∀ b o,h.get? b=some o→b∉ex→∃ o',h'.get? b=some o'
 tups:∀ b xs,H b=some (.tup xs)→H' b=some (.tup xs)
 frzs:∀ b o u,H b=some (.frz o u)→H' b=some (.frz o u)
 tbls:∀ b ps,H b=some (.tbl ps)→∃ more,H' b=some (.tbl (ps++more))
section
variable {fs fs' ex ex':List Addr} {H H1 H2:Hp} {h h1 h2 h':Heap} {a x e:Addr} {o:HO}
theorem Un.any (u:Un fs ex H H1 h h1) {b:Addr} {ob:Obj} (q:h.get? b=some ob) (n:H b=none) (hx:b∉ex):∃ sl,h1.get? b=some { ob with slots:=sl }:=by
 by_cases hb:b∈fs
 · exact u.slot b ob q n hb hx
 · exact ⟨ob.slots,u.keep b ob q n hb hx⟩
theorem Un.kept (k:∀ b u,h.get? b=some u→h'.get? b=some u):Un fs ex H H h h' :=
 ⟨fun b ob q _ _ _=>k b ob q,fun b ob q _ _ _=>⟨ob.slots,k b ob q⟩,fun _ _ _ n _=>n,fun b ob q _=>⟨ob,k b ob q⟩,fun _ _ q=>q,fun _ _ _ q=>q,fun _ ps q=>⟨#[],by rw [q]; simp⟩⟩
theorem Un.refl:Un fs ex H H h h:=Un.kept fun _ _ q=>q
theorem Un.laid (k:∀ b u,h.get? b=some u→h'.get? b=some u) (hp:h.objs.size≤a) (hn:H a=none):Un fs ex H (upd H a o) h h' where
 keep:=fun b u q _ _ _=>k b u q
 slot:=fun b u q _ _ _=>⟨u.slots,k b u q⟩
 free:=fun b u q n _=>by rw [upd_ne (Nat.ne_of_lt (Nat.lt_of_lt_of_le (Heap.lt_size q) hp))]; exact n
 there:=fun b u q _=>⟨u,k b u q⟩
 tups:=fun b xs q=>by rw [upd_ne (ne_of_none q hn)]; exact q
 frzs:=fun b u xs q=>by rw [upd_ne (ne_of_none q hn)]; exact q
 tbls:=fun b ps q=>⟨#[],by rw [upd_ne (ne_of_none q hn),q]; simp⟩
theorem Un.write (mu:Mut (H x)) (he:e=x∨H e=some (.own x)) (k:∀ b u,b≠e→h.get? b=some u→h'.get? b=some u) (heo:∃ u,h'.get? e=some u):Un fs ex H (upd H x o) h h':=by
 have hx:∀ b,H b=none→b≠x:=fun b n z=>by subst z; rw [n] at mu; exact mu
 have hb:∀ b,H b=none→b≠e:=fun b n z=>by
  subst z
  rcases he with r | r
  · exact hx b n r
  · rw [n] at r; cases r
 have hm:∀ b u,H b=some u→¬ Mut (some u)→b≠x:=fun b u q nm z=>by subst z; rw [q] at mu; exact nm mu
 refine ⟨fun b u q n _ _=>k b u (hb b n) q,fun b u q n _ _=>⟨u.slots,k b u (hb b n) q⟩,fun b u q n _=>by rw [upd_ne (hx b n)]; exact n,fun b u q _=>?_,
  fun b xs q=>by rw [upd_ne (hm b _ q fun z=>z)]; exact q,fun b u xs q=>by rw [upd_ne (hm b _ q fun z=>z)]; exact q,fun b ps q=>⟨#[],by rw [upd_ne (hm b _ q fun z=>z),q]; simp⟩⟩
 by_cases hbe:b=e
 · subst hbe; exact heo
 · exact ⟨u,k b u hbe q⟩
end
def trk (h:Heap) (H:Hp):List Addr:=(List.range h.objs.size).filter fun a=>(H a).isSome
def hidT (h:Heap) (H:Hp):Heap:=PySem.W.hideAll h (trk h H)
theorem hidT_size (h:Heap) (H:Hp):(hidT h H).objs.size=h.objs.size:=PySem.W.hideAll_size _ _
theorem hidT_get {h:Heap} {H:Hp} {b:Addr} {o:Obj} (e:h.get? b=some o) (n:H b=none):(hidT h H).get? b=some o :=
 PySem.W.hideAll_get _ e fun hm=>by
  have q:(H b).isSome=true:=(List.mem_filter.mp hm).2
  rw [n] at q; simp at q
theorem of_hidT {h:Heap} {H:Hp} {b:Addr} {o:Obj} (e:(hidT h H).get? b=some o):h.get? b=some o∧H b=none:=by
 have e':h.get? b=some o:=PySem.W.of_hideAll (trk h H) e
 refine ⟨e',?_⟩
 cases q:H b with
 | none=>rfl
 | some x =>
   have hm:b∈trk h H:=List.mem_filter.mpr ⟨List.mem_range.mpr (Heap.lt_size e'),by simp [q]⟩
   have z:(hidT h H).get? b=none:=PySem.W.hideAll_none (trk h H) hm
   rw [z] at e; cases e
end L2
namespace L2
open PySem PySem.Spec PyProof.Rows
structure Mod (K:PySem.W.Frag) (mg:Str→Option Value) (base:Heap):Prop where
 kin:K.In base
 glob:base.Ns mainGlobals mg
 blt:∃ mb,base.Ns builtinsNs mb∧∀ x:Str,x ≠ "__name__" → mb x=bootBuiltins x
 nolimit:base.NoLimit
structure Cx where
 prog:Program
 w:World
 K:PySem.W.Frag
 mg:Str→Option Value
 base:Heap
 A:Around
 N:List Str
 s₀:Shared
 H₀:Hp
 env:Env
 outer:List Env
 stack:List Env
 ex:List Addr
 fn:Str→Bool
 calm:Bool
 pn:List (Addr×Obj)
 xe:Value→Shared→Prop
def frs (l:List Env):List Addr:=l.filterMap (·.frame)
abbrev Cx.fs (X:Cx):List Addr:=frs X.outer
def Vis (sc:Scope) (x:Str):Prop:=sc.names.lookup x=some .local∨sc.names.lookup x=some .cell∨sc.names.lookup x=some .free
def Loc (sc:Scope) (x:Str):Prop:=sc.names.lookup x=some .local∨sc.names.lookup x=some .cell
def Look (env:Env) (h:Heap) (m:Str→Option Value) (x:Str) (u:Value):Prop :=
 (env.kindOf x=some .local∧m x=some u)∨((env.kindOf x=some .cell∨env.kindOf x=some .free)∧∃ c,env.cells.lookup x=some c∧h.IsCell c (some u))
structure Cx.Ok (X:Cx):Prop where
 mod:Mod X.K X.mg X.base
 kind:X.env.scope.kind=.function
 glob:X.env.globals=mainGlobals
 blt:X.env.builtins=builtinsNs
 above:X.s₀.heap.objs.size≤X.env.locals
 inj:∀ x y c,X.env.cells.lookup x=some c→X.env.cells.lookup y=some c→x=y
 has:∀ x,(X.env.kindOf x=some .cell∨X.env.kindOf x=some .free)→∃ c,X.env.cells.lookup x=some c
 cab:∀ x c,X.fn x=true→X.env.cells.lookup x=some c→X.s₀.heap.objs.size≤c
 hd:X.calm=true→X.A.handled=none
 frames:X.A.frames=some X.stack
 stk:X.stack=X.outer∨(X.stack=X.env :: X.outer∧X.env.frame=some X.env.locals)
 exf:∀ b∈X.ex,b≠X.env.locals∧∀ x c,X.env.cells.lookup x=some c→c≠b
 bs:∀ b o,X.base.get? b=some o→X.s₀.heap.get? b=some o∧X.H₀ b=none
 bsz:X.base.objs.size≤X.s₀.heap.objs.size
 noex:∀ b o,X.base.get? b=some o→b∉X.ex
 exfs:∀ b∈X.ex,b∉X.fs
 funs:X.s₀.heap.FunFrames X.base X.outer
 frf:∀ b∈X.fs,X.H₀ b=none
structure Inv (X:Cx) (pins:List (Addr×Obj)) (σ:List (Option V)) (H:Hp) (s:Shared):Prop where
 ok:X.Ok
 os:s.os=X.s₀.os
 bare:AllBare s.gens
 base:Un X.fs X.ex X.H₀ H X.s₀.heap s.heap
 loc:∃ m,s.heap.Ns X.env.locals m∧∀ (i:Nat) (x:Str) (v:V),X.N[i]? = some x→σ[i]? = some (some v)→Vis X.env.scope x→∃ u,RelV v u∧Look X.env s.heap m x u
 cell:∀ x c,X.env.cells.lookup x=some c→∃ v,s.heap.IsCell c v
 free:H X.env.locals=none
 freeC:∀ x c,X.env.cells.lookup x=some c→H c=none∨(X.fn x=false∧∃ o u,H c=some (.frz o u))
 pin:∀ p∈X.pn++pins,s.heap.get? p.1=some p.2∧H p.1=none∧p.1≠X.env.locals∧p.1∉X.fs∧∀ v,p.2.data≠.cell v
 hok:HOk X.prog X.w H s.heap
 len:σ.length=X.N.length
section
variable {X:Cx} {pins:List (Addr×Obj)} {σ:List (Option V)} {H H':Hp} {s:Shared} {h':Heap}
theorem Cx.Ok.nofr (ok:X.Ok) {b:Addr} {o:Obj} (e:X.base.get? b=some o):b∉X.fs:=fun hb=>by
 have:=(ok.funs.mem hb).1
 rw [e] at this; cases this
theorem Inv.bs (I:Inv X pins σ H s):∀ b o,X.base.get? b=some o→s.heap.get? b=some o∧H b=none:=fun b o e =>
 ⟨I.base.keep b o (I.ok.bs b o e).1 (I.ok.bs b o e).2 (I.ok.nofr e) (I.ok.noex b o e),I.base.free b o (I.ok.bs b o e).1 (I.ok.bs b o e).2 (I.ok.noex b o e)⟩
theorem Inv.bk (I:Inv X pins σ H s):∀ b o,X.base.get? b=some o→s.heap.get? b=some o:=fun b o e=>(I.bs b o e).1
theorem Inv.mod (I:Inv X pins σ H s):Mod X.K X.mg X.base:=I.ok.mod
theorem Inv.kIn (I:Inv X pins σ H s):X.K.In s.heap:=I.ok.mod.kin.keeps I.bk
theorem Inv.lt (I:Inv X pins σ H s):X.env.locals < s.heap.objs.size:=let ⟨_,hn,_⟩:=I.loc; hn.lt
theorem Inv.sz (I:Inv X pins σ H s):X.s₀.heap.objs.size≤s.heap.objs.size:=Nat.le_trans I.ok.above (Nat.le_of_lt I.lt)
theorem Inv.nofs (I:Inv X pins σ H s) {a:Addr} (h:s.heap.objs.size≤a):a∉X.fs:=fun hb=>by
 obtain ⟨_,o,ho,_⟩:=I.ok.funs.mem hb
 exact absurd (Nat.lt_of_lt_of_le (Heap.lt_size ho) (Nat.le_trans I.sz h)) (Nat.lt_irrefl _)
theorem Inv.cne (I:Inv X pins σ H s):∀ x c,X.env.cells.lookup x=some c→c≠X.env.locals:=fun x c e z=>by
 obtain ⟨v,o,ho,hd⟩:=I.cell x c e
 obtain ⟨m,⟨o',es,ep,ho',hd',_⟩,_⟩:=I.loc
 rw [z,ho'] at ho; cases ho; rw [hd'] at hd; cases hd
theorem Inv.funs (I:Inv X pins σ H s):s.heap.FunFrames X.base X.outer:=by
 have all:∀ (l:List Env),(∀ b∈frs l,b∈X.fs)→X.s₀.heap.FunFrames X.base l→s.heap.FunFrames X.base l:=by
  intro l
  induction l with
  | nil=>intro _ _; trivial
  | cons env r ih =>
    intro hs hl
    obtain ⟨hk,⟨L,o,hf,hn,ho,hd⟩,hr⟩:=hl
    have hL:L∈X.fs:=hs L (by unfold frs; rw [List.filterMap_cons,hf]; exact List.mem_cons_self)
    obtain ⟨sl,e⟩:=I.base.slot L o ho (I.ok.frf L hL) hL fun z=>I.ok.exfs L z hL
    exact ⟨hk,⟨L,_,hf,hn,e,hd⟩,ih (fun b hb=>hs b (by unfold frs; rw [List.filterMap_cons,hf]; exact List.mem_cons_of_mem _ hb)) hr⟩
 exact all X.outer (fun _ hb=>hb) I.ok.funs
theorem Inv.stack (I:Inv X pins σ H s):s.heap.FunFrames X.base X.stack:=by
 rcases I.ok.stk with e | ⟨e,hf⟩
 · rw [e]; exact I.funs
 · rw [e]
   obtain ⟨m,hn,_⟩:=I.loc
   refine .cons (by rw [I.ok.kind]; decide) hf hn ?_ I.funs
   exact Heap.get?_none_of_le (Nat.le_trans I.ok.bsz I.ok.above)
theorem Inv.stkSub (I:Inv X pins σ H s):∀ b∈frs X.stack,b∈X.env.locals :: X.fs:=fun b hb=>by
 rcases I.ok.stk with e | ⟨e,hf⟩
 · rw [e] at hb; exact List.mem_cons_of_mem _ hb
 · rw [e] at hb
   unfold frs at hb
   rw [List.filterMap_cons,hf] at hb
   exact hb
theorem Inv.stkFree (I:Inv X pins σ H s):∀ b∈frs X.stack,H b=none:=fun b hb=>by
 rcases List.mem_cons.mp (I.stkSub b hb) with e | hb
 · rw [e]; exact I.free
 · obtain ⟨_,o,ho,_⟩:=I.ok.funs.mem hb
   exact I.base.free b o ho (I.ok.frf b hb) fun z=>I.ok.exfs b z hb
theorem Inv.step {g':Array GenState} {t':Nat} {d':Drawn} {ch:List Addr} (I:Inv X pins σ H s)
 (hch:∀ b∈ch,(b∈X.ex∨X.s₀.heap.objs.size≤b)∧b≠X.env.locals∧(∀ x c,X.env.cells.lookup x=some c→c≠b)∧∀ p∈X.pn++pins,p.1≠b)
 (keep:∀ b o,b≠X.env.locals→b∉X.fs→b∉ch→s.heap.get? b=some o→H b=none→h'.get? b=some o)
 (slot:∀ b o,b≠X.env.locals→b∈X.fs→b∉ch→s.heap.get? b=some o→H b=none→∃ sl,h'.get? b=some { o with slots:=sl }) (free:∀ b o,b∉ch→s.heap.get? b=some o→H b=none→H' b=none)
 (there:∀ b o,b∉ch→s.heap.get? b=some o→∃ o',h'.get? b=some o')
 (tups:∀ b xs,H b=some (.tup xs)→H' b=some (.tup xs)) (frzs:∀ b o u,H b=some (.frz o u)→H' b=some (.frz o u)) (tbls:∀ b ps,H b=some (.tbl ps)→∃ more,H' b=some (.tbl (ps++more)))
 (ns:∀ m,s.heap.Ns X.env.locals m→h'.Ns X.env.locals m) (hok:HOk X.prog X.w H' h') (hg:AllBare g') :
 Inv X pins σ H' { s with heap:=h',gens:=g',drawn:=d',toks:=t' }:=by
 have neL:∀ b o,X.s₀.heap.get? b=some o→b≠X.env.locals:=fun b o e=>Nat.ne_of_lt (Nat.lt_of_lt_of_le (Heap.lt_size e) I.ok.above)
 have neC:∀ b o,X.s₀.heap.get? b=some o→b∉X.ex→b∉ch:=fun b o e hx hb=>by
  rcases (hch b hb).1 with z | z
  · exact hx z
  · exact absurd (Nat.lt_of_lt_of_le (Heap.lt_size e) z) (Nat.lt_irrefl _)
 have cellK:∀ x c,X.env.cells.lookup x=some c→∀ v,s.heap.IsCell c v→h'.IsCell c v:=fun x c e v ⟨o,ho,hd⟩=>by
  have nch:c∉ch:=fun z=>(hch c z).2.2.1 x c e rfl
  rcases I.freeC x c e with fz | ⟨_,o',u',fz⟩
  · by_cases hc:c∈X.fs
    · obtain ⟨sl,q⟩:=slot c o (I.cne x c e) hc nch ho fz
      exact ⟨_,q,hd⟩
    · exact ⟨o,keep c o (I.cne x c e) hc nch ho fz,hd⟩
  · have h1:=(I.hok c _ fz).1
    rw [ho] at h1; cases h1
    exact ⟨o,(hok c _ (frzs c o u' fz)).1,hd⟩
 refine ⟨I.ok,I.os,hg,⟨fun b o e n hb hx=>?_,fun b o e n hb hx=>?_,fun b o e n hx=>?_,fun b o e hx=>?_,fun b xs e=>tups b xs (I.base.tups b xs e),fun b o xs e=>frzs b o xs (I.base.frzs b o xs e),fun b ps e=>?_⟩,?_,fun x c e=>?_,?_,fun x c e=>?_,fun p hp=>?_,hok,I.len⟩
 · exact keep b o (neL b o e) hb (neC b o e hx) (I.base.keep b o e n hb hx) (I.base.free b o e n hx)
 · obtain ⟨sl,e1⟩:=I.base.slot b o e n hb hx
   obtain ⟨sl',e2⟩:=slot b _ (neL b o e) hb (neC b o e hx) e1 (I.base.free b o e n hx)
   exact ⟨sl',e2⟩
 · obtain ⟨o',e1⟩:=I.base.there b o e hx
   exact free b o' (neC b o e hx) e1 (I.base.free b o e n hx)
 · obtain ⟨o',e1⟩:=I.base.there b o e hx
   exact there b o' (neC b o e hx) e1
 · obtain ⟨m1,e1⟩:=I.base.tbls b ps e
   obtain ⟨m2,e2⟩:=tbls b _ e1
   exact ⟨m1++m2,by rw [e2,Array.append_assoc]⟩
 · obtain ⟨m,hn,hl⟩:=I.loc
   refine ⟨m,ns m hn,fun i x v e1 e2 e3=>?_⟩
   obtain ⟨u,r,l⟩:=hl i x v e1 e2 e3
   refine ⟨u,r,?_⟩
   rcases l with l | ⟨k,c,e,z⟩
   · exact .inl l
   · exact .inr ⟨k,c,e,cellK x c e _ z⟩
 · obtain ⟨v,z⟩:=I.cell x c e
   exact ⟨v,cellK x c e v z⟩
 · obtain ⟨m,⟨o,_,_,ho,_⟩,_⟩:=I.loc
   exact free _ o (fun z=>(hch _ z).2.1 rfl) ho I.free
 · obtain ⟨v,o,ho,hd⟩:=I.cell x c e
   exact (I.freeC x c e).imp (fun fz=>free c o (fun z=>(hch c z).2.2.1 x c e rfl) ho fz) fun ⟨q,o',u',fz⟩=>⟨q,o',u',frzs c o' u' fz⟩
 · obtain ⟨e,n,ne,nf,d⟩:=I.pin p hp
   have nch:p.1∉ch:=fun z=>(hch p.1 z).2.2.2 p hp rfl
   exact ⟨keep p.1 p.2 ne nf nch e n,free p.1 p.2 nch e n,ne,nf,d⟩
theorem Inv.un {t':Nat} (I:Inv X pins σ H s) (u:Un X.fs [] H H' s.heap h') (hok:HOk X.prog X.w H' h'):Inv X pins σ H' { s with heap:=h',toks:=t' }:=by
 obtain ⟨m,⟨o,es,ep,ho,r⟩,_⟩:=id I.loc
 obtain ⟨sl,hL⟩:=u.any ho I.free (by simp)
 exact I.step (g':=s.gens) (d':=s.drawn) (ch:=[]) (fun _ z=>nomatch z) (fun b o _ hb _ e n=>u.keep b o e n hb (by simp)) (fun b o _ hb _ e n=>u.slot b o e n hb (by simp)) (fun b o _ e n=>u.free b o e n (by simp)) (fun b o _ e=>u.there b o e (by simp)) u.tups u.frzs u.tbls (fun m' hm=>by
  obtain ⟨o',es',ep',ho',r'⟩:=hm
  rw [ho] at ho'; cases ho'
  exact ⟨_,es',ep',hL,r'⟩) hok I.bare
theorem Inv.call {g':Array GenState} {t':Nat} {d':Drawn} {ch:List Addr} (I:Inv X pins σ H s) (u:Un (frs X.stack) ch H H' s.heap h') (hok:HOk X.prog X.w H' h') (hg:AllBare g')
 (hch:∀ b∈ch,(b∈X.ex∨X.s₀.heap.objs.size≤b)∧b≠X.env.locals∧(∀ x c,X.env.cells.lookup x=some c→c≠b)∧∀ p∈X.pn++pins,p.1≠b) :
 Inv X pins σ H' { s with heap:=h',gens:=g',drawn:=d',toks:=t' }:=by
 obtain ⟨m,⟨o,es,ep,ho,r⟩,_⟩:=id I.loc
 obtain ⟨sl,hL⟩:=u.any ho I.free fun z=>(hch _ z).2.1 rfl
 exact I.step (ch:=ch) hch (fun b o hL hb hc e n=>u.keep b o e n (fun z=>(List.mem_cons.mp (I.stkSub b z)).elim hL hb) hc) (fun b o _ _ hc e n=>u.any e n hc) (fun b o hc e n=>u.free b o e n hc) (fun b o hc e=>u.there b o e hc) u.tups u.frzs u.tbls (fun m' hm=>by
  obtain ⟨o',es',ep',ho',r'⟩:=hm
  rw [ho] at ho'; cases ho'
  exact ⟨_,es',ep',hL,r'⟩) hok hg
theorem Inv.turned {t':Nat} {it:Addr} (I:Inv X pins σ H s) (k:∀ b o,b≠it→s.heap.get? b=some o→h'.get? b=some o) (hn:H it=none) (hL:it≠X.env.locals)
 (h1:it∈X.ex∨X.s₀.heap.objs.size≤it) (h2:∀ x c,X.env.cells.lookup x=some c→c≠it) (h3:∀ p∈X.pn++pins,p.1≠it):Inv X pins σ H { s with heap:=h',toks:=t' }:=by
 have nit:∀ b u,H b=some u→b≠it:=fun b u e z=>by rw [z,hn] at e; cases e
 refine I.step (g':=s.gens) (d':=s.drawn) (ch:=[it]) (fun b hb=>?_) (fun b o _ _ hc e _=>k b o (fun z=>hc (by simp [z])) e) (fun b o _ _ hc e _=>⟨o.slots,k b o (fun z=>hc (by simp [z])) e⟩) (fun _ _ _ _ n=>n)
  (fun b o hc e=>⟨o,k b o (fun z=>hc (by simp [z])) e⟩) (fun _ _ e=>e) (fun _ _ _ e=>e) (fun b ps e=>⟨#[],by rw [e]; simp⟩) (fun m hm=>?_) (fun b u e=>?_) I.bare
 · have e:b=it:=by simpa using hb
   subst e
   exact ⟨h1,hL,h2,h3⟩
 · obtain ⟨o,es,ep,ho,r⟩:=hm
   exact ⟨o,es,ep,k _ o (Ne.symm hL) ho,r⟩
 · refine (I.hok b u e).stay (fun c v hc q=>k c v ?_ q) (fun _ q=>q) fun _ _ q=>q
   rcases hc with z | z
   · rw [z]; exact nit b u e
   · exact nit c _ z
theorem Inv.tok (I:Inv X pins σ H s) (t:Nat):Inv X pins σ H { s with toks:=t }:=I.un (h':=s.heap) (t':=t) Un.refl I.hok
theorem Inv.kept {t':Nat} (I:Inv X pins σ H s) (k:∀ b u,s.heap.get? b=some u→h'.get? b=some u):Inv X pins σ H { s with heap:=h',toks:=t' }:=I.un (Un.kept k) (I.hok.kept k)
theorem Inv.laid {a:Addr} {o:HO} {t':Nat} (I:Inv X pins σ H s) (k:∀ b u,s.heap.get? b=some u→h'.get? b=some u) (hp:s.heap.objs.size≤a) (new:ObjOk X.prog X.w (upd H a o) h' a o) :
 Inv X pins σ (upd H a o) { s with heap:=h',toks:=t' }:=I.un (Un.laid k hp (I.hok.fresh hp)) (I.hok.laid k hp new)
theorem Inv.write {x e:Addr} {o:HO} {t':Nat} (I:Inv X pins σ H s) (mu:Mut (H x)) (he:e=x∨H e=some (.own x)) (k:∀ b u,b≠e→s.heap.get? b=some u→h'.get? b=some u) (heo:∃ u,h'.get? e=some u)
 (new:ObjOk X.prog X.w (upd H x o) h' x o):Inv X pins σ (upd H x o) { s with heap:=h',toks:=t' }:=I.un (Un.write mu he k heo) (I.hok.write mu he k heo new)
theorem Inv.pins_of {pins':List (Addr×Obj)} (I:Inv X pins σ H s) (h:∀ p∈pins',s.heap.get? p.1=some p.2∧H p.1=none∧p.1≠X.env.locals∧p.1∉X.fs∧∀ v,p.2.data≠.cell v):Inv X pins' σ H s :=
 ⟨I.ok,I.os,I.bare,I.base,I.loc,I.cell,I.free,I.freeC,fun p hp=>(List.mem_append.mp hp).elim (fun z=>I.pin p (List.mem_append_left _ z)) (h p),I.hok,I.len⟩
theorem nodup_ix {N:List Str} (hN:N.Nodup) {i j:Nat} {x:Str} (a:N[i]? = some x) (b:N[j]? = some x):i=j:=by
 obtain ⟨h1,e1⟩:=List.getElem?_eq_some_iff.mp a
 obtain ⟨h2,e2⟩:=List.getElem?_eq_some_iff.mp b
 exact (List.getElem_inj hN).mp (e1.trans e2.symm)
theorem store_ok2 {M:Model} {A:Around} {E:Value→Shared→Prop} {i:Nat} {x:Str} {v:V} {u:Value} {Q:Unit→Shared→Prop} (I:Inv X pins σ H s) (hN:X.N.Nodup) (hi:X.N[i]? = some x) (hx:Loc X.env.scope x) (r:RelV v u)
 (h:∀ s',Inv X pins (σ.set i (some v)) H s'→(∃ a,Heap.SameBut a s.heap s'.heap∧(a=X.env.locals∨X.env.cells.lookup x=some a))→Q () s') (hf:X.fn x=true∨X.env.scope.names.lookup x=some .local:=by first | exact .inl rfl | exact .inr rfl | assumption):wpAny M A (storeName X.env x u) Q E s:=by
 obtain ⟨m,hn,hl⟩:=id I.loc
 have hcls:(X.env.scope.kind == .class || (X.env.scope.kind == .module && X.env.locals != X.env.globals))=false:=by rw [I.ok.kind]; rfl
 have hiσ:i < σ.length:=by rw [I.len]; exact (List.getElem?_eq_some_iff.mp hi).1
 have cne:=I.cne
 have tracked:∀ {a:Addr} {h':Heap},(∃ o,s.heap.get? a=some o∧H a=none)→Heap.SameBut a s.heap h'→HOk X.prog X.w H h':=fun {a h'} ha hs b ob e=>by
  obtain ⟨_,_,hfree⟩:=ha
  refine (I.hok b ob e).stay (fun c w' hc q=>(hs.2 c ?_).trans q) (fun _ q=>q) fun _ _ q=>q
  rintro rfl
  rcases hc with rfl | hc
  · rw [hfree] at e; cases e
  · rw [hfree] at hc; cases hc
 rcases hx with hk | hk
 · refine wpAny_storeName_local hk hn (fun h' hn' hs=>?_) hcls
   obtain ⟨oL,_,_,hoL,_⟩:=id hn
   refine h _ ⟨I.ok,I.os,I.bare,⟨fun b o e n hb hx=>?_,fun b o e n hb hx=>?_,I.base.free,fun b o e hx=>?_,I.base.tups,I.base.frzs,I.base.tbls⟩,⟨_,hn',fun j y v' e1 e2 e3=>?_⟩,fun y c e=>?_,I.free,I.freeC,fun p hp=>?_,tracked ⟨oL,hoL,I.free⟩ hs,by simpa using I.len⟩ ⟨_,hs,.inl rfl⟩
   · exact (hs.2 b (Nat.ne_of_lt (Nat.lt_of_lt_of_le (Heap.lt_size e) I.ok.above))).trans (I.base.keep b o e n hb hx)
   · obtain ⟨sl,e1⟩:=I.base.slot b o e n hb hx
     exact ⟨sl,(hs.2 b (Nat.ne_of_lt (Nat.lt_of_lt_of_le (Heap.lt_size e) I.ok.above))).trans e1⟩
   · obtain ⟨o',e1⟩:=I.base.there b o e hx
     exact ⟨o',(hs.2 b (Nat.ne_of_lt (Nat.lt_of_lt_of_le (Heap.lt_size e) I.ok.above))).trans e1⟩
   · by_cases hj:j=i
     · subst hj
       rw [hi] at e1; cases e1
       rw [List.getElem?_set_self hiσ] at e2
       cases e2
       exact ⟨u,r,.inl ⟨hk,by simp⟩⟩
     · rw [List.getElem?_set_ne (Ne.symm hj)] at e2
       obtain ⟨u',r',q⟩:=hl j y v' e1 e2 e3
       refine ⟨u',r',?_⟩
       rcases q with ⟨k,e⟩ | ⟨k,c,e,z⟩
       · refine .inl ⟨k,?_⟩
         have:y≠x:=fun e=>hj (nodup_ix hN e1 (e ▸ hi))
         simp [this,e]
       · exact .inr ⟨k,c,e,z.sameBut hs (cne y c e)⟩
   · obtain ⟨w',z⟩:=I.cell y c e
     exact ⟨w',z.sameBut hs (cne y c e)⟩
   · obtain ⟨e,n,ne,nf,d⟩:=I.pin p hp
     exact ⟨(hs.2 p.1 ne).trans e,n,ne,nf,d⟩
 · have hfn:X.fn x=true:=by
    rcases hf with z | z
    · exact z
    · rw [z] at hk; cases hk
   obtain ⟨c,hc⟩:=I.ok.has x (.inl hk)
   obtain ⟨w',z⟩:=I.cell x c hc
   refine wpAny_storeName_cell I.ok.kind hk hc z (fun h' hc' hs=>?_)
   obtain ⟨oc,hoc,hocd⟩:=id z
   refine h { s with heap:=h' } ⟨I.ok,I.os,I.bare,⟨fun b o e n hb hx=>?_,fun b o e n hb hx=>?_,I.base.free,fun b o e hx=>?_,I.base.tups,I.base.frzs,I.base.tbls⟩,⟨m,hn.sameBut hs (Ne.symm (cne x c hc)),fun j y v' e1 e2 e3=>?_⟩,fun y c' e=>?_,I.free,I.freeC,fun p hp=>?_,tracked ⟨oc,hoc,(I.freeC x c hc).elim id fun z=>(by rw [hfn] at z; cases z.1)⟩ hs,by simpa using I.len⟩ ⟨c,hs,.inr hc⟩
   · exact (hs.2 b (Nat.ne_of_lt (Nat.lt_of_lt_of_le (Heap.lt_size e) (I.ok.cab x c hfn hc)))).trans (I.base.keep b o e n hb hx)
   · obtain ⟨sl,e1⟩:=I.base.slot b o e n hb hx
     exact ⟨sl,(hs.2 b (Nat.ne_of_lt (Nat.lt_of_lt_of_le (Heap.lt_size e) (I.ok.cab x c hfn hc)))).trans e1⟩
   · obtain ⟨o',e1⟩:=I.base.there b o e hx
     exact ⟨o',(hs.2 b (Nat.ne_of_lt (Nat.lt_of_lt_of_le (Heap.lt_size e) (I.ok.cab x c hfn hc)))).trans e1⟩
   · by_cases hj:j=i
     · subst hj
       rw [hi] at e1; cases e1
       rw [List.getElem?_set_self hiσ] at e2
       cases e2
       exact ⟨u,r,.inr ⟨.inl hk,c,hc,hc'⟩⟩
     · rw [List.getElem?_set_ne (Ne.symm hj)] at e2
       obtain ⟨u',r',q⟩:=hl j y v' e1 e2 e3
       refine ⟨u',r',?_⟩
       rcases q with q | ⟨k,c',e,z'⟩
       · exact .inl q
       · refine .inr ⟨k,c',e,z'.sameBut hs ?_⟩
         rintro rfl
         exact hj (nodup_ix hN e1 (I.ok.inj _ _ _ e hc ▸ hi))
   · by_cases hcc:c'=c
     · subst hcc; exact ⟨_,hc'⟩
     · obtain ⟨w2,z2⟩:=I.cell y c' e
       exact ⟨w2,z2.sameBut hs hcc⟩
   · obtain ⟨e,n,ne,nf,d⟩:=I.pin p hp
     refine ⟨(hs.2 p.1 ?_).trans e,n,ne,nf,d⟩
     intro q
     rw [q,hoc] at e
     have q':oc=p.2:=Option.some.inj e
     exact d w' (by rw [← q']; exact hocd)
theorem store_ok {M:Model} {A:Around} {E:Value→Shared→Prop} {i:Nat} {x:Str} {v:V} {u:Value} {Q:Unit→Shared→Prop} (I:Inv X pins σ H s) (hN:X.N.Nodup) (hi:X.N[i]? = some x) (hx:Loc X.env.scope x) (r:RelV v u)
 (h:∀ s',Inv X pins (σ.set i (some v)) H s'→Q () s') (hf:X.fn x=true∨X.env.scope.names.lookup x=some .local:=by first | exact .inl rfl | exact .inr rfl | assumption):wpAny M A (storeName X.env x u) Q E s :=
 store_ok2 I hN hi hx r (fun s' I' _=>h s' I') hf
theorem Inv.call' {s':Shared} {ch:List Addr} (I:Inv X pins σ H s) (ho:s'.os=s.os) (u:Un (frs X.stack) ch H H' s.heap s'.heap) (hok:HOk X.prog X.w H' s'.heap) (hg:AllBare s'.gens)
 (hch:∀ b∈ch,(b∈X.ex∨X.s₀.heap.objs.size≤b)∧b≠X.env.locals∧(∀ x c,X.env.cells.lookup x=some c→c≠b)∧∀ p∈X.pn++pins,p.1≠b):Inv X pins σ H' s':=by
 obtain ⟨h',g',d',t',o'⟩:=s'
 have e:o'=s.os:=ho
 subst e
 exact I.call (g':=g') (t':=t') (d':=d') u hok hg hch
end
abbrev XK:=Value→Option Addr→Hp→Prop
abbrev St:=List (Option V)
abbrev VK:=V→Hp→Prop
abbrev TE:=St→Hp→VK→Prop
abbrev TT:=St→Hp→(Bool→Hp→Prop)→Prop
abbrev TA:=St→Hp→(List V→Hp→Prop)→Prop
structure Ends where
 nx:St→Hp→Prop
 rt:VK
 bk:St→Hp→Prop:=fun _ _=>False
 ct:St→Hp→Prop:=fun _ _=>False
abbrev TS:=Ends→St→Hp→Prop
def EP (X:Cx) (pins:List (Addr×Obj)) (σ:St) (Q:VK) (u:Value) (s':Shared):Prop:=∃ v H',Inv X pins σ H' s'∧RelV v u∧Q v H'
def TP (X:Cx) (pins:List (Addr×Obj)) (σ:St) (Q:Bool→Hp→Prop) (b:Bool) (s':Shared):Prop:=∃ H',Inv X pins σ H' s'∧Q b H'
def AP (X:Cx) (pins:List (Addr×Obj)) (σ:St) (Q:List V→Hp→Prop) (us:List Value) (s':Shared):Prop:=∃ vs H',Inv X pins σ H' s'∧Vals vs us∧Q vs H'
def SP (X:Cx) (pins:List (Addr×Obj)) (D:Ends) (f:Flow) (s':Shared):Prop :=
 match f with
 | .next=>∃ σ' H',Inv X pins σ' H' s'∧D.nx σ' H'
 | .brk=>∃ σ' H',Inv X pins σ' H' s'∧D.bk σ' H'
 | .cont=>∃ σ' H',Inv X pins σ' H' s'∧D.ct σ' H'
 | .ret u=>∃ v σ' H',Inv X pins σ' H' s'∧RelV v u∧D.rt v H'
def PE (X:Cx) (e:Expr) (t:TE):Prop :=
 ∀ (pins:List (Addr×Obj)) (s:Shared) (σ:St) (H:Hp) (Q:VK),Inv X pins σ H s→t σ H Q→wpAny (model X.prog X.w) X.A (eval e X.env) (EP X pins σ Q) X.xe s
def PT (X:Cx) (e:Expr) (t:TT):Prop :=
 ∀ (pins:List (Addr×Obj)) (s:Shared) (σ:St) (H:Hp) (Q:Bool→Hp→Prop),Inv X pins σ H s→t σ H Q→wpAny (model X.prog X.w) X.A (isTrue e X.env (eval e X.env)) (TP X pins σ Q) X.xe s
def PW (X:Cx) (e:Expr) (t:TT):Prop :=
 ∀ (whole:Sem Value) (pins:List (Addr×Obj)) (s:Shared) (σ:St) (H:Hp) (Q:Bool→Hp→Prop),Inv X pins σ H s→t σ H Q→wpAny (model X.prog X.w) X.A (isTrue e X.env whole) (TP X pins σ Q) X.xe s
theorem PW.pt {X:Cx} {e:Expr} {t:TT} (h:PW X e t):PT X e t:=h _
def PA (X:Cx) (es:List Expr) (t:TA):Prop :=
 ∀ (pos:Pos) (pins:List (Addr×Obj)) (s:Shared) (σ:St) (H:Hp) (Q:List V→Hp→Prop),Inv X pins σ H s→t σ H Q→wpAny (model X.prog X.w) X.A (spliced (backTo pos (starEach es X.env))) (AP X pins σ Q) X.xe s
def PS (X:Cx) (st:Stmt) (t:TS):Prop :=
 ∀ (pins:List (Addr×Obj)) (s:Shared) (σ:St) (H:Hp) (D:Ends),Inv X pins σ H s→t D σ H→wpAny (model X.prog X.w) X.A (exec st X.env) (SP X pins D) X.xe s
def PSs (X:Cx) (st:List Stmt) (t:TS):Prop :=
 ∀ (pins:List (Addr×Obj)) (s:Shared) (σ:St) (H:Hp) (D:Ends),Inv X pins σ H s→t D σ H→wpAny (model X.prog X.w) X.A (execs st X.env) (SP X pins D) X.xe s
theorem thn {α:Type} {t:Sem α} {Q Q':α→Shared→Prop} {M:Model} {A:Around} {E:Value→Shared→Prop} {s:Shared} (h:wpAny M A t Q E s) (hQ:∀ a s,Q a s→Q' a s):wpAny M A t Q' E s:=wpAny_mono h hQ fun _ _ x=>x
end L2
namespace L2
open PySem PySem.Spec PyProof.Rows
section
variable {X:Cx}
def tVar (i:Nat):TE:=fun σ H Q=>∃ v,σ[i]? = some (some v)∧Q v H
def tC (v:V):TE:=fun _ H Q=>Q v H
theorem pe_var {i:Nat} {x:Str} {pos:Pos} (hN:X.N[i]? = some x) (hv:Vis X.env.scope x) (hd:(x == ("__debug__" : Str))=false:=by decide) (hcd:(x == ("__classdict__" : Str))=false:=by decide):PE X (.Name x pos) (tVar i):=by
 intro pins s σ H Q I h
 obtain ⟨v,e,h⟩:=h
 obtain ⟨m,hn,hl⟩:=I.loc
 obtain ⟨u,r,l⟩:=hl i x v hN e hv
 have fin:EP X pins σ Q u s:=⟨v,H,I,r,h⟩
 rcases l with ⟨hk,hm⟩ | ⟨hk,c,hc,hcell⟩
 · exact wpAny_Name (wpAny_loadName_local I.ok.kind hk hn hm fin) hd
 · rcases hk with hk | hk
   · exact wpAny_Name (wpAny_loadName_cell I.ok.kind hk hc hcell fin) hd
   · exact wpAny_Name (wpAny_loadName_free I.ok.kind hk hc hcell fin hcd) hd
theorem pe_int {i j pos}:PE X (.Constant (.int i) j pos) (tC (.int i)):=fun _ _ _ H _ I h=>wpAny_Constant_int ⟨.int i,H,I.tok _,⟨_,rfl⟩,h⟩
theorem pe_bl {b j pos}:PE X (.Constant (.bool b) j pos) (tC (.bl b)):=fun _ _ _ H _ I h=>Constant_bool ⟨.bl b,H,I,rfl,h⟩
theorem pe_non {j pos}:PE X (.Constant .none j pos) (tC .non):=fun _ _ _ H _ I h=>Constant_none ⟨.non,H,I,rfl,h⟩
theorem pe_str {x j pos}:PE X (.Constant (.str x) j pos) (tC (.str x)):=fun _ _ _ H _ I h=>Calls.Constant_str ⟨.str x,H,I.tok _,⟨_,rfl⟩,h⟩
def Gl (X:Cx) (x:Str):Prop:=X.env.kindOf x=some .globalImplicit
theorem ld_glob {E:Value→Shared→Prop} {pins:List (Addr×Obj)} {s:Shared} {σ:St} {H:Hp} {x:Str} {u:Value} {pos:Pos} {Q:Value→Shared→Prop} (I:Inv X pins σ H s) (hg:Gl X x) (hm:X.mg x=some u) (h:Q u s)
 (hd:(x == ("__debug__" : Str))=false:=by decide):wpAny (model X.prog X.w) X.A (eval (.Name x pos) X.env) Q E s :=
 Calls.Name_function_global I.ok.kind hg (Calls.loadGlobal_global (by rw [I.ok.glob]; exact I.mod.glob.keeps I.bk) hm h) hd
theorem ld_blt {E:Value→Shared→Prop} {pins:List (Addr×Obj)} {s:Shared} {σ:St} {H:Hp} {x:Str} {u:Value} {pos:Pos} {Q:Value→Shared→Prop} (I:Inv X pins σ H s) (hg:Gl X x) (hm:X.mg x=none) (hv:bootBuiltins x=some u) (h:Q u s)
 (hn:x ≠ "__name__" := by decide) (hd:(x == ("__debug__" : Str))=false:=by decide):wpAny (model X.prog X.w) X.A (eval (.Name x pos) X.env) Q E s:=by
 obtain ⟨mb,h1,h2⟩:=I.mod.blt
 exact Calls.Name_function_global I.ok.kind hg (Calls.loadGlobal_builtin (by rw [I.ok.glob]; exact I.mod.glob.keeps I.bk) hm (by rw [I.ok.blt]; exact h1.keeps I.bk) ((h2 x hn).trans hv) h) hd
theorem pe_glob {x:Str} {v:V} {u:Value} {pos:Pos} (hg:Gl X x) (hm:X.mg x=some u) (r:RelV v u) (hd:(x == ("__debug__" : Str))=false:=by decide):PE X (.Name x pos) (tC v) :=
 fun _ _ _ H _ I h=>ld_glob I hg hm ⟨v,H,I,r,h⟩ hd
theorem pe_bltn {x:Str} {v:V} {u:Value} {pos:Pos} (hg:Gl X x) (hm:X.mg x=none) (hv:bootBuiltins x=some u) (r:RelV v u) (hn:x ≠ "__name__" := by decide) (hd:(x == ("__debug__" : Str))=false:=by decide):PE X (.Name x pos) (tC v) :=
 fun _ _ _ H _ I h=>ld_blt I hg hm hv ⟨v,H,I,r,h⟩ hn hd
variable {a b:Expr} {ta tb:TE} {pos:Pos}
variable {tA tB':TT} {rest:List Expr}
def tAnd (t u:TT):TT:=fun σ H Q=>t σ H fun c H1=>if c=true then u σ H1 Q else Q false H1
def tOr (t u:TT):TT:=fun σ H Q=>t σ H fun c H1=>if c=true then Q true H1 else u σ H1 Q
def tNot (t:TT):TT:=fun σ H Q=>t σ H fun c H1=>Q (!c) H1
theorem pw_and1 (ha:PT X a tA):PW X (.BoolOp .And [a] pos) tA:=by
 intro wh pins s σ H Q I h
 refine isTrue_and (thn (ha pins s σ H Q I h) fun c s1 e=>?_)
 cases c with
 | true=>exact isTrue_and_nil e
 | false=>exact e
theorem pw_or1 (ha:PT X a tA):PW X (.BoolOp .Or [a] pos) tA:=by
 intro wh pins s σ H Q I h
 refine isTrue_or (thn (ha pins s σ H Q I h) fun c s1 e=>?_)
 cases c with
 | false=>exact isTrue_or_nil e
 | true=>exact e
theorem pw_and (ha:PT X a tA) (hb:PW X (.BoolOp .And (b :: rest) pos) tB'):PW X (.BoolOp .And (a :: b :: rest) pos) (tAnd tA tB'):=by
 intro wh pins s σ H Q I h
 refine isTrue_and (thn (ha pins s σ H _ I h) fun c s1 ⟨H1,I1,q1⟩=>?_)
 cases c with
 | true=>exact hb wh pins s1 σ H1 Q I1 q1
 | false=>exact ⟨H1,I1,q1⟩
theorem pw_or (ha:PT X a tA) (hb:PW X (.BoolOp .Or (b :: rest) pos) tB'):PW X (.BoolOp .Or (a :: b :: rest) pos) (tOr tA tB'):=by
 intro wh pins s σ H Q I h
 refine isTrue_or (thn (ha pins s σ H _ I h) fun c s1 ⟨H1,I1,q1⟩=>?_)
 cases c with
 | true=>exact ⟨H1,I1,q1⟩
 | false=>exact hb wh pins s1 σ H1 Q I1 q1
theorem pt_not (ha:PT X a tA):PT X (.UnaryOp .Not a pos) (tNot tA):=by
 intro pins s σ H Q I h
 exact isTrue_not (ha pins s σ H (fun c H1=>Q (!c) H1) I h)
def tAndV (ta tb:TE):TE:=fun σ H Q=>ta σ H fun x H1=>∃ c,x=.bl c∧if c=true then tb σ H1 Q else Q (.bl false) H1
def tOrV (ta tb:TE):TE:=fun σ H Q=>ta σ H fun x H1=>∃ c,x=.bl c∧if c=true then Q (.bl true) H1 else tb σ H1 Q
def tNotV (ta:TE):TE:=fun σ H Q=>ta σ H fun x H1=>∃ c,x=.bl c∧Q (.bl (!c)) H1
theorem pe_one {op} {t:TE} (h:PE X a t):PE X (.BoolOp op [a] pos) t:=fun pins s σ H Q I hw=>BoolOp_one (h pins s σ H Q I hw)
theorem pe_and (ha:PE X a ta) (hb:PE X (.BoolOp .And (b :: rest) pos) tb):PE X (.BoolOp .And (a :: b :: rest) pos) (tAndV ta tb):=by
 intro pins s σ H Q I h
 refine BoolOp_and (thn (ha pins s σ H _ I h) fun v s1 ⟨x,H1,I1,r1,q1⟩=>?_)
 obtain ⟨c,rfl,q1⟩:=q1
 cases r1
 refine wpAny_truthy_bool ?_
 cases c with
 | true=>exact hb pins s1 σ H1 Q I1 q1
 | false=>exact ⟨.bl false,H1,I1,rfl,q1⟩
theorem pe_or (ha:PE X a ta) (hb:PE X (.BoolOp .Or (b :: rest) pos) tb):PE X (.BoolOp .Or (a :: b :: rest) pos) (tOrV ta tb):=by
 intro pins s σ H Q I h
 refine BoolOp_or (thn (ha pins s σ H _ I h) fun v s1 ⟨x,H1,I1,r1,q1⟩=>?_)
 obtain ⟨c,rfl,q1⟩:=q1
 cases r1
 refine wpAny_truthy_bool ?_
 cases c with
 | false=>exact hb pins s1 σ H1 Q I1 q1
 | true=>exact ⟨.bl true,H1,I1,rfl,q1⟩
theorem pe_not (ha:PE X a ta):PE X (.UnaryOp .Not a pos) (tNotV ta):=by
 intro pins s σ H Q I h
 refine UnaryOp_ (thn (ha pins s σ H _ I h) fun v s1 ⟨x,H1,I1,r1,q1⟩=>?_)
 obtain ⟨c,rfl,q1⟩:=q1
 cases r1
 exact not_of (wpAny_truthy_bool ⟨.bl (!c),H1,I1,rfl,q1⟩)
def tIf (t:TT) (ta tb:TE):TE:=fun σ H Q=>t σ H fun c H1=>if c=true then ta σ H1 Q else tb σ H1 Q
theorem pe_ifExp {c:Expr} (hc:PT X c tA) (ha:PE X a ta) (hb:PE X b tb):PE X (.IfExp c a b pos) (tIf tA ta tb):=by
 intro pins s σ H Q I h
 refine wpAny_IfExp (thn (hc pins s σ H _ I h) fun d s1 ⟨H1,I1,q1⟩=>?_)
 cases d with
 | true=>exact ha pins s1 σ H1 Q I1 q1
 | false=>exact hb pins s1 σ H1 Q I1 q1
end
end L2
namespace L2
open PySem PySem.Spec PyProof.Rows
def SqL (K:PySem.W.Frag) (H:Hp) (a:Addr) (xs:List V):Prop :=
 Rd H a (.lst xs) ∨
  ∃ (o:Obj) (its:Array Value) (n:Nat),K.lookup a=some o∧o.cls=.type "list" ∧ o.dict=none∧o.data=.seq its n∧its.size≤sizeLine∧Vals xs its.toList
def SqT (K:PySem.W.Frag) (H:Hp) (a:Addr) (xs:List V):Prop :=
 Rd H a (.tup xs) ∨
  ∃ (o:Obj) (its:Array Value) (n:Nat),K.lookup a=some o∧o.cls=.type "tuple" ∧ o.data=.seq its n∧its.size≤sizeLine∧Vals xs its.toList
def absV:Value→Option V
 | .none=>some .non
 | .bool b=>some (.bl b)
 | .int i _=>some (.int i)
 | .str x _=>some (.str x)
 | .bytes b _=>some (.byt b)
 | .float b _=>some (.flt b)
 | .ref a=>some (.ref a)
 | .type n=>some (.ty n)
 | _=>none
theorem RelV.abs {x:V} {u:Value} (r:RelV x u):absV u=some x:=by
 cases x with
 | non=>cases r; rfl
 | bl _=>cases r; rfl
 | int _=>obtain ⟨t,rfl⟩:=r; rfl
 | str _=>obtain ⟨t,rfl⟩:=r; rfl
 | byt _=>obtain ⟨t,rfl⟩:=r; rfl
 | flt _=>obtain ⟨t,rfl⟩:=r; rfl
 | ref _=>cases r; rfl
 | ty _=>cases r; rfl
theorem RelV.inj {x y:V} {u:Value} (r:RelV x u) (q:RelV y u):x=y:=Option.some.inj (r.abs.symm.trans q.abs)
theorem Vals.inj:∀ {xs ys:List V} {us:List Value},Vals xs us→Vals ys us→xs=ys
 | _,_,_,.nil,.nil=>rfl
 | _,_,_,.cons r t,.cons r' t'=>by rw [r.inj r',Vals.inj t t']
section
variable {X:Cx} {pins:List (Addr×Obj)} {σ:St} {H:Hp} {s:Shared} {a:Addr} {xs ys:List V}
theorem SqL.of {K:PySem.W.Frag} (h:H a=some (.lst xs)):SqL K H a xs:=.inl (.inl h)
theorem SqT.of {K:PySem.W.Frag} (h:H a=some (.tup xs)):SqT K H a xs:=.inl (.inl h)
theorem Inv.list (I:Inv X pins σ H s) (h:SqL X.K H a xs):∃ its:List Value,Vals xs its∧PlainL s.heap a its.toArray∧xs.length≤sizeLine:=by
 rcases h with h | ⟨o,its,n,hk,hc,hd,hs,hz,r⟩
 · obtain ⟨z,its,n,r,e⟩:=h.ok I.hok
   exact ⟨its,r,⟨_,n,e,rfl,rfl,rfl⟩,z⟩
 · refine ⟨its.toList,r,⟨o,n,I.kIn a o hk,hc,hd,by simpa using hs⟩,?_⟩
   have e:=r.length
   simp only [Array.length_toList] at e
   omega
theorem Inv.tuple (I:Inv X pins σ H s) (h:SqT X.K H a xs):∃ its:List Value,Vals xs its∧IsTup s.heap a its.toArray∧xs.length≤sizeLine:=by
 rcases h with h | ⟨o,its,n,hk,hc,hs,hz,r⟩
 · obtain ⟨z,its,r,p⟩:=h.ok I.hok
   exact ⟨its,r,p,z⟩
 · refine ⟨its.toList,r,⟨o,I.kIn a o hk,hc,n,by simpa using hs⟩,?_⟩
   have e:=r.length
   simp only [Array.length_toList] at e
   omega
theorem Inv.list_inj (I:Inv X pins σ H s) (h:SqL X.K H a xs) (h':SqL X.K H a ys):xs=ys:=by
 obtain ⟨its,r,⟨o,n,e,_,_,d⟩,_⟩:=I.list h
 obtain ⟨its',r',⟨o',n',e',_,_,d'⟩,_⟩:=I.list h'
 rw [e] at e'; cases e'
 rw [d] at d'
 injection d' with d1 _
 have:its=its':=by simpa using congrArg Array.toList d1
 subst this
 exact r.inj r'
theorem Inv.tuple_inj (I:Inv X pins σ H s) (h:SqT X.K H a xs) (h':SqT X.K H a ys):xs=ys:=by
 obtain ⟨its,r,⟨o,e,_,n,d⟩,_⟩:=I.tuple h
 obtain ⟨its',r',⟨o',e',_,n',d'⟩,_⟩:=I.tuple h'
 rw [e] at e'; cases e'
 rw [d] at d'
 injection d' with d1 _
 have:its=its':=by simpa using congrArg Array.toList d1
 subst this
 exact r.inj r'
end
abbrev Cx.wish (X:Cx) (E:Value→Shared→Prop):Cx:={ X with xe:=E }
abbrev Cx.nox (X:Cx):Cx:=X.wish fun _ _=>False
theorem Cx.Ok.wish {X:Cx} (ok:X.Ok) (E:Value→Shared→Prop):(X.wish E).Ok :=
 ⟨ok.mod,ok.kind,ok.glob,ok.blt,ok.above,ok.inj,ok.has,ok.cab,ok.hd,ok.frames,ok.stk,ok.exf,ok.bs,ok.bsz,ok.noex,ok.exfs,ok.funs,ok.frf⟩
theorem Cx.Ok.unwish {X:Cx} {E:Value→Shared→Prop} (ok:(X.wish E).Ok):X.Ok :=
 ⟨ok.mod,ok.kind,ok.glob,ok.blt,ok.above,ok.inj,ok.has,ok.cab,ok.hd,ok.frames,ok.stk,ok.exf,ok.bs,ok.bsz,ok.noex,ok.exfs,ok.funs,ok.frf⟩
section
variable {X:Cx} {pins:List (Addr×Obj)} {σ:St} {H:Hp} {s:Shared} {E:Value→Shared→Prop}
theorem Inv.wish (I:Inv X pins σ H s) (E:Value→Shared→Prop):Inv (X.wish E) pins σ H s:=⟨I.ok.wish E,I.os,I.bare,I.base,I.loc,I.cell,I.free,I.freeC,I.pin,I.hok,I.len⟩
theorem Inv.unwish (I:Inv (X.wish E) pins σ H s):Inv X pins σ H s:=⟨I.ok.unwish,I.os,I.bare,I.base,I.loc,I.cell,I.free,I.freeC,I.pin,I.hok,I.len⟩
theorem SP.unwish {D:Ends} {f:Flow} {s':Shared} (h:SP (X.wish E) pins D f s'):SP X pins D f s':=by
 cases f with
 | next=>obtain ⟨σ',H',I,q⟩:=h; exact ⟨σ',H',I.unwish,q⟩
 | brk=>obtain ⟨σ',H',I,q⟩:=h; exact ⟨σ',H',I.unwish,q⟩
 | cont=>obtain ⟨σ',H',I,q⟩:=h; exact ⟨σ',H',I.unwish,q⟩
 | ret u=>obtain ⟨v,σ',H',I,r,q⟩:=h; exact ⟨v,σ',H',I.unwish,r,q⟩
theorem PSs.nox {st:List Stmt} {t:TS} (h:PSs X.nox st t):PSs X st t:=fun pins s σ H D I hw =>
 wpAny_mono (h pins s σ H D (I.wish _) hw) (fun _ _ q=>q.unwish) fun _ _ z=>False.elim z
end
section
variable {X:Cx} {st:Stmt} {rest:List Stmt} {t u:TS} {e:Expr} {te:TE} {pos:Pos}
def tNext:TS:=fun D σ H=>D.nx σ H
def tSeq (t u:TS):TS:=fun D σ H=>t { D with nx:=u D } σ H
theorem pss_nil:PSs X [] tNext:=fun _ _ σ H _ I h=>wpAny_execs_nil ⟨σ,H,I,h⟩
theorem pss_cons (h1:PS X st t) (h2:PSs X rest u):PSs X (st :: rest) (tSeq t u):=by
 intro pins s σ H D I h
 refine wpAny_execs_cons (thn (h1 pins s σ H { D with nx:=u D } I h) fun f s1 q=>?_)
 cases f with
 | next =>
   obtain ⟨σ',H',I',q⟩:=q
   exact h2 pins s1 σ' H' D I' q
 | ret v=>exact q
 | brk=>exact q
 | cont=>exact q
theorem pss_one (h1:PS X st t):PSs X [st] t:=by
 intro pins s σ H D I h
 refine wpAny_execs_cons (thn (h1 pins s σ H D I h) fun f s1 q=>?_)
 cases f with
 | next=>exact wpAny_execs_nil q
 | ret v=>exact q
 | brk=>exact q
 | cont=>exact q
theorem Inv.quiet {pins:List (Addr×Obj)} {σ:St} {H:Hp} {s:Shared} (I:Inv X pins σ H s):interactive X.env=false:=by simp [interactive,I.ok.kind]
def tDrop (te:TE):TS:=fun D σ H=>te σ H fun _ H1=>D.nx σ H1
theorem ps_expr (he:PE X e te) (hs:swapsWith e none pos.line X.env=pure false:=by rfl):PS X (.Expr e pos) (tDrop te):=by
 intro pins s σ H D I h
 exact wpAny_Expr_any (thn (he pins s σ H _ I h) fun v s1 ⟨x,H1,I1,r1,q1⟩=>⟨σ,H1,I1,q1⟩) I.quiet hs
def tRet (te:TE):TS:=fun D σ H=>te σ H D.rt
theorem ps_ret (he:PE X e te):PS X (.Return (some e) pos) (tRet te):=by
 intro pins s σ H D I h
 exact wpAny_Return_some (thn (he pins s σ H _ I h) fun v s1 ⟨x,H1,I1,r1,q1⟩=>⟨x,σ,H1,I1,r1,q1⟩)
def tIfS (c:TT) (t u:TS):TS:=fun D σ H=>c σ H fun b H1=>if b=true then t D σ H1 else u D σ H1
theorem ps_if {c:Expr} {a b:List Stmt} {tc:TT} (hc:PT X c tc) (ha:PSs X a t) (hb:PSs X b u):PS X (.If c a b pos) (tIfS tc t u):=by
 intro pins s σ H D I h
 refine wpAny_If (thn (hc pins s σ H _ I h) fun d s1 ⟨H1,I1,q1⟩=>?_)
 cases d with
 | true=>exact ha pins s1 σ H1 D I1 q1
 | false=>exact hb pins s1 σ H1 D I1 q1
def tNever:TS:=fun _ _ _=>False
theorem pss_never {sts:List Stmt}:PSs X sts tNever:=fun _ _ _ _ _ _ h=>h.elim
end
abbrev TG:=V→St→Hp→(St→Hp→Prop)→Prop
abbrev TGs:=List V→St→Hp→(St→Hp→Prop)→Prop
def PG (X:Cx) (target:Expr) (t:TG):Prop :=
 ∀ (pins:List (Addr×Obj)) (s:Shared) (σ:St) (H:Hp) (v:V) (u:Value) (Q:St→Hp→Prop),Inv X pins σ H s→RelV v u→t v σ H Q →
   wpAny (model X.prog X.w) X.A (assign target X.env u) (fun _ s'=>∃ σ' H',Inv X pins σ' H' s'∧Q σ' H') X.xe s
def PGs (X:Cx) (ts:List Expr) (t:TGs):Prop :=
 ∀ (pins:List (Addr×Obj)) (s:Shared) (σ:St) (H:Hp) (vs:List V) (us:List Value) (Q:St→Hp→Prop),Inv X pins σ H s→Vals vs us→t vs σ H Q →
   wpAny (model X.prog X.w) X.A (assignInOrder ((assignEach ts X.env).map (·.2)) us) (fun _ s'=>∃ σ' H',Inv X pins σ' H' s'∧Q σ' H') X.xe s
abbrev TSet:=V→V→V→Hp→(Hp→Prop)→Prop
def PSet (X:Cx) (t:TSet):Prop :=
 ∀ (pins:List (Addr×Obj)) (s:Shared) (σ:St) (H:Hp) (o i v:V) (ov iv u:Value) (Q:Hp→Prop),Inv X pins σ H s→RelV o ov→RelV i iv→RelV v u→t o i v H Q →
   wpAny (model X.prog X.w) X.A (setItem ov iv u) (fun _ s'=>∃ H',Inv X pins σ H' s'∧Q H') X.xe s
abbrev TIp:=V→V→Hp→VK→Prop
def PIp (X:Cx) (op:Operator) (t:TIp):Prop :=
 ∀ (pins:List (Addr×Obj)) (s:Shared) (σ:St) (H:Hp) (x y:V) (v u:Value) (Q:VK),Inv X pins σ H s→RelV x v→RelV y u→t x y H Q →
   wpAny (model X.prog X.w) X.A (inplaceOp op v u) (EP X pins σ Q) X.xe s
section
variable {X:Cx} {pos:Pos}
def gName (i:Nat):TG:=fun v σ H Q=>Q (σ.set i (some v)) H
theorem pg_name {i:Nat} {x:Str} (hN:X.N.Nodup) (hi:X.N[i]? = some x) (hx:Loc X.env.scope x) (hf:X.fn x=true∨X.env.scope.names.lookup x=some .local:=by first | exact .inl rfl | exact .inr rfl | assumption):PG X (.Name x pos) (gName i):=by
 intro pins s σ H v u Q I r h
 exact wpAny_assign_Name (store_ok I hN hi hx r (fun s' I'=>⟨_,H,I',h⟩) hf)
def gNil:TGs:=fun vs σ H Q=>vs=[]∧Q σ H
def gCons (t:TG) (u:TGs):TGs:=fun vs σ H Q=>∃ v r,vs=v :: r∧t v σ H fun σ' H'=>u r σ' H' Q
theorem pgs_nil:PGs X [] gNil:=by
 intro pins s σ H vs us Q I r h
 obtain ⟨e,h⟩:=h
 subst e
 cases r
 exact assignInOrder_nil ⟨σ,H,I,h⟩
theorem pgs_cons {e:Expr} {es:List Expr} {t:TG} {u:TGs} (h1:PG X e t) (h2:PGs X es u)
 (hs:(assignEach (e :: es) X.env).map (·.2)=assign e X.env :: (assignEach es X.env).map (·.2):=by rfl):PGs X (e :: es) (gCons t u):=by
 intro pins s σ H vs us Q I r h
 obtain ⟨v,vr,e1,h⟩:=h
 subst e1
 cases r with
 | cons r rr =>
   rw [hs]
   refine assignInOrder_cons (thn (h1 pins s σ H _ _ _ I r h) fun _ s1 ⟨σ1,H1,I1,q1⟩=>?_)
   exact h2 pins s1 σ1 H1 _ _ Q I1 rr q1
def gTup (K:PySem.W.Frag) (n:Nat) (t:TGs):TG:=fun v σ H Q=>∃ a xs,v=.ref a∧SqT K H a xs∧xs.length=n∧t xs σ H Q
theorem pg_tup {es:List Expr} {k:Nat} {t:TGs} {n:Nat} (hc:X.calm=true) (h:PGs X es t)
 (hn:(assignEach es X.env).length=n:=by rfl) (hst:(assignEach es X.env).findIdx? (·.1)=none:=by rfl):PG X (.Tuple es k pos) (gTup X.K n t):=by
 intro pins s σ H v u Q I r hw
 obtain ⟨a,xs,e1,hq,hl,hw⟩:=hw
 subst e1
 cases r
 obtain ⟨its,rv,ht,hz⟩:=I.tuple hq
 refine assign_Tuple_tuple (I.ok.hd hc) ht (by simp [hn,← hl,rv.length]) hst fun h' hx=>?_
 have I1:Inv X pins σ H { s with heap:=h' }:=I.kept (t':=s.toks) fun b o e=>hx b o (Nat.ne_of_lt (Heap.lt_size e)) e
 exact h pins _ σ H xs _ Q I1 (by simpa using rv) hw
def gSub (to ti:TE) (t:TSet):TG:=fun v σ H Q=>to σ H fun o H1=>ti σ H1 fun i H2=>t o i v H2 fun H3=>Q σ H3
theorem pg_sub {o i:Expr} {to ti:TE} {t:TSet} (ho:PE X o to) (hi:PE X i ti) (hs:PSet X t)
 (ha:∀ v,assign (.Subscript o i pos) X.env v=(do
   let ov ← holding [v] (eval o X.env)
   let iv ← holding [v,ov] (eval i X.env)
   standAt pos
   holding [v,ov,iv] (setItem ov iv v)
   release [v,ov,iv] []):=by intro _; rfl):PG X (.Subscript o i pos) (gSub to ti t):=by
 intro pins s σ H v u Q I r h
 rw [ha]
 refine wpAny_bind (wpAny_holding (thn (ho pins s σ H _ I h) fun ov s1 ⟨x,H1,I1,r1,q1⟩=>?_))
 refine wpAny_bind (wpAny_holding (thn (hi pins s1 σ H1 _ I1 q1) fun iv s2 ⟨y,H2,I2,r2,q2⟩=>?_))
 refine wpAny_bind (wpAny_standAt (wpAny_bind (wpAny_holding (thn (hs pins s2 σ H2 x y v ov iv u _ I2 r1 r2 r q2) fun _ s3 ⟨H3,I3,q3⟩=>?_))))
 exact wpAny_release ⟨σ,H3,I3,q3⟩
def tAsg (te:TE) (g:TG):TS:=fun D σ H=>te σ H fun x H1=>g x σ H1 D.nx
theorem ps_asg {tg e:Expr} {te:TE} {g:TG} (he:PE X e te) (hg:PG X tg g) (hs:swapsWithSole [tg] e pos.line X.env=pure false:=by rfl) (hw:swappedStores [tg] e X.env=pure none:=by rfl)
 (h1:(assignEach [tg] X.env).map (·.2)=[assign tg X.env]:=by rfl):PS X (.Assign [tg] e pos) (tAsg te g):=by
 intro pins s σ H D I h
 refine wpAny_Assign_stores (thn (he pins s σ H _ I h) fun v s1 ⟨x,H1,I1,r1,q1⟩=>?_) hs hw
 rw [h1]
 exact thn (hg pins s1 σ H1 x v _ I1 r1 q1) fun _ s2 q=>q
theorem ps_set {i:Nat} {x:Str} {e:Expr} {te:TE} {pos':Pos} (hN:X.N.Nodup) (hi:X.N[i]? = some x) (hx:Loc X.env.scope x) (he:PE X e te) (hs:swapsWith e (some (.Name x pos')) pos.line X.env=pure false:=by rfl) (hf:X.fn x=true∨X.env.scope.names.lookup x=some .local:=by first | exact .inl rfl | exact .inr rfl | assumption) :
 PS X (.Assign [.Name x pos'] e pos) (tAsg te (gName i)):=by
 intro pins s σ H D I h
 refine wpAny_Assign_Name (thn (he pins s σ H _ I h) fun v s1 ⟨y,H1,I1,r1,q1⟩=>?_) hs
 exact store_ok I1 hN hi hx r1 (fun s2 I2=>⟨_,H1,I2,q1⟩) hf
def tPar (i j:Nat) (ta:TA):TS:=fun D σ H=>ta σ H fun vs H1=>∃ v w,vs=[v,w]∧D.nx ((σ.set i (some v)).set j (some w)) H1
theorem ps_par {i j:Nat} {x y:Str} {a b:Expr} {ta:TA} {px py pt:Pos} {kt k2 pt2} (hc:X.calm=true) (hN:X.N.Nodup) (hi:X.N[i]? = some x) (hj:X.N[j]? = some y) (hij:i≠j)
 (hx:X.env.scope.names.lookup x=some .local) (hy:X.env.scope.names.lookup y=some .local) (ha:PA X [a,b] ta)
 (hw:swappedStores [.Tuple [.Name x px,.Name y py] kt pt] (.Tuple [a,b] k2 pt2) X.env=pure (some [x,y]))
 (hs:swapsWithSole [.Tuple [.Name x px,.Name y py] kt pt] (.Tuple [a,b] k2 pt2) pos.line X.env=pure false:=by rfl) :
 PS X (.Assign [.Tuple [.Name x px,.Name y py] kt pt] (.Tuple [a,b] k2 pt2) pos) (tPar i j ta):=by
 intro pins s σ H D I h
 rw [exec_Assign_arm]
 refine wpAny_bind (wpAny_standAt ?_)
 rw [hs]
 refine wpAny_bind (wpAny_pure ?_)
 rw [if_neg (by decide)]
 refine wpAny_bind (Tuple_ (thn (ha _ pins s σ H _ I h) fun us s1 ⟨vs,H1,I1,r1,q1⟩=>?_))
 obtain ⟨v,w,e1,q1⟩:=q1
 subst e1
 obtain ⟨u1,u2,rfl,rv,rw'⟩:∃ u1 u2,us=[u1,u2]∧RelV v u1∧RelV w u2:=by
  cases r1 with
  | cons p q =>
    cases q with
    | cons p' q' =>
      cases q'
      exact ⟨_,_,rfl,p,p'⟩
 refine wpAny_newObj_type ?_ (by show 2≤sizeLine; decide)
 have I2:Inv X pins σ H1 { s1 with heap:=s1.heap.push { cls:=.type "tuple",data:=.seq [u1,u2].toArray } }:=I1.kept (t':=s1.toks) fun b o e=>Heap.get?_push_of_some _ e
 rw [hw]
 refine wpAny_bind (wpAny_pure ?_)
 show wpAny (model X.prog X.w) X.A (do rule "assign.swapped-stores"; let items ← unpackItems (.ref s1.heap.objs.size) 2 none; assignInOrder [fun v=>bindName X.env y v,fun v=>bindName X.env x v] items.reverse; pure Flow.next) _ _ _
 refine wpAny_bind (wpAny_rule (wpAny_bind (unpackItems_tuple (items:=#[u1,u2]) (I.ok.hd hc) (IsTup.new s1.heap _) fun h' hx'=>?_)))
 have I3:=I2.kept (h':=h') (t':=s1.toks) fun b o e=>hx' b o (Nat.ne_of_lt (Heap.lt_size e)) e
 show wpAny _ _ (assignInOrder [fun v=>bindName X.env y v,fun v=>bindName X.env x v] [u2,u1] >>= fun _=>pure Flow.next) _ _ _
 refine wpAny_bind (assignInOrder_cons (wpAny_bindName (store_ok I3 hN hj (.inl hy) rw' (fun s2 I4=>?_) (.inr hy))))
 refine assignInOrder_cons (wpAny_bindName (store_ok I4 hN hi (.inl hx) rv (fun s3 I5=>assignInOrder_nil (wpAny_pure ?_)) (.inr hx)))
 rw [List.set_comm _ _ (Ne.symm hij)] at I5
 exact ⟨_,H1,I5,q1⟩
def tAug (i:Nat) (te:TE) (ti:TIp):TS:=fun D σ H=>∃ x,σ[i]? = some (some x)∧te σ H fun y H1=>ti x y H1 fun z H2=>D.nx (σ.set i (some z)) H2
theorem ps_aug {i:Nat} {x:Str} {e:Expr} {te:TE} {op:Operator} {ti:TIp} {pos':Pos} (hN:X.N.Nodup) (hi:X.N[i]? = some x) (hx:Loc X.env.scope x) (he:PE X e te) (ho:PIp X op ti) (hf:X.fn x=true∨X.env.scope.names.lookup x=some .local:=by first | exact .inl rfl | exact .inr rfl | assumption) :
 PS X (.AugAssign (.Name x pos') op e pos) (tAug i te ti):=by
 intro pins s σ H D I h
 obtain ⟨v,e1,h⟩:=h
 obtain ⟨m,hn,hl⟩:=I.loc
 have vis:Vis X.env.scope x:=by rcases hx with k | k; exact .inl k; exact .inr (.inl k)
 obtain ⟨u,r,l⟩:=hl i x v hi e1 vis
 refine wpAny_AugAssign_Name ?_
 have go:wpAny (model X.prog X.w) X.A (eval e X.env) (fun w s₂=>wpAny (model X.prog X.w) X.A (inplaceOp op u w) (fun r s₃=>wpAny (model X.prog X.w) X.A (storeName X.env x r) (fun _=>SP X pins D .next) X.xe s₃) X.xe s₂) X.xe s:=by
  refine thn (he pins s σ H _ I h) fun w s1 ⟨y,H1,I1,r1,q1⟩=>?_
  refine thn (ho pins s1 σ H1 v y u w _ I1 r r1 q1) fun z s2 ⟨zv,H2,I2,r2,q2⟩=>?_
  exact store_ok I2 hN hi hx r2 (fun s3 I3=>⟨_,H2,I3,q2⟩) hf
 rcases l with ⟨hk,hm⟩ | ⟨hk,c,hc,hcell⟩
 · exact wpAny_loadName_local I.ok.kind hk hn hm go
 · rcases hk with hk | hk
   · exact wpAny_loadName_cell I.ok.kind hk hc hcell go
   · rcases hx with k | k
     · have:X.env.scope.names.lookup x=some .free:=hk
       rw [k] at this; cases this
     · have:X.env.scope.names.lookup x=some .free:=hk
       rw [k] at this; cases this
end
section
variable {X:Cx} {pos:Pos}
def tWhile (c:TT) (tb:TS):TS:=fun D σ H=>∃ W:Nat→St→Hp→Prop,(∃ m,W m σ H)∧∀ m σ H,W m σ H →
 c σ H fun b H1=>if b=true then ∃ N:St→Hp→Prop,(∀ σ' H',N σ' H'→∃ m',m' < m∧W m' σ' H')∧tb { D with nx:=N,ct:=N,bk:=D.nx } σ H1 else D.nx σ H1
theorem ps_while {c:Expr} {body:List Stmt} {tc:TT} {tb:TS} (hp:PassesOwn (model X.prog X.w) X.A X.env X.xe) (hc:PT X c tc) (hb:PSs X body tb):PS X (.While c body [] pos) (tWhile tc tb):=by
 intro pins s σ H D I h
 obtain ⟨W,⟨m0,w0⟩,turn⟩:=h
 refine wpAny_While (codeAny_whileLoop (fun n s'=>∃ σ' H',Inv X pins σ' H' s'∧W n σ' H') ?_ m0 ⟨σ,H,I,w0⟩)
 rintro n s1 ⟨σ1,H1,I1,w1⟩
 refine wpAny_passesOwn hp (thn (hc pins s1 σ1 H1 _ I1 (turn n σ1 H1 w1)) fun b s2 ⟨H2,I2,q2⟩=>?_)
 cases b with
 | true =>
   obtain ⟨N,hN,q2⟩:=q2
   rw [if_pos rfl]
   refine wpAny_passesOwn hp (thn (hb pins s2 σ1 H2 _ I2 q2) fun f s3 q3=>?_)
   cases f with
   | next =>
     obtain ⟨σ3,H3,I3,n3⟩:=q3
     obtain ⟨m',hm,w3⟩:=hN σ3 H3 n3
     exact ⟨m',hm,σ3,H3,I3,w3⟩
   | cont =>
     obtain ⟨σ3,H3,I3,n3⟩:=q3
     obtain ⟨m',hm,w3⟩:=hN σ3 H3 n3
     exact ⟨m',hm,σ3,H3,I3,w3⟩
   | brk=>exact q3
   | ret v=>exact q3
 | false =>
   rw [if_neg Bool.false_ne_true]
   exact wpAny_execs_nil ⟨σ1,H2,I2,q2⟩
end
structure It where
 go:Nat→Hp→Prop
 yld:Nat→Hp→V→Hp→Prop
 stop:Nat→Hp→Prop
def FpOk (X:Cx) (pins:List (Addr×Obj)) (H:Hp) (b:Addr):Prop :=
 H b=none∧b≠X.env.locals∧b∉X.fs∧(b∈X.ex∨X.s₀.heap.objs.size≤b)∧(∀ x c,X.env.cells.lookup x=some c→c≠b)∧∀ p∈X.pn++pins,p.1≠b
theorem Inv.fpOk {X:Cx} {pins:List (Addr×Obj)} {σ:St} {H H':Hp} {s:Shared} {b:Addr} (I:Inv X pins σ H s) (hb:s.heap.objs.size≤b) (hn:H' b=none):FpOk X pins H' b:=by
 refine ⟨hn,Nat.ne_of_gt (Nat.lt_of_lt_of_le I.lt hb),I.nofs hb,.inr (Nat.le_trans I.sz hb),fun x c e z=>?_,fun p hp z=>?_⟩
 · obtain ⟨v,q⟩:=I.cell x c e
   exact absurd (Nat.lt_of_lt_of_le q.lt (by rw [z]; exact hb)) (Nat.lt_irrefl _)
 · exact absurd (Nat.lt_of_lt_of_le (Heap.lt_size (I.pin p hp).1) (by rw [z]; exact hb)) (Nat.lt_irrefl _)
structure Turn (P:Program) (w:World) (K:PySem.W.Frag) (tg:Expr) (J:It) (fp:List Addr) (it:Addr) (tn:Nat→Heap→Prop):Prop where
 mem:it∈fp
 obj:∀ i h,tn i h→∀ b∈fp,∃ o,h.get? b=some o∧∀ v,o.data≠.cell v
 keep:∀ i h h',tn i h→(∀ b∈fp,∀ o,h.get? b=some o→h'.get? b=some o)→tn i h'
 item:∀ (X:Cx),X.prog=P→X.w=w→X.K=K→X.calm=true→∀ (i:Nat) (pins:List (Addr×Obj)) (s:Shared) (σ:St) (H:Hp) (E:Value→Shared→Prop),Inv X pins σ H s→(∀ b∈fp,FpOk X pins H b)→tn i s.heap→J.go i H →
  wpAny (model P w) X.A (pyNext (.ref it)) (fun r s1=>∃ u,r=some u ∧
   wpAny (model P w) X.A (letOwnedTupleGo tg (.ref it) u) (fun _ s2=>∃ x H',Inv X pins σ H' s2∧RelV x u∧J.yld i H x H'∧tn (i+1) s2.heap∧∀ b∈fp,H' b=none) E s1) E s
 done:∀ (X:Cx),X.prog=P→X.w=w→X.K=K→X.calm=true→∀ (i:Nat) (pins:List (Addr×Obj)) (s:Shared) (σ:St) (H:Hp) (E:Value→Shared→Prop),Inv X pins σ H s→(∀ b∈fp,FpOk X pins H b)→tn i s.heap→J.stop i H →
  wpAny (model P w) X.A (pyNext (.ref it)) (fun r s1=>r=none∧Inv X pins σ H s1) E s
 self:∀ (A:Around) (i:Nat) (s:Shared) (Q:Value→Shared→Prop) (E:Value→Shared→Prop),tn i s.heap→Q (.ref it) s→wpAny (model P w) A (pyIter (.ref it)) Q E s
abbrev TI:=St→Hp→(It→Hp→Prop)→Prop
def PIE (X:Cx) (pins:List (Addr×Obj)) (σ:St) (tg:Expr) (R:It→Hp→Prop) (itv:Value) (s2:Shared):Prop :=
 ∃ (it:Addr) (fp:List Addr) (tn:Nat→Heap→Prop) (J:It) (H':Hp),itv=.ref it∧Inv X pins σ H' s2∧Turn X.prog X.w X.K tg J fp it tn∧tn 0 s2.heap∧(∀ b∈fp,FpOk X pins H' b)∧R J H'
def PI (X:Cx) (tg iter:Expr) (wi:TI):Prop :=
 ∀ (pins:List (Addr×Obj)) (s:Shared) (σ:St) (H:Hp) (R:It→Hp→Prop),Inv X pins σ H s→wi σ H R →
   wpAny (model X.prog X.w) X.A (eval iter X.env) (fun v s1=>wpAny (model X.prog X.w) X.A (pyIter v) (PIE X pins σ tg R) X.xe s1) X.xe s
theorem go_of {M:Model} {A:Around} {E:Value→Shared→Prop} {s:Shared} {tg:Expr} {it:Addr} {u:Value} {o:Obj} {n:String} {vs:Array Value} {Q:Unit→Shared→Prop} (ho:s.heap.get? it=some o) (hc:o.cls=.type n) (hd:o.data=.fields vs)
 (hn:["enumerate","zip","dict_itemiterator","dict_reverseitemiterator","odict_iterator","itertools.zip_longest","itertools.pairwise"].contains n=false) (hQ:Q () s):wpAny M A (letOwnedTupleGo tg (.ref it) u) Q E s:=by
 unfold letOwnedTupleGo
 cases tg <;> first
  | exact wpAny_pure hQ
  | (cases u <;> first
      | exact wpAny_pure hQ
      | (refine wpAny_bind (wpAny_load ho ?_)
         rw [hc,hd]
         show wpAny M A (if (["enumerate","zip","dict_itemiterator","dict_reverseitemiterator","odict_iterator","itertools.zip_longest","itertools.pairwise"].contains n && vs[0]? == some (rawInt _))=true then _ else _) Q E s
         rw [if_neg (by intro h; rw [hn,Bool.false_and] at h; cases h)]
         exact wpAny_pure hQ))
def Itl (K:PySem.W.Frag) (a:Addr):It :=
 ⟨fun i H=>∃ xs x,SqL K H a xs∧xs[i]? = some x,fun i H x H'=>H'=H∧∀ xs,SqL K H a xs→xs[i]? = some x,fun i H=>∃ xs,SqL K H a xs∧xs.length≤i⟩
def Itt (K:PySem.W.Frag) (a:Addr):It :=
 ⟨fun i H=>∃ xs x,SqT K H a xs∧xs[i]? = some x,fun i H x H'=>H'=H∧∀ xs,SqT K H a xs→xs[i]? = some x,fun i H=>∃ xs,SqT K H a xs∧xs.length≤i⟩
def Itr (lo:Int) (n:Nat):It:=⟨fun i _=>i < n,fun i H x H'=>H'=H∧x=.int (lo+i),fun i _=>n≤i⟩
theorem turn_list {P:Program} {w:World} {K:PySem.W.Frag} {tg:Expr} (a it:Addr):Turn P w K tg (Itl K a) [it] it (fun i h=>h.IsListIter it a i) where
 mem:=by simp
 obj:=fun i h st b hb=>by
  have e:b=it:=by simpa using hb
  subst e
  obtain ⟨o,e,c,d⟩:=st
  exact ⟨o,e,fun v z=>by rw [d] at z; cases z⟩
 keep:=fun i h h' st k=>st.at fun o e=>k it (by simp) o e
 item:=by
  intro X hP hw hK hc i pins s σ H E I hf st hg
  subst hP hw hK
  obtain ⟨xs,x,hq,hx⟩:=hg
  obtain ⟨its,rv,p,hz⟩:=I.list hq
  obtain ⟨u,hu,ru⟩:=rv.get hx
  obtain ⟨f0,f1,f2,f3,f4,f5⟩:=hf it (by simp)
  refine wpAny_pyNext_list_item st p.isList (x:=u) (by simpa using hu) fun h' st' sb=>?_
  have I1:Inv X pins σ H { s with heap:=h' }:=I.turned (t':=s.toks) (fun b o hb e=>(sb.2 b hb).trans e) f0 f1 f3 f4 f5
  obtain ⟨o,e,c,d⟩:=id st'
  exact ⟨u,rfl,go_of (s:={ s with heap:=h' }) e c d (by decide) ⟨x,H,I1,ru,⟨rfl,fun ys hy=>by rw [I.list_inj hy hq]; exact hx⟩,st',fun b hb=>(hf b hb).1⟩⟩
 done:=by
  intro X hP hw hK hc i pins s σ H E I hf st hg
  subst hP hw hK
  obtain ⟨xs,hq,hx⟩:=hg
  obtain ⟨its,rv,p,hz⟩:=I.list hq
  obtain ⟨f0,f1,f2,f3,f4,f5⟩:=hf it (by simp)
  have hl:=rv.length
  exact wpAny_pyNext_list_end (I.ok.hd hc) st p.isList (by simp; omega) fun h' eb=>⟨rfl,I.turned (t':=s.toks) (fun b o hb e=>eb b o hb e) f0 f1 f3 f4 f5⟩
 self:=fun _ _ _ _ _ st h=>wpAny_pyIter_listiter st h
theorem turn_tuple {P:Program} {w:World} {K:PySem.W.Frag} {tg:Expr} (a it:Addr):Turn P w K tg (Itt K a) [it] it (fun i h=>h.IsTupleIter it a i) where
 mem:=by simp
 obj:=fun i h st b hb=>by
  have e:b=it:=by simpa using hb
  subst e
  obtain ⟨o,e,c,d⟩:=st
  exact ⟨o,e,fun v z=>by rw [d] at z; cases z⟩
 keep:=fun i h h' st k=>st.at fun o e=>k it (by simp) o e
 item:=by
  intro X hP hw hK hc i pins s σ H E I hf st hg
  subst hP hw hK
  obtain ⟨xs,x,hq,hx⟩:=hg
  obtain ⟨its,rv,p,hz⟩:=I.tuple hq
  obtain ⟨u,hu,ru⟩:=rv.get hx
  obtain ⟨f0,f1,f2,f3,f4,f5⟩:=hf it (by simp)
  refine wpAny_pyNext_tuple_item st (show s.heap.IsTuple a its.toArray from p) (x:=u) (by simpa using hu) fun h' st' sb=>?_
  have I1:Inv X pins σ H { s with heap:=h' }:=I.turned (t':=s.toks) (fun b o hb e=>(sb.2 b hb).trans e) f0 f1 f3 f4 f5
  obtain ⟨o,e,c,d⟩:=id st'
  exact ⟨u,rfl,go_of (s:={ s with heap:=h' }) e c d (by decide) ⟨x,H,I1,ru,⟨rfl,fun ys hy=>by rw [I.tuple_inj hy hq]; exact hx⟩,st',fun b hb=>(hf b hb).1⟩⟩
 done:=by
  intro X hP hw hK hc i pins s σ H E I hf st hg
  subst hP hw hK
  obtain ⟨xs,hq,hx⟩:=hg
  obtain ⟨its,rv,p,hz⟩:=I.tuple hq
  obtain ⟨f0,f1,f2,f3,f4,f5⟩:=hf it (by simp)
  have hl:=rv.length
  exact wpAny_pyNext_tuple_end (I.ok.hd hc) st (show s.heap.IsTuple a its.toArray from p) (by simp; omega) fun h' eb=>⟨rfl,I.turned (t':=s.toks) (fun b o hb e=>eb b o hb e) f0 f1 f3 f4 f5⟩
 self:=fun _ _ _ _ _ st h=>wpAny_pyIter_tupleiter st h
theorem turn_range {P:Program} {w:World} {K:PySem.W.Frag} {tg:Expr} (it:Addr) (lo:Int) (n:Nat):Turn P w K tg (Itr lo n) [it] it (fun i h=>IsRangeIter h it (lo+(i:Nat) * 1) ((n:Int) - (i:Nat)) 1) where
 mem:=by simp
 obj:=fun i h st b hb=>by
  have e:b=it:=by simpa using hb
  subst e
  exact ⟨_,st,fun v z=>by
   have z':Data.fields _=Data.cell v:=z
   cases z'⟩
 keep:=fun i h h' st k=>k it (by simp) _ st
 item:=by
  intro X hP hw hK hc i pins s σ H E I hf st hg
  subst hP hw hK
  obtain ⟨f0,f1,f2,f3,f4,f5⟩:=hf it (by simp)
  have W:=Walks.range (prog:=X.prog) (w:=X.w) (I.ok.hd hc) it lo 1 n
  refine W.item i s _ _ hg st fun v h' tk hv st' kk=>?_
  obtain ⟨t,rfl⟩:=hv
  have I1:Inv X pins σ H { s with heap:=h',toks:=tk }:=I.turned (fun b o hb e=>kk b o (by simpa using hb) e) f0 f1 f3 f4 f5
  refine ⟨_,rfl,go_of (s:={ s with heap:=h',toks:=tk }) (n := "range_iterator") st' rfl rfl (by decide) ⟨.int (lo+i),H,I1,⟨t,?_⟩,⟨rfl,rfl⟩,st',fun b hb=>(hf b hb).1⟩⟩
  rw [Int.mul_one]
 done:=by
  intro X hP hw hK hc i pins s σ H E I hf st hg
  subst hP hw hK
  obtain ⟨f0,f1,f2,f3,f4,f5⟩:=hf it (by simp)
  exact wpAny_pyNext_range_end (I.ok.hd hc) st (by have:n≤i:=hg; omega) fun h' eb=>⟨rfl,I.turned (t':=s.toks) (fun b o hb e=>eb b o hb e) f0 f1 f3 f4 f5⟩
 self:=fun _ _ _ _ _ st h=>wpAny_pyIter_rangeiter st h
end L2
namespace L2
open PySem PySem.Spec PyProof.Rows
section
variable {X:Cx} {tg:Expr}
def iList (K:PySem.W.Frag) (tl:TE):TI:=fun σ H R=>tl σ H fun x H1=>∃ a,x=.ref a∧(∃ xs,SqL K H1 a xs)∧R (Itl K a) H1
def iTup (K:PySem.W.Frag) (tl:TE):TI:=fun σ H R=>tl σ H fun x H1=>∃ a,x=.ref a∧(∃ xs,SqT K H1 a xs)∧R (Itt K a) H1
theorem pi_list {l:Expr} {tl:TE} (hl:PE X l tl):PI X tg l (iList X.K tl):=by
 intro pins s σ H R I h
 refine thn (hl pins s σ H _ I h) fun v s1 ⟨x,H1,I1,r1,q1⟩=>?_
 obtain ⟨a,e,⟨xs,hq⟩,q⟩:=q1
 subst e
 cases r1
 obtain ⟨its,rv,p,hz⟩:=I1.list hq
 refine wpAny_pyIter_list p.isList ?_
 refine ⟨s1.heap.objs.size,[s1.heap.objs.size],_,_,H1,rfl,I1.kept (t':=s1.toks) fun b o e=>Heap.get?_push_of_some _ e,turn_list a _,⟨_,Heap.get?_push_size _ rfl,rfl,rfl⟩,fun b hb=>?_,q⟩
 have e:b=s1.heap.objs.size:=by simpa using hb
 subst e
 exact I1.fpOk (Nat.le_refl _) (I1.hok.fresh (Nat.le_refl _))
theorem pi_tup {l:Expr} {tl:TE} (hl:PE X l tl):PI X tg l (iTup X.K tl):=by
 intro pins s σ H R I h
 refine thn (hl pins s σ H _ I h) fun v s1 ⟨x,H1,I1,r1,q1⟩=>?_
 obtain ⟨a,e,⟨xs,hq⟩,q⟩:=q1
 subst e
 cases r1
 obtain ⟨its,rv,p,hz⟩:=I1.tuple hq
 refine wpAny_pyIter_tuple (show s1.heap.IsTuple a its.toArray from p) ?_
 refine ⟨s1.heap.objs.size,[s1.heap.objs.size],_,_,H1,rfl,I1.kept (t':=s1.toks) fun b o e=>Heap.get?_push_of_some _ e,turn_tuple a _,⟨_,Heap.get?_push_size _ rfl,rfl,rfl⟩,fun b hb=>?_,q⟩
 have e:b=s1.heap.objs.size:=by simpa using hb
 subst e
 exact I1.fpOk (Nat.le_refl _) (I1.hok.fresh (Nat.le_refl _))
theorem range_it {pins:List (Addr×Obj)} {σ:St} {H:Hp} {s:Shared} {R:It→Hp→Prop} {E:Value→Shared→Prop} {lo hi:Int} {t u v:Tok} {tk:Nat} (I:Inv X pins σ H s) (h1:-(2 ^ 62)≤lo) (h2:lo < 2 ^ 62) (h3:-(2 ^ 62)≤hi) (h4:hi < 2 ^ 62)
 (q:R (Itr lo (hi - lo).toNat) H):wpAny (model X.prog X.w) X.A (pyIter (.ref s.heap.objs.size)) (PIE X pins σ tg R) E { s with heap:=s.heap.push { cls:=.type "range",data:=.fields #[.int lo t,.int hi u,.int 1 v] },toks:=tk }:=by
 refine wpAny_pyIter_range (IsRange.new ..) (small_one h1 h2 h3 h4) ?_
 have I1:Inv X pins σ H { s with heap:=s.heap.push { cls:=.type "range",data:=.fields #[.int lo t,.int hi u,.int 1 v] },toks:=tk }:=I.kept fun b o e=>Heap.get?_push_of_some _ e
 refine ⟨(s.heap.push { cls:=.type "range",data:=.fields #[.int lo t,.int hi u,.int 1 v] }).objs.size,[(s.heap.push { cls:=.type "range",data:=.fields #[.int lo t,.int hi u,.int 1 v] }).objs.size],_,_,H,rfl,
  I1.kept (t':=tk) fun b o e=>Heap.get?_push_of_some _ e,turn_range _ lo (hi - lo).toNat,?_,fun b hb=>?_,q⟩
 · have e1:lo+((0:Nat):Int) * 1=lo:=by simp
   have e2:(((hi - lo).toNat:Nat):Int) - ((0:Nat):Int)=Builtin.Range.rangeSize lo hi 1:=by rw [rangeSize_one]; split <;> omega
   show IsRangeIter _ _ (lo+((0:Nat):Int) * 1) ((((hi - lo).toNat:Nat):Int) - ((0:Nat):Int)) 1
   rw [e1,e2]
   exact Heap.get?_push_size _ rfl
 · have e:b=(s.heap.push { cls:=.type "range",data:=.fields #[.int lo t,.int hi u,.int 1 v] }).objs.size:=by simpa using hb
   subst e
   exact I1.fpOk (Nat.le_refl _) (I1.hok.fresh (Nat.le_refl _))
def iRng1 (ta:TA):TI:=fun σ H R=>ta σ H fun vs H1=>∃ j:Int,vs=[.int j]∧-(2 ^ 62)≤j∧j < 2 ^ 62∧R (Itr 0 j.toNat) H1
theorem pi_range1 {a:Expr} {ta:TA} {p pos:Pos} (hg:Gl X "range") (hm:X.mg "range" = none) (ha:PA X [a] ta) (hs:starEach [a] X.env=[(false,eval a X.env)]:=by rfl):PI X tg (.Call (.Name "range" p) [a] [] pos) (iRng1 ta):=by
 intro pins s σ H R I h
 refine Call_ (ld_blt I hg hm boot_range (PyProof.Rows.callWith_type1 (thn (ha pos pins s σ H _ I h) fun us s1 ⟨vs,H1,I1,r1,q1⟩=>?_) hs rfl))
 obtain ⟨j,e,q1,q2,q⟩:=q1
 subst e
 cases r1 with
 | cons r rr =>
   cases rr
   obtain ⟨t,rfl⟩:=r
   exact call_range_1 (range_it I1 (by omega) (by omega) q1 q2 (by simpa using q))
def tFor (wi:TI) (g:TG) (tb:TS):TS:=fun D σ H=>wi σ H fun J H1=>∃ W:Nat→Nat→St→Hp→Prop,(∃ m,W 0 m σ H1)∧∀ i m σ H,W i m σ H →
 (J.stop i H∧D.nx σ H)∨(J.go i H∧∃ N:St→Hp→Prop,(∀ σ' H',N σ' H'→∃ m',m' < m∧W (i+1) m' σ' H')∧∀ x H',J.yld i H x H'→g x σ H' fun σ2 H2=>tb { D with nx:=N,ct:=N,bk:=D.nx } σ2 H2)
def pinsAt (fp:List Addr) (h:Heap):List (Addr×Obj):=fp.filterMap fun b=>(h.get? b).map fun o=>(b,o)
theorem mem_pinsAt {fp:List Addr} {h:Heap} {b:Addr} {o:Obj} (hb:b∈fp) (e:h.get? b=some o):(b,o)∈pinsAt fp h:=List.mem_filterMap.mpr ⟨b,hb,by rw [e]; rfl⟩
theorem of_pinsAt {fp:List Addr} {h:Heap} {p:Addr×Obj} (hp:p∈pinsAt fp h):p.1∈fp∧h.get? p.1=some p.2:=by
 obtain ⟨b,hb,e⟩:=List.mem_filterMap.mp hp
 cases q:h.get? b with
 | none=>rw [q] at e; cases e
 | some o =>
   rw [q] at e
   have e':(b,o)=p:=Option.some.inj e
   subst e'
   exact ⟨hb,q⟩
theorem Inv.pinned {pins:List (Addr×Obj)} {σ:St} {H:Hp} {s:Shared} {fp:List Addr} (I:Inv X pins σ H s) (hf:∀ b∈fp,FpOk X pins H b) (ho:∀ b∈fp,∃ o,s.heap.get? b=some o∧∀ v,o.data≠.cell v):Inv X (pins++pinsAt fp s.heap) σ H s :=
 I.pins_of fun p hp=>(List.mem_append.mp hp).elim (fun z=>I.pin p (List.mem_append_right _ z)) fun z=>by
  obtain ⟨hb,e⟩:=of_pinsAt z
  obtain ⟨f0,f1,f2,_⟩:=hf p.1 hb
  obtain ⟨o,e',d⟩:=ho p.1 hb
  rw [e] at e'; cases e'
  exact ⟨e,f0,f1,f2,d⟩
theorem Inv.unpinned {pins pl:List (Addr×Obj)} {σ:St} {H:Hp} {s:Shared} (I:Inv X (pins++pl) σ H s):Inv X pins σ H s:=I.pins_of fun p hp=>I.pin p (List.mem_append_right _ (List.mem_append_left _ hp))
theorem ps_for {iter:Expr} {body:List Stmt} {wi:TI} {g:TG} {tb:TS} {pos:Pos} (hp:PassesOwn (model X.prog X.w) X.A X.env X.xe) (hc:X.calm=true) (hi:PI X tg iter wi) (hg:PG X tg g) (hb:PSs X body tb)
 (hs:∀ x,foldedSetIterable iter X.env x=pure x:=by intro _; rfl):PS X (.For tg iter body [] pos) (tFor wi g tb):=by
 intro pins s σ H D I h
 refine wpAny_For (thn (hi pins s σ H _ I h) fun v s1 h1=>thn h1 fun itv s2 h2=>?_) hs
 obtain ⟨it,fp,tn,J,H2,e,I2,T,st2,f2,W,⟨m0,w0⟩,turn⟩:=h2
 subst e
 have stat:∀ {H':Hp},(∀ b∈fp,H' b=none)→∀ b∈fp,FpOk X pins H' b:=fun hn b hb=>⟨hn b hb,(f2 b hb).2⟩
 refine codeAny_forLoop_any (fun n s'=>∃ i σ' H',Inv X pins σ' H' s'∧tn i s'.heap∧(∀ b∈fp,H' b=none)∧W i n σ' H') ?_ m0 ⟨0,σ,H2,I2,st2,fun b hb=>(f2 b hb).1,w0⟩
 rintro n s3 ⟨i,σ3,H3,I3,st3,fr3,w3⟩
 rcases turn i n σ3 H3 w3 with ⟨stop,qn⟩ | ⟨go,N,hN,step⟩
 · refine wpAny_passesOwn hp (thn (T.done X rfl rfl rfl hc i pins s3 σ3 H3 X.xe I3 (stat fr3) st3 stop) fun r s4 ⟨hr,I4⟩=>?_)
   subst hr
   exact wpAny_execs_nil ⟨σ3,H3,I4,qn⟩
 · refine wpAny_passesOwn hp (thn (T.item X rfl rfl rfl hc i pins s3 σ3 H3 X.xe I3 (stat fr3) st3 go) fun r s4 ⟨u,hr,h4⟩=>?_)
   subst hr
   refine wpAny_passesOwn hp (thn h4 fun _ s5 ⟨x,H5,I5,r5,y5,st5,fr5⟩=>?_)
   have I5':=I5.pinned (stat fr5) (T.obj _ _ st5)
   refine wpAny_passesOwn hp (thn (hg _ s5 σ3 H5 x u _ I5' r5 (step x H5 y5)) fun _ s6 ⟨σ6,H6,I6,q6⟩=>?_)
   refine wpAny_passesOwn hp (thn (hb _ s6 σ6 H6 _ I6 q6) fun f s7 q7=>?_)
   have again:∀ {σ7:St} {H7:Hp},Inv X (pins++pinsAt fp s5.heap) σ7 H7 s7→N σ7 H7→∃ m,m < n∧∃ i σ' H',Inv X pins σ' H' s7∧tn i s7.heap∧(∀ b∈fp,H' b=none)∧W i m σ' H':=fun {σ7 H7} I7 n7=>by
    obtain ⟨m',hm,w7⟩:=hN σ7 H7 n7
    refine ⟨m',hm,i+1,σ7,H7,I7.unpinned,T.keep _ _ _ st5 fun b hb o e=>(I7.pin (b,o) (List.mem_append_right _ (List.mem_append_right _ (mem_pinsAt hb e)))).1,fun b hb=>?_,w7⟩
    obtain ⟨o,e,d⟩:=T.obj _ _ st5 b hb
    exact (I7.pin (b,o) (List.mem_append_right _ (List.mem_append_right _ (mem_pinsAt hb e)))).2.1
   cases f with
   | next=>obtain ⟨σ7,H7,I7,n7⟩:=q7; exact again I7 n7
   | cont=>obtain ⟨σ7,H7,I7,n7⟩:=q7; exact again I7 n7
   | brk=>obtain ⟨σ7,H7,I7,q7⟩:=q7; exact ⟨σ7,H7,I7.unpinned,q7⟩
   | ret v=>obtain ⟨x7,σ7,H7,I7,r7,q7⟩:=q7; exact ⟨x7,σ7,H7,I7.unpinned,r7,q7⟩
end
theorem for_list {K:PySem.W.Frag} {a:Addr} {xs:List V} {g:TG} {tb:TS} {D:Ends} {σ:St} {H:Hp} (Pv:Nat→St→Hp→Prop) (h0:Pv 0 σ H) (hl:∀ i σ H,i≤xs.length→Pv i σ H→SqL K H a xs)
 (hs:∀ i x σ H,xs[i]? = some x→Pv i σ H→g x σ H fun σ2 H2=>tb { D with nx:=Pv (i+1),ct:=Pv (i+1),bk:=D.nx } σ2 H2) (hd:∀ σ H,Pv xs.length σ H→D.nx σ H) :
 ∃ W:Nat→Nat→St→Hp→Prop,(∃ m,W 0 m σ H)∧∀ i m σ H,W i m σ H →
   ((Itl K a).stop i H∧D.nx σ H)∨((Itl K a).go i H∧∃ N:St→Hp→Prop,(∀ σ' H',N σ' H'→∃ m',m' < m∧W (i+1) m' σ' H')∧∀ x H',(Itl K a).yld i H x H'→g x σ H' fun σ2 H2=>tb { D with nx:=N,ct:=N,bk:=D.nx } σ2 H2):=by
 refine ⟨fun i m σ H=>m=xs.length - i∧i≤xs.length∧Pv i σ H,⟨xs.length,by simp,Nat.zero_le _,h0⟩,?_⟩
 rintro i m σ H ⟨rfl,hi,p⟩
 have q:=hl i σ H hi p
 by_cases hlt:i < xs.length
 · refine .inr ⟨⟨xs,xs[i],q,by simp [hlt]⟩,Pv (i+1),fun σ' H' p'=>⟨xs.length - (i+1),by omega,rfl,hlt,p'⟩,fun x H' y=>?_⟩
   obtain ⟨e,y⟩:=y
   subst e
   exact hs i x σ _ (y xs q) p
 · have e:i=xs.length:=by omega
   subst e
   exact .inl ⟨⟨xs,q,Nat.le_refl _⟩,hd σ H p⟩
theorem for_tup {K:PySem.W.Frag} {a:Addr} {xs:List V} {g:TG} {tb:TS} {D:Ends} {σ:St} {H:Hp} (Pv:Nat→St→Hp→Prop) (h0:Pv 0 σ H) (hl:∀ i σ H,i≤xs.length→Pv i σ H→SqT K H a xs)
 (hs:∀ i x σ H,xs[i]? = some x→Pv i σ H→g x σ H fun σ2 H2=>tb { D with nx:=Pv (i+1),ct:=Pv (i+1),bk:=D.nx } σ2 H2) (hd:∀ σ H,Pv xs.length σ H→D.nx σ H) :
 ∃ W:Nat→Nat→St→Hp→Prop,(∃ m,W 0 m σ H)∧∀ i m σ H,W i m σ H →
   ((Itt K a).stop i H∧D.nx σ H)∨((Itt K a).go i H∧∃ N:St→Hp→Prop,(∀ σ' H',N σ' H'→∃ m',m' < m∧W (i+1) m' σ' H')∧∀ x H',(Itt K a).yld i H x H'→g x σ H' fun σ2 H2=>tb { D with nx:=N,ct:=N,bk:=D.nx } σ2 H2):=by
 refine ⟨fun i m σ H=>m=xs.length - i∧i≤xs.length∧Pv i σ H,⟨xs.length,by simp,Nat.zero_le _,h0⟩,?_⟩
 rintro i m σ H ⟨rfl,hi,p⟩
 have q:=hl i σ H hi p
 by_cases hlt:i < xs.length
 · refine .inr ⟨⟨xs,xs[i],q,by simp [hlt]⟩,Pv (i+1),fun σ' H' p'=>⟨xs.length - (i+1),by omega,rfl,hlt,p'⟩,fun x H' y=>?_⟩
   obtain ⟨e,y⟩:=y
   subst e
   exact hs i x σ _ (y xs q) p
 · have e:i=xs.length:=by omega
   subst e
   exact .inl ⟨⟨xs,q,Nat.le_refl _⟩,hd σ H p⟩
theorem for_range {lo:Int} {n:Nat} {g:TG} {tb:TS} {D:Ends} {σ:St} {H:Hp} (Pv:Nat→St→Hp→Prop) (h0:Pv 0 σ H)
 (hs:∀ i σ H,i < n→Pv i σ H→g (.int (lo+i)) σ H fun σ2 H2=>tb { D with nx:=Pv (i+1),ct:=Pv (i+1),bk:=D.nx } σ2 H2) (hd:∀ σ H,Pv n σ H→D.nx σ H) :
 ∃ W:Nat→Nat→St→Hp→Prop,(∃ m,W 0 m σ H)∧∀ i m σ H,W i m σ H →
   ((Itr lo n).stop i H∧D.nx σ H)∨((Itr lo n).go i H∧∃ N:St→Hp→Prop,(∀ σ' H',N σ' H'→∃ m',m' < m∧W (i+1) m' σ' H')∧∀ x H',(Itr lo n).yld i H x H'→g x σ H' fun σ2 H2=>tb { D with nx:=N,ct:=N,bk:=D.nx } σ2 H2):=by
 refine ⟨fun i m σ H=>m=n - i∧i≤n∧Pv i σ H,⟨n,by simp,Nat.zero_le _,h0⟩,?_⟩
 rintro i m σ H ⟨rfl,hi,p⟩
 by_cases hlt:i < n
 · refine .inr ⟨hlt,Pv (i+1),fun σ' H' p'=>⟨n - (i+1),by omega,rfl,hlt,p'⟩,fun x H' y=>?_⟩
   obtain ⟨e,y⟩:=y
   subst e y
   exact hs i σ _ hlt p
 · have e:i=n:=by omega
   subst e
   exact .inl ⟨Nat.le_refl _,hd σ H p⟩
theorem while_by {c:TT} {tb:TS} {D:Ends} {σ:St} {H:Hp} (Pv:St→Hp→Prop) (μ:St→Hp→Nat) (h0:Pv σ H)
 (hs:∀ σ H,Pv σ H→c σ H fun b H1=>if b=true then tb { D with nx:=fun σ' H'=>Pv σ' H'∧μ σ' H' < μ σ H,ct:=fun σ' H'=>Pv σ' H'∧μ σ' H' < μ σ H,bk:=D.nx } σ H1 else D.nx σ H1)
 (mono:∀ σ H Q Q',(∀ b H1,Q b H1→Q' b H1)→c σ H Q→c σ H Q'):tWhile c tb D σ H:=by
 refine ⟨fun m σ H=>m=μ σ H∧Pv σ H,⟨_,rfl,h0⟩,?_⟩
 rintro m σ H ⟨rfl,p⟩
 refine mono σ H _ _ (fun b H1 q=>?_) (hs σ H p)
 cases b with
 | true=>exact ⟨_,fun σ' H' ⟨p',l⟩=>⟨_,l,rfl,p'⟩,q⟩
 | false=>exact q
end L2
namespace L2
open PySem PySem.Spec PyProof.Rows
abbrev R2:=V→V→Hp→VK→Prop
def OpR (X:Cx) (f:Value→Value→Sem Value) (r:R2):Prop :=
 ∀ (pins:List (Addr×Obj)) (s:Shared) (σ:St) (H:Hp) (x y:V) (v u:Value) (Q:VK),Inv X pins σ H s→RelV x v→RelV y u→r x y H Q →
   wpAny (model X.prog X.w) X.A (f v u) (EP X pins σ Q) X.xe s
def UnR (X:Cx) (f:Value→Sem Value) (r:V→Hp→VK→Prop):Prop :=
 ∀ (pins:List (Addr×Obj)) (s:Shared) (σ:St) (H:Hp) (x:V) (v:Value) (Q:VK),Inv X pins σ H s→RelV x v→r x H Q →
   wpAny (model X.prog X.w) X.A (f v) (EP X pins σ Q) X.xe s
def CallR (X:Cx) (f:Value) (r:List V→Hp→VK→Prop):Prop :=
 ∀ (pins:List (Addr×Obj)) (s:Shared) (σ:St) (H:Hp) (xs:List V) (us:List Value) (Q:VK),Inv X pins σ H s→Vals xs us→r xs H Q →
   wpAny (model X.prog X.w) X.A (call f us) (EP X pins σ Q) X.xe s
def TruR (X:Cx) (r:V→Hp→(Bool→Hp→Prop)→Prop):Prop :=
 ∀ (pins:List (Addr×Obj)) (s:Shared) (σ:St) (H:Hp) (x:V) (v:Value) (Q:Bool→Hp→Prop),Inv X pins σ H s→RelV x v→r x H Q →
   wpAny (model X.prog X.w) X.A (truthy v) (TP X pins σ Q) X.xe s
def tOp (r:R2) (ta tb:TE):TE:=fun σ H Q=>ta σ H fun x H1=>tb σ H1 fun y H2=>r x y H2 Q
def tUn (r:V→Hp→VK→Prop) (ta:TE):TE:=fun σ H Q=>ta σ H fun x H1=>r x H1 Q
def rI (C:Int→Int→Prop) (g:Int→Int→V):R2:=fun x y H Q=>∃ i j,x=.int i∧y=.int j∧C i j∧Q (g i j) H
def rI0 (g:Int→Int→V):R2:=fun x y H Q=>∃ i j,x=.int i∧y=.int j∧Q (g i j) H
def rU (g:Int→V):V→Hp→VK→Prop:=fun x H Q=>∃ i,x=.int i∧Q (g i) H
section
variable {X:Cx} {a b c:Expr} {ta tb tc:TE} {pos:Pos}
theorem binT (ha:PE X a ta) (hb:PE X b tb) {pins:List (Addr×Obj)} {s:Shared} {σ:St} {H:Hp} {R:V→V→Hp→Prop} (I:Inv X pins σ H s)
 (h:ta σ H fun x H1=>tb σ H1 fun y H2=>R x y H2) {Q:Value→Shared→Prop} {f:Value→Value→Sem Value}
 (hf:∀ v u s2 x y H2,Inv X pins σ H2 s2→RelV x v→RelV y u→R x y H2→wpAny (model X.prog X.w) X.A (f v u) Q X.xe s2) :
 wpAny (model X.prog X.w) X.A (eval a X.env) (fun v s₁=>wpAny (model X.prog X.w) X.A (eval b X.env) (fun u s₂=>wpAny (model X.prog X.w) X.A (f v u) Q X.xe s₂) X.xe s₁) X.xe s:=by
 refine thn (ha pins s σ H _ I h) fun v s1 ⟨x,H1,I1,r1,q1⟩=>?_
 refine thn (hb pins s1 σ H1 _ I1 q1) fun u s2 ⟨y,H2,I2,r2,q2⟩=>?_
 exact hf v u s2 x y H2 I2 r1 r2 q2
theorem pe_op {op:Operator} {r:R2} (ho:OpR X (binaryOp op) r) (ha:PE X a ta) (hb:PE X b tb):PE X (.BinOp a op b pos) (tOp r ta tb):=by
 intro pins s σ H Q I h
 exact wpAny_BinOp (binT ha hb I h fun v u s2 x y H2 I2 rx ry q=>ho pins s2 σ H2 x y v u Q I2 rx ry q)
theorem pe_un {op:UnaryOp} {r:V→Hp→VK→Prop} (ho:UnR X (unaryOp op) r) (ha:PE X a ta):PE X (.UnaryOp op a pos) (tUn r ta):=by
 intro pins s σ H Q I h
 exact UnaryOp_ (thn (ha pins s σ H _ I h) fun v s1 ⟨x,H1,I1,r1,q1⟩=>ho pins s1 σ H1 x v Q I1 r1 q1)
theorem opI {f:Value→Value→Sem Value} {C:Int→Int→Prop} {g:Int→Int→Int}
 (rule:∀ (i j:Int) (t u:Tok) (s:Shared) (Q:Value→Shared→Prop) (E:Value→Shared→Prop),C i j→Q (.int (g i j) s.toks) { s with toks:=s.toks+1 }→wpAny (model X.prog X.w) X.A (f (.int i t) (.int j u)) Q E s) :
 OpR X f (rI C fun i j=>.int (g i j)):=by
 intro pins s σ H x y v u Q I rx ry h
 obtain ⟨i,j,rfl,rfl,hc,q⟩:=h
 obtain ⟨t,rfl⟩:=rx
 obtain ⟨t',rfl⟩:=ry
 exact rule i j t t' s _ _ hc ⟨.int (g i j),H,I.tok _,⟨_,rfl⟩,q⟩
theorem opI0 {f:Value→Value→Sem Value} {g:Int→Int→Int}
 (rule:∀ (i j:Int) (t u:Tok) (s:Shared) (Q:Value→Shared→Prop) (E:Value→Shared→Prop),Q (.int (g i j) s.toks) { s with toks:=s.toks+1 }→wpAny (model X.prog X.w) X.A (f (.int i t) (.int j u)) Q E s) :
 OpR X f (rI0 fun i j=>.int (g i j)):=by
 intro pins s σ H x y v u Q I rx ry h
 obtain ⟨i,j,rfl,rfl,q⟩:=h
 obtain ⟨t,rfl⟩:=rx
 obtain ⟨t',rfl⟩:=ry
 exact rule i j t t' s _ _ ⟨.int (g i j),H,I.tok _,⟨_,rfl⟩,q⟩
theorem opB0 {f:Value→Value→Sem Value} {g:Int→Int→Bool}
 (rule:∀ (i j:Int) (t u:Tok) (s:Shared) (Q:Value→Shared→Prop) (E:Value→Shared→Prop),Q (.bool (g i j)) s→wpAny (model X.prog X.w) X.A (f (.int i t) (.int j u)) Q E s) :
 OpR X f (rI0 fun i j=>.bl (g i j)):=by
 intro pins s σ H x y v u Q I rx ry h
 obtain ⟨i,j,rfl,rfl,q⟩:=h
 obtain ⟨t,rfl⟩:=rx
 obtain ⟨t',rfl⟩:=ry
 exact rule i j t t' s _ _ ⟨.bl (g i j),H,I,rfl,q⟩
def CPow (i j:Int):Prop:=0≤j∧j≤1000000∧i.natAbs < 2 ^ 64
theorem op_add:OpR X (binaryOp .Add) (rI0 fun i j=>.int (i+j)):=opI0 fun _ _ _ _ _ _ _ q=>add_int q
theorem op_sub:OpR X (binaryOp .Sub) (rI0 fun i j=>.int (i - j)):=opI0 fun _ _ _ _ _ _ _ q=>sub_int q
theorem op_modN:OpR X (binaryOp .Mod) (rI (fun _ j=>j≠0) fun i j=>.int (i.fmod j)):=opI fun _ _ _ _ _ _ _ hc q=>mod_int' hc q
theorem op_pow:OpR X (binaryOp .Pow) (rI CPow fun i j=>.int (i ^ j.toNat)):=opI fun _ _ _ _ _ _ _ hc q=>pow_int_small hc.1 hc.2.1 hc.2.2 q
theorem unI {f:Value→Sem Value} {g:Int→Int}
 (rule:∀ (i:Int) (t:Tok) (s:Shared) (Q:Value→Shared→Prop) (E:Value→Shared→Prop),Q (.int (g i) s.toks) { s with toks:=s.toks+1 }→wpAny (model X.prog X.w) X.A (f (.int i t)) Q E s) :
 UnR X f (rU fun i=>.int (g i)):=by
 intro pins s σ H x v Q I rx h
 obtain ⟨i,rfl,q⟩:=h
 obtain ⟨t,rfl⟩:=rx
 exact rule i t s _ _ ⟨.int (g i),H,I.tok _,⟨_,rfl⟩,q⟩
theorem un_neg:UnR X (unaryOp .USub) (rU fun i=>.int (-i)):=unI fun _ _ _ _ _ q=>neg_int q
end
def scal:V→V→Bool
 | .non,.non=>true | .non,.int _=>true | .int _,.non=>true | .non,.bl _=>true | .bl _,.non=>true | .non,.str _=>true | .str _,.non=>true
 | .int _,.int _=>true | .bl _,.bl _=>true | .str _,.str _=>true | .byt _,.byt _=>true
 | .int _,.str _=>true | .str _,.int _=>true | .bl _,.str _=>true | .str _,.bl _=>true
 | _,_=>false
def rEq:R2:=fun x y H Q=>scal x y=true∧Q (.bl (decide (x=y))) H
def rNe:R2:=fun x y H Q=>scal x y=true∧Q (.bl (!decide (x=y))) H
theorem dec_int {i j:Int}:decide (V.int i=V.int j)=(i == j):=by
 rw [Bool.eq_iff_iff]
 simp
theorem dec_bl {i j:Bool}:decide (V.bl i=V.bl j)=(i == j):=by
 rw [Bool.eq_iff_iff]
 simp
theorem dec_str {i j:Str}:decide (V.str i=V.str j)=(i == j):=by
 rw [Bool.eq_iff_iff]
 simp
theorem dec_byt {i j:Array UInt8}:decide (V.byt i=V.byt j)=(i.toList == j.toList):=by
 rw [Bool.eq_iff_iff]
 cases i
 cases j
 simp
section
variable {X:Cx} {a b c:Expr} {ta tb tc:TE} {pos:Pos}
theorem fin_bl {pins:List (Addr×Obj)} {σ:St} {H:Hp} {s:Shared} {Q:VK} {k k':Bool} (I:Inv X pins σ H s) (q:Q (.bl k) H) (e:k=k'):EP X pins σ Q (.bool k') s:=by
 subst e
 exact ⟨.bl k,H,I,rfl,q⟩
theorem op_eq:OpR X (compareOp .Eq) rEq:=by
 intro pins s σ H x y v u Q I rx ry h
 obtain ⟨hs,q⟩:=h
 cases x with
 | non =>
   cases rx
   cases y with
   | non=>cases ry; exact PySem.EqNone.eq_none_none (fin_bl I q (by simp))
   | bl j=>cases ry; exact PySem.EqNone.eq_none_bool (fin_bl I q (by simp))
   | int j=>obtain ⟨t',rfl⟩:=ry; exact PySem.EqNone.eq_none_int (fin_bl I q (by simp))
   | str j=>obtain ⟨t',rfl⟩:=ry; exact PySem.EqNone.eq_none_str (fin_bl I q (by simp))
   | _=>exact absurd (show false=true from hs) Bool.false_ne_true
 | bl i =>
   cases rx
   cases y with
   | non=>cases ry; exact PySem.EqNone.eq_bool_none (fin_bl I q (by simp))
   | bl j=>cases ry; exact eq_bool (fin_bl I q dec_bl)
   | str j=>obtain ⟨t',rfl⟩:=ry; exact PySem.EqMixed.eq_bool_str (fin_bl I q (by simp))
   | _=>exact absurd (show false=true from hs) Bool.false_ne_true
 | int i =>
   obtain ⟨t,rfl⟩:=rx
   cases y with
   | non=>cases ry; exact PySem.EqNone.eq_int_none (fin_bl I q (by simp))
   | int j=>obtain ⟨t',rfl⟩:=ry; exact eq_int (fin_bl I q dec_int)
   | str j=>obtain ⟨t',rfl⟩:=ry; exact PySem.EqMixed.eq_int_str (fin_bl I q (by simp))
   | _=>exact absurd (show false=true from hs) Bool.false_ne_true
 | str i =>
   obtain ⟨t,rfl⟩:=rx
   cases y with
   | non=>cases ry; exact PySem.EqNone.eq_str_none (fin_bl I q (by simp))
   | bl j=>cases ry; exact PySem.EqMixed.eq_str_bool (fin_bl I q (by simp))
   | int j=>obtain ⟨t',rfl⟩:=ry; exact PySem.EqMixed.eq_str_int (fin_bl I q (by simp))
   | str j=>obtain ⟨t',rfl⟩:=ry; exact eq_str (fin_bl I q dec_str)
   | _=>exact absurd (show false=true from hs) Bool.false_ne_true
 | byt i =>
   obtain ⟨t,rfl⟩:=rx
   cases y with
   | byt j=>obtain ⟨t',rfl⟩:=ry; exact PySem.W.eq_bytes (fin_bl I q dec_byt)
   | _=>exact absurd (show false=true from hs) Bool.false_ne_true
 | _=>cases y <;> exact absurd (show false=true from hs) Bool.false_ne_true
theorem op_ne:OpR X (compareOp .NotEq) rNe:=by
 intro pins s σ H x y v u Q I rx ry h
 obtain ⟨hs,q⟩:=h
 cases x with
 | non =>
   cases rx
   cases y with
   | non=>cases ry; exact PySem.EqNone.ne_none_none (fin_bl I q (by simp))
   | bl j=>cases ry; exact PySem.EqNone.ne_none_bool (fin_bl I q (by simp))
   | int j=>obtain ⟨t',rfl⟩:=ry; exact PySem.EqNone.ne_none_int (fin_bl I q (by simp))
   | str j=>obtain ⟨t',rfl⟩:=ry; exact PySem.EqNone.ne_none_str (fin_bl I q (by simp))
   | _=>exact absurd (show false=true from hs) Bool.false_ne_true
 | bl i =>
   cases rx
   cases y with
   | non=>cases ry; exact PySem.EqNone.ne_bool_none (fin_bl I q (by simp))
   | bl j=>cases ry; exact ne_bool (fin_bl I q (congrArg not dec_bl))
   | str j=>obtain ⟨t',rfl⟩:=ry; exact PySem.EqMixed.ne_bool_str (fin_bl I q (by simp))
   | _=>exact absurd (show false=true from hs) Bool.false_ne_true
 | int i =>
   obtain ⟨t,rfl⟩:=rx
   cases y with
   | non=>cases ry; exact PySem.EqNone.ne_int_none (fin_bl I q (by simp))
   | int j=>obtain ⟨t',rfl⟩:=ry; exact ne_int (fin_bl I q (congrArg not dec_int))
   | str j=>obtain ⟨t',rfl⟩:=ry; exact PySem.EqMixed.ne_int_str (fin_bl I q (by simp))
   | _=>exact absurd (show false=true from hs) Bool.false_ne_true
 | str i =>
   obtain ⟨t,rfl⟩:=rx
   cases y with
   | non=>cases ry; exact PySem.EqNone.ne_str_none (fin_bl I q (by simp))
   | bl j=>cases ry; exact PySem.EqMixed.ne_str_bool (fin_bl I q (by simp))
   | int j=>obtain ⟨t',rfl⟩:=ry; exact PySem.EqMixed.ne_str_int (fin_bl I q (by simp))
   | str j=>obtain ⟨t',rfl⟩:=ry; exact ne_str (fin_bl I q (congrArg not dec_str))
   | _=>exact absurd (show false=true from hs) Bool.false_ne_true
 | byt i =>
   obtain ⟨t,rfl⟩:=rx
   cases y with
   | byt j=>obtain ⟨t',rfl⟩:=ry; exact PySem.W.ne_bytes (fin_bl I q (congrArg not dec_byt))
   | _=>exact absurd (show false=true from hs) Bool.false_ne_true
 | _=>cases y <;> exact absurd (show false=true from hs) Bool.false_ne_true
theorem op_lt:OpR X (compareOp .Lt) (rI0 fun i j=>.bl (decide (i < j))):=opB0 fun _ _ _ _ _ _ _ q=>lt_int q
theorem op_le:OpR X (compareOp .LtE) (rI0 fun i j=>.bl (decide (i≤j))):=opB0 fun _ _ _ _ _ _ _ q=>le_int q
theorem op_gt:OpR X (compareOp .Gt) (rI0 fun i j=>.bl (decide (j < i))):=opB0 fun _ _ _ _ _ _ _ q=>gt_int q
theorem op_ge:OpR X (compareOp .GtE) (rI0 fun i j=>.bl (decide (j≤i))):=opB0 fun _ _ _ _ _ _ _ q=>ge_int q
theorem nomark (b:Expr) {op:CmpOp} (h:op≠.In:=by decide) (h2:op≠.NotIn:=by decide):behindInMarks op b=false:=by
 have e1:(op == CmpOp.In)=false:=by cases op <;> first | rfl | exact absurd rfl h
 have e2:(op == CmpOp.NotIn)=false:=by cases op <;> first | rfl | exact absurd rfl h2
 cases b <;> simp [behindInMarks,e1,e2]
theorem pe_cmpR {op:CmpOp} {r:R2} (ho:OpR X (compareOp op) r) (ha:PE X a ta) (hb:PE X b tb) (hm:behindInMarks op b=false):PE X (.Compare a [op] [b] pos) (tOp r ta tb):=by
 intro pins s σ H Q I h
 exact wpAny_Compare1 (binT ha hb I h fun v u s2 x y H2 I2 rx ry q=>ho pins s2 σ H2 x y v u Q I2 rx ry q) hm
def tTest (t:TE):TT:=fun σ H Q=>t σ H fun x H'=>∃ k,x=.bl k∧Q k H'
theorem pt_cmpR {op:CmpOp} {r:R2} (ho:OpR X (compareOp op) r) (ha:PE X a ta) (hb:PE X b tb) (hm:behindInMarks op b=false):PT X (.Compare a [op] [b] pos) (tTest (tOp r ta tb)):=by
 intro pins s σ H Q I h
 refine wpAny_isTrue_Compare1 (thn (ha pins s σ H _ I h) fun v s1 ⟨x,H1,I1,r1,q1⟩=>thn (hb pins s1 σ H1 _ I1 q1) fun u s2 ⟨y,H2,I2,r2,q2⟩ =>
  thn (ho pins s2 σ H2 x y v u _ I2 r1 r2 q2) fun c s3 ⟨z,H3,I3,r3,k,e,q3⟩=>?_) hm
 subst e
 cases r3
 exact wpAny_truthy_bool ⟨H3,I3,q3⟩
def tChain (r r':R2) (ta tb tc:TE):TE:=fun σ H Q=>ta σ H fun x H1=>tb σ H1 fun y H2=>r x y H2 fun z H3=>∃ k,z=.bl k ∧
 (if k=true then tc σ H3 fun w' H4=>r' y w' H4 Q else Q (.bl false) H3)
theorem pe_chain {op op':CmpOp} {r r':R2} (ho:OpR X (compareOp op) r) (ho':OpR X (compareOp op') r') (ha:PE X a ta) (hb:PE X b tb) (hc:PE X c tc)
 (hm:lastMarks [op,op'] [b,c]=false:=by with_unfolding_all rfl):PE X (.Compare a [op,op'] [b,c] pos) (tChain r r' ta tb tc):=by
 intro pins s σ H Q I h
 refine Compare_chain (thn (ha pins s σ H _ I h) fun v s1 ⟨x,H1,I1,r1,q1⟩=>chain_link (thn (hb pins s1 σ H1 _ I1 q1) fun u s2 ⟨y,H2,I2,r2,q2⟩ =>
  thn (ho pins s2 σ H2 x y v u _ I2 r1 r2 q2) fun d s3 ⟨z,H3,I3,r3,k,e,q3⟩=>?_)) hm
 subst e
 cases r3
 refine wpAny_truthy_bool ?_
 cases k with
 | false=>exact ite_ff ⟨.bl false,H3,I3,rfl,q3⟩
 | true=>exact ite_tt (chain_last (thn (hc pins s3 σ H3 _ I3 q3) fun w' s4 ⟨z',H4,I4,r4,q4⟩=>ho' pins s4 σ H4 y z' u w' Q I4 r2 r4 q4))
def TruV (K:PySem.W.Frag) (x:V) (H:Hp) (k:Bool):Prop :=
 match x with
 | .non=>k=false
 | .bl b=>k=b
 | .int i=>k=(i != 0)
 | .str y=>y.length≤sizeLine∧k=((y.length:Int) != 0)
 | .byt y=>y.size≤sizeLine∧k=((y.size:Int) != 0)
 | .ref p=>(∃ xs,SqL K H p xs∧k = !xs.isEmpty)∨(∃ xs,SqT K H p xs∧k = !xs.isEmpty)∨∃ kvs,H p=some (.dK kvs)∧k = !kvs.isEmpty
 | _=>False
theorem isEmpty_kv {κ:Type} {kvs:List (κ×V)} {vs:List (κ×Value)} (r:KV kvs vs):(!vs.isEmpty) = !kvs.isEmpty:=by
 cases r <;> rfl
theorem isEmpty_of {xs:List V} {its:List Value} (r:Vals xs its):(!its.toArray.isEmpty) = !xs.isEmpty:=by
 cases r <;> simp
theorem line63:(sizeLine:Nat) < 2 ^ 63:=by rw [sizeLine_eq]; decide
theorem tru_ok:TruR X (fun x H Q=>∃ k,TruV X.K x H k∧Q k H):=by
 intro pins s σ H x v Q I rx h
 obtain ⟨k,e,q⟩:=h
 have hl:=line63
 have hs:sizeLine=16777216:=sizeLine_eq
 cases x with
 | non =>
   cases rx
   have e':k=false:=e
   subst e'
   exact truthy_none ⟨H,I,q⟩
 | bl b =>
   cases rx
   have e':k=b:=e
   subst e'
   exact wpAny_truthy_bool ⟨H,I,q⟩
 | int i =>
   obtain ⟨t,rfl⟩:=rx
   have e':k=(i != 0):=e
   subst e'
   exact PySem.P.truthy_int ⟨H,I,q⟩
 | str y =>
   obtain ⟨t,rfl⟩:=rx
   obtain ⟨hy,e'⟩:y.length≤sizeLine∧k=((y.length:Int) != 0):=e
   subst e'
   exact PySem.P.truthy_str (by omega) ⟨H,I.tok _,q⟩
 | byt y =>
   obtain ⟨t,rfl⟩:=rx
   obtain ⟨hy,e'⟩:y.size≤sizeLine∧k=((y.size:Int) != 0):=e
   subst e'
   exact PySem.W.truthy_bytes (by omega) ⟨H,I.tok _,q⟩
 | ref p =>
   cases rx
   have e':(∃ xs,SqL X.K H p xs∧k = !xs.isEmpty)∨(∃ xs,SqT X.K H p xs∧k = !xs.isEmpty)∨∃ kvs,H p=some (.dK kvs)∧k = !kvs.isEmpty:=e
   rcases e' with ⟨xs,hx,e'⟩ | ⟨xs,hx,e'⟩ | ⟨kvs,hx,e'⟩
   · subst e'
     obtain ⟨its,r,pl,hz⟩:=I.list hx
     have hlen:=r.length
     exact wpAny_truthy_list pl.isList (by simp only [List.size_toArray]; omega) ⟨H,I.tok _,by rw [isEmpty_of r]; exact q⟩
   · subst e'
     obtain ⟨its,r,pl,hz⟩:=I.tuple hx
     have hlen:=r.length
     exact truthy_tuple pl (by simp only [List.size_toArray]; omega) ⟨H,I.tok _,by rw [isEmpty_of r]; exact q⟩
   · subst e'
     obtain ⟨hz,hS,vs,r,m⟩:kvs.length≤sizeLine∧(p == sysModules)=false∧∃ vs,KV kvs vs∧s.heap.DictOf (mixKind X.prog X.w) p vs:=I.hok p _ hx
     have hlen:kvs.length=vs.length:=Paired.length r
     exact wpAny_truthy_dict hS m (by omega) ⟨H,I.tok _,by rw [isEmpty_kv r]; exact q⟩
 | _=>exact (show False from e).elim
theorem pt_truth (ha:PE X a ta) (he:∀ whole,isTrue a X.env whole=(do let v ← whole; standAt a.pos; holding [v] (truthy v))) :
 PT X a (fun σ H Q=>ta σ H fun x H'=>∃ k,TruV X.K x H' k∧Q k H'):=by
 intro pins s σ H Q I h
 exact isTrue_plain (thn (ha pins s σ H _ I h) fun v s1 ⟨x,H1,I1,r1,q1⟩=>tru_ok pins s1 σ H1 x v Q I1 r1 q1) (he _)
theorem op_add_str:OpR X (binaryOp .Add) (fun x y H Q=>∃ i j,x=.str i∧y=.str j∧i.length+j.length≤sizeLine∧Q (.str (i++j)) H):=by
 intro pins s σ H x y v u Q I rx ry h
 obtain ⟨i,j,rfl,rfl,hz,q⟩:=h
 obtain ⟨t,rfl⟩:=rx
 obtain ⟨t',rfl⟩:=ry
 exact add_str (fun t' tk=>⟨.str (i++j),H,I.tok _,⟨_,rfl⟩,q⟩) hz
theorem vals1 {x:V} {us:List Value} (r:Vals [x] us):∃ u,us=[u]∧RelV x u:=by
 cases r with
 | cons r1 r2=>cases r2; exact ⟨_,rfl,r1⟩
theorem vals2 {x y:V} {us:List Value} (r:Vals [x,y] us):∃ u w',us=[u,w']∧RelV x u∧RelV y w':=by
 cases r with
 | cons r1 r2 =>
   cases r2 with
   | cons r3 r4=>cases r4; exact ⟨_,_,rfl,r1,r3⟩
theorem call_max2 (hc:X.calm=true):CallR X (.builtin "max") (fun xs H Q=>∃ i j,xs=[.int i,.int j]∧Q (.int (if j > i then j else i)) H):=by
 intro pins s σ H xs us Q I r h
 obtain ⟨i,j,rfl,q⟩:=h
 obtain ⟨u,w',rfl,⟨t,rfl⟩,⟨t',rfl⟩⟩:=vals2 r
 refine max_two_ints (I.ok.hd hc) fun h' tk k=>⟨_,H,I.kept k,?_,q⟩
 by_cases hj:j > i
 · rw [if_pos hj,if_pos hj]; exact ⟨_,rfl⟩
 · rw [if_neg hj,if_neg hj]; exact ⟨_,rfl⟩
theorem call_min2 (hc:X.calm=true):CallR X (.builtin "min") (fun xs H Q=>∃ i j,xs=[.int i,.int j]∧Q (.int (if j < i then j else i)) H):=by
 intro pins s σ H xs us Q I r h
 obtain ⟨i,j,rfl,q⟩:=h
 obtain ⟨u,w',rfl,⟨t,rfl⟩,⟨t',rfl⟩⟩:=vals2 r
 refine min_two_ints (I.ok.hd hc) fun h' tk k=>⟨_,H,I.kept k,?_,q⟩
 by_cases hj:j < i
 · rw [if_pos hj,if_pos hj]; exact ⟨_,rfl⟩
 · rw [if_neg hj,if_neg hj]; exact ⟨_,rfl⟩
theorem call_str_int:CallR X (.type "str") (fun xs H Q=>∃ i,xs=[.int i]∧i.natAbs.log2 < 1920∧Q (.str (toString i)) H):=by
 intro pins s σ H xs us Q I r h
 obtain ⟨i,rfl,hz,q⟩:=h
 obtain ⟨u,rfl,t,rfl⟩:=vals1 r
 exact PySem.P.str_of_int hz ⟨.str _,H,I.tok _,⟨_,rfl⟩,q⟩
end
end L2
namespace L2
open PySem PySem.Spec PyProof.Rows
structure ObjM (h:Heap) (x dx C:Addr) (mA:Str→Option Value):Prop where
 obj:h.get? x=some (PySem.W.instObj C dx)
 ns:h.Ns1 dx mA
 ne:dx≠x
theorem lookIn_ns {h:Heap} {dx:Addr} {mA:Str→Option Value} (n:h.Ns1 dx mA):∃ od,h.get? dx=some od∧∀ name,PySem.W.lookIn name od=some (mA name):=by
 obtain ⟨o,es,ep,ho,hd,hk,_,hm⟩:=n
 refine ⟨o,ho,fun name=>?_⟩
 have e:=hm name
 unfold nsFind findBy at e
 rw [← Array.find?_toList] at e
 unfold PySem.W.lookIn
 rw [hd]
 dsimp only
 split
 · rename_i y q
   rw [q] at e
   exact congrArg some e
 · rename_i q
   rw [q] at e
   have a:es.toList.any (·.refKey)=false:=by
    rw [List.any_eq_false]
    intro y hy
    obtain ⟨z,t,hkey⟩:=hk y (Array.mem_toList_iff.mp hy)
    simp [DictEntry.refKey,hkey]
   have a':¬ es.toList.any (·.refKey)=true:=by rw [a]; exact Bool.false_ne_true
   rw [if_neg a']
   exact congrArg some e
theorem ObjM.look {h:Heap} {x dx C:Addr} {mA:Str→Option Value} (I:ObjM h x dx C mA):∃ od,PySem.W.InstAt h x (PySem.W.instObj C dx) C (some od)∧∀ name,PySem.W.lookIn name od=some (mA name) :=
 let ⟨od,ho,hl⟩:=lookIn_ns I.ns
 ⟨od,⟨I.obj,rfl,rfl,ho⟩,hl⟩
section
variable {prog:Program} {w:World} {A:Around} {E:Value→Shared→Prop} {s:Shared} {K:PySem.W.Frag} {x dx C f:Addr} {mA:Str→Option Value} {name:Str} {v:Value}
end
theorem RelO.some_of {v:V} {o:Option Value} (r:RelO (some v) o):∃ u,o=some u∧RelV v u:=by
 cases o with
 | none=>exact (show False from r).elim
 | some u=>exact ⟨u,rfl,r⟩
section
variable {P:Program} {w:World} {H H':Hp} {h h':Heap} {a C dx:Addr} {fs fs':List (Str×V)}
theorem ins_get (hok:HOk P w H h) (e:H a=some (.ins C dx fs)):∃ mA,ObjM h a dx C mA∧(∀ f,RelO (fs.lookup f) (mA f))∧PySem.Within mA (fs.map (·.1))∧fs.length≤1000∧H dx=some (.own a):=by
 obtain ⟨d,z,ne,ob,mA,n,r,q⟩:=(show ObjOk P w H h a (.ins C dx fs) from hok a _ e)
 exact ⟨mA,⟨ob,n,ne⟩,r,q,z,d⟩
end
structure Cls (K:PySem.W.Frag) (C:Addr):Prop where
 pg:PySem.W.plainGet K C Str.empty=true
 hd:PySem.W.hasDictIn K C=true
 po:PySem.W.plainOver K C=true
 sa:PySem.W.findIn K (.ref C) "__setattr__" = some (some (.builtin "object.__setattr__"))
theorem Cls.get {K:PySem.W.Frag} {C:Addr} (c:Cls K C) (f:Str):PySem.W.plainGet K C f=true:=c.pg
section
variable {X:Cx} {pins:List (Addr×Obj)} {σ:St} {H:Hp} {s:Shared} {a C dx:Addr} {fs:List (Str×V)} {f:Str} {v:V} {A:Around} {E:Value→Shared→Prop}
end
section
variable {X:Cx} {o e value:Expr} {f:Str} {pos pos' tpos:Pos} {ta tv:TE}
end
section
variable {X:Cx} {pins:List (Addr×Obj)} {σ:St} {H:Hp} {s:Shared} {A:Around} {E:Value→Shared→Prop} {Q:Value→Shared→Prop} {c:Value} {b:Bool}
inductive TyOf (K:PySem.W.Frag) (H:Hp):V→Value→Prop where
 | non:TyOf K H .non (.type "NoneType")
 | bl (x:Bool):TyOf K H (.bl x) (.type "bool")
 | int (i:Int):TyOf K H (.int i) (.type "int")
 | str (x:Str):TyOf K H (.str x) (.type "str")
 | flt (x:UInt64):TyOf K H (.flt x) (.type "float")
 | lst {a:Addr} {xs:List V} (e:H a=some (.lst xs)):TyOf K H (.ref a) (.type "list")
 | frz {a:Addr} {o:Obj} {xs:List V} (e:H a=some (.frz o (.lst xs))):TyOf K H (.ref a) (.type "list")
 | tup {a:Addr} {xs:List V} (e:H a=some (.tup xs)):TyOf K H (.ref a) (.type "tuple")
 | dK {a:Addr} {kvs:List (Key×V)} (e:H a=some (.dK kvs)):TyOf K H (.ref a) (.type "dict")
 | dT {a:Addr} {kvs:List (List Key×V)} (e:H a=some (.dT kvs)):TyOf K H (.ref a) (.type "dict")
 | ins {a C dx:Addr} {fs:List (Str×V)} (e:H a=some (.ins C dx fs)) (cl:Cls K C) (ha:PySem.W.findIn K (.ref C) "__class__" = some (some (.builtin "object.__class__")))
    (hn:PySem.W.specialIn K (.builtin "object.__class__") "__get__" = some (some (.builtin "getset_descriptor.__get__"))) (htk:PySem.W.takesIn K (.builtin "object.__class__")=some true)
    (hm:PySem.W.mroIn K C (.type "object")=some true):TyOf K H (.ref a) (.ref C)
theorem isinst_ok {x:V} {u t:Value} (I:Inv X pins σ H s) (rx:RelV x u) (ty:TyOf X.K H x t) (e:PySem.W.kitOne X.K t c=some b) (h:∀ tk,Q (.bool b) { s with toks:=tk }) :
 wpAny (model X.prog X.w) A (call (.builtin "isinstance") [u,c]) Q E s:=by
 cases ty with
 | non=>cases (show u=Value.none from rx); exact PySem.W.kia_one PySem.W.kitx_none I.kIn True.intro e (fun z=>nomatch z) h
 | bl y=>cases (show u=Value.bool y from rx); exact PySem.W.kia_one PySem.W.kitx_bool I.kIn True.intro e (fun z=>nomatch z) h
 | int i=>obtain ⟨t,q⟩:=(show ∃ t,u=Value.int i t from rx); cases q; exact PySem.W.kia_one PySem.W.kitx_int I.kIn True.intro e (fun z=>nomatch z) h
 | str y=>obtain ⟨t,q⟩:=(show ∃ t,u=Value.str y t from rx); cases q; exact PySem.W.kia_one PySem.W.kitx_str I.kIn True.intro e (fun z=>nomatch z) h
 | flt y=>obtain ⟨t,q⟩:=(show ∃ t,u=Value.float y t from rx); cases q; exact PySem.W.kia_one PySem.W.kitx_float I.kIn True.intro e (fun z=>nomatch z) h
 | @lst a xs ea =>
   cases (show u=Value.ref a from rx)
   obtain ⟨_,_,n,_,h1⟩:=(show ObjOk X.prog X.w H s.heap a (.lst xs) from I.hok a _ ea)
   exact PySem.W.kia_one PySem.W.kitx_list I.kIn ⟨_,h1,rfl⟩ e (fun z=>nomatch z) h
 | @frz a ob xs ea =>
   cases (show u=Value.ref a from rx)
   obtain ⟨_,_,_,n,_,h1⟩:=(show ObjOk X.prog X.w H s.heap a (.frz ob (.lst xs)) from I.hok a _ ea)
   exact PySem.W.kia_one PySem.W.kitx_list I.kIn ⟨_,h1,rfl⟩ e (fun z=>nomatch z) h
 | @tup a xs ea =>
   cases (show u=Value.ref a from rx)
   obtain ⟨_,_,_,p⟩:=(show ObjOk X.prog X.w H s.heap a (.tup xs) from I.hok a _ ea)
   obtain ⟨o,h1,h2,_⟩:=p
   exact PySem.W.kia_one PySem.W.kitx_tuple I.kIn ⟨o,h1,h2⟩ e (fun z=>nomatch z) h
 | @dK a kvs ea =>
   cases (show u=Value.ref a from rx)
   obtain ⟨_,_,vs,_,p⟩:=(show ObjOk X.prog X.w H s.heap a (.dK kvs) from I.hok a _ ea)
   obtain ⟨o,es,ep,h1,h2,_⟩:=p
   exact PySem.W.kia_one PySem.W.kitx_dict I.kIn ⟨o,h1,h2.1⟩ e (fun z=>nomatch z) h
 | @dT a kvs ea =>
   cases (show u=Value.ref a from rx)
   obtain ⟨_,_,xs,_,o,es,ep,h1,h2,_⟩:=(show ObjOk X.prog X.w H s.heap a (.dT kvs) from I.hok a _ ea)
   exact PySem.W.kia_one PySem.W.kitx_dict I.kIn ⟨o,h1,h2.1⟩ e (fun z=>nomatch z) h
 | @ins a C dx fs ea cl ha hn htk hm =>
   cases (show u=Value.ref a from rx)
   obtain ⟨mA,O,_⟩:=ins_get I.hok ea
   obtain ⟨od,J,_⟩:=O.look
   exact PySem.W.kia_one (PySem.W.kitx_own (cl.get _) cl.hd ha hn htk hm) I.kIn J e (fun z=>nomatch z) h
end
end L2
namespace L2
open PySem PySem.Spec PyProof.Rows
structure Room (k:Nat) (A:Around):Prop where
 hd:A.handled=none
 dp:A.depth+3 * k+5 < recursionLimit
 un:A.units+16 * k+200 < cLine
 gd:A.guards=some []
theorem Room.mono {j k:Nat} {A:Around} (r:Room k A) (h:j≤k):Room j A:=⟨r.hd,by have:=r.dp; omega,by have:=r.un; omega,r.gd⟩
theorem Room.deeper {k:Nat} {A:Around} (r:Room (k+1) A) (env:Env):Room k (A.deeper env) :=
 ⟨r.hd,by have:=r.dp; show A.depth+1+3 * k+5 < _; omega,by have:=r.un; show A.units+3+16 * k+200 < _; omega,r.gd⟩
theorem Room.depth {k:Nat} {A:Around} (r:Room k A):A.depth < recursionLimit:=by have:=r.dp; omega
theorem Room.units {k:Nat} {A:Around} (r:Room k A):A.units+64 < cLine:=by have:=r.un; omega
def tNil:TA:=fun _ H Q=>Q [] H
def tCons (ta:TE) (tr:TA):TA:=fun σ H Q=>ta σ H fun x H1=>tr σ H1 fun xs H2=>Q (x :: xs) H2
section
variable {X:Cx} {e:Expr} {es:List Expr} {te:TE} {t:TA} {pos:Pos}
theorem pa_nil:PA X [] tNil:=fun _ _ _ _ H Q I h=>Calls.spliced_nil ⟨[],H,I,.nil,h⟩
theorem pa_cons (ha:PE X e te) (hr:PA X es t) (hs:starEach (e :: es) X.env=(false,eval e X.env) :: starEach es X.env:=by rfl):PA X (e :: es) (tCons te t):=by
 intro pos pins s σ H Q I h
 rw [hs]
 show wpAny _ _ (spliced ((false,eval e X.env) :: backTo pos (starEach es X.env))) _ _ s
 refine Calls.spliced_cons (thn (ha pins s σ H _ I h) fun u s1 ⟨x,H1,I1,r1,q1⟩=>?_)
 exact thn (hr pos pins s1 σ H1 _ I1 q1) fun us s2 ⟨xs,H2,I2,r2,q2⟩=>⟨x :: xs,H2,I2,.cons r1 r2,q2⟩
def tTup (t:TA):TE:=fun σ H Q=>t σ H fun xs H1=>xs.length≤sizeLine∧∀ p,H1 p=none→Q (.ref p) (upd H1 p (.tup xs))
def tLst (t:TA):TE:=fun σ H Q=>t σ H fun xs H1=>xs.length≤sizeLine∧∀ p,H1 p=none→Q (.ref p) (upd H1 p (.lst xs))
theorem pe_tup {x1} (h:PA X es t):PE X (.Tuple es x1 pos) (tTup t):=by
 intro pins s σ H Q I hq
 refine wpAny_Tuple_spliced (thn (h pos pins s σ H _ I hq) fun us s1 ⟨xs,H1,I1,r,z,q⟩=>⟨by rw [← r.length]; exact z,?_⟩)
 have hf:H1 s1.heap.objs.size=none:=I1.hok.fresh (Nat.le_refl _)
 refine ⟨.ref s1.heap.objs.size,upd H1 s1.heap.objs.size (.tup xs),I1.laid (t':=s1.toks) (fun b u e=>Heap.get?_push_of_some _ e) (Nat.le_refl _) ?_,rfl,q _ hf⟩
 exact ⟨z,us,r,⟨_,Heap.get?_push_size _ rfl,rfl,_,rfl⟩⟩
theorem pe_lst (h:PA X es t):PE X (.List es pos) (tLst t):=by
 intro pins s σ H Q I hq
 refine wpAny_List_spliced (thn (h pos pins s σ H _ I hq) fun us s1 ⟨xs,H1,I1,r,z,q⟩=>⟨by rw [← r.length]; exact z,?_⟩)
 have hf:H1 s1.heap.objs.size=none:=I1.hok.fresh (Nat.le_refl _)
 refine ⟨.ref s1.heap.objs.size,upd H1 s1.heap.objs.size (.lst xs),I1.laid (t':=s1.toks) (fun b u e=>Heap.get?_push_of_some _ e) (Nat.le_refl _) ?_,rfl,q _ hf⟩
 exact ⟨z,us,0,r,Heap.get?_push_size _ rfl⟩
end
abbrev Sp:=List V→Hp→VK→XK→Prop
abbrev CXT:=List Env→Hp→Shared→XK→Value→Shared→Prop
structure Env0 (P:Program) (w:World) (K:PySem.W.Frag) (mg:Str→Option Value) (base:Heap) (A:Around) (outer:List Env) (s:Shared) (H:Hp):Prop where
 frames:A.frames=some outer
 mod:Mod K mg base
 bs:∀ b o,base.get? b=some o→s.heap.get? b=some o∧H b=none
 bsz:base.objs.size≤s.heap.objs.size
 funs:s.heap.FunFrames base outer
 frf:∀ b∈frs outer,H b=none
 hok:HOk P w H s.heap
 bare:AllBare s.gens
def CE (outer:List Env) (P:Program) (w:World) (H:Hp) (s:Shared) (Q:VK) (u:Value) (s':Shared):Prop :=
 ∃ v H',s'.os=s.os∧AllBare s'.gens∧Un (frs outer) [] H H' s.heap s'.heap∧HOk P w H' s'.heap∧RelV v u∧Q v H'
def CR (CX:CXT) (outer:List Env) (P:Program) (w:World) (H:Hp) (s:Shared) (Q:VK) (E:XK) (r:Result) (s':Shared):Prop :=
 match r with
 | .ok (.ret u)=>CE outer P w H s Q u s'
 | .ok _=>False
 | .error e=>CX outer H s E e s'
structure FnOk (P:Program) (w:World) (K:PySem.W.Frag) (mg:Str→Option Value) (base:Heap) (CX:CXT) (k:Nat) (f:Addr) (fd:FuncData) (ps:List Str) (sp:Sp):Prop where
 len:∀ vs H Q E,sp vs H Q E→vs.length=ps.length
 run:∀ (A:Around) (outer:List Env) (s:Shared) (H:Hp) (args:Args) (us:List Value) (vs:List V) (Q:VK) (E:XK),Room k A→Env0 P w K mg base A outer s H→BindsTo s fd args (ps.zip us)→Vals vs us→sp vs H Q E →
  codeAny (model P w) A (.call (.ref f) args) (CR CX outer P w H s Q E) s
section
variable {X:Cx} {pins:List (Addr×Obj)} {σ:St} {H:Hp} {s s':Shared}
theorem Inv.env0 (I:Inv X pins σ H s):Env0 X.prog X.w X.K X.mg X.base X.A X.stack s H :=
 ⟨I.ok.frames,I.ok.mod,I.bs,Nat.le_trans I.ok.bsz I.sz,I.stack,I.stkFree,I.hok,I.bare⟩
theorem Inv.after {Q:VK} {u:Value} (I:Inv X pins σ H s) (h:CE X.stack X.prog X.w H s Q u s'):EP X pins σ Q u s':=by
 obtain ⟨v,H',os,bare,un,hok,r,q⟩:=h
 obtain ⟨hh,g,d,t,os'⟩:=s'
 obtain rfl:os'=s.os:=os
 exact ⟨v,H',I.call (h':=hh) (g':=g) (d':=d) (t':=t) (ch:=[]) un hok bare (fun b z=>absurd z (by simp)),r,q⟩
end
def tCall (sp:Sp) (dvs:List V) (E:XK) (t:TA):TE:=fun σ H Q=>t σ H fun vs H1=>sp (vs++dvs) H1 Q E
def Binds (K:PySem.W.Frag) (fd:FuncData) (ps:List Str) (ds:List Value):Prop :=
 ∀ (s:Shared) (us:List Value),K.In s.heap→(us++ds).length=ps.length→BindsTo s fd ⟨us,[]⟩ (ps.zip (us++ds))
theorem Binds.all {K:PySem.W.Frag} {fd:FuncData} {ps:List Str} (h:∀ us:List Value,us.length=ps.length→bindArgs fd ⟨us,[]⟩=pure (ps.zip us)):Binds K fd ps []:=fun s us _ hl=>by
 rw [List.append_nil] at hl ⊢
 exact .of_eq (h us hl)
def Passes (CX:CXT) (X:Cx) (E:XK):Prop:=∀ (pins:List (Addr×Obj)) (σ:St) (H:Hp) (s:Shared) (e:Value) (s':Shared),Inv X pins σ H s→CX X.stack H s E e s'→X.xe e s'
section
variable {X:Cx} {CX:CXT} {k:Nat} {f C:Addr} {fd:FuncData} {ps:List Str} {sp:Sp} {dvs:List V} {ds:List Value} {E:XK} {x m:Str} {p pos apos:Pos} {e o:Expr} {es:List Expr} {ta:TE} {t:TA}
theorem run_fn {pins:List (Addr×Obj)} {σ:St} {H:Hp} {s:Shared} {Q:VK} {us:List Value} {vs:List V} (F:FnOk X.prog X.w X.K X.mg X.base CX k f fd ps sp) (hr:Room k X.A) (hb:Binds X.K fd ps ds) (hd:Vals dvs ds) (hx:Passes CX X E)
 (I:Inv X pins σ H s) (r:Vals vs us) (h:sp (vs++dvs) H Q E):wpAny (model X.prog X.w) X.A (call (.ref f) us) (EP X pins σ Q) X.xe s:=by
 have r2:Vals (vs++dvs) (us++ds):=r.append hd
 have hl:(us++ds).length=ps.length:=by rw [← r2.length]; exact F.len _ _ _ _ h
 refine wpAny_call (codeAny_mono (F.run X.A X.stack s H ⟨us,[]⟩ (us++ds) (vs++dvs) Q E hr I.env0 (hb s us I.kIn hl) r2 h) fun r s' hq=>?_)
 cases r with
 | error e=>exact hx pins σ H s e s' I hq
 | ok fl =>
   cases fl with
   | ret u=>exact I.after hq
   | next=>exact False.elim hq
   | brk=>exact False.elim hq
   | cont=>exact False.elim hq
theorem pe_call (F:FnOk X.prog X.w X.K X.mg X.base CX k f fd ps sp) (hr:Room k X.A) (hg:Gl X x) (hm:X.mg x=some (.ref f)) (hk:PySem.W.keepIn X.K (.ref f)=true) (hb:Binds X.K fd ps ds) (hd:Vals dvs ds) (hx:Passes CX X E)
 (ha:PA X (e :: es) t) (hdb:(x == ("__debug__" : Str))=false:=by decide) (he:starEach (e :: es) X.env=(false,eval e X.env) :: starEach es X.env:=by rfl) (hpl:(backTo pos (starEach es X.env)).any (·.1)=false:=by rfl) :
 PE X (.Call (.Name x p) (e :: es) [] pos) (tCall sp dvs E t):=by
 intro pins s σ H Q I h
 refine wpAny_Call_Name_kw (ld_glob I hg hm ?_ hdb)
 refine PySem.W.callWith_K (h₀:=X.base) I.ok.mod.kin hk (thn (ha pos pins s σ H _ I h) fun us s1 ⟨vs,H1,I1,r,q⟩=>⟨I1.kIn,?_⟩) he hpl
 exact run_fn F hr hb hd hx I1 r q
theorem pe_call0 (F:FnOk X.prog X.w X.K X.mg X.base CX k f fd ps sp) (hr:Room k X.A) (hg:Gl X x) (hm:X.mg x=some (.ref f)) (hk:PySem.W.keepIn X.K (.ref f)=true) (hb:Binds X.K fd ps ds) (hd:Vals dvs ds) (hx:Passes CX X E)
 (hdb:(x == ("__debug__" : Str))=false:=by decide):PE X (.Call (.Name x p) [] [] pos) (tCall sp dvs E tNil):=by
 intro pins s σ H Q I h
 refine wpAny_Call_Name_kw (ld_glob I hg hm ?_ hdb)
 exact PySem.W.callWith_K0 I.kIn hk (run_fn (us:=[]) F hr hb hd hx I .nil h)
end
def PK (X:Cx) (kws:List Keyword) (t:TA):Prop :=
 ∀ (pos:Pos) (pins:List (Addr×Obj)) (s:Shared) (σ:St) (H:Hp) (Q:List V→Hp→Prop),Inv X pins σ H s→t σ H Q→wpAny (model X.prog X.w) X.A (evalAll ((backToKw pos (keywordEach kws X.env)).map (·.2))) (AP X pins σ Q) X.xe s
section
variable {X:Cx} {CX:CXT} {k:Nat} {f C:Addr} {fd:FuncData} {ps ks:List Str} {sp:Sp} {E:XK} {x m:Str} {p pos apos kpos:Pos} {e o:Expr} {es:List Expr} {kws:List Keyword} {te ta:TE} {t tk:TA} {nm:Option Str}
theorem pk_nil:PK X [] tNil:=fun _ _ _ _ H Q I h=>wpAny_evalAll_nil ⟨[],H,I,.nil,h⟩
theorem pk_cons (ha:PE X e te) (hr:PK X kws t):PK X (⟨nm,e,kpos⟩ :: kws) (tCons te t):=by
 intro pos pins s σ H Q I h
 show wpAny _ _ (evalAll ((do let v ← eval e X.env; standAt pos; pure v) :: (backToKw pos (keywordEach kws X.env)).map (·.2))) _ _ s
 refine wpAny_evalAll_cons (wpAny_bind (thn (ha pins s σ H _ I h) fun u s1 ⟨x,H1,I1,r1,q1⟩=>wpAny_bind (wpAny_standAt (wpAny_pure ?_))))
 exact thn (hr pos pins s1 σ H1 _ I1 q1) fun us s2 ⟨xs,H2,I2,r2,q2⟩=>⟨x :: xs,H2,I2,.cons r1 r2,q2⟩
variable {g:List Value→List Value→List Value} {gV:List V→List V→List V}
end
structure FnScope (N P:List Str) (sc:Scope):Prop where
 kind:sc.kind=.function
 co:sc.isCoroutine=false
 gen:sc.isGenerator=false
 nd:N.Nodup
 pre:N.take P.length=P
 par:∀ x∈P,sc.names.lookup x=some .local∨sc.names.lookup x=some .cell
 nofree:∀ y∈sc.names,y.2≠.free
theorem bindL_out {kindOf:Str→Option NameKind} {x:Str}:∀ {binds:List (Str×Value)} {m:Str→Option Value},(∀ v,(x,v)∉binds)→bindL kindOf binds m x=m x
 | [],_,_=>rfl
 | (n,v) :: r,m,h=>by
   unfold bindL
   rw [bindL_out fun w hw=>h w (List.mem_cons_of_mem _ hw)]
   split
   · have:x≠n:=by rintro rfl; exact h v List.mem_cons_self
     simp [this]
   · rfl
theorem bindC_out {kindOf:Str→Option NameKind} {x:Str}:∀ {binds:List (Str×Value)} {m:Str→Option Value},(∀ v,(x,v)∉binds)→bindC kindOf binds m x=m x
 | [],_,_=>rfl
 | (n,v) :: r,m,h=>by
   unfold bindC
   rw [bindC_out fun w hw=>h w (List.mem_cons_of_mem _ hw)]
   split
   · rfl
   · have:x≠n:=by rintro rfl; exact h v List.mem_cons_self
     simp [this]
theorem bindL_get {kindOf:Str→Option NameKind} {x:Str} {v:Value}:∀ {P:List Str} {vs:List Value} {i:Nat} {m:Str→Option Value},P.Nodup→P[i]? = some x→vs[i]? = some v→kindOf x=some .local →
 bindL kindOf (P.zip vs) m x=some v
 | [],_,_,_,_,h,_,_=>by simp at h
 | _ :: _,[],_,_,_,_,h,_=>by simp at h
 | p :: P,w :: vs,0,m,nd,h1,h2,hk=>by
   simp at h1 h2; subst h1; subst h2
   show bindL kindOf ((p,w) :: P.zip vs) m p=_
   unfold bindL
   rw [bindL_out fun v hv=>(List.nodup_cons.mp nd).1 (List.of_mem_zip hv).1,if_pos hk]
   simp
 | p :: P,w :: vs,i+1,m,nd,h1,h2,hk=>by
   show bindL kindOf ((p,w) :: P.zip vs) m x=_
   unfold bindL
   exact bindL_get (i:=i) (List.nodup_cons.mp nd).2 (by simpa using h1) (by simpa using h2) hk
theorem bindC_get {kindOf:Str→Option NameKind} {x:Str} {v:Value}:∀ {P:List Str} {vs:List Value} {i:Nat} {m:Str→Option Value},P.Nodup→P[i]? = some x→vs[i]? = some v→kindOf x≠some .local →
 bindC kindOf (P.zip vs) m x=some v
 | [],_,_,_,_,h,_,_=>by simp at h
 | _ :: _,[],_,_,_,_,h,_=>by simp at h
 | p :: P,w :: vs,0,m,nd,h1,h2,hk=>by
   simp at h1 h2; subst h1; subst h2
   show bindC kindOf ((p,w) :: P.zip vs) m p=_
   unfold bindC
   rw [bindC_out fun v hv=>(List.nodup_cons.mp nd).1 (List.of_mem_zip hv).1,if_neg hk]
   simp
 | p :: P,w :: vs,i+1,m,nd,h1,h2,hk=>by
   show bindC kindOf ((p,w) :: P.zip vs) m x=_
   unfold bindC
   exact bindC_get (i:=i) (List.nodup_cons.mp nd).2 (by simpa using h1) (by simpa using h2) hk
def start (N:List Str) (vs:List V):St:=vs.map some++List.replicate (N.length - vs.length) none
def cxOf (CX:CXT) (P:Program) (w:World) (K:PySem.W.Frag) (mg:Str→Option Value) (base:Heap) (N:List Str) (qual:Str) (scope:Scope) (f:Addr) (cd:Value) (A:Around) (outer:List Env) (s:Shared) (H:Hp) (E:XK):Cx where
 prog:=P
 w:=w
 K:=K
 mg:=mg
 base:=base
 A:=A.deeper (envOfC qual scope s.heap.objs.size f cd)
 N:=N
 s₀:=s
 H₀:=H
 env:=envOfC qual scope s.heap.objs.size f cd
 outer:=outer
 stack:=envOfC qual scope s.heap.objs.size f cd :: outer
 ex:=[]
 calm:=true
 fn:=fun _=>true
 pn:=[]
 xe:=fun e s'=>wpAny (model P w) (A.deeper (envOfC qual scope s.heap.objs.size f cd)) (leaving (envOfC qual scope s.heap.objs.size f cd) e) (fun _ s''=>CX outer H s E e s'') (fun e' s''=>CX outer H s E e' s'') s'
theorem cell_has {sc:Scope} {n:Nat} {x:Str} (h:sc.names.lookup x=some .cell):∃ c,(cellsFrom n sc.names []).lookup x=some c:=by
 have q:=PySem.W.cellsFrom_some sc.names n [] (.inl h)
 exact Option.isSome_iff_exists.mp q
theorem inv_start {CX:CXT} {P:Program} {w:World} {K:PySem.W.Frag} {mg:Str→Option Value} {base:Heap} {N ps:List Str} {qual:Str} {scope:Scope} {f:Addr} {cd:Value} {A:Around} {outer:List Env} {s s1:Shared} {H:Hp} {E:XK} {us:List Value} {vs:List V}
 (S:FnScope N ps scope) (hd:A.handled=none) (e0:Env0 P w K mg base A outer s H) (hl:vs.length=ps.length) (r:Vals vs us)
 (x:InCallC s s.heap.objs.size (bindL (envOfC qual scope s.heap.objs.size f cd).kindOf (ps.zip us) fun _=>none) (cellsFrom (s.heap.objs.size+1) scope.names []) (bindC (envOfC qual scope s.heap.objs.size f cd).kindOf (ps.zip us) fun _=>none) s1) :
 Inv (cxOf CX P w K mg base N qual scope f cd A outer s H E) [] (start N vs) H s1:=by
 have hpl:ps.length≤N.length:=by have:=congrArg List.length S.pre; rw [List.length_take] at this; omega
 obtain ⟨h1,tk,rfl,hk⟩:=x.done
 have noA:∀ b:Addr,b∉(cxOf CX P w K mg base N qual scope f cd A outer s H E).ex:=fun b z=>absurd (show b∈([]:List Addr) from z) (by simp)
 refine ⟨⟨e0.mod,S.kind,rfl,rfl,Nat.le_refl _,fun y z c h1 h2=>?_,fun y hy=>?_,fun y c _ h=>?_,fun _=>hd,Around.frames_deeper e0.frames,.inr ⟨rfl,rfl⟩,fun b z=>absurd z (noA b),e0.bs,e0.bsz,fun b _ _=>noA b,fun b z=>absurd z (noA b),e0.funs,e0.frf⟩,
  rfl,e0.bare,Un.kept hk,⟨_,x.toInCall.ns,fun i y v h1 h2 h3=>?_⟩,fun y c h=>⟨_,x.cell y c h⟩,e0.hok.fresh (Nat.le_refl _),fun y c h=>?_,fun p hp=>absurd (show p∈([]:List (Addr×Obj)) from hp) (by simp),e0.hok.kept hk,?_⟩
 · exact name_of_addr x.apart (PySem.mem_of_lookup h1) (PySem.mem_of_lookup h2)
 · have hy:scope.names.lookup y=some .cell∨scope.names.lookup y=some .free:=hy
   rcases hy with hy | hy
   · exact cell_has hy
   · exact absurd rfl (S.nofree _ (PySem.mem_of_lookup hy))
 · exact Nat.le_of_lt (x.above y c (PySem.mem_of_lookup h))
 · have hi:i < vs.length:=by
    unfold start at h2
    by_cases hi:i < vs.length
    · exact hi
    · rw [List.getElem?_append_right (by simpa using hi)] at h2
      rw [List.getElem?_replicate] at h2
      split at h2 <;> cases h2
   have ha:vs[i]? = some v:=by
    unfold start at h2
    rw [List.getElem?_append_left (by simpa using hi),List.getElem?_map] at h2
    cases e:vs[i]? with
    | none=>rw [e] at h2; cases h2
    | some a=>rw [e] at h2; cases h2; rfl
   obtain ⟨u,hu,rv⟩:=r.get ha
   have hp:ps[i]? = some y:=by
    rw [← S.pre,List.getElem?_take_of_lt (by omega)]; exact h1
   have ndP:ps.Nodup:=by rw [← S.pre]; exact S.nd.sublist (List.take_sublist _ _)
   refine ⟨u,rv,?_⟩
   rcases S.par y (List.mem_of_getElem? hp) with k | k
   · exact .inl ⟨k,bindL_get ndP hp hu k⟩
   · obtain ⟨c,e⟩:=cell_has (n:=s.heap.objs.size+1) k
     refine .inr ⟨.inl k,c,e,?_⟩
     have q:=x.cell y c e
     rw [bindC_get ndP hp hu (by show scope.names.lookup y≠_; rw [k]; decide)] at q
     exact q
 · exact .inl (e0.hok.fresh (Nat.le_of_lt (x.above y c (PySem.mem_of_lookup h))))
 · unfold start
   show _=N.length
   rw [List.length_append,List.length_map,List.length_replicate]
   omega
theorem fn_of {CX:CXT} {P:Program} {w:World} {K:PySem.W.Frag} {mg:Str→Option Value} {base:Heap} {k:Nat} {f:Addr} {name qual:Str} {params:Arguments} {body:List Stmt} {scope:Scope} {dV kV doc pm cdv ct oc:Value} {an od:Option Addr}
 {osl:Array (Option Value)} {N ps:List Str} {sp:Sp} (lk:K.lookup f=some ⟨oc,od,.func (PySem.W.fnOf name qual params body scope dV kV doc pm an cdv ct),osl⟩) (hcd:PySem.W.codeIn K cdv qual=true) (S:FnScope N ps scope)
 (len:∀ vs H Q E,sp vs H Q E→vs.length=ps.length)
 (hbody:∀ (A:Around) (outer:List Env) (s:Shared) (H:Hp) (vs:List V) (Q:VK) (E:XK),Room k (A.deeper (envOfC qual scope s.heap.objs.size f cdv))→sp vs H Q E →
   ∃ t,PSs (cxOf CX P w K mg base N qual scope f cdv A outer s H E) body t∧t { nx:=fun _ H'=>Q .non H',rt:=Q } (start N vs) H) :
 FnOk P w K mg base CX (k+1) f (PySem.W.fnOf name qual params body scope dV kV doc pm an cdv ct) ps sp:=by
 refine ⟨len,fun A outer s H args us vs Q E hr e0 hb r hsp=>?_⟩
 have hl:=len _ _ _ _ hsp
 have KX:K.In s.heap:=e0.mod.kin.keeps fun b o e=>(e0.bs b o e).1
 have lim:s.heap.NoLimit:=e0.mod.nolimit.keeps fun b o e=>(e0.bs b o e).1
 have hkind:∀ y∈ps.zip us,scope.names.lookup y.1=some .local∨(scope.names.lookup y.1=some .cell∧((cellsFrom (s.heap.objs.size+1) scope.names []).lookup y.1).isSome=true):=fun ⟨n,v⟩ hy=>by
  rcases S.par n (List.of_mem_zip hy).1 with q | q
  · exact .inl q
  · exact .inr ⟨q,PySem.W.cellsFrom_some _ _ _ (.inl q)⟩
 refine codeAny_call_function hr.depth (KX _ _ lk) rfl S.co S.gen rfl (PySem.W.codeRec_of KX hcd) (hb _ _ _ _ ?_)
 refine wpAny_newFunctionEnv_cells S.kind hkind fun env he s1 x=>?_
 subst he
 refine ⟨lim.keeps x.toInCall.keep,codeAny_func ?_⟩
 obtain ⟨t,ht,hq⟩:=hbody A outer s H vs Q E (hr.deeper _) hsp
 have I:Inv (cxOf CX P w K mg base N qual scope f cdv A outer s H E) [] (start N vs) H s1:=inv_start S hr.hd e0 hl r x
 refine wpAny_mono (ht [] s1 (start N vs) H _ I hq) (fun fl s' hs=>?_) fun e s' hs=>hs
 have fin:∀ {σ':St} {H':Hp} {v:V} {u:Value},Inv (cxOf CX P w K mg base N qual scope f cdv A outer s H E) [] σ' H' s'→RelV v u→Q v H'→CE outer P w H s Q u s' :=
  fun {σ' H' v u} J rv q=>⟨v,H',J.os,J.bare,J.base,J.hok,rv,q⟩
 cases fl with
 | ret u =>
   obtain ⟨v,σ',H',J,rv,q⟩:=hs
   exact fin J rv q
 | next =>
   obtain ⟨σ',H',J,q⟩:=hs
   exact fin (v:=V.non) (u:=Value.none) J rfl q
 | brk =>
   obtain ⟨_,_,_,q⟩:=hs
   exact False.elim q
 | cont =>
   obtain ⟨_,_,_,q⟩:=hs
   exact False.elim q
end L2
namespace L2
open PySem PySem.Spec PyProof.Rows
section
variable {X:Cx} {x:Str} {p pos:Pos} {e:Expr} {es:List Expr} {t:TA} {id T:String} {r:List V→Hp→VK→Prop}
def tCB (r:List V→Hp→VK→Prop) (t:TA):TE:=fun σ H Q=>t σ H fun vs H1=>r vs H1 Q
theorem pe_callB (hc:CallR X (.builtin id) r) (hg:Gl X x) (hm:X.mg x=none) (hv:bootBuiltins x=some (.builtin id)) (ha:PA X (e :: es) t) (hn:x ≠ "__name__" := by decide) (hdb:(x == ("__debug__" : Str))=false:=by decide)
 (he:starEach (e :: es) X.env=(false,eval e X.env) :: starEach es X.env:=by rfl) (hpl:(backTo pos (starEach es X.env)).any (·.1)=false:=by rfl):PE X (.Call (.Name x p) (e :: es) [] pos) (tCB r t):=by
 intro pins s σ H Q I h
 refine wpAny_Call_Name_kw (ld_blt I hg hm hv ?_ hn hdb)
 exact PyProof.Rows.callWith_builtin1 (thn (ha pos pins s σ H _ I h) fun us s1 ⟨vs,H1,I1,r1,q1⟩=>hc pins s1 σ H1 vs us Q I1 r1 q1) he hpl
theorem pe_callTy (hc:CallR X (.type T) r) (hg:Gl X x) (hm:X.mg x=none) (hv:bootBuiltins x=some (.type T)) (ha:PA X (e :: es) t) (hn:x ≠ "__name__" := by decide) (hdb:(x == ("__debug__" : Str))=false:=by decide)
 (he:starEach (e :: es) X.env=(false,eval e X.env) :: starEach es X.env:=by rfl) (hpl:(backTo pos (starEach es X.env)).any (·.1)=false:=by rfl):PE X (.Call (.Name x p) (e :: es) [] pos) (tCB r t):=by
 intro pins s σ H Q I h
 refine wpAny_Call_Name_kw (ld_blt I hg hm hv ?_ hn hdb)
 exact PyProof.Rows.callWith_type1 (thn (ha pos pins s σ H _ I h) fun us s1 ⟨vs,H1,I1,r1,q1⟩=>hc pins s1 σ H1 vs us Q I1 r1 q1) he hpl
end
end L2
namespace HT
open PySem PyProof.Rows
def lexLt:List Int→List Int→Bool
 | [],[]=>false
 | [],_ :: _=>true
 | _ :: _,[]=>false
 | x :: xs,y :: ys=>if x=y then lexLt xs ys else decide (x < y)
theorem lexLt_cons (x y:Int) (xs ys:List Int):lexLt (x :: xs) (y :: ys)=if x=y then lexLt xs ys else decide (x < y):=rfl
theorem lexLt_nil_nil:lexLt [] []=false:=rfl
theorem lexLt_nil_cons (y:Int) (ys:List Int):lexLt [] (y :: ys)=true:=rfl
theorem lexLt_cons_nil (x:Int) (xs:List Int):lexLt (x :: xs) []=false:=rfl
theorem eqAt_int (A:Around) (s:Shared) (a:Int) (t:Tok) (c:Int) (u:Tok):∃ e,SeqAt.EqAt A s (.int a t) (.int c u) e∧(e=true↔a=c) :=
 ⟨(a == c),SeqAt.EqAt.int_int a t c u,by simp⟩
theorem rcLt_int (A:Around) (s:Shared) (a:Int) (t:Tok) (c:Int) (u:Tok) (prog:Program) (w:World) (E:Value→Shared→Prop) (Q:Value→Shared→Prop) (h:Q (.bool (decide (a < c))) s) :
 wpAny (model prog w) A (richCompare .Lt (.int a t) (.int c u)) Q E s :=
 (PyProof.Rows.lt_int h:wpAny (model prog w) A (compareOp .Lt (.int a t) (.int c u)) Q E s)
section
open PySem.SeqAt
open PySem.AutoSeq1 (wpAny_loadPart')
open PySem.MeetsSeq PySem.MeetsSeq2 PySem.MeetsSeq3
theorem tuple_lt_ints (l b:Addr) (items items2:Array Value) (n n2:Nat) (dd dd2:Option Addr) (sl sl2:Array (Option Value)) (ns ms:List Int) (hi:IntsAre items.toList ns) (hj:IntsAre items2.toList ms) :
 Meets (Builtin.«tuple.__lt__» ⟨[.ref l,.ref b],[]⟩)
  (fun _ R s=>s.heap.get? l=some { cls:=.type "tuple",dict:=dd,data:=.seq items n,slots:=sl }∧s.heap.get? b=some { cls:=.type "tuple",dict:=dd2,data:=.seq items2 n2,slots:=sl2 } ∧
    R (.ok (.ret (.bool (lexLt ns ms)))) s) :=
 .of_wp fun prog w A R s h=>by
  obtain ⟨hp,g,d,tk,os⟩:=s; obtain ⟨hl,hb,h⟩:=h
  have f2:=AutoSeq1.sub_tuple_tuple
  have z1:items.size=ns.length:=by rw [← hi.length]; simp
  have z2:items2.size=ms.length:=by rw [← hj.length]; simp
  wp_walk using wpAny_loadPart' hl,wpAny_loadPart' hb,wpAny_forIn_list _ (fun rest b s'=>b.1=none∧s'=⟨hp,g,d,tk,os⟩∧∃ (vs ws:List Value) (ns' ms':List Int),rest=vs.zip ws ∧
   IntsAre vs ns'∧IntsAre ws ms'∧ns'.length+items2.size=ms'.length+items.size∧R (.ok (.ret (.bool (lexLt ns' ms')))) ⟨hp,g,d,tk,os⟩) _
  case turn =>
   rintro ⟨y,x⟩ rest b s' ⟨hb',rfl,vs,ws,ns',ms',hz,hvi,hwi,hlen,hR⟩
   cases hvi with
   | nil=>rw [List.zip_nil_left] at hz; cases hz
   | cons a t hvi' =>
     cases hwi with
     | nil=>rw [List.zip_nil_right] at hz; cases hz
     | cons c u hwi' =>
       rw [List.zip_cons_cons] at hz
       injection hz with hyx hrest
       injection hyx with hy hx
       subst hy hx
       rw [lexLt_cons] at hR
       simp only [List.length_cons] at hlen
       obtain ⟨e,he,hiff⟩:=eqAt_int A.in1 ⟨hp,g,d,tk,os⟩ a t c u
       refine wpAny_bind (he prog w _ _ ?_)
       cases e with
       | true =>
         rw [if_pos (hiff.mp rfl)] at hR
         wp_walk
         exact ⟨rfl,rfl,_,_,_,_,hrest,hvi',hwi',by omega,hR⟩
       | false =>
         rw [if_neg (fun q=>absurd (hiff.mpr q) Bool.false_ne_true)] at hR
         have hri:=rcLt_int A.in1 ⟨hp,g,d,tk,os⟩ a t c u prog w
         wp_walk using hri
         exact ⟨_,rfl,by simpa using hR⟩
  case fin =>
   rintro ⟨b1,b2⟩ s' ⟨hb',rfl,vs,ws,ns',ms',hz,hvi,hwi,hlen,hR⟩
   simp only at hb'
   subst hb'
   have hv:lexLt ns' ms'=decide (items.size < items2.size):=by
    cases hvi with
    | nil =>
      cases hwi with
      | nil =>
        simp only [List.length_nil] at hlen
        rw [lexLt_nil_nil]
        exact (decide_eq_false (by omega)).symm
      | cons c u hw =>
        simp only [List.length_nil,List.length_cons] at hlen
        rw [lexLt_nil_cons]
        exact (decide_eq_true (by omega)).symm
    | cons a t hv =>
      cases hwi with
      | nil =>
        simp only [List.length_nil,List.length_cons] at hlen
        rw [lexLt_cons_nil]
        exact (decide_eq_false (by omega)).symm
      | cons c u hw =>
        rw [List.zip_cons_cons] at hz
        cases hz
   rw [hv] at hR
   wp_walk
   exact ⟨_,rfl,by simpa [Builtin.Tuple.tupleCompareSizes] using hR⟩
  case h =>
   exact ⟨rfl,rfl,items.toList,items2.toList,ns,ms,rfl,hi,hj,by omega,h⟩
end
section
variable {prog:Program} {w:World} {A:Around} {E:Value→Shared→Prop} {s:Shared}
theorem lt_tupInts {l b:Addr} {items items2:Array Value} {ns ms:List Int} {Q:Value→Shared→Prop} (hl:IsTup s.heap l items) (hb:IsTup s.heap b items2) (hi:IntsAre items.toList ns) (hj:IntsAre items2.toList ms)
 (hu:A.units < cLine) (h:Q (.bool (lexLt ns ms)) s):wpAny (model prog w) A (compareOp .Lt (.ref l) (.ref b)) Q E s:=by
 obtain ⟨⟨cls,dd,data,sl⟩,ho,hc,n,hd⟩:=id hl
 obtain ⟨⟨cls2,dd2,data2,sl2⟩,ho2,hc2,n2,hd2⟩:=id hb
 simp only at hc hd hc2 hd2
 subst hc hd hc2 hd2
 exact richCompare_meets_room (op:=.Lt) ⟨_,ho,rfl⟩ ⟨_,ho2,rfl⟩ PySem.F.slot_tuple_lt PySem.F.entry_tuple_lt (PySem.F.args_tuple_lt_2 _ _) (tuple_lt_ints l b items items2 n n2 dd dd2 sl sl2 ns ms hi hj)
  ⟨ho,ho2,show Value.bool (lexLt ns ms)≠Value.notImplemented∧Q (.bool (lexLt ns ms)) s from ⟨(fun x=>nomatch x),h⟩⟩ hu
theorem cat_tup {t b:Addr} {vs ws:List Value} {Q:Value→Shared→Prop} (ht:IsTup s.heap t vs.toArray) (hb:IsTup s.heap b ws.toArray) (hv:vs≠[])
 (h1:ws=[]→Q (.ref t) s) (h2:ws≠[]→Q (.ref s.heap.objs.size) { s with heap:=s.heap.push { cls:=.type "tuple",data:=.seq (vs++ws).toArray } })
 (hsz:vs.length+ws.length≤sizeLine):wpAny (model prog w) A (binaryOp .Add (.ref t) (.ref b)) Q E s:=by
 obtain ⟨⟨cls,dd,data,sl⟩,ho,hc,n,hd⟩:=id ht
 obtain ⟨⟨cls2,dd2,data2,sl2⟩,ho2,hc2,n2,hd2⟩:=id hb
 simp only at hc hd hc2 hd2
 subst hc hd hc2 hd2
 have e:vs.toArray++ws.toArray=(vs++ws).toArray:=by simp
 by_cases hw:ws=[]
 · exact concat_meets ⟨_,ho,rfl⟩ ⟨_,ho2,rfl⟩ noFill_tuple_add seq_tuple_add PySem.F.slot_tuple_add PySem.F.entry_tuple_add (PySem.F.args_tuple_add_2 _ _)
    (tuple_addW1 t b vs.toArray ws.toArray n n2 dd dd2 sl sl2 (by simpa using hv) (by simp [hw])) ⟨ho,ho2,h1 hw⟩
 · refine concat_meets ⟨_,ho,rfl⟩ ⟨_,ho2,rfl⟩ noFill_tuple_add seq_tuple_add PySem.F.slot_tuple_add PySem.F.entry_tuple_add (PySem.F.args_tuple_add_2 _ _)
    (tuple_addW2 t b vs.toArray ws.toArray n n2 dd dd2 sl sl2 (by simpa using hv) (by simpa using hw) (by rw [List.size_toArray,List.size_toArray]; exact hsz)) ⟨ho,ho2,?_⟩
   rw [e]
   exact h2 hw
def sIx (n d:Nat):Option Int→Nat
 | none=>d
 | some v=>if v < 0 then (v+(n:Int)).toNat else min v.toNat n
theorem sIx_none (n d:Nat):sIx n d none=d:=rfl
theorem sIx_nat (n d k:Nat):sIx n d (some (k:Int))=min k n:=by
 show (if (k:Int) < 0 then ((k:Int)+(n:Int)).toNat else min (k:Int).toNat n)=min k n
 rw [if_neg (by omega),Int.toNat_natCast]
theorem sIx_le (n d:Nat) (hd:d≤n) (o:Option Int):sIx n d o≤n:=by
 cases o with
 | none=>exact hd
 | some v =>
   show (if v < 0 then (v+(n:Int)).toNat else min v.toNat n)≤n
   by_cases hv:v < 0
   · rw [if_pos hv]; omega
   · rw [if_neg hv]; exact Nat.min_le_right _ _
theorem clip_eq (v:Int) (n d:Nat):(if v < 0 then max (v+(n:Int)) 0 else min v (n:Int))=((sIx n d (some v):Nat):Int):=by
 show (if v < 0 then max (v+(n:Int)) 0 else min v (n:Int))=(((if v < 0 then (v+(n:Int)).toNat else min v.toNat n):Nat):Int)
 by_cases hv:v < 0
 · simp only [if_pos hv]; omega
 · simp only [if_neg hv]; omega
theorem adjust_gen (lo hi:Option Int) (n:Nat):Builtin.Slice.sliceAdjust lo hi 1 (n:Int)=(((sIx n 0 lo:Nat):Int),((sIx n n hi:Nat):Int)):=by
 have h1:¬ ((1:Int) < 0):=by omega
 unfold Builtin.Slice.sliceAdjust
 simp only [h1,if_false]
 refine Prod.ext ?_ ?_
 · cases lo with
   | none=>rfl
   | some v=>exact clip_eq v n 0
 · cases hi with
   | none=>rfl
   | some v=>exact clip_eq v n n
theorem places_gen (i j:Nat):Builtin.Slice.slicePlaces (i:Int) (j:Int) 1=j - i:=by
 unfold Builtin.Slice.slicePlaces
 have h1:(1:Int) > 0:=by omega
 simp only [h1,if_true,Int.ediv_one]
 split <;> omega
theorem slicePart_ {v:Value} {o:Option Int} {Q:Option Int→Shared→Prop} (p:IsPart v o) (h:Q o s):wpAny (model prog w) A (Builtin.Slice.slicePartIndex v) Q E s:=by
 cases p with
 | none=>exact slicePart_none h
 | int i t=>exact slicePart_int h
theorem sliceApplied_gen {sl:Addr} {vl vu:Value} {lo hi:Option Int} {n:Nat} {Q:Int×Int×Nat→Shared→Prop} (hs:s.heap.IsSliceOf sl vl vu .none) (pl:IsPart vl lo) (pu:IsPart vu hi)
 (h:Q (((sIx n 0 lo:Nat):Int),1,sIx n n hi - sIx n 0 lo) s):wpAny (model prog w) A (Builtin.Slice.sliceApplied (.ref sl) (pure (n:Int))) Q E s:=by
 obtain ⟨os,hos,hcs,hds⟩:=id hs
 unfold Builtin.Slice.sliceApplied Builtin.Slice.sliceFields
 refine wpAny_bind (wpAny_bind (wpAny_field hos hds (x:=vl) rfl (wpAny_bind (wpAny_field hos hds (x:=vu) rfl (wpAny_bind (wpAny_field hos hds (x:=.none) rfl (wpAny_pure ?_)))))))
 refine wpAny_bind (slicePart_none ?_)
 show wpAny _ _ (if ((1:Int) == 0)=true then _ else _) _ _ s
 rw [if_neg (by decide)]
 refine wpAny_bind (slicePart_ pl (wpAny_bind (slicePart_ pu (wpAny_bind (wpAny_pure ?_)))))
 show wpAny _ _ (match Builtin.Slice.sliceAdjust lo hi 1 (n:Int) with | (lo,hi)=>pure (lo,(1:Int),Builtin.Slice.slicePlaces lo hi 1)) _ _ s
 rw [adjust_gen lo hi n]
 show wpAny _ _ (pure (((sIx n 0 lo:Nat):Int),(1:Int),Builtin.Slice.slicePlaces ((sIx n 0 lo:Nat):Int) ((sIx n n hi:Nat):Int) 1)) _ _ s
 rw [places_gen]
 exact wpAny_pure h
theorem pick_gen (xs:Array Value) (i k:Nat):((List.range k).filterMap fun (m:Nat)=>xs[((i:Int)+(m:Int) * 1).toNat]?).toArray=((xs.toList.drop i).take k).toArray:=by
 have e:(fun (m:Nat)=>xs[((i:Int)+(m:Int) * 1).toNat]?)=fun m=>xs[i+m]?:=by
  funext m
  have:((i:Int)+(m:Int) * 1).toNat=i+m:=by omega
  rw [this]
 rw [e]
 have:=pick_run xs i k
 rw [List.filterMap_map] at this
 have e2:((fun x=>xs[x]?) ∘ fun x=>i+x)=fun m=>xs[i+m]?:=rfl
 rw [e2] at this
 rw [this]
theorem getItem_tuple_cut {t sl:Addr} {items:Array Value} {vl vu:Value} {lo hi:Option Int} {Q:Value→Shared→Prop} (ht:IsTup s.heap t items) (hs:s.heap.IsSliceOf sl vl vu .none) (pl:IsPart vl lo) (pu:IsPart vu hi)
 (hw:¬ (sIx items.size 0 lo=0∧sIx items.size items.size hi=items.size))
 (h:Q (.ref s.heap.objs.size) { s with heap:=s.heap.push { cls:=.type "tuple",data:=.seq ((items.toList.drop (sIx items.size 0 lo)).take (sIx items.size items.size hi - sIx items.size 0 lo)).toArray } })
 (hsz:items.size≤sizeLine):wpAny (model prog w) A (getItem (.ref t) (.ref sl)) Q E s:=by
 have htake:sizeOk (.seq ((items.toList.drop (sIx items.size 0 lo)).take (sIx items.size items.size hi - sIx items.size 0 lo)).toArray):=by
  show ((items.toList.drop (sIx items.size 0 lo)).take (sIx items.size items.size hi - sIx items.size 0 lo)).toArray.size≤sizeLine
  rw [List.size_toArray,List.length_take,List.length_drop,Array.length_toList]
  omega
 have hj:sIx items.size items.size hi≤items.size:=sIx_le _ _ (Nat.le_refl _) hi
 obtain ⟨os,hos,hcs,hds⟩:=id hs
 have hTs:s.TypeIs (.ref sl) "slice" := ⟨os,hos,hcs⟩
 unfold getItem
 try with_reducible refine wpAny_holding ?_
 first | refine wpAny_bind (wpAny_pure ?_) | skip
 refine wpAny_bind (wpAny_sequenceKey ht.typeIs (by decide) ?_)
 refine wpAny_bind (wpAny_callSpecial?_slot (name:=Str.ofString "__getitem__") ht.typeIs PyProof.Rows.slot_tuple_getitem
  (wpAny_call_entry PyProof.Rows.slot_tuple_getitem ht.typeIs entry_tuple_getitem ?_ (args_tuple_getitem _ _)))
 show wpAny _ _ (Builtin.Tuple.tupleItemsOf (.ref t) >>= _) _ _ s
 refine wpAny_bind (tupleItemsOf_ ht ?_)
 refine wpAny_bind (wpAny_typeOf hTs ?_)
 rw [if_pos (by decide)]
 refine wpAny_bind (sliceApplied_gen hs pl pu ?_)
 have hno:¬ ((((sIx items.size 0 lo:Nat):Int) == 0 && (1:Int) == 1 && (sIx items.size items.size hi - sIx items.size 0 lo) == items.size)=true):=by
  intro q
  rw [Bool.and_eq_true,Bool.and_eq_true] at q
  have q1:((sIx items.size 0 lo:Nat):Int)=0:=eq_of_beq q.1.1
  have q2:sIx items.size items.size hi - sIx items.size 0 lo=items.size:=eq_of_beq q.2
  exact hw ⟨by omega,by omega⟩
 show wpAny _ _ (if (((sIx items.size 0 lo:Nat):Int) == 0 && (1:Int) == 1 && (sIx items.size items.size hi - sIx items.size 0 lo) == items.size)=true then _ else _) _ _ s
 rw [if_neg hno,pick_gen]
 first
  | exact wpAny_bind (m:=Builtin.Tuple.tupleExact _) (wpAny_newObj_type (wpAny_pure ⟨_,rfl,wpAny_pure h⟩) htake)
  | exact wpAny_bind (m:=Builtin.Tuple.tupleExact _) (wpAny_newObj_type (wpAny_bind (wpAny_pure (wpAny_pure ⟨_,rfl,wpAny_pure h⟩))) htake)
  | exact wpAny_bind (wpAny_bind (m:=Builtin.Tuple.tupleExact _) (wpAny_newObj_type (wpAny_pure (wpAny_pure ⟨_,rfl,wpAny_pure h⟩)) htake))
  | exact wpAny_bind (wpAny_bind (m:=Builtin.Tuple.tupleExact _) (wpAny_newObj_type (wpAny_pure ⟨_,rfl,wpAny_pure h⟩) htake))
end
end HT
namespace L2
open PySem PySem.Spec PyProof.Rows
abbrev TO:=St→Hp→(Option Int→Hp→Prop)→Prop
def PO (X:Cx) (e:Option Expr) (t:TO):Prop :=
 ∀ (pins:List (Addr×Obj)) (s:Shared) (σ:St) (H:Hp) (Q:Option Int→Hp→Prop),Inv X pins σ H s→t σ H Q →
   wpAny (model X.prog X.w) X.A (evalPart e X.env) (fun u s'=>∃ o H',Inv X pins σ H' s'∧IsPart u o∧Q o H') X.xe s
def tNoPart:TO:=fun _ H Q=>Q none H
def tPart (t:TE):TO:=fun σ H Q=>t σ H fun x H1=>∃ i,x=.int i∧Q (some i) H1
theorem intsAre_of {ns:List Int}:∀ {us:List Value},Vals (ns.map V.int) us→IntsAre us ns:=by
 induction ns with
 | nil=>intro us r; rw [List.map_nil] at r; cases r; exact .nil
 | cons n ns ih =>
   intro us r
   rw [List.map_cons] at r
   cases r with
   | cons r1 r2 =>
     obtain ⟨t,e⟩:=r1
     subst e
     exact .cons n t (ih r2)
section
variable {X:Cx} {e:Expr} {te:TE} {lo hi:Option Expr} {tl th:TO} {pos p2:Pos}
theorem po_none:PO X none tNoPart:=by
 intro pins s σ H Q I h
 rw [evalPart_none]
 exact wpAny_pure ⟨none,H,I,.none,h⟩
theorem po_some (h:PE X e te):PO X (some e) (tPart te):=by
 intro pins s σ H Q I hw
 rw [evalPart_some]
 refine thn (h pins s σ H _ I hw) fun u s1 ⟨x,H1,I1,r1,q1⟩=>?_
 obtain ⟨i,rfl,q⟩:=q1
 obtain ⟨t,rfl⟩:=r1
 exact ⟨some i,H1,I1,.int i t,q⟩
def SlR (X:Cx) (r:V→Option Int→Option Int→Hp→VK→Prop):Prop :=
 ∀ (pins:List (Addr×Obj)) (s:Shared) (σ:St) (H:Hp) (x:V) (v vl vu:Value) (lo hi:Option Int) (sl:Addr) (Q:VK),Inv X pins σ H s→RelV x v→s.heap.IsSliceOf sl vl vu .none→IsPart vl lo→IsPart vu hi→r x lo hi H Q →
   ∃ T id,typeLookup (.type T) "__getitem__" = pure (some (.builtin id))∧s.TypeIs v T∧wpAny (model X.prog X.w) X.A (getItem v (.ref sl)) (EP X pins σ Q) X.xe s
def tSl (r:V→Option Int→Option Int→Hp→VK→Prop) (te:TE) (tl th:TO):TE:=fun σ H Q=>te σ H fun x H1=>tl σ H1 fun l H2=>th σ H2 fun u H3=>r x l u H3 Q
theorem pe_slice {r:V→Option Int→Option Int→Hp→VK→Prop} (hr:SlR X r) (he:PE X e te) (hl:PO X lo tl) (hu:PO X hi th):PE X (.Subscript e (.Slice lo hi none p2) pos) (tSl r te tl th):=by
 intro pins s σ H Q I h
 refine Subscript_ (thn (he pins s σ H _ I h) fun v s1 ⟨x,H1,I1,r1,q1⟩=>?_)
 refine wpAny_Slice (thn (hl pins s1 σ H1 _ I1 q1) fun vl s2 ⟨l,H2,I2,pl,q2⟩=>thn (hu pins s2 σ H2 _ I2 q2) fun vu s3 ⟨u,H3,I3,pu,q3⟩=>?_)
 rw [evalPart_none]
 refine wpAny_pure ?_
 have I4:Inv X pins σ H3 { s3 with heap:=s3.heap.push { cls:=.type "slice",data:=.fields #[vl,vu,.none] } }:=I3.kept (t':=s3.toks) fun b ob q=>Heap.get?_push_of_some _ q
 obtain ⟨T,id,hT,ht,hg⟩:=hr pins { s3 with heap:=s3.heap.push { cls:=.type "slice",data:=.fields #[vl,vu,.none] } } σ H3 x v vl vu l u s3.heap.objs.size Q I4 r1 (Heap.IsSliceOf.new ..) pl pu q3
 show wpAny (model X.prog X.w) X.A (subscriptTail e (.Slice lo hi none p2) v (.ref s3.heap.objs.size)) (EP X pins σ Q) X.xe { s3 with heap:=s3.heap.push { cls:=.type "slice",data:=.fields #[vl,vu,.none] } }
 exact tail_any (ops:=[.ref s3.heap.objs.size,v]) ht hT hg (by with_unfolding_all rfl)
def cutV (xs:List V) (lo hi:Option Int):List V:=(xs.drop (HT.sIx xs.length 0 lo)).take (HT.sIx xs.length xs.length hi - HT.sIx xs.length 0 lo)
theorem cutV_length (xs:List V) (lo hi:Option Int):(cutV xs lo hi).length≤xs.length:=by
 unfold cutV
 rw [List.length_take,List.length_drop]
 omega
def rSlT (K:PySem.W.Frag):V→Option Int→Option Int→Hp→VK→Prop:=fun x lo hi H Q=>∃ a xs,x=.ref a∧SqT K H a xs ∧
 ¬ (HT.sIx xs.length 0 lo=0∧HT.sIx xs.length xs.length hi=xs.length)∧∀ p,H p=none→Q (.ref p) (upd H p (.tup (cutV xs lo hi)))
theorem sl_tup:SlR X (rSlT X.K):=by
 intro pins s σ H x v vl vu lo hi sl Q I rx hs pl pu h
 obtain ⟨a,xs,rfl,hx,hw,q⟩:=h
 cases rx
 obtain ⟨its,r,ht,hz⟩:=I.tuple hx
 have hlen:its.toArray.size=xs.length:=by rw [List.size_toArray]; exact r.length.symm
 refine ⟨"tuple",_,PyProof.Rows.slot_tuple_getitem.lookup,ht.typeIs,?_⟩
 refine HT.getItem_tuple_cut ht hs pl pu (by rw [hlen]; exact hw) ?_ (by rw [hlen]; exact hz)
 rw [hlen]
 refine ⟨.ref s.heap.objs.size,_,I.laid (t':=s.toks) (o:=.tup (cutV xs lo hi)) (fun b ob q=>Heap.get?_push_of_some _ q) (Nat.le_refl _) ?_,rfl,q _ (I.hok.fresh (Nat.le_refl _))⟩
 exact ⟨Nat.le_trans (cutV_length xs lo hi) hz,_,(r.drop (HT.sIx xs.length 0 lo)).take (HT.sIx xs.length xs.length hi - HT.sIx xs.length 0 lo),IsTup.new _ _⟩
def rLtT (K:PySem.W.Frag):R2:=fun x y H Q=>∃ a b ns ms,x=.ref a∧y=.ref b∧SqT K H a (ns.map V.int)∧SqT K H b (ms.map V.int)∧Q (.bl (HT.lexLt ns ms)) H
theorem op_ltT (hu:X.A.units < cLine):OpR X (compareOp .Lt) (rLtT X.K):=by
 intro pins s σ H x y v u Q I rx ry h
 obtain ⟨a,b,ns,ms,rfl,rfl,ha,hb,q⟩:=h
 cases rx
 cases ry
 obtain ⟨its,r1,p1,_⟩:=I.tuple ha
 obtain ⟨its2,r2,p2,_⟩:=I.tuple hb
 have i1:IntsAre its.toArray.toList ns:=intsAre_of r1
 have i2:IntsAre its2.toArray.toList ms:=intsAre_of r2
 exact HT.lt_tupInts p1 p2 i1 i2 hu ⟨.bl (HT.lexLt ns ms),H,I,rfl,q⟩
def rCatT (K:PySem.W.Frag):R2:=fun x y H Q=>∃ a b xs ys,x=.ref a∧y=.ref b∧SqT K H a xs∧SqT K H b ys∧xs≠[]∧xs.length+ys.length≤sizeLine ∧
 (ys=[]→Q (.ref a) H)∧(ys≠[]→∀ p,H p=none→Q (.ref p) (upd H p (.tup (xs++ys))))
theorem Vals.nil_iff {xs:List V} {us:List Value} (r:Vals xs us):us=[]↔xs=[]:=by
 cases r with
 | nil=>simp
 | cons _ _=>simp
theorem op_catT:OpR X (binaryOp .Add) (rCatT X.K):=by
 intro pins s σ H x y v u Q I rx ry h
 obtain ⟨a,b,xs,ys,rfl,rfl,ha,hb,hx,hz,q1,q2⟩:=h
 cases rx
 cases ry
 obtain ⟨its,r1,p1,_⟩:=I.tuple ha
 obtain ⟨its2,r2,p2,_⟩:=I.tuple hb
 refine HT.cat_tup p1 p2 (fun z=>hx (r1.nil_iff.mp z)) (fun z=>⟨.ref a,H,I,rfl,q1 (r2.nil_iff.mp z)⟩) (fun z=>?_) (by rw [← r1.length,← r2.length]; exact hz)
 refine ⟨.ref s.heap.objs.size,_,I.laid (t':=s.toks) (o:=.tup (xs++ys)) (fun b ob q=>Heap.get?_push_of_some _ q) (Nat.le_refl _) ?_,rfl,q2 (fun w=>z (r2.nil_iff.mpr w)) _ (I.hok.fresh (Nat.le_refl _))⟩
 exact ⟨by rw [List.length_append]; exact hz,_,r1.append r2,IsTup.new _ _⟩
end
end L2
namespace L2
open PySem PySem.Spec PyProof.Rows
def ixN (n:Nat) (i:Int):Option Nat:=if 0≤i then (if i < n then some i.toNat else none) else if -(n:Int)≤i then some (i+n).toNat else none
def atI {α:Type} (xs:List α) (i:Int):Option α:=(ixN xs.length i).bind fun j=>xs[j]?
theorem ixN_seq {n:Nat} {i:Int} {j:Nat} (h:ixN n i=some j):seqIndex? i n=some j∧j < n∧-(n:Int)≤i∧i < n:=by
 unfold ixN at h
 by_cases h0:0≤i
 · rw [if_pos h0] at h
   by_cases h1:i < n
   · rw [if_pos h1] at h
     have e:i.toNat=j:=Option.some.inj h
     exact ⟨by rw [seqIndex_of h0 h1,e],by omega,by omega,h1⟩
   · rw [if_neg h1] at h; cases h
 · rw [if_neg h0] at h
   by_cases h1:-(n:Int)≤i
   · rw [if_pos h1] at h
     have e:(i+n).toNat=j:=Option.some.inj h
     exact ⟨by rw [seqIndex_neg (by omega) h1,e],by omega,h1,by omega⟩
   · rw [if_neg h1] at h; cases h
theorem atI_get {α:Type} {xs:List α} {i:Int} {v:α} (h:atI xs i=some v):∃ j,seqIndex? i xs.length=some j∧xs[j]? = some v∧j < xs.length∧-(xs.length:Int)≤i∧i < xs.length:=by
 unfold atI at h
 cases e:ixN xs.length i with
 | none=>rw [e] at h; cases h
 | some j =>
   rw [e] at h
   obtain ⟨h1,h2,h3,h4⟩:=ixN_seq e
   exact ⟨j,h1,h,h2,h3,h4⟩
theorem atI_nat {α:Type} {xs:List α} {j:Nat} {v:α} (h:xs[j]? = some v):atI xs (j:Int)=some v:=by
 have hj:j < xs.length:=(List.getElem?_eq_some_iff.mp h).1
 have e:ixN xs.length (j:Int)=some j:=by
  unfold ixN
  rw [if_pos (by omega),if_pos (by omega)]; simp
 unfold atI; rw [e]; exact h
def PlainIx (b:Expr):Prop:=∀ o i,subscripted b false o i=operate [o,i] (getItem o i)
def IxR (X:Cx) (r:R2):Prop :=
 ∀ (value slice:Expr) (pins:List (Addr×Obj)) (s:Shared) (σ:St) (H:Hp) (x y:V) (v u:Value) (Q:VK),Inv X pins σ H s→RelV x v→RelV y u→r x y H Q →
   subscripted slice false v u=operate [v,u] (getItem v u)→wpAny (model X.prog X.w) X.A (subscriptTail value slice v u) (EP X pins σ Q) X.xe s
def MtR (X:Cx) (id:String) (r:V→List V→Hp→VK→Prop):Prop :=
 ∀ (pins:List (Addr×Obj)) (s:Shared) (σ:St) (H:Hp) (x:V) (xs:List V) (v:Value) (us:List Value) (Q:VK),Inv X pins σ H s→RelV x v→Vals xs us→r x xs H Q →
   wpAny (model X.prog X.w) X.A (call (.builtin id) (v :: us)) (EP X pins σ Q) X.xe s
section
variable {X:Cx} {a b:Expr} {ta tb:TE} {pos:Pos}
theorem pe_ix {r:R2} (hr:IxR X r) (ha:PE X a ta) (hb:PE X b tb) (hs:PlainIx b):PE X (.Subscript a b pos) (tOp r ta tb):=by
 intro pins s σ H Q I h
 exact Subscript_ (binT ha hb I h fun v u s2 x y H2 I2 rx ry q=>hr a b pins s2 σ H2 x y v u Q I2 rx ry q (hs _ _))
def rIxL (K:PySem.W.Frag):R2:=fun x y H Q=>∃ p xs i v,x=.ref p∧y=.int i∧SqL K H p xs∧atI xs i=some v∧Q v H
def rIxT (K:PySem.W.Frag):R2:=fun x y H Q=>∃ p xs i v,x=.ref p∧y=.int i∧SqT K H p xs∧atI xs i=some v∧Q v H
theorem ix_list:IxR X (rIxL X.K):=by
 intro value slice pins s σ H x y v u Q I rx ry h hs
 obtain ⟨p,xs,i,z,rfl,rfl,hq,he,q⟩:=h
 cases rx
 obtain ⟨t,rfl⟩:=ry
 obtain ⟨its,r,pl,hz⟩:=I.list hq
 obtain ⟨j,h1,h2,h3,h4,h5⟩:=atI_get he
 obtain ⟨w,ew,rw'⟩:=r.get h2
 have hl:=r.length
 have hn:=line63
 have fin:EP X pins σ Q w s:=⟨z,H,I,rw',q⟩
 by_cases h0:0≤i
 · have hj:i.toNat=j:=by
    rw [seqIndex_of h0 h5] at h1
    exact Option.some.inj h1
   exact item_listR pl.isList h0 (by omega) (by rw [hj]; simpa using ew) fin hs
 · have hj:(i+(its.toArray.size:Int)).toNat=j:=by
    rw [seqIndex_neg (by omega) h4] at h1
    rw [List.size_toArray,← hl]
    exact Option.some.inj h1
   exact subscriptTail_builtinR (x:=w) pl.isList.typeIs slot_list_getitem.lookup
    (wpAny_getItem_list_neg (Q:=fun r s'=>r=w∧EP X pins σ Q r s') pl.isList (by omega) (by rw [List.size_toArray] <;> omega) (by omega) (by rw [hj]; simpa using ew) ⟨rfl,fin⟩) hs
theorem ix_tup:IxR X (rIxT X.K):=by
 intro value slice pins s σ H x y v u Q I rx ry h hs
 obtain ⟨p,xs,i,z,rfl,rfl,hq,he,q⟩:=h
 cases rx
 obtain ⟨t,rfl⟩:=ry
 obtain ⟨its,r,pl,hz⟩:=I.tuple hq
 obtain ⟨j,h1,h2,h3,h4,h5⟩:=atI_get he
 obtain ⟨w,ew,rw'⟩:=r.get h2
 have hl:=r.length
 have hn:=line63
 have fin:EP X pins σ Q w s:=⟨z,H,I,rw',q⟩
 exact subscriptTail_builtinR (x:=w) pl.typeIs slot_tuple_getitem.lookup
  (getItem_tuple (j:=j) (Q:=fun r s'=>r=w∧EP X pins σ Q r s') pl (by omega) (by omega) (by rw [List.size_toArray,← hl]; exact h1) (by simpa using ew) ⟨rfl,fin⟩) hs
theorem mapSeq_set (its:List Value) (n j:Nat) (u:Value):Obj.mapSeq (·.setIfInBounds j u) { cls:=.type "list",data:=.seq its.toArray n }={ cls:=.type "list",data:=.seq (its.set j u).toArray n }:=by
 simp [Obj.mapSeq]
theorem Inv.lst {pins:List (Addr×Obj)} {σ:St} {H:Hp} {s:Shared} {p:Addr} {xs:List V} (I:Inv X pins σ H s) (h:H p=some (.lst xs)) :
 ∃ (its:List Value) (n:Nat),Vals xs its∧s.heap.get? p=some { cls:=.type "list",data:=.seq its.toArray n }∧xs.length≤sizeLine:=by
 obtain ⟨z,its,n,r,e⟩:=I.hok p _ h
 exact ⟨its,n,r,e,z⟩
theorem Inv.lstUpd {pins:List (Addr×Obj)} {σ:St} {H:Hp} {s:Shared} {p:Addr} {xs ys:List V} {its its':List Value} {n n':Nat} {f:Obj→Obj} (I:Inv X pins σ H s) (h:H p=some (.lst xs))
 (ho:s.heap.get? p=some { cls:=.type "list",data:=.seq its.toArray n }) (hf:f { cls:=.type "list",data:=.seq its.toArray n }={ cls:=.type "list",data:=.seq its'.toArray n' }) (r:Vals ys its') (hz:ys.length≤sizeLine) (t:Nat) :
 Inv X pins σ (upd H p (.lst ys)) { s with heap:=s.heap.update p f,toks:=t }:=by
 have e:(s.heap.update p f).get? p=some { cls:=.type "list",data:=.seq its'.toArray n' }:=by
  rw [Heap.get?_update_self f ho (by rw [hf] <;> rfl),hf]
 refine I.write (x:=p) (e:=p) (by rw [h]; trivial) (.inl rfl) (fun b u hb q=>(Heap.get?_update_other _ _ (Ne.symm hb)).trans q) ⟨_,e⟩ ?_
 exact ⟨hz,its',n',r,e⟩
def rSetL:V→V→V→Hp→(Hp→Prop)→Prop:=fun o i v H Q=>∃ p xs k j,o=.ref p∧i=.int k∧H p=some (.lst xs)∧ixN xs.length k=some j∧Q (upd H p (.lst (xs.set j v)))
theorem set_list:PSet X rSetL:=by
 intro pins s σ H o i v ov iv u Q I ro ri rv h
 obtain ⟨p,xs,k,j,rfl,rfl,hp,hj,q⟩:=h
 cases ro
 obtain ⟨t,rfl⟩:=ri
 obtain ⟨its,n,r,ho,hz⟩:=I.lst hp
 obtain ⟨h1,h2,h3,h4⟩:=ixN_seq hj
 have hl:=r.length
 have hn:=line63
 have I':Inv X pins σ (upd H p (.lst (xs.set j v))) { s with heap:=s.heap.update p (Obj.mapSeq (·.setIfInBounds j u)) } :=
  I.lstUpd hp ho (mapSeq_set its n j u) (r.set rv j) (by rw [List.length_set]; exact hz) s.toks
 by_cases h0:0≤k
 · have hk:k.toNat=j:=by
    rw [seqIndex_of h0 h4] at h1
    exact Option.some.inj h1
   exact PySem.W.ki_setAt ho h0 (by omega) (by rw [List.size_toArray,← hl]; exact h4) (by rw [hk]; exact ⟨_,I',q⟩)
 · have hk:(k+(its.toArray.size:Int)).toNat=j:=by
    rw [seqIndex_neg (by omega) h3] at h1
    rw [List.size_toArray,← hl]
    exact Option.some.inj h1
   exact PySem.W.ki_setBack ho (by omega) (by rw [List.size_toArray,← hl]; exact h3) (by omega) (by rw [hk]; exact ⟨_,I',q⟩)
theorem slice_bounds (lo hi:Option Int) (n:Nat):(sliceBounds lo hi none n).1=((HT.sIx n 0 lo:Nat):Int)∧(sliceBounds lo hi none n).2.1=((HT.sIx n n hi:Nat):Int)∧(sliceBounds lo hi none n).2.2=1:=by
 refine ⟨?_,?_,rfl⟩
 · cases lo with
   | none=>simp [sliceBounds,HT.sIx]
   | some i =>
     simp only [sliceBounds,HT.sIx,Option.getD_none,show (1:Int) > 0 by decide,if_true]
     by_cases h:i < 0
     · simp only [h,if_true] <;> omega
     · simp only [h,if_false] <;> omega
 · cases hi with
   | none=>simp [sliceBounds,HT.sIx]
   | some i =>
     simp only [sliceBounds,HT.sIx,Option.getD_none,show (1:Int) > 0 by decide,if_true]
     by_cases h:i < 0
     · simp only [h,if_true] <;> omega
     · simp only [h,if_false] <;> omega
theorem slicePick_cut (its:List Value) (lo hi:Option Int):slicePick its.toArray lo hi none=((its.drop (HT.sIx its.length 0 lo)).take (HT.sIx its.length its.length hi - HT.sIx its.length 0 lo)).toArray:=by
 obtain ⟨h1,h2,h3⟩:=slice_bounds lo hi its.toArray.size
 unfold slicePick
 rw [h1,h2,h3]
 simp only [sliceRange_one,pick_run,List.size_toArray] <;> rfl
def rSlL (K:PySem.W.Frag):V→Option Int→Option Int→Hp→VK→Prop:=fun x lo hi H Q=>∃ a xs,x=.ref a∧SqL K H a xs∧∀ p,H p=none→Q (.ref p) (upd H p (.lst (cutV xs lo hi)))
theorem sl_list:SlR X (rSlL X.K):=by
 intro pins s σ H x v vl vu lo hi sl Q I rx hs pl pu h
 obtain ⟨a,xs,rfl,hx,q⟩:=h
 cases rx
 obtain ⟨its,r,ht,hz⟩:=I.list hx
 have hlen:=r.length
 refine ⟨"list",_,slot_list_getitem.lookup,ht.isList.typeIs,?_⟩
 refine wpAny_getItem_list_slice ht.isList hs pl pu .none (by simp) ?_ (by rw [List.size_toArray] <;> omega)
 rw [slicePick_cut,← hlen]
 refine ⟨.ref s.heap.objs.size,_,I.laid (t':=s.toks) (o:=.lst (cutV xs lo hi)) (fun b ob q=>Heap.get?_push_of_some _ q) (Nat.le_refl _) ?_,rfl,q _ (I.hok.fresh (Nat.le_refl _))⟩
 exact ⟨Nat.le_trans (cutV_length xs lo hi) hz,_,0,(r.drop (HT.sIx xs.length 0 lo)).take (HT.sIx xs.length xs.length hi - HT.sIx xs.length 0 lo),Heap.get?_push_size _ rfl⟩
def flatV:V→Bool
 | .non=>true
 | .bl _=>true
 | .int _=>true
 | .str _=>true
 | _=>false
def eqV:V→V→Bool
 | .non,.non=>true
 | .bl a,.bl b=>a == b
 | .bl a,.int b=>(if a then 1 else 0) == b
 | .int a,.bl b=>a == (if b then 1 else 0)
 | .int a,.int b=>a == b
 | .str a,.str b=>a == b
 | _,_=>false
theorem eqAt_V {A:Around} {s:Shared} {y x:V} {u v:Value} (ry:RelV y u) (rx:RelV x v) (fy:flatV y=true) (fx:flatV x=true):SeqAt.EqAt A s u v (eqV y x):=by
 cases y with
 | non =>
   cases ry
   cases x with
   | non=>cases rx; exact SeqAt.EqAt.same _
   | bl b=>cases rx; exact SeqAt.EqAt.none_bool b
   | int b=>obtain ⟨t,rfl⟩:=rx; exact SeqAt.EqAt.none_int b t
   | str b=>obtain ⟨t,rfl⟩:=rx; exact SeqAt.EqAt.none_str b t
   | _=>exact absurd (show false=true from fx) Bool.false_ne_true
 | bl a =>
   cases ry
   cases x with
   | non=>cases rx; exact SeqAt.EqAt.bool_none a
   | bl b=>cases rx; exact SeqAt.EqAt.bool_bool a b
   | int b=>obtain ⟨t,rfl⟩:=rx; exact SeqAt.EqAt.bool_int a b t
   | str b=>obtain ⟨t,rfl⟩:=rx; exact SeqAt.EqAt.bool_str a b t
   | _=>exact absurd (show false=true from fx) Bool.false_ne_true
 | int a =>
   obtain ⟨t',rfl⟩:=ry
   cases x with
   | non=>cases rx; exact SeqAt.EqAt.int_none a t'
   | bl b=>cases rx; exact SeqAt.EqAt.int_bool a t' b
   | int b=>obtain ⟨t,rfl⟩:=rx; exact SeqAt.EqAt.int_int a t' b t
   | str b=>obtain ⟨t,rfl⟩:=rx; exact SeqAt.EqAt.int_str a t' b t
   | _=>exact absurd (show false=true from fx) Bool.false_ne_true
 | str a =>
   obtain ⟨t',rfl⟩:=ry
   cases x with
   | non=>cases rx; exact SeqAt.EqAt.str_none a t'
   | bl b=>cases rx; exact SeqAt.EqAt.str_bool a t' b
   | int b=>obtain ⟨t,rfl⟩:=rx; exact SeqAt.EqAt.str_int a t' b t
   | str b=>obtain ⟨t,rfl⟩:=rx; exact SeqAt.EqAt.str_str a t' b t
   | _=>exact absurd (show false=true from fx) Bool.false_ne_true
 | _=>exact absurd (show false=true from fy) Bool.false_ne_true
def eqU (x:V) (u:Value):Bool:=match u with
 | .none=>eqV .non x
 | .bool b=>eqV (.bl b) x
 | .int i _=>eqV (.int i) x
 | .str z _=>eqV (.str z) x
 | _=>false
theorem eqU_of {x y:V} {u:Value} (r:RelV y u) (f:flatV y=true):eqU x u=eqV y x:=by
 cases y with
 | non=>cases r; rfl
 | bl b=>cases r; rfl
 | int i=>obtain ⟨t,rfl⟩:=r; rfl
 | str z=>obtain ⟨t,rfl⟩:=r; rfl
 | _=>exact absurd (show false=true from f) Bool.false_ne_true
theorem any_eqU {x:V}:∀ {xs:List V} {us:List Value},Vals xs us→xs.all flatV=true→us.any (eqU x)=xs.any fun y=>eqV y x
 | _,_,.nil,_=>rfl
 | y :: xs,u :: us,.cons r t,f=>by
   rw [List.all_cons,Bool.and_eq_true] at f
   rw [List.any_cons,List.any_cons,eqU_of r f.1,any_eqU t f.2]
theorem mem_eqAt {A:Around} {s:Shared} {x:V} {v:Value} (rx:RelV x v) (fx:flatV x=true):∀ {xs:List V} {us:List Value},Vals xs us→xs.all flatV=true→∀ u∈us,SeqAt.EqAt A s u v (eqU x u)
 | _,_,.nil,_=>fun u hu=>by cases hu
 | y :: xs,u :: us,.cons r t,f=>fun u' hu=>by
   rw [List.all_cons,Bool.and_eq_true] at f
   rcases List.mem_cons.mp hu with rfl | hu
   · rw [eqU_of r f.1]; exact eqAt_V r rx f.1 fx
   · exact mem_eqAt rx fx t f.2 u' hu
def inV (x:V) (xs:List V):Bool:=xs.any fun y=>eqV y x
def rIn (K:PySem.W.Frag) (neg:Bool):R2:=fun x y H Q=>∃ p xs,y=.ref p∧(SqL K H p xs∨SqT K H p xs)∧flatV x=true∧xs.all flatV=true∧Q (.bl (if neg then !inV x xs else inV x xs)) H
theorem op_notIn_seq:OpR X (compareOp .NotIn) (rIn X.K true):=by
 intro pins s σ H x y v u Q I rx ry h
 obtain ⟨p,xs,rfl,hq,fx,fs,q⟩:=h
 cases ry
 rcases hq with hq | hq
 · obtain ⟨its,r,pl,hz⟩:=I.list hq
   refine SeqAt.notIn_listAt (eqU x) pl.isList (fun w hw=>mem_eqAt rx fx r fs w (by simpa using hw)) ⟨.bl _,H,I,rfl,?_⟩
   rw [show its.toArray.any (eqU x)=its.any (eqU x) by simp,any_eqU r fs]
   exact q
 · obtain ⟨its,r,pl,hz⟩:=I.tuple hq
   refine SeqAt.notIn_tupleAt (eqU x) pl (fun w hw=>mem_eqAt rx fx r fs w (by simpa using hw)) ⟨.bl _,H,I,rfl,?_⟩
   rw [show its.toArray.any (eqU x)=its.any (eqU x) by simp,any_eqU r fs]
   exact q
theorem call_len_seq:CallR X (.builtin "len") (fun xs H Q=>∃ p ys,xs=[.ref p]∧(SqL X.K H p ys∨SqT X.K H p ys)∧Q (.int ys.length) H):=by
 intro pins s σ H xs us Q I r h
 obtain ⟨p,ys,rfl,hq,q⟩:=h
 obtain ⟨u,rfl,rx⟩:=vals1 r
 cases rx
 have hn:=line63
 rcases hq with hq | hq
 · obtain ⟨its,r',pl,hz⟩:=I.list hq
   have hlen:=r'.length
   exact Calls.call_len_list pl.isList (by simp only [List.size_toArray] <;> omega) ⟨.int ys.length,H,I.tok _,⟨s.toks+1,by rw [List.size_toArray,hlen]⟩,q⟩
 · obtain ⟨its,r',pl,hz⟩:=I.tuple hq
   have hlen:=r'.length
   exact len_tuple pl (by simp only [List.size_toArray] <;> omega) ⟨.int ys.length,H,I.tok _,⟨s.toks+1,by rw [List.size_toArray,hlen]⟩,q⟩
theorem call_len_str:CallR X (.builtin "len") (fun xs H Q=>∃ z,xs=[.str z]∧z.length≤sizeLine∧Q (.int z.length) H):=by
 intro pins s σ H xs us Q I r h
 obtain ⟨z,rfl,hz,q⟩:=h
 obtain ⟨u,rfl,t,rfl⟩:=vals1 r
 have hn:=line63
 exact len_str (by omega) ⟨.int z.length,H,I.tok _,⟨_,rfl⟩,q⟩
theorem call_tuple_of:CallR X (.type "tuple") (fun xs H Q=>∃ p ys,xs=[.ref p]∧((SqL X.K H p ys∧∀ l,H l=none→Q (.ref l) (upd H l (.tup ys)))∨(SqT X.K H p ys∧Q (.ref p) H))):=by
 intro pins s σ H xs us Q I r h
 obtain ⟨p,ys,rfl,h⟩:=h
 obtain ⟨u,rfl,rx⟩:=vals1 r
 cases rx
 rcases h with ⟨hq,q⟩ | ⟨hq,q⟩
 · obtain ⟨its,r',pl,hz⟩:=I.list hq
   have hlen:=r'.length
   refine call_tuple_list pl.isList (fun h' kp=>?_) (by simp only [List.size_toArray] <;> omega)
   have I1:Inv X pins σ H { s with heap:=h' }:=I.kept (t':=s.toks) kp
   have I2:Inv X pins σ (upd H h'.objs.size (.tup ys)) { s with heap:=h'.push { cls:=.type "tuple",data:=.seq its.toArray } } :=
    I1.laid (t':=s.toks) (fun b o e=>Heap.get?_push_of_some _ e) (Nat.le_refl _) (show ObjOk X.prog X.w _ _ _ (.tup ys) from ⟨hz,its,r',IsTup.new _ _⟩)
   exact ⟨.ref h'.objs.size,_,I2,rfl,q _ (I1.hok.fresh (Nat.le_refl _))⟩
 · obtain ⟨its,r',pl,hz⟩:=I.tuple hq
   exact call_tuple_same pl ⟨.ref p,H,I,rfl,q⟩
def tyV (K:PySem.W.Frag) (T:String) (x:V) (H:Hp):Prop:=match x with
 | .str _=>T = "str"
 | .int _=>T = "int"
 | .ref p=>(T = "list" ∧ ∃ xs,SqL K H p xs)∨(T = "tuple" ∧ ∃ o,K.lookup p=some o∧o.cls=.type "tuple" ∧ o.dict=none) ∨
    (T = "dict" ∧ ((∃ kvs,H p=some (.dK kvs))∨∃ kvs,H p=some (.dT kvs)))∨(T = "set" ∧ ∃ S n,H p=some (.set S n))
 | _=>False
theorem tyV_is {pins:List (Addr×Obj)} {σ:St} {H:Hp} {s:Shared} {T:String} {x:V} {v:Value} (I:Inv X pins σ H s) (r:RelV x v) (ty:tyV X.K T x H) :
 s.TypeIs v T∧∀ a,v=.ref a→∃ ob,s.heap.get? a=some ob∧ob.dict=none:=by
 cases x with
 | str z =>
   obtain ⟨t,rfl⟩:=r
   cases (show T = "str" from ty)
   exact ⟨typeIs_str s z t,fun _ e=>nomatch e⟩
 | int i =>
   obtain ⟨t,rfl⟩:=r
   cases (show T = "int" from ty)
   exact ⟨typeIs_int s i t,fun _ e=>nomatch e⟩
 | ref p =>
   cases r
   rcases ty with ⟨rfl,xs,hq⟩ | ⟨rfl,o,hk,hc,hd⟩ | ⟨rfl,hk⟩ | ⟨rfl,S,n,hk⟩
   · obtain ⟨its,_,pl,_⟩:=I.list hq
     refine ⟨pl.isList.typeIs,fun a e=>?_⟩
     cases e
     obtain ⟨o,n,e,c,hd,_⟩:=pl
     exact ⟨o,e,hd⟩
   · refine ⟨⟨o,I.kIn p o hk,hc⟩,fun a e=>?_⟩
     cases e
     exact ⟨o,I.kIn _ o hk,hd⟩
   · have z:∃ o,s.heap.get? p=some o∧o.ExactDict:=by
      rcases hk with ⟨kvs,hk⟩ | ⟨kvs,hk⟩
      · obtain ⟨_,_,_,_,o,_,_,e,ex,_⟩:=I.hok p _ hk
        exact ⟨o,e,ex⟩
      · obtain ⟨_,_,_,_,o,_,_,e,ex,_⟩:=I.hok p _ hk
        exact ⟨o,e,ex⟩
     obtain ⟨o,e,ex⟩:=z
     refine ⟨⟨o,e,ex.1⟩,fun a e2=>?_⟩
     cases e2
     exact ⟨o,e,ex.2.1⟩
   · obtain ⟨o,_,_,_,e,ex,_⟩:=I.hok p _ hk
     refine ⟨⟨o,e,ex.1⟩,fun a e2=>?_⟩
     cases e2
     exact ⟨o,e,ex.2.1⟩
 | _=>exact False.elim ty
def tBM0 (K:PySem.W.Frag) (T:String) (r:V→List V→Hp→VK→Prop) (to:TE):TE:=fun σ H Q=>to σ H fun x H1=>tyV K T x H1∧r x [] H1 Q
def tBM (K:PySem.W.Frag) (T:String) (r:V→List V→Hp→VK→Prop) (to:TE) (t:TA):TE:=fun σ H Q=>to σ H fun x H1=>tyV K T x H1∧t σ H1 fun xs H2=>r x xs H2 Q
variable {o e:Expr} {es:List Expr} {to:TE} {t:TA} {name:Str} {apos cpos:Pos} {T id:String} {r:V→List V→Hp→VK→Prop}
theorem pe_bm0 (pa:PlainAttrs T) (slot:Slot T name id) (hty:typeOf (.builtin id)=pure (.type "method_descriptor")) (hm:MtR X id r) (ho:PE X o to)
 (hbase:attributeBase o name X.env (eval o X.env)=eval o X.env:=by rfl) (hline:(apos.endLine == cpos.line)=true:=by rfl):PE X (.Call (.Attribute o name apos) [] [] cpos) (tBM0 X.K T r to):=by
 intro pins s σ H Q I h
 refine wpAny_Call_method0_late hbase hline (thn (ho pins s σ H _ I h) fun v s1 ⟨x,H1,I1,r1,ty,q1⟩=>?_)
 obtain ⟨h1,h2⟩:=tyV_is I1 r1 ty
 exact ⟨T,id,pa,slot,hty,h1,h2,Calls.callWith_builtin rfl (PySem.evalArgs_none (hm pins s1 σ H1 x [] v [] Q I1 r1 .nil q1))⟩
theorem pe_bm (pa:PlainAttrs T) (slot:Slot T name id) (hty:typeOf (.builtin id)=pure (.type "method_descriptor")) (hm:MtR X id r) (ho:PE X o to) (ha:PA X (e :: es) t)
 (hbase:attributeBase o name X.env (eval o X.env)=eval o X.env:=by rfl)
 (hfew:((backTo cpos (starEach (e :: es) X.env)).all (fun x=>!x.1) && (backToKw cpos (keywordEach [] X.env)).all (fun x=>x.1.isSome)
   && decide ((e :: es).length+([]:List Keyword).length+(if ([]:List Keyword).isEmpty then 0 else 1) < 30))=true:=by rfl)
 (hline:(apos.endLine == cpos.line)=true:=by rfl) (hs:starEach (e :: es) X.env=(false,eval e X.env) :: starEach es X.env:=by rfl) (hplain:(backTo cpos (starEach es X.env)).any (·.1)=false:=by rfl) :
 PE X (.Call (.Attribute o name apos) (e :: es) [] cpos) (tBM X.K T r to t):=by
 intro pins s σ H Q I h
 refine wpAny_Call_method_late hbase hfew hline rfl (thn (ho pins s σ H _ I h) fun v s1 ⟨x,H1,I1,r1,ty,q1⟩=>?_)
 obtain ⟨h1,h2⟩:=tyV_is I1 r1 ty
 refine ⟨T,id,pa,slot,hty,h1,h2,?_⟩
 have hA:=ha cpos pins s1 σ H1 _ I1 q1
 rw [hs] at hA ⊢
 refine Calls.callWith_builtin (by show (false || (backTo cpos (starEach es X.env)).any (·.1))=false; rw [hplain] <;> rfl) (Calls.evalArgs_plain ?_)
 exact thn hA fun us s2 ⟨vs,H2,I2,r2,q2⟩=>hm pins s2 σ H2 x vs v us Q I2 r1 r2 q2
/- xs.append(e),list.index on a module's tuple .. are MtR facts of 06m -/
end
end L2
namespace L2
open PySem PySem.Spec PyProof.Rows
def MtM (X:Cx) (id:String) (r:V→List V→Hp→VK→Prop):Prop :=
 ∀ (pins:List (Addr×Obj)) (s:Shared) (σ:St) (H:Hp) (x:V) (xs:List V) (v:Value) (us:List Value) (Q:VK),Inv X pins σ H s→RelV x v→Vals xs us→r x xs H Q →
   wpAny (model X.prog X.w) X.A (call (.builtin id) (v :: us)) (EP X pins σ Q) X.xe s
theorem Vals.one:∀ {x:V} {us:List Value},Vals [x] us→∃ u,us=[u]∧RelV x u
 | _,_,.cons r .nil=>⟨_,rfl,r⟩
theorem Vals.eraseIdx:∀ {xs:List V} {us:List Value} (i:Nat),Vals xs us→Vals (xs.eraseIdx i) (us.eraseIdx i)
 | _,_,_,.nil=>.nil
 | _,_,0,.cons _ t=>t
 | _,_,i+1,.cons r t=>.cons r (Vals.eraseIdx i t)
theorem Vals.rep {xs:List V} {us:List Value} (h:Vals xs us):∀ k:Nat,Vals (List.replicate k xs).flatten (List.replicate k us).flatten
 | 0=>.nil
 | k+1=>by
   rw [List.replicate_succ,List.replicate_succ,List.flatten_cons,List.flatten_cons]
   exact Vals.append h (Vals.rep h k)
theorem len_erase {α:Type}:∀ (l:List α) (i:Nat),(l.eraseIdx i).length≤l.length
 | [],_=>Nat.le_refl _
 | _ :: _,0=>Nat.le_succ _
 | _ :: r,i+1=>Nat.succ_le_succ (len_erase r i)
theorem foldl_rep (its:List Value):∀ (k:Nat) (acc:List Value),
 List.foldl (fun x1 x2=>x1++x2) acc.toArray (List.replicate k its.toArray)=(acc++(List.replicate k its).flatten).toArray
 | 0,acc=>by simp
 | k+1,acc=>by
   have e:acc.toArray++its.toArray=(acc++its).toArray:=by simp
   have e2:(acc++its)++(List.replicate k its).flatten=acc++(List.replicate (k+1) its).flatten:=by
    rw [List.replicate_succ,List.flatten_cons,List.append_assoc]
   rw [← e2,← foldl_rep its k (acc++its),← e,List.replicate_succ,List.foldl_cons]
section
variable {X:Cx} {pins:List (Addr×Obj)} {σ:St} {H:Hp} {s:Shared} {l b:Addr} {xs ys zs:List V}
theorem Inv.lset {its its':List Value} {n:Nat} {f:Array Value→Array Value} {t':Nat} (I:Inv X pins σ H s) (hH:H l=some (.lst xs))
 (e:s.heap.get? l=some { cls:=.type "list",data:=.seq its.toArray n }) (hf:f its.toArray=its'.toArray) (hv:Vals ys its') (hz:ys.length≤sizeLine) :
 Inv X pins σ (upd H l (.lst ys)) { s with heap:=s.heap.update l (Obj.mapSeq f),toks:=t' }:=by
 have q:=PySem.IsL.update e f
 rw [hf] at q
 refine I.write (x:=l) (e:=l) (by rw [hH]; exact trivial) (.inl rfl) (fun b' u hb hu=>(Heap.get?_update_other s.heap (Obj.mapSeq f) (Ne.symm hb)).trans hu) ⟨_,q⟩ ?_
 exact ⟨hz,its',_,hv,q⟩
theorem Inv.lnew {its:List Value} {t':Nat} (I:Inv X pins σ H s) (hv:Vals ys its) (hz:ys.length≤sizeLine) :
 Inv X pins σ (upd H s.heap.objs.size (.lst ys)) { s with heap:=s.heap.push { cls:=.type "list",data:=.seq its.toArray },toks:=t' } :=
 I.laid (fun _ _ q=>Heap.get?_push_of_some _ q) (Nat.le_refl _) ⟨hz,its,0,hv,Heap.get?_push_size _ rfl⟩
theorem Inv.fresh (I:Inv X pins σ H s):H s.heap.objs.size=none:=I.hok.fresh (Nat.le_refl _)
theorem Inv.lstM (I:Inv X pins σ H s) (hH:H l=some (.lst xs)):xs.length≤sizeLine∧∃ (its:List Value) (n:Nat),Vals xs its∧xs.length=its.length∧s.heap.get? l=some { cls:=.type "list",data:=.seq its.toArray n }:=by
 obtain ⟨z,its,n,r,e⟩:=I.hok l _ hH
 exact ⟨z,its,n,r,r.length,e⟩
theorem notLongL {n:Nat} (h:n≤sizeLine):Builtin.List.listTooLong n=false:=by
 unfold Builtin.List.listTooLong
 exact decide_eq_false (by omega)
end
section
variable {X:Cx}
def rAppend:V→List V→Hp→VK→Prop:=fun x vs H Q=>∃ l xs y,x=.ref l∧vs=[y]∧H l=some (.lst xs)∧xs.length < sizeLine∧Q .non (upd H l (.lst (xs++[y])))
theorem mt_append:MtM X "list.append" rAppend:=by
 intro pins s σ H x vs v us Q I rx rv h
 obtain ⟨l,xs,y,rfl,rfl,hH,hz,q⟩:=h
 cases rx
 obtain ⟨u,rfl,ru⟩:=rv.one
 obtain ⟨z,its,n,r,hl,e⟩:=I.lstM hH
 refine call_meets F.slot_list_append ⟨_,e,rfl⟩ F.entry_list_append (F.args_list_append_2 _ _) (PySem.list_append l its.toArray n u (by rw [List.size_toArray]; omega)) ⟨e,?_⟩
 refine ⟨.non,_,I.lset (its':=its++[u]) hH e (by simp) (r.append (.cons ru .nil)) ?_,rfl,q⟩
 rw [List.length_append,List.length_singleton]
 omega
def rPopAt:V→List V→Hp→VK→Prop:=fun x vs H Q=>∃ l xs i k y,x=.ref l∧vs=[.int i]∧H l=some (.lst xs)∧-(2 ^ 63)≤i∧i < 2 ^ 63∧seqIndex? i xs.length=some k∧xs[k]? = some y∧Q y (upd H l (.lst (xs.eraseIdx k)))
theorem mt_popAt:MtM X "list.pop" rPopAt:=by
 intro pins s σ H x vs v us Q I rx rv h
 obtain ⟨l,xs,i,k,y,rfl,rfl,hH,h1,h2,hk,hy,q⟩:=h
 cases rx
 obtain ⟨u,rfl,ru⟩:=rv.one
 obtain ⟨t,rfl⟩:=ru
 obtain ⟨z,its,n,r,hl,e⟩:=I.lstM hH
 obtain ⟨w,hw,rw'⟩:=r.get hy
 refine call_meets F.slot_list_pop ⟨_,e,rfl⟩ F.entry_list_pop (F.args_list_pop_2 _ _)
  (MeetsSeq.list_pop_at l its.toArray n i t k w (fitsIndex_both h1 h2) (by rw [List.size_toArray,← hl]; exact hk) (by rw [← Array.getElem?_toList]; exact hw) (by rw [List.size_toArray]; omega)) ⟨e,?_⟩
 refine ⟨y,_,I.lset (its':=its.eraseIdx k) hH e ?_ (r.eraseIdx k) ?_,rw',q⟩
 · show its.toArray.eraseIdxIfInBounds k=(its.eraseIdx k).toArray
   rw [List.eraseIdxIfInBounds_toArray]
 · have:=len_erase xs k
   omega
def rCat:R2:=fun x y H Q=>∃ l b xs zs,x=.ref l∧y=.ref b∧H l=some (.lst xs)∧H b=some (.lst zs)∧xs.length+zs.length≤sizeLine∧∀ p,H p=none→Q (.ref p) (upd H p (.lst (xs++zs)))
theorem op_cat:OpR X (binaryOp .Add) rCat:=by
 intro pins s σ H x y v u Q I rx ry h
 obtain ⟨l,b,xs,zs,rfl,rfl,hH,hB,hz,q⟩:=h
 cases rx
 cases ry
 obtain ⟨z,its,n,r,hl,e⟩:=I.lstM hH
 obtain ⟨z2,its2,n2,r2,hl2,e2⟩:=I.lstM hB
 refine PySem.P.add_list e e2 ?_ (by rw [List.size_toArray,List.size_toArray]; omega)
 have ea:its.toArray++its2.toArray=(its++its2).toArray:=by simp
 rw [ea]
 exact ⟨.ref _,_,I.lnew (t':=s.toks) (r.append r2) (by rw [List.length_append]; omega),rfl,q _ I.fresh⟩
def rRep:R2:=fun x y H Q=>∃ l k xs,x=.ref l∧y=.int k∧H l=some (.lst xs)∧-(2 ^ 63)≤k∧k < 2 ^ 63∧xs.length * k.toNat≤sizeLine ∧
 ∀ p,H p=none→Q (.ref p) (upd H p (.lst (List.replicate k.toNat xs).flatten))
theorem len_rep {α:Type} (xs:List α) (k:Nat):(List.replicate k xs).flatten.length=k * xs.length:=by
 induction k with
 | zero=>simp
 | succ k ih=>rw [List.replicate_succ,List.flatten_cons,List.length_append,ih,Nat.succ_mul,Nat.add_comm]
theorem op_rep:OpR X (binaryOp .Mult) rRep:=by
 intro pins s σ H x y v u Q I rx ry h
 obtain ⟨l,k,xs,rfl,rfl,hH,h1,h2,hz,q⟩:=h
 cases rx
 obtain ⟨t,rfl⟩:=ry
 obtain ⟨z,its,n,r,hl,e⟩:=I.lstM hH
 have hlen:its.toArray.size * k.toNat≤sizeLine:=by rw [List.size_toArray,← hl]; exact hz
 have hcap:¬ its.toArray.size * k.toNat > (2 ^ 63 - 1) / 8:=by
  have:(sizeLine:Nat)≤(2 ^ 63 - 1) / 8:=by decide
  omega
 have hfit:¬ (!Builtin.List.listFitsIndex k)=true:=by
  rw [fitsIndex_both h1 h2]
  exact Bool.false_ne_true
 have hlong:¬ Builtin.List.listTooLong (its.toArray.size * k.toNat)=true:=by
  rw [notLongL hlen]
  exact Bool.false_ne_true
 have hnew:List.foldl (fun x1 x2=>x1++x2) #[] (List.replicate (if its.toArray.isEmpty=true then 0 else k.toNat) its.toArray)=(List.replicate k.toNat its).flatten.toArray:=by
  have f0:∀ m:Nat,List.foldl (fun x1 x2=>x1++x2) #[] (List.replicate m its.toArray)=(List.replicate m its).flatten.toArray:=fun m=>by
   have:=foldl_rep its m []
   rw [List.nil_append] at this
   exact this
  rw [f0]
  cases its with
  | nil=>simp
  | cons a r'=>rw [if_neg (by simp)]
 refine wpAny_binaryOp_repeat_ref (T := "list") (U := "int") (by decide) ⟨_,e,rfl⟩ (fun s'=>typeIs_int s' k t) noFill_list_mul F.fills_int_mul F.slot_int_rmul repeat_list F.slot_int_index.lookup
  (call_meets F.slot_int_rmul (typeIs_int s k t) F.entry_int_rmul (F.args_int_rmul_2 _ _) (int___rmul___int_list k t l its.toArray n)
    ⟨e,rfl,⟨_,e,rfl⟩,call_meets F.slot_list_mul ⟨_,e,rfl⟩ F.entry_list_mul (F.args_list_mul_2 _ _) (AutoListH.list___mul___list_int_3 l its.toArray n k t hfit hcap hlong) ⟨e,?_⟩⟩)
 rw [hnew]
 exact ⟨.ref _,_,I.lnew (t':=s.toks) (r.rep k.toNat) (by rw [len_rep,Nat.mul_comm]; exact hz),rfl,q _ I.fresh⟩
end
section
variable {prog:Program} {w:World} {A:Around} {E:Value→Shared→Prop} {s:Shared}
set_option maxRecDepth 100000 in
end
section
variable {X:Cx}
end
end L2
namespace Att
open PySem PySem.W PySem.Calls PyProof.Rows
theorem ints_of_wellAll {P:Params} {h:Heap}:∀ (ns:List Int) (vs:List Value),WellAll P h vs (ns.map WData.int)→IntsAre vs ns:=by
 intro ns
 induction ns with
 | nil =>
   intro vs w
   rw [List.map_nil] at w
   cases w
   exact .nil
 | cons n ns ih =>
   intro vs w
   rw [List.map_cons] at w
   cases w with
   | cons a b =>
     cases a
     exact .cons _ _ (ih _ b)
theorem script_of {l:OpenLaw} {n:Nat} (hn:l.most=some n) {P:Params} {h:Heap} {args:List WData} {vals:List Value}
 (hpre:l.row.toRowW.claim.pre args=true) (hwl:WellAll P h vals args) :
 ∃ a vs ns,vals=[Value.ref a]∧args=[WData.list (ns.map WData.int)]∧h.get? a=some { cls:=.type "list",data:=.seq vs.toArray }∧IntsAre vs ns∧ns.length≤n:=by
 have hsh:WShape.hasAll [] args [.list .int]=true:=(pre_splitW hpre).1
 have hc:l.pre.holds [] { args:=args }=true:=(pre_splitW hpre).2
 obtain ⟨d,r,rfl,h1,h2⟩:=hasAllW_cons hsh
 obtain rfl:=hasAllW_nil h2
 obtain ⟨xs,rfl,h3⟩:=hasW_list h1
 obtain ⟨ns,rfl⟩:=items_int h3
 have hlen:ns.length≤n:=by
  unfold OpenLaw.pre at hc
  have h4:(WTm.not (.lt (.lit (.int (n:Int))) (.len (.arg 0)))).holds [] { args:=[.list (ns.map .int)] }=true:=by
   have h4:=(holds_andW hc).1
   rw [hn] at h4
   exact h4
  have h5:=condW_of h4 (w_not (w_lt w_lit (w_len_list (w_arg rfl))))
  rw [List.length_map] at h5
  refine Nat.le_of_not_lt fun q=>?_
  have q':(n:Int) < ((ns.length:Nat):Int):=by omega
  first
   | (rw [decide_eq_true q'] at h5; exact absurd h5 (by decide))
   | (simp at h5; omega)
 cases hwl with
 | cons w1 w2 =>
   cases w2
   cases w1 with
   | list ho hall=>exact ⟨_,_,ns,rfl,rfl,ho,ints_of_wellAll ns _ hall,hlen⟩
theorem post_true (l:OpenLaw) (args:List WData):l.row.toRowW.claim.post args (.bool true) args=true :=
 postW_of (r:=l.row.toRowW) (X:=(true == true))
  (show WShape.has [] (.bool true) .bool=true by first | rfl | decide | simp [WShape.has,WShape.arms,WShape.armsAll])
  (show (WTm.eq .res (.lit (.bool true))).value [] { args:=args,res:=some (.bool true),after:=args }=some (.bool (true == true)) from w_eq_bool (w_res rfl) w_lit) rfl
theorem attach_call {l:OpenLaw} {n:Nat} {q:Program} {loose:List Str} {XP:(Str→Option Value)→Heap→Prop} {YP:World→Heap→Prop} {d:DefRec}
 (hn:l.most=some n) (hdf:d.params.defaults=[])
 (call:∀ (w:World) (s₀ s₁:Shared) (mg mb:Str→Option Value) (fa:Addr) (o:Obj) (pm cd doc:Value) (a:Addr) (vs:List Value) (ns:List Int),
   Ground q loose [] XP w s₀ mg mb s₁.heap→YP w s₁.heap →
   s₁.heap.get? fa=some o→o.data=.func (docDef d.name d.params d.body d.scope pm cd doc)→s₁.heap.CodeRec cd d.name→mg d.name=some (.ref fa) →
   s₁.heap.get? a=some { cls:=.type "list",data:=.seq vs.toArray }→IntsAre vs ns→ns.length≤n→s₁.gens=#[] →
   codeAny (model l.prog w) callerA (.call (.ref fa) ⟨[.ref a],[]⟩) (fun r s'=>r=.ok (.ret (.bool true))∧OldK s₁.heap s'.heap∧s'.os=s₁.os∧AllBare s'.gens) s₁) :
 WalkO q loose XP YP l.row.toRowW d [] (fun f vs=>PySem.call f vs):=by
 intro w s₀ s₁ mg mb G Y fa o pm cd doc dV kV ho hd hcd hD hmg hg args vals as hpre hlay hrd hwl hlo
 obtain rfl:dV=.none:=Dflts.none hD hdf
 obtain rfl:kV=.none:=Dflts.noKw hD
 obtain ⟨a,vs,ns,rfl,rfl,hobj,hints,hlen⟩:=script_of hn hpre hwl
 refine enter_call (codeAny_mono (call w s₀ s₁ mg mb fa o pm cd doc a vs ns G Y ho (fd_plain hd) hcd hmg hobj hints hlen hg) fun r s' hq=>?_)
 obtain ⟨rfl,h2,h3,h4⟩:=hq
 exact ⟨.inl ⟨.bool true,.bool true,[],rfl,fun _=>rfl,.bool true,post_true l _,fun _=>⟨List.Pairwise.nil,fun _ hm=>(nomatch hm)⟩⟩,h2,h3,h4⟩
section
variable {prog:Program} {w:World} {A:Around} {E:Value→Shared→Prop} {s:Shared} {K:Frag}
end
end Att
namespace L2
open PySem PySem.Spec PyProof.Rows
theorem vals_ints:∀ {vs:List Value} {ns:List Int},IntsAre vs ns→Vals (ns.map V.int) vs
 | _,_,.nil=>.nil
 | _,_,.cons n t h=>.cons ⟨t,rfl⟩ (vals_ints h)
def Only (H:Hp):Prop:=∀ b,H b=none∨∃ o xs,H b=some (.frz o (.lst xs))
theorem law_call {P:Program} {w:World} {K:PySem.W.Frag} {mg mb:Str→Option Value} {CX:CXT} {k:Nat} {fa a:Addr} {fd:FuncData} {x:Str} {sp:Sp} {s₁:Shared} {vs:List Value} {ns:List Int}
 (KX:K.In s₁.heap) (hns:s₁.heap.Ns mainGlobals mg) (hb:s₁.heap.Ns builtinsNs mb) (hbb:∀ x:Str,x ≠ "__name__" → mb x=bootBuiltins x) (hlim:s₁.heap.NoLimit) (hg:s₁.gens=#[])
 (ha:s₁.heap.get? a=some { cls:=.type "list",data:=.seq vs.toArray }) (hi:IntsAre vs ns) (hl:ns.length≤sizeLine) (hr:Room k callerA)
 (F:∀ base:Heap,K.In base→base.Ns mainGlobals mg→FnOk P w K mg base CX k fa fd [x] sp) (hbind:∀ (s:Shared) (u:Value),BindsTo s fd ⟨[u],[]⟩ [(x,u)])
 (hsp:∀ H:Hp,Only H→SqL K H a (ns.map V.int)→sp [.ref a] H (fun v _=>v=.bl true) fun _ _ _=>False)
 (hCX:∀ H e s',CX [] H s₁ (fun _ _ _=>False) e s'→False) :
 codeAny (model P w) callerA (.call (.ref fa) ⟨[.ref a],[]⟩) (fun r s'=>r=.ok (.ret (.bool true))∧OldK s₁.heap s'.heap∧s'.os=s₁.os∧AllBare s'.gens) s₁:=by
 have rv:=vals_ints hi
 have lenV:=hi.length
 have core:∀ H:Hp,Only H→SqL K H a (ns.map V.int)→HOk P w H s₁.heap→(∀ b,H b≠none→b=a)→(H a≠none→K.lookup a=none) →
  codeAny (model P w) callerA (.call (.ref fa) ⟨[.ref a],[]⟩) (fun r s'=>r=.ok (.ret (.bool true))∧OldK s₁.heap s'.heap∧s'.os=s₁.os∧AllBare s'.gens) s₁:=by
  intro H hO hS hok hA hK
  have base_of:∀ {b:Addr} {o:Obj},s₁.heap.get? b=some o→H b=none→(hidT s₁.heap H).get? b=some o:=fun e n=>hidT_get e n
  have noA:∀ {b:Addr} {o:Obj} {es:Array DictEntry} {ep:Nat},s₁.heap.get? b=some o→o.data=.dict es ep→H b=none:=fun {b o es ep} e d=>by
   cases q:H b with
   | none=>rfl
   | some u =>
     have e':b=a:=hA b (by rw [q]; simp)
     subst e'
     rw [ha] at e; cases e
     have d':Data.seq vs.toArray _=Data.dict es ep:=d
     cases d'
  have nsK:∀ {b:Addr} {m:Str→Option Value},s₁.heap.Ns b m→(hidT s₁.heap H).Ns b m:=fun {b m} ⟨o,es,ep,e,d,r⟩=>⟨o,es,ep,base_of e (noA e d),d,r⟩
  have hKb:K.In (hidT s₁.heap H):=fun b o e=>base_of (KX b o e) (by
   cases q:H b with
   | none=>rfl
   | some u =>
     have e':b=a:=hA b (by rw [q]; simp)
     subst e'
     rw [hK (by rw [q]; simp)] at e; cases e)
  have hM:Mod K mg (hidT s₁.heap H):=⟨hKb,nsK hns,⟨mb,nsK hb,hbb⟩,let ⟨mc,h1,h2⟩:=hlim; ⟨mc,nsK h1,h2⟩⟩
  have e0:Env0 P w K mg (hidT s₁.heap H) callerA [] s₁ H:=⟨rfl,hM,fun b o e=>of_hidT e,Nat.le_of_eq (hidT_size _ _),trivial,fun b hb=>absurd (show b∈([]:List Addr) from hb) (by simp),hok,.of_eq hg⟩
  refine codeAny_mono ((F _ hKb (nsK hns)).run callerA [] s₁ H ⟨[.ref a],[]⟩ [.ref a] [.ref a] _ _ hr e0 (hbind s₁ (.ref a)) (.cons rfl .nil) (hsp H hO hS)) fun r s' h=>?_
  cases r with
  | error e=>exact (hCX H e s' h).elim
  | ok fl =>
    cases fl with
    | next=>exact False.elim h
    | brk=>exact False.elim h
    | cont=>exact False.elim h
    | ret u =>
      obtain ⟨v,H',os,bare,un,hok',r',q⟩:=h
      have q':v=.bl true:=q
      subst q'
      obtain rfl:u=Value.bool true:=r'
      refine ⟨rfl,OldK.of_keep fun b o e=>?_,os,bare⟩
      cases q:H b with
      | none=>exact un.keep b o e q (by intro z; exact absurd (show b∈([]:List Addr) from z) (by simp)) (by simp)
      | some u =>
        rcases hO b with z | ⟨ob,xs,z⟩
        · rw [q] at z; cases z
        · have z2:=un.frzs b ob _ z
          obtain ⟨e1,_⟩:=hok b _ z
          obtain ⟨e2,_⟩:=hok' b _ z2
          rw [e] at e1; cases e1
          exact e2
 cases hk:K.lookup a with
 | some o =>
   have e:=KX a o hk
   rw [ha] at e
   cases e
   refine core (fun _=>none) (fun _=>.inl rfl) (.inr ⟨_,vs.toArray,_,hk,rfl,rfl,rfl,by rw [List.size_toArray,lenV]; exact hl,by simpa using rv⟩) (fun b u z=>by have z':(none:Option HO)=some u:=z; cases z') (fun b z=>absurd rfl z) fun z=>absurd rfl z
 | none =>
   refine core (fun b=>if b=a then some (.frz { cls:=.type "list",data:=.seq vs.toArray } (.lst (ns.map V.int))) else none) (fun b=>?_) (.inl (.inr ⟨{ cls:=.type "list",data:=.seq vs.toArray },if_pos rfl⟩)) (fun b u z=>?_) (fun b z=>?_) fun _=>hk
   · by_cases hb:b=a
     · exact .inr ⟨_,_,if_pos hb⟩
     · exact .inl (if_neg hb)
   · by_cases hb:b=a
     · have z':=(if_pos hb).symm.trans z
       cases z'
       subst hb
       exact ⟨ha,by rw [List.length_map]; exact hl,vs,_,rv,ha⟩
     · have z':=(if_neg hb).symm.trans z
       cases z'
   · by_cases hb:b=a
     · exact hb
     · exact absurd (if_neg hb) z
end L2
namespace L2
open PySem PySem.Spec PyProof.Rows
theorem walk_of {l:PySem.W.OpenLaw} {n k:Nat} {q:Program} {loose:List Str} {XP:(Str→Option Value)→Heap→Prop} {YP:World→Heap→Prop} {d:DefRec} {K:Params→PySem.W.Frag} {CX:World→CXT} {sp:World→Sp} {x:Str}
 (hn:l.most=some n) (hn2:n≤sizeLine) (hdf:d.params.defaults=[]) (hr:Room k callerA)
 (hY:∀ (w:World) (h:Heap),YP w h→(K w.params).In h)
 (F:∀ (w:World) (mg:Str→Option Value) (fa:Addr) (h:Heap),(K w.params).In h→h.Ns mainGlobals mg→mg d.name=some (.ref fa) →
   ∃ fd:FuncData,(∀ (s:Shared) (u:Value),BindsTo s fd ⟨[u],[]⟩ [(x,u)]) ∧
     ∀ base:Heap,(K w.params).In base→base.Ns mainGlobals mg→FnOk l.prog w (K w.params) mg base (CX w) k fa fd [x] (sp w))
 (hsp:∀ (w:World) (H:Hp) (a:Addr) (ns:List Int),ns.length≤n→Only H→SqL (K w.params) H a (ns.map V.int)→sp w [.ref a] H (fun v _=>v=.bl true) fun _ _ _=>False)
 (hCX:∀ (w:World) (H:Hp) (s:Shared) (e:Value) (s':Shared),CX w [] H s (fun _ _ _=>False) e s'→False) :
 PySem.W.WalkO q loose XP YP l.row.toRowW d [] (fun f vs=>PySem.call f vs):=by
 refine Att.attach_call hn hdf fun w s₀ s₁ mg mb fa o pm cd doc a vs ns G Y ho hd hcd hmg hobj hints hlen hg=>?_
 have KX:=hY w _ Y
 obtain ⟨fd,hb,hF⟩:=F w mg fa _ KX G.T.g hmg
 exact law_call KX G.T.g G.T.b G.T.builtins G.T.nolimit hg hobj hints (Nat.le_trans hlen hn2) hr hF hb (fun H hO hS=>hsp w H a ns hlen hO hS) fun H e s'=>hCX w H s₁ e s'
end L2
namespace L2
open PySem PySem.Spec PyProof.Rows
def defArgs (s:Stmt):Arguments:=match s with
 | .FunctionDef _ a _ _ _ _ _ _ _ _=>a
 | _=>{ posonlyargs:=[],args:=[],vararg:=none,kwonlyargs:=[],kw_defaults:=[],kwarg:=none,defaults:=[] }
def defBody (s:Stmt):List Stmt:=match s with
 | .FunctionDef _ _ b _ _ _ _ _ _ _=>b
 | _=>[]
def defScope (s:Stmt):Scope:=match s with
 | .FunctionDef _ _ _ _ _ _ sc _ _ _=>sc
 | _=>{ kind:=.function,names:=[],isGenerator:=false,isCoroutine:=false }
abbrev CX0:CXT:=fun _ _ _ _ _ _=>False
abbrev E0:XK:=fun _ _ _=>False
theorem pass0 {X:Cx}:Passes CX0 X E0:=fun _ _ _ _ _ _ _ h=>h.elim
structure Fun (K:PySem.W.Frag) (x qual:Str) (st:Stmt) (f:Addr) (fd:FuncData):Prop where
 ex:∃ (oc:Value) (od:Option Addr) (kV doc pm:Value) (an:Option Addr) (cdv ct:Value) (osl:Array (Option Value)),
  fd=PySem.W.fnOf x qual (defArgs st) (defBody st) (defScope st) .none kV doc pm an cdv ct∧K.lookup f=some ⟨oc,od,.func fd,osl⟩∧PySem.W.codeIn K cdv qual=true
 kp:PySem.W.keepIn K (.ref f)=true
section
variable {P:Program} {w:World} {K:PySem.W.Frag} {mg:Str→Option Value} {base:Heap}
theorem Fun.ok {x qual:Str} {st:Stmt} {f:Addr} {fd:FuncData} {N ps:List Str} {k:Nat} {sp:Sp} (F:Fun K x qual st f fd) (S:FnScope N ps (defScope st)) (len:∀ vs H Q E,sp vs H Q E→vs.length=ps.length)
 (hbody:∀ (cdv:Value) (A:Around) (outer:List Env) (s:Shared) (H:Hp) (vs:List V) (Q:VK) (E:XK),Room k (A.deeper (envOfC qual (defScope st) s.heap.objs.size f cdv))→sp vs H Q E →
   ∃ t,PSs (cxOf CX0 P w K mg base N qual (defScope st) f cdv A outer s H E).nox (defBody st) t∧t { nx:=fun _ H'=>Q .non H',rt:=Q } (start N vs) H):FnOk P w K mg base CX0 (k+1) f fd ps sp:=by
 obtain ⟨oc,od,kV,doc,pm,an,cdv,ct,osl,rfl,lk,hcd⟩:=F.ex
 refine fn_of lk hcd S len fun A outer s H vs Q E hr hsp=>?_
 obtain ⟨t,h,q⟩:=hbody cdv A outer s H vs Q E hr hsp
 exact ⟨t,h.nox,q⟩
theorem Fun.binds {x qual:Str} {st:Stmt} {f:Addr} {fd:FuncData} {ps:List Str} (F:Fun K x qual st f fd)
 (h:∀ (kV doc pm:Value) (an:Option Addr) (cdv ct:Value) (us:List Value),us.length=ps.length→bindArgs (PySem.W.fnOf x qual (defArgs st) (defBody st) (defScope st) .none kV doc pm an cdv ct) ⟨us,[]⟩=pure (ps.zip us)):Binds K fd ps []:=by
 obtain ⟨oc,od,kV,doc,pm,an,cdv,ct,osl,rfl,lk,hcd⟩:=F.ex
 exact .all (h kV doc pm an cdv ct)
theorem fun_mk {x qual:Str} {st:Stmt} {f:Addr} {oc:Value} {od an:Option Addr} {osl:Array (Option Value)} {kV doc pm cdv ct:Value} (l:K.lookup f=some ⟨oc,od,.func (PySem.W.fnOf x qual (defArgs st) (defBody st) (defScope st) .none kV doc pm an cdv ct),osl⟩)
 (c:PySem.W.codeIn K cdv qual=true) (k:PySem.W.keepIn K (.ref f)=true):Fun K x qual st f (PySem.W.fnOf x qual (defArgs st) (defBody st) (defScope st) .none kV doc pm an cdv ct):=⟨⟨oc,od,kV,doc,pm,an,cdv,ct,osl,rfl,l,c⟩,k⟩
end
theorem hu_of {A:Around} {k:Nat} (hr:Room k A):A.units+1 < cLine:=Nat.lt_of_le_of_lt (Nat.add_le_add_left (by decide:1≤64) _) hr.units
section
variable {X:Cx}
theorem pv (i:Nat) {x:Str} {pos:Pos} (hN:X.N[i]? = some x:=by rfl) (hv:Vis X.env.scope x:=by first | exact Or.inl rfl | exact Or.inr (Or.inl rfl) | exact Or.inr (Or.inr rfl)) (hd:(x == ("__debug__" : Str))=false:=by decide)
 (hcd:(x == ("__classdict__" : Str))=false:=by decide):PE X (.Name x pos) (tVar i):=pe_var hN hv hd hcd
end
theorem iteF {A B:Prop} (h:B):if false=true then A else B:=by
 rw [if_neg Bool.false_ne_true]
 exact h
theorem iteT {A B:Prop} (h:A):if true=true then A else B:=by
 rw [if_pos rfl]
 exact h
theorem ite2 {c A B:Prop} [Decidable c] (h1:c→A) (h2:¬ c→B):if c then A else B:=by
 by_cases h:c
 · rw [if_pos h]
   exact h1 h
 · rw [if_neg h]
   exact h2 h
def Same (H H':Hp):Prop:=∀ b o,H b=some o→H' b=some o
theorem Same.refl (H:Hp):Same H H:=fun _ _ h=>h
theorem Same.trans {H H1 H2:Hp} (a:Same H H1) (b:Same H1 H2):Same H H2:=fun c o h=>b c o (a c o h)
theorem Same.seq {K:PySem.W.Frag} {H H':Hp} {a:Addr} {xs:List V} (e:Same H H') (h:SqL K H a xs):SqL K H' a xs:=by
 rcases h with (h | ⟨o,h⟩) | h
 · exact .inl (.inl (e _ _ h))
 · exact .inl (.inr ⟨o,e _ _ h⟩)
 · exact .inr h
end L2
namespace FM
end FM
namespace L2
open PySem PySem.Spec PyProof.Rows
theorem compLoop_any {prog:Program} {w:World} {A:Around} {R:Result→Shared→Prop} {s:Shared} {elt target iter:Expr} {ifs:List Expr} {scope:Scope} {pos:Pos} {it acc:Value} {env:Env} (I:Nat→Shared→Prop)
 (turn:∀ n s,I n s→wpAny (model prog w) A (pyNext it) (fun r s₁=>match r with
   | none=>R (.ok .next) s₁
   | some v=>wpAny (model prog w) A (letOwnedTupleGo target it v) (fun _ s₀=>wpAny (model prog w) A (assign target env v) (fun _ s₂ =>
      wpAny (model prog w) A (forIn ifs true fun c r=>if r=true then do let ok ← isTrue c env (eval c env); pure (ForInStep.yield ok) else pure (ForInStep.yield r)) (fun ok s₃ =>
       if ok=true then wpAny (model prog w) A (eval elt env) (fun x s₄ =>
        wpAny (model prog w) A (call (.builtin "list.append") [acc,x]) (fun _ s₅=>∃ m,m < n∧I m s₅) (fun _ _=>False) s₄) (fun _ _=>False) s₃
       else ∃ m,m < n∧I m s₃) (fun _ _=>False) s₂) (fun _ _=>False) s₀) (fun _ _=>False) s₁) (fun _ _=>False) s)
 (n:Nat) (h:I n s) :
 codeAny (model prog w) A (.compLoop (.ListComp elt [⟨target,iter,ifs,0⟩] scope pos) 0 it acc env) R s:=by
 refine codeAny_loop rfl I (fun n s hI=>?_) n h
 show wpAny _ A ((compTurn (.ListComp elt [⟨target,iter,ifs,0⟩] scope pos) 0 it acc env).onRaise (fun x=>do noteFrame x env; theTreesLotGoes x)) _ _ s
 refine wpAny_noted ?_
 rw [compTurn_list]
 refine wpAny_bind (wpAny_standAt (wpAny_bind (wpAny_mono (turn n s hI) (fun r s₁ h₁=>?_) fun _ _ h'=>h'.elim)))
 cases r with
 | none=>exact wpAny_pure h₁
 | some v =>
   refine wpAny_bind (wpAny_mono h₁ (fun _ s₀ h₀=>?_) fun _ _ h'=>h'.elim)
   refine wpAny_bind (wpAny_mono h₀ (fun _ s₂ h₂=>wpAny_bind (wpAny_mono h₂ (fun ok s₃ h₃=>?_) fun _ _ h'=>h'.elim)) fun _ _ h'=>h'.elim)
   cases ok with
   | false=>exact wpAny_pure ⟨rfl,h₃⟩
   | true =>
     exact wpAny_bind (wpAny_bind (wpAny_mono h₃ (fun x s₄ h₄=>wpAny_bind (wpAny_mono h₄ (fun _ s₅ h₅=>wpAny_pure (wpAny_pure ⟨rfl,h₅⟩)) fun _ _ h'=>h'.elim)) fun _ _ h'=>h'.elim))
theorem cellsFrom_app:∀ (names:List (Str×NameKind)) (n:Nat) (acc:List (Str×Addr)),cellsFrom n names acc=cellsFrom n names []++acc
 | [],_,_=>rfl
 | (x,k) :: r,n,acc=>by
   unfold cellsFrom
   split
   · rw [cellsFrom_app r (n+1) ((x,n) :: acc),cellsFrom_app r (n+1) [(x,n)],List.append_assoc]; rfl
   · exact cellsFrom_app r n acc
theorem cellsFrom_mem {x:Str} {c:Addr}:∀ (names:List (Str×NameKind)) (n:Nat),(x,c)∈cellsFrom n names []→(x,NameKind.cell)∈names
 | [],_,h=>by simp [cellsFrom] at h
 | (y,k) :: r,n,h=>by
   unfold cellsFrom at h
   split at h
   · rename_i hk
     rw [cellsFrom_app] at h
     rcases List.mem_append.mp h with h | h
     · exact List.mem_cons_of_mem _ (cellsFrom_mem r _ h)
     · cases List.mem_singleton.mp h
       rw [show k=.cell by simpa using hk]
       exact List.mem_cons_self
   · exact List.mem_cons_of_mem _ (cellsFrom_mem r _ h)
theorem own_look {names:List (Str×NameKind)} {n:Nat} {cl:List (Str×Addr)} {x:Str} {c:Addr} (h:(cellsFrom n names cl).lookup x=some c):(cellsFrom n names []).lookup x=some c∨cl.lookup x=some c:=by
 rw [cellsFrom_app,List.lookup_append] at h
 cases e:(cellsFrom n names []).lookup x with
 | none=>rw [e] at h; exact .inr h
 | some c'=>rw [e] at h; exact .inl h
theorem newEnv_own {M:Model} {A:Around} {E:Value→Shared→Prop} {s:Shared} {scope:Scope} {globals:Addr} {cl:List (Str×Addr)} {qual:Str} {env:Env} {Q:Env→Shared→Prop}
 (hQ:∀ h',h'.Ns s.heap.objs.size (fun _=>none)→(∀ b o,s.heap.get? b=some o→h'.get? b=some o)→CellsOk h' (s.heap.objs.size+1) (cellsFrom (s.heap.objs.size+1) scope.names []) →
   Q (newEnv scope s.heap.objs.size globals (cellsFrom (s.heap.objs.size+1) scope.names cl) qual none .none (some env) builtinsNs) { s with heap:=h' }) :
 wpAny M A (newFunctionEnv scope globals cl [] qual none .none (some env)) Q E s:=by
 simp only [newFunctionEnv,Option.isSome_some,if_true]
 refine wpAny_bind (wpAny_alloc ?_)
 refine wpAny_bind (wpAny_layCells _ (fun name kind cells=>by cases hkc:kind == NameKind.cell <;> simp [hkc]) _ _ _ _ ?_)
 have ok:=cellsFrom_ok scope.names (s.heap.push { cls:=.type "dict",data:=.dict #[] }) (s.heap.objs.size+1) [] ⟨fun _ _ hm=>(nomatch hm),List.Pairwise.nil⟩ (by rw [Heap.size_push]; exact Nat.le_refl _)
 rw [Heap.size_push] at ok
 rw [show ({ s with heap:=s.heap.push { cls:=.type "dict",data:=.dict #[] } }:Shared).heap.objs.size=s.heap.objs.size+1 from Heap.size_push ..]
 rw [List.forIn_nil]
 exact wpAny_bind (wpAny_pure (wpAny_pure (hQ _ ((Heap.Ns.new s.heap (.type "dict")).keeps (pushCells_keeps _ _)) (fun b o e=>pushCells_keeps _ _ b o (Heap.get?_push_of_some _ e)) ok)))
def blk (X:Cx) (scope:Scope) (cl:List (Str×Addr)) (C:Addr) (N:List Str) (s3:Shared) (H3:Hp) (fp:List Addr):Cx where
 prog:=X.prog
 w:=X.w
 K:=X.K
 mg:=X.mg
 base:=X.base
 A:=X.A
 N:=N
 s₀:=s3
 H₀:=H3
 env:=compEnvC scope (cellsFrom (C+1) scope.names cl) C X.env
 outer:=X.stack
 stack:=X.stack
 ex:=fp
 fn:=fun x=>scope.names.lookup x == some .cell
 calm:=X.calm
 pn:=[]
 xe:=fun _ _=>False
structure LcO (X:Cx) (scope:Scope) (cl:List (Str×Addr)) (N:List Str) (fr:List (Option Nat)):Prop where
 clos:closureFor scope X.env=pure cl
 sub:∀ x c,cl.lookup x=some c→X.env.cells.lookup x=some c
 has:∀ x,((relabel scope X.env).names.lookup x=some .cell∨(relabel scope X.env).names.lookup x=some .free)→scope.names.lookup x=some .cell∨∃ c,cl.lookup x=some c
 kind:scope.kind=.function
 names:∀ y∈scope.names,y.2=.local→scope.names.lookup y.1=some .local
 len:fr.length=N.length
 from':∀ (i j:Nat),fr[i]? = some (some j)→∃ x,N[i]? = some x∧X.N[j]? = some x∧(X.env.scope.names.lookup x=some .cell∨X.env.scope.names.lookup x=some .free)∧((relabel scope X.env).names.lookup x=some .cell∨(relabel scope X.env).names.lookup x=some .free)∧(∃ c,cl.lookup x=some c)∧(x,NameKind.cell)∉scope.names
def lcStart (fr:List (Option Nat)) (σ:St):St:=fr.map fun o=>match o with
 | some j=>match σ[j]? with
   | some v=>v
   | none=>none
 | none=>none
theorem hok_but {P:Program} {w:World} {H:Hp} {h h':Heap} {a:Addr} (ok:HOk P w H h) (hfree:H a=none) (hs:Heap.SameBut a h h'):HOk P w H h':=fun b ob e=>by
 refine (ok b ob e).stay (fun c w' hc q=>(hs.2 c ?_).trans q) (fun _ q=>q) fun _ _ q=>q
 rintro rfl
 rcases hc with rfl | hc
 · rw [hfree] at e; cases e
 · rw [hfree] at hc; cases hc
theorem blk_ok {X:Cx} {pins:List (Addr×Obj)} {σ:St} {H:Hp} {s3:Shared} {h1:Heap} {scope:Scope} {cl:List (Str×Addr)} {N:List Str} {fr:List (Option Nat)} {fp:List Addr} (L:LcO X scope cl N fr) (I:Inv X pins σ H s3) (co:CellsOk h1 (s3.heap.objs.size+1) (cellsFrom (s3.heap.objs.size+1) scope.names []))
 (hf:∀ b∈fp,FpOk X pins H b) (hlt:∀ b∈fp,b < s3.heap.objs.size):(blk X scope cl s3.heap.objs.size N s3 H fp).Ok where
 mod:=I.ok.mod
 kind:=L.kind
 glob:=I.ok.glob
 blt:=I.ok.blt
 above:=Nat.le_refl _
 inj:=fun x y c h1 h2=>by
  have old:∀ z,cl.lookup z=some c→c < s3.heap.objs.size:=fun z e=>let ⟨_,k⟩:=I.cell z c (L.sub z c e); k.lt
  have new:∀ z,(cellsFrom (s3.heap.objs.size+1) scope.names []).lookup z=some c→s3.heap.objs.size+1≤c:=fun z e=>(co.empty z c (PySem.mem_of_lookup e)).2
  rcases own_look h1 with a | a <;> rcases own_look h2 with b | b
  · exact name_of_addr co.apart (PySem.mem_of_lookup a) (PySem.mem_of_lookup b)
  · exact absurd (Nat.lt_of_lt_of_le (old y b) (Nat.le_of_succ_le (new x a))) (Nat.lt_irrefl _)
  · exact absurd (Nat.lt_of_lt_of_le (old x a) (Nat.le_of_succ_le (new y b))) (Nat.lt_irrefl _)
  · exact I.ok.inj x y c (L.sub x c a) (L.sub y c b)
 has:=fun x h=>by
  refine Option.isSome_iff_exists.mp (PySem.W.cellsFrom_some scope.names (s3.heap.objs.size+1) cl ?_)
  rcases L.has x h with z | ⟨c,z⟩
  · exact .inl z
  · exact .inr (by rw [z]; rfl)
 cab:=fun x c h e=>by
  obtain ⟨c',e'⟩:=cell_has (sc:=scope) (n:=s3.heap.objs.size+1) (beq_iff_eq.mp (show (scope.names.lookup x == some .cell)=true from h))
  have e2:(cellsFrom (s3.heap.objs.size+1) scope.names cl).lookup x=some c:=e
  rw [cellsFrom_app,List.lookup_append,e'] at e2
  have e3:c'=c:=Option.some.inj e2
  subst e3
  exact Nat.le_of_succ_le (co.empty x c' (PySem.mem_of_lookup e')).2
 hd:=I.ok.hd
 frames:=I.ok.frames
 stk:=.inl rfl
 exf:=fun b hb=>⟨Nat.ne_of_lt (hlt b hb),fun x c h=>by
  rcases own_look h with a | a
  · exact Nat.ne_of_gt (Nat.lt_of_lt_of_le (hlt b hb) (Nat.le_of_succ_le (co.empty x c (PySem.mem_of_lookup a)).2))
  · exact (hf b hb).2.2.2.2.1 x c (L.sub x c a)⟩
 bs:=I.bs
 bsz:=Nat.le_trans I.ok.bsz I.sz
 noex:=fun b o e hb=>by
  rcases (hf b hb).2.2.2.1 with z | z
  · exact I.ok.noex b o e z
  · exact absurd (Nat.lt_of_lt_of_le (Heap.lt_size e) (Nat.le_trans I.ok.bsz z)) (Nat.lt_irrefl _)
 exfs:=fun b hb z=>by
  rcases List.mem_cons.mp (I.stkSub b z) with e | e
  · exact (hf b hb).2.1 e
  · exact (hf b hb).2.2.1 e
 funs:=I.stack
 frf:=I.stkFree
theorem blk_start {X:Cx} {pins:List (Addr×Obj)} {σ:St} {H:Hp} {s3:Shared} {h1:Heap} {t:Nat} {scope:Scope} {cl:List (Str×Addr)} {N:List Str} {fr:List (Option Nat)} {fp:List Addr} (L:LcO X scope cl N fr) (I:Inv X pins σ H s3) (co:CellsOk h1 (s3.heap.objs.size+1) (cellsFrom (s3.heap.objs.size+1) scope.names []))
 (hf:∀ b∈fp,FpOk X pins H b) (hlt:∀ b∈fp,b < s3.heap.objs.size) {m0:Str→Option Value} (hns:h1.Ns s3.heap.objs.size m0) (hk:∀ b o,s3.heap.get? b=some o→h1.get? b=some o) :
 Inv (blk X scope cl s3.heap.objs.size N s3 H fp) [] (lcStart fr σ) H { s3 with heap:=h1,toks:=t } where
 ok:=blk_ok L I co hf hlt
 os:=rfl
 bare:=I.bare
 base:=Un.kept hk
 loc:=⟨m0,hns,fun i x v e1 e2 e3=>by
  unfold lcStart at e2
  rw [List.getElem?_map] at e2
  cases q:fr[i]? with
  | none=>rw [q] at e2; cases e2
  | some o =>
    rw [q] at e2
    cases o with
    | none=>cases e2
    | some j =>
      obtain ⟨y,n1,n2,n3,n4,⟨c,hc⟩,n6⟩:=L.from' i j q
      have e1':N[i]? = some x:=e1
      rw [n1] at e1'
      cases e1'
      have e2':(match σ[j]? with | some v=>v | none=>none)=some v:=Option.some.inj e2
      have e2'':σ[j]? = some (some v):=by
       cases z:σ[j]? with
       | none=>rw [z] at e2'; cases e2'
       | some w'=>rw [z] at e2'; rw [show w'=some v from e2']
      obtain ⟨m,_,hl⟩:=I.loc
      obtain ⟨u,r,lk⟩:=hl j x v n2 e2'' (.inr n3)
      refine ⟨u,r,.inr ⟨n4,c,?_,?_⟩⟩
      · show (cellsFrom (s3.heap.objs.size+1) scope.names cl).lookup x=some c
        rw [cellsFrom_app,List.lookup_append]
        cases z:(cellsFrom (s3.heap.objs.size+1) scope.names []).lookup x with
        | none=>exact hc
        | some c'=>exact absurd (cellsFrom_mem _ _ (PySem.mem_of_lookup z)) n6
      rcases lk with ⟨k,_⟩ | ⟨k,c',hc',z⟩
      · exfalso
        have k':X.env.scope.names.lookup x=some .local:=k
        rcases n3 with z | z <;> rw [k'] at z <;> cases z
      · rw [L.sub x c hc] at hc'
        cases hc'
        obtain ⟨o,ho,hd⟩:=z
        exact ⟨o,hk _ _ ho,hd⟩⟩
 cell:=fun x c e=>by
  rcases own_look e with a | a
  · exact ⟨none,(co.empty x c (PySem.mem_of_lookup a)).1⟩
  · obtain ⟨v,o,ho,hd⟩:=I.cell x c (L.sub x c a)
    exact ⟨v,o,hk _ _ ho,hd⟩
 free:=I.hok.fresh (Nat.le_refl _)
 freeC:=fun x c e=>by
  rcases own_look e with a | a
  · exact .inl (I.hok.fresh (Nat.le_of_succ_le (co.empty x c (PySem.mem_of_lookup a)).2))
  · refine (I.freeC x c (L.sub x c a)).imp id fun ⟨_,z⟩=>⟨Bool.eq_false_iff.mpr fun q=>?_,z⟩
    obtain ⟨v,oc,hoc,_⟩:=I.cell x c (L.sub x c a)
    obtain ⟨c',e'⟩:=cell_has (sc:=scope) (n:=s3.heap.objs.size+1) (beq_iff_eq.mp (show (scope.names.lookup x == some .cell)=true from q))
    have e2:(cellsFrom (s3.heap.objs.size+1) scope.names cl).lookup x=some c:=e
    rw [cellsFrom_app,List.lookup_append,e'] at e2
    cases e2
    exact absurd (Nat.lt_of_lt_of_le (Heap.lt_size hoc) (Nat.le_of_succ_le (co.empty x c (PySem.mem_of_lookup e')).2)) (Nat.lt_irrefl _)
 pin:=fun p hp=>absurd (show p∈([]:List (Addr×Obj)) from hp) (by simp)
 hok:=I.hok.kept hk
 len:=by
  unfold lcStart
  rw [List.length_map]
  exact L.len
def PIfs (X:Cx) (ifs:List Expr) (t:TT):Prop :=
 ∀ (pins:List (Addr×Obj)) (s:Shared) (σ:St) (H:Hp) (Q:Bool→Hp→Prop),Inv X pins σ H s→t σ H Q →
   wpAny (model X.prog X.w) X.A (forIn ifs true fun c r=>if r=true then do let ok ← isTrue c X.env (eval c X.env); pure (ForInStep.yield ok) else pure (ForInStep.yield r)) (TP X pins σ Q) X.xe s
def tYes:TT:=fun _ H Q=>Q true H
theorem pifs_nil {X:Cx}:PIfs X [] tYes:=fun _ _ _ H _ I h=>wpAny_tests_nil ⟨H,I,h⟩
theorem pifs_one {X:Cx} {c:Expr} {t:TT} (h:PT X c t):PIfs X [c] t:=fun pins s σ H Q I hw=>wpAny_tests_one (h pins s σ H Q I hw)
def LcGo (J:It) (g:TG) (tt:TT) (te:TE) (σ0:St) (H1:Hp) (D:Addr) (Q:VK):Prop:=∃ W:Nat→Nat→St→Hp→Prop,(∃ m,W 0 m σ0 (upd H1 D (.lst []))) ∧
 ∀ i m σ2 H2,W i m σ2 H2→(J.stop i H2∧Q (.ref D) H2)∨(J.go i H2∧∀ x H3,J.yld i H2 x H3→g x σ2 H3 fun σ4 H4=>tt σ4 H4 fun b H5=>if b=true then te σ4 H5 fun y H6=>∃ ys,H6 D=some (.lst ys)∧ys.length < sizeLine ∧
   ∃ m',m' < m∧W (i+1) m' σ4 (upd H6 D (.lst (ys++[y]))) else ∃ m',m' < m∧W (i+1) m' σ4 H5)
def tLC (wi:TI) (g:TG) (tt:TT) (te:TE) (fr:List (Option Nat)):TE:=fun σ H Q=>wi σ H fun J H1=>∀ D,H1 D=none→LcGo J g tt te (lcStart fr σ) H1 D Q
abbrev NoX:Value→Shared→Prop:=fun _ _=>False
theorem cmp_close {X:Cx} {pins:List (Addr×Obj)} {σ σ7:St} {H3 H7:Hp} {s3 s7:Shared} {scope:Scope} {cl:List (Str×Addr)} {N:List Str} {fp:List Addr} (I3:Inv X pins σ H3 s3) (f3:∀ b∈fp,FpOk X pins H3 b) (I7:Inv (blk X scope cl s3.heap.objs.size N s3 H3 fp) [] σ7 H7 s7) :
 ∃ m7,s7.heap.Ns s3.heap.objs.size m7∧∀ h8,Heap.SameBut s3.heap.objs.size s7.heap h8→Inv X pins σ H7 { s7 with heap:=h8 }:=by
 obtain ⟨m7,hn7,_⟩:=I7.loc
 refine ⟨m7,hn7,fun h8 sb8=>?_⟩
 have un:=I7.base
 have neC:∀ b o,s3.heap.get? b=some o→b≠s3.heap.objs.size:=fun b o e=>Nat.ne_of_lt (Heap.lt_size e)
 refine I3.call' (s':={ s7 with heap:=h8 }) (ch:=fp) I7.os ?_ (hok_but I7.hok I7.free sb8) I7.bare (fun b hb=>⟨(f3 b hb).2.2.2.1,(f3 b hb).2.1,(f3 b hb).2.2.2.2.1,(f3 b hb).2.2.2.2.2⟩)
 refine ⟨fun b o e n' hb hx=>?_,fun b o e n' hb hx=>?_,un.free,fun b o e hx=>?_,un.tups,un.frzs,un.tbls⟩
 · exact sb8.extBut b o (neC b o e) (un.keep b o e n' hb hx)
 · obtain ⟨sl,q⟩:=un.slot b o e n' hb hx
   exact ⟨sl,sb8.extBut b _ (neC b o e) q⟩
 · obtain ⟨o',q⟩:=un.there b o e hx
   exact ⟨o',sb8.extBut b _ (neC b o e) q⟩
def CTurn (M:Model) (A:Around) (tg:Expr) (it:Value) (env:Env) (R:Result→Shared→Prop) (B:Nat→Shared→Prop) (n:Nat) (s:Shared):Prop :=
 wpAny M A (pyNext it) (fun r s1=>match r with
  | none=>R (.ok .next) s1
  | some v=>wpAny M A (letOwnedTupleGo tg it v) (fun _ s0=>wpAny M A (assign tg env v) (fun _ s2=>B n s2) NoX s0) NoX s1) NoX s
theorem cmp_core {X:Cx} {pins:List (Addr×Obj)} {σ:St} {H2:Hp} {s2:Shared} {scope:Scope} {cl:List (Str×Addr)} {N:List Str} {fr:List (Option Nat)} {tg:Expr} {g:TG} {J:It} {fp:List Addr} {it:Addr} {tn:Nat→Heap→Prop} {ac:HO} {o0:Obj} {W:Nat→Nat→St→Hp→Prop} {m0:Nat} {Qn:Hp→Prop} {Kn:Nat→Nat→St→Hp→Prop} {c:Expr} {R:Addr→Result→Shared→Prop} {B:(Nat→Shared→Prop)→Nat→Shared→Prop} {s3:Shared}
 (hs3:s3={ s2 with heap:=s2.heap.push o0 }) (hc:X.calm=true) (L:LcO X scope cl N fr) (hg:∀ C s3 H3 fp,PG (blk X scope cl C N s3 H3 fp) tg g)
 (I2:Inv X pins σ H2 s2) (T:Turn X.prog X.w X.K tg J fp it tn) (st2:tn 0 s2.heap) (f2:∀ b∈fp,FpOk X pins H2 b)
 (ok0:ObjOk X.prog X.w (upd H2 s2.heap.objs.size ac) (s2.heap.push o0) s2.heap.objs.size ac) (w0:W 0 m0 (lcStart fr σ) (upd H2 s2.heap.objs.size ac))
 (turn:∀ i m σ2 H2,W i m σ2 H2→(J.stop i H2∧Qn H2)∨(J.go i H2∧∀ x H3,J.yld i H2 x H3→g x σ2 H3 (Kn i m)))
 (start:∀ env s4,codeAny (model X.prog X.w) X.A (.compLoop c 0 (.ref it) (.ref s2.heap.objs.size) env) (R s3.heap.objs.size) s4→(∀ E,wpAny (model X.prog X.w) X.A (pyIter (.ref it)) (fun it' s'=>codeAny (model X.prog X.w) X.A (.compLoop c 0 it' (.ref s2.heap.objs.size) env) (R s3.heap.objs.size) s') E s4)→codeAny (model X.prog X.w) X.A (.compStart c 0 (.ref it) (.ref s2.heap.objs.size) env) (R s3.heap.objs.size) s4)
 (loop:∀ (LI:Nat→Shared→Prop) s4,(∀ n s,LI n s→CTurn (model X.prog X.w) X.A tg (.ref it) (blk X scope cl s3.heap.objs.size N s3 (upd H2 s2.heap.objs.size ac) fp).env (R s3.heap.objs.size) (B LI) n s)→∀ n,LI n s4→codeAny (model X.prog X.w) X.A (.compLoop c 0 (.ref it) (.ref s2.heap.objs.size) (blk X scope cl s3.heap.objs.size N s3 (upd H2 s2.heap.objs.size ac) fp).env) (R s3.heap.objs.size) s4)
 (stop:∀ H7 s7,Qn H7→Inv X pins σ (upd H2 s2.heap.objs.size ac) s3→H7 s3.heap.objs.size=none→(∃ m7,s7.heap.Ns s3.heap.objs.size m7∧∀ h8,Heap.SameBut s3.heap.objs.size s7.heap h8→Inv X pins σ H7 { s7 with heap:=h8 })→R s3.heap.objs.size (.ok .next) s7)
 (body:∀ (LI:Nat→Shared→Prop) n i σ9 H9 s9 ps,Inv (blk X scope cl s3.heap.objs.size N s3 (upd H2 s2.heap.objs.size ac) fp) ps σ9 H9 s9→Kn i n σ9 H9→(∀ {s11:Shared} {σ11:St} {H11:Hp} {m':Nat},Inv (blk X scope cl s3.heap.objs.size N s3 (upd H2 s2.heap.objs.size ac) fp) ps σ11 H11 s11→m' < n→W (i+1) m' σ11 H11→∃ m,m < n∧LI m s11)→B LI n s9) :
 wpAny (model X.prog X.w) X.A (newFunctionEnv scope X.env.globals cl [] X.env.qual none .none (some X.env)) (fun cenv s4=>codeAny (model X.prog X.w) X.A (.compStart c 0 (.ref it) (.ref s2.heap.objs.size) { cenv with scope:=relabel scope X.env }) (R cenv.locals) s4) X.xe s3:=by
 have fplt:∀ b∈fp,b < s2.heap.objs.size:=fun b hb=>by
  obtain ⟨o,q,_⟩:=T.obj _ _ st2 b hb
  exact Heap.lt_size q
 have k3:∀ b o,s2.heap.get? b=some o→s3.heap.get? b=some o:=fun b o e=>by rw [hs3]; exact Heap.get?_push_of_some _ e
 have I3:Inv X pins σ (upd H2 s2.heap.objs.size ac) s3:=by rw [hs3]; exact I2.laid (t':=s2.toks) (fun b o e=>Heap.get?_push_of_some _ e) (Nat.le_refl _) ok0
 have f3:∀ b∈fp,FpOk X pins (upd H2 s2.heap.objs.size ac) b:=fun b hb=>⟨by rw [upd_ne (Nat.ne_of_lt (fplt b hb))]; exact (f2 b hb).1,(f2 b hb).2⟩
 have st3:tn 0 s3.heap:=T.keep _ _ _ st2 fun b hb o e=>k3 b o e
 have fplt3:∀ b∈fp,b < s3.heap.objs.size:=fun b hb=>by
  obtain ⟨o,q,_⟩:=T.obj _ _ st2 b hb
  exact Heap.lt_size (k3 _ _ q)
 generalize upd H2 s2.heap.objs.size ac=H3 at *
 refine newEnv_own fun h1 hns1 k4 ok3=>?_
 have I4:=blk_start (t:=s3.toks) L I3 ok3 f3 fplt3 hns1 k4
 have st4:tn 0 h1:=T.keep _ _ _ st3 fun b hb o e=>k4 b o e
 have fpB:∀ {H':Hp} (b:Addr),b∈fp→H' b=none→FpOk (blk X scope cl s3.heap.objs.size N s3 H3 fp) [] H' b:=fun b hb hn =>
  ⟨hn,Nat.ne_of_lt (fplt3 b hb),fun z=>(blk_ok L I3 ok3 f3 fplt3).exfs b hb z,.inl hb,fun x c e=>((blk_ok L I3 ok3 f3 fplt3).exf b hb).2 x c e,fun p hp=>absurd (show p∈([]:List (Addr×Obj)) from hp) (by simp)⟩
 have lp:=loop (fun n s'=>∃ i σ' H',Inv (blk X scope cl s3.heap.objs.size N s3 H3 fp) [] σ' H' s'∧tn i s'.heap∧(∀ b∈fp,H' b=none)∧W i n σ' H') { s3 with heap:=h1 } (fun n s6=>?_) m0 ⟨0,_,_,I4,st4,fun b hb=>(f3 b hb).1,w0⟩
 · exact start _ _ lp fun E=>T.self _ 0 _ _ _ st4 lp
 · rintro ⟨i,σ6,H6,I6,st6,fr6,w6⟩
   unfold CTurn
   rcases turn i n σ6 H6 w6 with ⟨sp,qn⟩ | ⟨go,step⟩
   · refine thn (T.done (blk X scope cl s3.heap.objs.size N s3 H3 fp) rfl rfl rfl hc i [] s6 σ6 H6 (fun _ _=>False) I6 (fun b hb=>fpB b hb (fr6 b hb)) st6 sp) fun r s7 ⟨hr,I7⟩=>?_
     subst hr
     exact stop _ _ qn I3 I7.free (cmp_close I3 f3 I7)
   · refine thn (T.item (blk X scope cl s3.heap.objs.size N s3 H3 fp) rfl rfl rfl hc i [] s6 σ6 H6 (fun _ _=>False) I6 (fun b hb=>fpB b hb (fr6 b hb)) st6 go) fun r s7 ⟨u,hr,h7⟩=>?_
     subst hr
     refine thn h7 fun _ s8 ⟨x,H8,I8,r8,y8,st8,fr8⟩=>?_
     have I8':=I8.pinned (fun b hb=>fpB b hb (fr8 b hb)) (T.obj _ _ st8)
     refine thn (hg _ _ _ _ _ s8 σ6 H8 x u _ I8' r8 (step x H8 y8)) fun _ s9 ⟨σ9,H9,I9,q9⟩=>?_
     refine body _ n i σ9 H9 s9 _ I9 q9 fun {s11 σ11 H11 m'} I11 hm w11=>?_
     refine ⟨m',hm,i+1,σ11,H11,I11.unpinned,T.keep _ _ _ st8 fun b hb o e=>(I11.pin (b,o) (List.mem_append_right _ (List.mem_append_right _ (mem_pinsAt hb e)))).1,fun b hb=>?_,w11⟩
     obtain ⟨o,e,d⟩:=T.obj _ _ st8 b hb
     exact (I11.pin (b,o) (List.mem_append_right _ (List.mem_append_right _ (mem_pinsAt hb e)))).2.1
theorem lc_body {X:Cx} {scope:Scope} {cl:List (Str×Addr)} {N:List Str} {ifs:List Expr} {elt:Expr} {tt:TT} {te:TE} {D:Addr} {W:Nat→Nat→St→Hp→Prop} {C0:Addr} {s30:Shared} {H30:Hp} {fp0:List Addr}
 (ht:∀ C s3 H3 fp,PIfs (blk X scope cl C N s3 H3 fp) ifs tt) (he:∀ C s3 H3 fp,PE (blk X scope cl C N s3 H3 fp) elt te) (LI:Nat→Shared→Prop) (n i:Nat) (σ9:St) (H9:Hp) (s9:Shared) (ps:List (Addr×Obj)) (I9:Inv (blk X scope cl C0 N s30 H30 fp0) ps σ9 H9 s9)
 (q9:tt σ9 H9 fun b H5=>if b=true then te σ9 H5 fun y H6=>∃ ys,H6 D=some (.lst ys)∧ys.length < sizeLine∧∃ m',m' < n∧W (i+1) m' σ9 (upd H6 D (.lst (ys++[y]))) else ∃ m',m' < n∧W (i+1) m' σ9 H5)
 (again:∀ {s11:Shared} {σ11:St} {H11:Hp} {m':Nat},Inv (blk X scope cl C0 N s30 H30 fp0) ps σ11 H11 s11→m' < n→W (i+1) m' σ11 H11→∃ m,m < n∧LI m s11) :
 wpAny (model X.prog X.w) X.A (forIn ifs true fun c r=>if r=true then do let ok ← isTrue c (blk X scope cl C0 N s30 H30 fp0).env (eval c (blk X scope cl C0 N s30 H30 fp0).env); pure (ForInStep.yield ok) else pure (ForInStep.yield r)) (fun ok s₃ =>
  if ok=true then wpAny (model X.prog X.w) X.A (eval elt (blk X scope cl C0 N s30 H30 fp0).env) (fun x s₄ =>
   wpAny (model X.prog X.w) X.A (call (.builtin "list.append") [.ref D,x]) (fun _ s₅=>∃ m,m < n∧LI m s₅) (fun _ _=>False) s₄) (fun _ _=>False) s₃
  else ∃ m,m < n∧LI m s₃) (fun _ _=>False) s9:=by
 refine thn (ht _ _ _ _ ps s9 σ9 H9 _ I9 q9) fun b s10 ⟨H10,I10,q10⟩=>?_
 cases b with
 | false =>
   obtain ⟨m',hm,w11⟩:=q10
   exact again I10 hm w11
 | true =>
   refine thn (he _ _ _ _ ps s10 σ9 H10 _ I10 q10) fun y s11 ⟨yv,H11,I11,r11,ys,hys,hz,m',hm,w11⟩=>?_
   have ap:=mt_append (X:=blk X scope cl C0 N s30 H30 fp0) _ s11 σ9 H11 (.ref D) [yv] (.ref D) [y] (fun _ H'=>W (i+1) m' σ9 H') I11 rfl (.cons r11 .nil)
    ⟨_,ys,yv,rfl,rfl,hys,hz,w11⟩
   exact thn ap fun _ s12 ⟨_,H12,I12,_,q12⟩=>again I12 hm q12
theorem stop_ep {X:Cx} {pins:List (Addr×Obj)} {σ:St} {Q:VK} {H7:Hp} {s7:Shared} {C D:Addr} (qn:Q (.ref D) H7) (c:∃ m7,s7.heap.Ns C m7∧∀ h8,Heap.SameBut C s7.heap h8→Inv X pins σ H7 { s7 with heap:=h8 }):compPost (model X.prog X.w) X.A X.xe none (EP X pins σ Q) (.ref D) C (.ok .next) s7 :=
 let ⟨m7,hn7,c7⟩:=c
 ⟨m7,hn7,fun h8 sb8=>⟨.ref _,H7,c7 h8 sb8,rfl,qn⟩⟩
theorem pe_lc {X:Cx} {tg elt iter:Expr} {ifs:List Expr} {scope:Scope} {cl:List (Str×Addr)} {N:List Str} {fr:List (Option Nat)} {pos:Pos} {wi:TI} {g:TG} {tt:TT} {te:TE}
 (hc:X.calm=true) (L:LcO X scope cl N fr) (hi:PI X tg iter wi) (hg:∀ C s3 H3 fp,PG (blk X scope cl C N s3 H3 fp) tg g)
 (ht:∀ C s3 H3 fp,PIfs (blk X scope cl C N s3 H3 fp) ifs tt) (he:∀ C s3 H3 fp,PE (blk X scope cl C N s3 H3 fp) elt te)
 (hs:∀ x,foldedSetIterable iter X.env x=pure x:=by intro _; rfl):PE X (.ListComp elt [⟨tg,iter,ifs,0⟩] scope pos) (tLC wi g tt te fr):=by
 intro pins s σ H Q I h
 rw [eval_ListComp]
 refine wpAny_comprehension_free (use:=none) rfl hs L.clos L.kind L.names (thn (hi pins s σ H _ I h) fun v s1 h1=>thn h1 fun itv s2 h2=>?_)
 obtain ⟨it,fp,tn,J,H2,e,I2,T,st2,f2,h⟩:=h2
 subst e
 obtain ⟨W,⟨m0,w0⟩,turn⟩:=h s2.heap.objs.size (I2.hok.fresh (Nat.le_refl _))
 refine wpAny_newObj_type ?_
 refine cmp_core (ac:=.lst []) rfl hc L hg I2 T st2 f2 ⟨Nat.zero_le _,[],_,.nil,Heap.get?_push_size _ rfl⟩ w0 turn (fun _ _ a b=>codeAny_compStart_list a (b _)) (fun LI s4 t n h=>compLoop_any LI t n h) (fun H7 s7 qn _ _ c=>stop_ep qn c) (lc_body ht he)
def LcN (n:Nat) (Pv:Nat→St→Hp→Prop) (i m:Nat) (σ:St) (H:Hp):Prop:=i≤n∧m=n - i∧Pv i σ H
end L2
namespace L2
open PySem PySem.Spec PyProof.Rows
section
variable {X:Cx}
def CDivB (i j:Int):Prop:=j≠0∧j.natAbs < 2 ^ 8999
theorem log_lt {a n:Nat} (h:a < 2 ^ n) (hn:0 < n):a.log2 < n:=by
 rcases Nat.eq_zero_or_pos a with rfl | hp
 · simpa using hn
 · exact (Nat.log2_lt (Nat.ne_of_gt hp)).mpr h
theorem op_fdivB:OpR X (binaryOp .FloorDiv) (rI CDivB fun i j=>.int (i.fdiv j)):=opI fun _ _ _ _ _ _ _ hc q=>floordiv_int hc.1 q (.inl (PyProof.noPylong_of_log2 (Nat.lt_trans (log_lt hc.2 (by decide)) (by decide))))
def CMulB (i j:Int):Prop:=i.natAbs < 2 ^ 1000000∧j.natAbs < 2 ^ 1000000
theorem bits_le {i:Int} {n:Nat} (h:i.natAbs < 2 ^ n) (hn:0 < n):Builtin.Int.intBits i≤n:=by
 unfold Builtin.Int.intBits
 split
 · exact Nat.zero_le _
 · exact log_lt h hn
theorem CMulB.ok {i j:Int} (h:CMulB i j):IntMulOk i j:=by
 unfold IntMulOk
 have h1:=bits_le h.1 (by decide)
 have h2:=bits_le h.2 (by decide)
 have:Builtin.Int.intTooBig (Builtin.Int.intBits i+Builtin.Int.intBits j:Nat)=false:=by
  unfold Builtin.Int.intTooBig bitsLine
  refine decide_eq_false ?_
  omega
 intro z
 rw [Bool.and_eq_true] at z
 rw [show ((Builtin.Int.intBits i:Int)+(Builtin.Int.intBits j:Int))=((Builtin.Int.intBits i+Builtin.Int.intBits j:Nat):Int) by omega,this] at z
 exact absurd z.2 (by decide)
theorem op_mulB:OpR X (binaryOp .Mult) (rI CMulB fun i j=>.int (i * j)):=opI fun _ _ _ _ _ _ _ hc q=>mul_int q hc.ok
theorem call_isi:CallR X (.builtin "isinstance") (fun xs H Q=>∃ x T t b,xs=[x,.ty T]∧TyOf X.K H x t∧PySem.W.kitOne X.K t (.type T)=some b∧Q (.bl b) H):=by
 intro pins s σ H xs us Q I r h
 obtain ⟨x,T,t,b,rfl,ty,e,q⟩:=h
 cases r with
 | cons rx r =>
   cases r with
   | cons ry r =>
     cases r
     cases (show _=Value.type T from ry)
     exact isinst_ok I rx ty e fun tk=>⟨.bl b,H,I.tok _,rfl,q⟩
theorem vals_bools:∀ {bs:List Bool} {us:List Value} {i:Nat} {v:Value},Vals (bs.map V.bl) us→us[i]? = some v→∃ b,bs[i]? = some b∧v=Value.bool b
 | [],_,i,v,.nil,e=>by simp at e
 | b :: bs,u :: us,0,v,.cons r t,e=>by
   simp at e; subst e
   exact ⟨b,rfl,r⟩
 | b :: bs,u :: us,i+1,v,.cons r t,e=>by
   obtain ⟨c,h1,h2⟩:=vals_bools t (by simpa using e)
   exact ⟨c,by simpa using h1,h2⟩
theorem range_allB:∀ (bs:List Bool),((List.range bs.length).all fun i=>(bs[i]?).getD true)=bs.all id
 | []=>rfl
 | b :: bs=>by
   rw [List.length_cons,List.range_succ_eq_map,List.all_cons,List.all_map,List.all_cons,← range_allB bs]
   rfl
theorem kept_it {s:Shared} {h':Heap} {o:Obj} (hk:∀ b x,b∉[s.heap.objs.size]→(s.heap.push o).get? b=some x→h'.get? b=some x):∀ b x,s.heap.get? b=some x→h'.get? b=some x :=
 fun b x e=>hk b x (fun hm=>by rw [List.mem_singleton.mp hm] at e; exact Nat.lt_irrefl _ (Heap.lt_size e)) (Heap.get?_push_of_some _ e)
theorem call_allB (hc:X.calm=true):CallR X (.builtin "all") (fun xs H Q=>∃ (p:Addr) (bs:List Bool),xs=[.ref p]∧SqL X.K H p (bs.map V.bl)∧Q (.bl (bs.all id)) H):=by
 intro pins s σ H xs us Q I r h
 obtain ⟨p,bs,rfl,hq,q⟩:=h
 cases r with
 | cons rx r =>
   cases r
   cases (show _=Value.ref p from rx)
   obtain ⟨its,rv,pl,hz⟩:=I.list hq
   have hl:=pl.isList
   have hlt:p < s.heap.objs.size:=by obtain ⟨_,e,_⟩:=hl; exact Heap.lt_size e
   have hh:X.A.handled=none:=I.ok.hd hc
   refine call_all_walk (wpAny_pyIter_list hl ?_)
   refine ⟨s.heap.objs.size,[s.heap.objs.size,p],[s.heap.objs.size],its.toArray.size,_,_,fun i=>(bs[i]?).getD true,rfl,Walks.list (A:=X.A.in1) hh _ p (Nat.ne_of_lt hlt) its.toArray,
    ⟨⟨_,Heap.get?_push_size _ rfl,rfl,rfl⟩,hl.push _⟩,fun i v s' Q' E' hP hQ=>?_,fun h' tk hk=>?_⟩
   · obtain ⟨b,e,rfl⟩:=vals_bools rv (show its[i]? = some v by simpa using hP)
     simp only [e,Option.getD_some] at hQ
     exact wpAny_truthy_bool hQ
   · have e:((List.range its.toArray.size).all fun i=>(bs[i]?).getD true)=bs.all id:=by
      rw [List.size_toArray,← rv.length,List.length_map]; exact range_allB bs
     rw [e]
     exact ⟨.bl _,H,I.kept (kept_it hk),rfl,q⟩
end
structure Cal (P:Program) (w:World) (K:PySem.W.Frag) (mg:Str→Option Value) (base:Heap) (x:Str) (k:Nat) (ps:List Str) (sp:Sp):Prop where
 ex:∃ (f:Addr) (fd:FuncData),FnOk P w K mg base CX0 k f fd ps sp∧mg x=some (.ref f)∧PySem.W.keepIn K (.ref f)=true∧Binds K fd ps []
theorem pe_cal {X:Cx} {x:Str} {k j:Nat} {ps:List Str} {sp:Sp} {p pos:Pos} {e:Expr} {es:List Expr} {t:TA} (C:Cal X.prog X.w X.K X.mg X.base x k ps sp) (hr:Room j X.A) (hj:k≤j) (hg:Gl X x) (ha:PA X (e :: es) t)
 (hdb:(x == ("__debug__" : Str))=false:=by decide) (he:starEach (e :: es) X.env=(false,eval e X.env) :: starEach es X.env:=by rfl) (hpl:(backTo pos (starEach es X.env)).any (·.1)=false:=by rfl) :
 PE X (.Call (.Name x p) (e :: es) [] pos) (fun σ H Q=>t σ H fun vs H1=>sp vs H1 Q E0):=by
 obtain ⟨f,fd,F,hm,hk,hb⟩:=C.ex
 have h:=pe_call (dvs:=[]) (E:=E0) (p:=p) F (hr.mono hj) hg hm hk hb .nil pass0 ha hdb he hpl
 intro pins s σ H Q I hw
 refine h pins s σ H Q I ?_
 unfold tCall
 simpa only [List.append_nil] using hw
end L2
namespace L2
open PySem PySem.Spec PyProof.Rows
section
variable {P:Program} {w:World} {K:PySem.W.Frag} {mg:Str→Option Value} {base:Heap}
end
def Keep (l:Addr) (H H':Hp):Prop:=∀ b o,b≠l→H b=some o→H' b=some o
theorem Keep.refl (l:Addr) (H:Hp):Keep l H H:=fun _ _ _ h=>h
theorem Keep.trans {l:Addr} {H H1 H2:Hp} (a:Keep l H H1) (b:Keep l H1 H2):Keep l H H2:=fun c o n h=>b c o n (a c o n h)
theorem Keep.new {l p:Addr} {H:Hp} {o:HO} (h:H p=none):Keep l H (upd H p o):=fun b u _ e=>by rw [upd_ne (ne_of_none e h)]; exact e
theorem Keep.upd {l:Addr} {H:Hp} {o:HO}:Keep l H (upd H l o):=fun b u n e=>by rw [upd_ne n]; exact e
theorem Same.new {p:Addr} {H:Hp} {o:HO} (h:H p=none):Same H (upd H p o):=fun b u e=>by rw [upd_ne (ne_of_none e h)]; exact e
theorem Same.keep {l:Addr} {H H':Hp} (s:Same H H'):Keep l H H':=fun b o _ e=>s b o e
def tPar3 (i j k:Nat) (ta:TA):TS:=fun D σ H=>ta σ H fun vs H1=>∃ v w x,vs=[v,w,x]∧D.nx (((σ.set i (some v)).set j (some w)).set k (some x)) H1
theorem ps_par3 {X:Cx} {pos:Pos} {i j k:Nat} {x y z:Str} {a b c:Expr} {ta:TA} {px py pz pt:Pos} {kt k2 pt2} (hc:X.calm=true) (hN:X.N.Nodup) (hi:X.N[i]? = some x) (hj:X.N[j]? = some y) (hk:X.N[k]? = some z) (hij:i≠j) (hik:i≠k) (hjk:j≠k)
 (hx:X.env.scope.names.lookup x=some .local) (hy:X.env.scope.names.lookup y=some .local) (hz:X.env.scope.names.lookup z=some .local) (ha:PA X [a,b,c] ta)
 (hw:swappedStores [.Tuple [.Name x px,.Name y py,.Name z pz] kt pt] (.Tuple [a,b,c] k2 pt2) X.env=pure (some [x,y,z]))
 (hs:swapsWithSole [.Tuple [.Name x px,.Name y py,.Name z pz] kt pt] (.Tuple [a,b,c] k2 pt2) pos.line X.env=pure false:=by rfl) :
 PS X (.Assign [.Tuple [.Name x px,.Name y py,.Name z pz] kt pt] (.Tuple [a,b,c] k2 pt2) pos) (tPar3 i j k ta):=by
 intro pins s σ H D I h
 rw [exec_Assign_arm]
 refine wpAny_bind (wpAny_standAt ?_)
 rw [hs]
 refine wpAny_bind (wpAny_pure ?_)
 rw [if_neg (by decide)]
 refine wpAny_bind (Tuple_ (thn (ha _ pins s σ H _ I h) fun us s1 ⟨vs,H1,I1,r1,q1⟩=>?_))
 obtain ⟨v,w,x',e1,q1⟩:=q1
 subst e1
 obtain ⟨u1,u2,u3,rfl,rv,rw',rx⟩:∃ u1 u2 u3,us=[u1,u2,u3]∧RelV v u1∧RelV w u2∧RelV x' u3:=by
  cases r1 with
  | cons p q =>
    cases q with
    | cons p' q' =>
      cases q' with
      | cons p'' q'' =>
        cases q''
        exact ⟨_,_,_,rfl,p,p',p''⟩
 refine wpAny_newObj_type ?_ (by show 3≤sizeLine; decide)
 have I2:Inv X pins σ H1 { s1 with heap:=s1.heap.push { cls:=.type "tuple",data:=.seq [u1,u2,u3].toArray } }:=I1.kept (t':=s1.toks) fun b o e=>Heap.get?_push_of_some _ e
 rw [hw]
 refine wpAny_bind (wpAny_pure ?_)
 show wpAny (model X.prog X.w) X.A (do rule "assign.swapped-stores"; let items ← unpackItems (.ref s1.heap.objs.size) 3 none; assignInOrder [fun v=>bindName X.env z v,fun v=>bindName X.env y v,fun v=>bindName X.env x v] items.reverse; pure Flow.next) _ _ _
 refine wpAny_bind (wpAny_rule (wpAny_bind (unpackItems_tuple (items:=#[u1,u2,u3]) (I.ok.hd hc) (IsTup.new s1.heap _) fun h' hx'=>?_)))
 have I3:=I2.kept (h':=h') (t':=s1.toks) fun b o e=>hx' b o (Nat.ne_of_lt (Heap.lt_size e)) e
 show wpAny _ _ (assignInOrder [fun v=>bindName X.env z v,fun v=>bindName X.env y v,fun v=>bindName X.env x v] [u3,u2,u1] >>= fun _=>pure Flow.next) _ _ _
 refine wpAny_bind (assignInOrder_cons (wpAny_bindName (store_ok I3 hN hk (.inl hz) rx (fun s2 I4=>?_) (.inr hz))))
 refine assignInOrder_cons (wpAny_bindName (store_ok I4 hN hj (.inl hy) rw' (fun s3 I5=>?_) (.inr hy)))
 refine assignInOrder_cons (wpAny_bindName (store_ok I5 hN hi (.inl hx) rv (fun s4 I6=>assignInOrder_nil (wpAny_pure ?_)) (.inr hx)))
 have e:(((σ.set k (some x')).set j (some w)).set i (some v))=(((σ.set i (some v)).set j (some w)).set k (some x')):=by
  rw [List.set_comm _ _ (Ne.symm hij),List.set_comm _ _ (Ne.symm hik),List.set_comm _ _ (Ne.symm hjk)]
 rw [e] at I6
 exact ⟨_,H1,I6,q1⟩
end L2
namespace L2
open PySem PySem.Spec PyProof.Rows
theorem sum_shown:∀ (xs:List PyData),(PyData.shownAll xs).length=xs.length
 | []=>rfl
 | _ :: xs=>by simp only [PyData.shownAll,List.length_cons,sum_shown xs]
section
variable {X:Cx}
end
end L2
namespace L2
open PySem PySem.Spec PyProof.Rows
end L2
namespace L2
open PySem PySem.Spec PyProof.Rows
def lcCells (cells:List (Str×Addr)) (names:List (Str×NameKind)):List (Str×Addr):=((names.filter (fun y=>y.2 == .free)).map fun y=>(y.1,(cells.lookup y.1).getD 0)).reverse
theorem closure_loop {env:Env}:∀ (names:List (Str×NameKind)) (acc:List (Str×Addr)),(∀ y∈names,y.2=.free→∃ c,env.cells.lookup y.1=some c) →
 (forIn names acc (fun (x:Str×NameKind) (r:List (Str×Addr))=>do
   if x.2 == .free then do
    let a ← cellOf env x.1
    pure (ForInStep.yield ((x.1,a) :: r))
   else pure (ForInStep.yield r)):Sem (List (Str×Addr)))=pure (lcCells env.cells names++acc)
 | [],acc,_=>rfl
 | (n,k) :: rest,acc,h=>by
   have ih:=fun acc=>closure_loop rest acc fun y hy=>h y (List.mem_cons_of_mem _ hy)
   rw [List.forIn_cons]
   by_cases hk:k=.free
   · subst hk
     obtain ⟨c,hc⟩:=h (n,.free) List.mem_cons_self rfl
     have e:cellOf env n=pure c:=by unfold cellOf; rw [hc]
     have e2:lcCells env.cells ((n,.free) :: rest)=lcCells env.cells rest++[(n,c)]:=by
      unfold lcCells
      rw [List.filter_cons_of_pos (by rfl),List.map_cons,List.reverse_cons,hc]
      rfl
     simp only [beq_self_eq_true,if_true,e,pure_bind]
     rw [ih,e2,List.append_assoc]
     rfl
   · have b:(k == NameKind.free)=false:=by simpa using hk
     have e2:lcCells env.cells ((n,k) :: rest)=lcCells env.cells rest:=by
      unfold lcCells
      rw [List.filter_cons_of_neg (by simpa using hk)]
     simp only [b,Bool.false_eq_true,if_false,pure_bind]
     rw [ih,e2]
theorem closureFor_cells {scope:Scope} {env:Env} (h:∀ y∈scope.names,y.2=.free→∃ c,env.cells.lookup y.1=some c):closureFor scope env=pure (lcCells env.cells scope.names):=by
 have e:=closure_loop scope.names [] h
 rw [List.append_nil] at e
 unfold closureFor
 first
  | (rw [← e]; rfl)
  | (simp only [bind_pure]; exact e)
  | simpa using e
end L2
namespace L2
open PySem PySem.Spec PyProof.Rows
mutual
inductive Dt (N:Addr→Prop) (H:Hp) (k:Nat):V→PyData→Prop
 | non:Dt N H k .non .none
 | bl (b:Bool):Dt N H k (.bl b) (.bool b)
 | int {i:Int}:i.natAbs < 2 ^ k→Dt N H k (.int i) (.int i)
 | str (x:Str):Dt N H k (.str x) (.str x)
 | tup {a:Addr} {xs:List V} {ds:List PyData}:H a=some (.tup xs)→Dts N H k xs ds→Dt N H k (.ref a) (.tuple ds)
 | lst {a:Addr} {xs:List V} {ds:List PyData}:H a=some (.lst xs)→¬ N a→a≠sysModules→Dts N H k xs ds→Dt N H k (.ref a) (.list ds)
 | dic {a:Addr}:H a=some (.dK [])→Dt N H k (.ref a) (.dict [])
inductive Dts (N:Addr→Prop) (H:Hp) (k:Nat):List V→List PyData→Prop
 | nil:Dts N H k [] []
 | cons {x:V} {xs:List V} {d:PyData} {ds:List PyData}:Dt N H k x d→Dts N H k xs ds→Dts N H k (x :: xs) (d :: ds)
end
variable {N:Addr→Prop} {k:Nat}
mutual
theorem Dt.reads {X:Cx} {pins:List (Addr×Obj)} {σ:St} {H:Hp} {s:Shared} (I:Inv X pins σ H s):∀ {v:V} {d:PyData} {u:Value},Dt N H k v d→RelV v u→∃ as,Reads s.heap u d as∧sysModules∉as
 | _,_,_,.non,r=>by cases r; exact ⟨_,.none,by simp⟩
 | _,_,_,.bl b,r=>by cases r; exact ⟨_,.bool b,by simp⟩
 | _,_,_,.int (i:=i) _,r=>by obtain ⟨t,rfl⟩:=r; exact ⟨_,.int i t,by simp⟩
 | _,_,_,.str x,r=>by obtain ⟨t,rfl⟩:=r; exact ⟨_,.str x t,by simp⟩
 | _,_,_,.tup (a:=a) (xs:=xs) h rs,r=>by
   cases r
   obtain ⟨_,its,rv,o,e,hc,n,hd⟩:=(show ObjOk X.prog X.w H s.heap a (.tup xs) from I.hok a _ h)
   obtain ⟨as,ra,na⟩:=Dts.reads I rs rv
   exact ⟨_,.tuple e hc hd (by simpa using ra),na⟩
 | _,_,_,.lst (a:=a) (xs:=xs) h _ ns rs,r=>by
   cases r
   obtain ⟨_,its,n,rv,e⟩:=(show ObjOk X.prog X.w H s.heap a (.lst xs) from I.hok a _ h)
   obtain ⟨as,ra,na⟩:=Dts.reads I rs rv
   exact ⟨_,.list e rfl rfl (by simpa using ra),by
    intro hm
    rcases List.mem_cons.mp hm with e | e
    · exact ns e.symm
    · exact na e⟩
 | _,_,_,.dic (a:=a) h,r=>by
   cases r
   obtain ⟨_,hS,vs,rel,o,es,ep,e,ex,hd,_,he,_⟩:=(show ObjOk X.prog X.w H s.heap a (.dK []) from I.hok a _ h)
   cases rel
   have hes:es.toList=[]:=by
    generalize es.toList=z at he
    cases he
    rfl
   refine ⟨_,.dict (kvs:=[]) (as:=[]) (bs:=[]) e ex.1 hd (by rw [hes]; exact .nil) (by rw [hes]; exact .nil),?_⟩
   intro hm
   have:sysModules=a:=by simpa using hm
   rw [this] at hS
   simp at hS
theorem Dts.reads {X:Cx} {pins:List (Addr×Obj)} {σ:St} {H:Hp} {s:Shared} (I:Inv X pins σ H s):∀ {vs:List V} {ds:List PyData} {us:List Value},Dts N H k vs ds→Vals vs us→∃ as,ReadsAll s.heap us ds as∧sysModules∉as
 | _,_,_,.nil,.nil=>⟨_,.nil,by simp⟩
 | _,_,_,.cons r rs,.cons q qs=>by
   obtain ⟨as,ra,na⟩:=Dt.reads I r q
   obtain ⟨bs,rb,nb⟩:=Dts.reads I rs qs
   exact ⟨_,.cons ra rb,by
    intro hm
    rcases List.mem_append.mp hm with e | e
    · exact na e
    · exact nb e⟩
end
mutual
def nz:PyData→Nat
 | .none=>1
 | .bool _=>1
 | .int _=>1
 | .str x=>(reprText x).length
 | .list xs=>1+nzAll xs
 | .tuple xs=>1+nzAll xs
 | .dict _=>1
def nzAll:List PyData→Nat
 | []=>0
 | x :: xs=>nz x+1+nzAll xs
end
theorem log2_small {i:Int} {n:Nat} (h:i.natAbs < 2 ^ n) (hn:n < 1920):i.natAbs.log2 < 1920:=by
 rcases Nat.eq_zero_or_pos n with rfl | hp
 · have:i.natAbs=0:=by simpa using h
   rw [this]; decide
 · by_cases h0:i.natAbs=0
   · rw [h0]; decide
   · exact Nat.lt_trans ((Nat.log2_lt h0).mpr h) hn
mutual
theorem Dt.showable {H:Hp} (hk:k < 1920):∀ {v:V} {d:PyData},Dt N H k v d→d.showable=true
 | _,_,.non=>rfl
 | _,_,.bl b=>rfl
 | _,_,.int h=>decide_eq_true (log2_small h hk)
 | _,_,.str x=>rfl
 | _,_,.tup h r=>Dts.showable hk r
 | _,_,.lst h n m r=>Dts.showable hk r
 | _,_,.dic h=>rfl
theorem Dts.showable {H:Hp} (hk:k < 1920):∀ {vs:List V} {ds:List PyData},Dts N H k vs ds→PyData.showableAll ds=true
 | _,_,.nil=>rfl
 | _,_,.cons r rs=>by
   show (_ && _)=true
   rw [Dt.showable hk r,Dts.showable hk rs]; rfl
end
mutual
theorem Dt.shownLen {H:Hp} (hk:k < 1920):∀ {v:V} {d:PyData},Dt N H k v d→d.shown.length≤2000 * nz d
 | _,_,.non=>by decide +kernel
 | _,_,.bl true=>by decide +kernel
 | _,_,.bl false=>by decide +kernel
 | _,_,.int (i:=i) h=>by
   have:=int_text_length_le (by decide) (log2_small h hk)
   show (Str.ofString (toString i)).length≤2000 * 1
   rw [PySem.ofString_length]
   omega
 | _,_,.str x=>by
   show (reprText x).length≤2000 * (reprText x).length
   omega
 | _,_,.tup (ds:=ds) h r=>by
   have:=Dts.shownLen hk r
   have z:=tupleText_len_le (PyData.shownAll ds)
   rw [sum_shown] at z
   show (tupleText (PyData.shownAll ds)).length≤2000 * (1+nzAll ds)
   omega
 | _,_,.lst (ds:=ds) h n m r=>by
   have:=Dts.shownLen hk r
   have z:=listText_len_le (PyData.shownAll ds)
   rw [sum_shown] at z
   show (listText (PyData.shownAll ds)).length≤2000 * (1+nzAll ds)
   omega
 | _,_,.dic h=>by decide +kernel
theorem Dts.shownLen {H:Hp} (hk:k < 1920):∀ {vs:List V} {ds:List PyData},Dts N H k vs ds→((PyData.shownAll ds).map (·.length)).sum+2 * ds.length≤2000 * nzAll ds
 | _,_,.nil=>by simp [PyData.shownAll,nzAll]
 | _,_,.cons r rs=>by
   have a:=Dt.shownLen hk r
   have b:=Dts.shownLen hk rs
   simp only [PyData.shownAll,nzAll,List.map_cons,List.sum_cons,List.length_cons]
   omega
end
section
variable {X:Cx}
theorem call_reprD {j:Nat} (hr:Room j X.A):CallR X (.builtin "repr") (fun xs H Q=>∃ N k v d,xs=[v]∧Dt N H k v d∧k < 1920∧d.depth≤20∧nz d≤8000∧Q (.str d.shown) H):=by
 intro pins s σ H xs us Q I r h
 obtain ⟨N,k,v,d,rfl,rd,hk,h3,h4,q⟩:=h
 have h1:=rd.showable hk
 have hz:d.shown.length≤sizeLine:=by
  have:=rd.shownLen hk
  have e:sizeLine=16777216:=sizeLine_eq
  omega
 cases r with
 | cons rx r =>
   cases r
   have hu:=hr.un
   have R:=Dt.reads I rd rx
   have go:∀ a,RelV v (Value.ref a)→wpAny (model X.prog X.w) X.A (call (.builtin "repr") [Value.ref a]) (EP X pins σ Q) X.xe s:=fun a rx=>by
    obtain ⟨as,ra,na⟩:=Dt.reads I rd rx
    exact repr_of_reads' ra h1 (fun _=>na) hr.gd (by omega) (fun _ _ e=>e) (fun h' u tk hk=>⟨.str _,H,I.kept hk,⟨_,rfl⟩,q⟩) hz
   cases rd with
   | non=>cases (show _=Value.none from rx); exact PySem.P.repr_of_none ⟨.str _,H,I.tok _,⟨_,rfl⟩,q⟩
   | bl b=>cases (show _=Value.bool b from rx); exact PySem.P.repr_of_bool ⟨.str _,H,I.tok _,⟨_,rfl⟩,q⟩
   | int hi=>obtain ⟨t,rfl⟩:=(show ∃ t,_=Value.int _ t from rx); exact PySem.P.repr_of_int (log2_small hi hk) ⟨.str _,H,I.tok _,⟨_,rfl⟩,q⟩
   | str x=>obtain ⟨t,rfl⟩:=(show ∃ t,_=Value.str x t from rx); exact PySem.P.repr_of_str ⟨.str _,H,I.tok _,⟨_,rfl⟩,q⟩ hz
   | tup h rs=>cases (show _=Value.ref _ from rx); exact go _ rx
   | lst h n m rs=>cases (show _=Value.ref _ from rx); exact go _ rx
   | dic h=>cases (show _=Value.ref _ from rx); exact go _ rx
end
end L2
namespace HT
open PySem PyProof.Rows
section
variable {prog:Program} {w:World} {A:Around} {E:Value→Shared→Prop} {s:Shared}
theorem getItem_tuple_whole {t sl:Addr} {items:Array Value} {vl vu:Value} {lo hi:Option Int} {Q:Value→Shared→Prop} (ht:IsTup s.heap t items) (hs:s.heap.IsSliceOf sl vl vu .none) (pl:IsPart vl lo) (pu:IsPart vu hi)
 (hw:sIx items.size 0 lo=0∧sIx items.size items.size hi=items.size)
 (h:Q (.ref t) s):wpAny (model prog w) A (getItem (.ref t) (.ref sl)) Q E s:=by
 obtain ⟨os,hos,hcs,hds⟩:=id hs
 have hTs:s.TypeIs (.ref sl) "slice" := ⟨os,hos,hcs⟩
 unfold getItem
 try with_reducible refine wpAny_holding ?_
 first | refine wpAny_bind (wpAny_pure ?_) | skip
 refine wpAny_bind (wpAny_sequenceKey ht.typeIs (by decide) ?_)
 refine wpAny_bind (wpAny_callSpecial?_slot (name:=Str.ofString "__getitem__") ht.typeIs PyProof.Rows.slot_tuple_getitem
  (wpAny_call_entry PyProof.Rows.slot_tuple_getitem ht.typeIs entry_tuple_getitem ?_ (args_tuple_getitem _ _)))
 show wpAny _ _ (Builtin.Tuple.tupleItemsOf (.ref t) >>= _) _ _ s
 refine wpAny_bind (tupleItemsOf_ ht ?_)
 refine wpAny_bind (wpAny_typeOf hTs ?_)
 rw [if_pos (by decide)]
 refine wpAny_bind (sliceApplied_gen hs pl pu ?_)
 rw [hw.1,hw.2]
 have hyes:(((0:Nat):Int) == 0 && (1:Int) == 1 && (items.size - 0) == items.size)=true:=by simp
 show wpAny _ _ (if (((0:Nat):Int) == 0 && (1:Int) == 1 && (items.size - 0) == items.size)=true then _ else _) _ _ s
 rw [if_pos hyes]
 have hx:(Builtin.Tuple.tupleIsExact (.ref t))=(do pure ((← typeOf (.ref t)) == .type "tuple")):=by first | rfl | (unfold Builtin.Tuple.tupleIsExact; rfl)
 rw [hx]
 refine wpAny_bind (wpAny_bind (wpAny_typeOf ht.typeIs (wpAny_pure ?_)))
 rw [if_pos (by decide)]
 exact wpAny_bind (wpAny_rule (wpAny_pure ⟨_,rfl,wpAny_pure h⟩))
end
end HT
namespace L2
open PySem PySem.Spec PyProof.Rows
section
variable {X:Cx} {e:Expr} {es:List Expr} {te:TE} {t:TA} {pos p2:Pos}
def rCatU:R2:=fun x y H Q=>∃ a b xs ys,x=.ref a∧y=.ref b∧H a=some (.tup xs)∧H b=some (.tup ys)∧xs.length+ys.length≤sizeLine∧∀ p H',Same H H'→H' p=some (.tup (xs++ys))→Q (.ref p) H'
theorem op_catU:OpR X (binaryOp .Add) rCatU:=by
 intro pins s σ H x y v u Q I rx ry h
 obtain ⟨a,b,xs,ys,rfl,rfl,ha,hb,hz,q⟩:=h
 cases rx
 cases ry
 obtain ⟨its,r1,p1,_⟩:=I.tuple (SqT.of ha)
 obtain ⟨its2,r2,p2,_⟩:=I.tuple (SqT.of hb)
 by_cases hx:xs=[]
 · subst hx
   have e:its=[]:=r1.nil_iff.mpr rfl
   subst e
   obtain ⟨⟨cls,dd,data,sl⟩,ho,hc,n,hd⟩:=id p1
   obtain ⟨⟨cls2,dd2,data2,sl2⟩,ho2,hc2,n2,hd2⟩:=id p2
   simp only at hc hd hc2 hd2
   subst hc hd hc2 hd2
   exact concat_meets ⟨_,ho,rfl⟩ ⟨_,ho2,rfl⟩ noFill_tuple_add seq_tuple_add PySem.F.slot_tuple_add PySem.F.entry_tuple_add (PySem.F.args_tuple_add_2 _ _)
    (tuple_addW0 a b _ its2.toArray n n2 dd dd2 sl sl2 (by simp)) ⟨ho,ho2,⟨.ref b,H,I,rfl,q b H (Same.refl H) hb⟩⟩
 · refine op_catT pins s σ H (.ref a) (.ref b) _ _ Q I rfl rfl ⟨a,b,xs,ys,rfl,rfl,SqT.of ha,SqT.of hb,hx,hz,?_,?_⟩
   · rintro rfl
     exact q a H (Same.refl H) (by rw [List.append_nil]; exact ha)
   · intro _ p hp
     exact q p _ (Same.new hp) upd_same
def rSlU:V→Option Int→Option Int→Hp→VK→Prop:=fun x lo hi H Q=>∃ a xs,x=.ref a∧H a=some (.tup xs)∧∀ p H',Same H H'→H' p=some (.tup (cutV xs lo hi))→Q (.ref p) H'
theorem sl_tupU:SlR X rSlU:=by
 intro pins s σ H x v vl vu lo hi sl Q I rx hs pl pu h
 obtain ⟨a,xs,rfl,hx,q⟩:=h
 by_cases hw:HT.sIx xs.length 0 lo=0∧HT.sIx xs.length xs.length hi=xs.length
 · cases rx
   obtain ⟨its,r,ht,hz⟩:=I.tuple (SqT.of hx)
   have hlen:its.toArray.size=xs.length:=by rw [List.size_toArray]; exact r.length.symm
   refine ⟨"tuple",_,PyProof.Rows.slot_tuple_getitem.lookup,ht.typeIs,?_⟩
   refine HT.getItem_tuple_whole ht hs pl pu (by rw [hlen]; exact hw) ⟨.ref a,H,I,rfl,q a H (Same.refl H) ?_⟩
   unfold cutV
   rw [hw.1,hw.2,List.drop_zero,Nat.sub_zero,List.take_length]
   exact hx
 · exact sl_tup pins s σ H _ _ vl vu lo hi sl Q I rx hs pl pu ⟨a,xs,rfl,SqT.of hx,hw,fun p hp=>q p _ (Same.new hp) upd_same⟩
theorem pe_never:PE X e (fun _ _ _=>False):=fun _ _ _ _ _ _ h=>h.elim
end
end L2
namespace L2
open PySem PySem.Spec PyProof.Rows
section
variable {K:PySem.W.Frag} {N:Addr→Prop} {k:Nat} {H:Hp} {v:V} {d:PyData}
variable {n m:Nat}
theorem cut_take (xs:List V) (r:Nat):cutV xs none (some (r:Int))=xs.take r:=by
 unfold cutV
 rw [HT.sIx_none,HT.sIx_nat,List.drop_zero,Nat.sub_zero]
 by_cases h:r≤xs.length
 · rw [Nat.min_eq_left h]
 · rw [Nat.min_eq_right (by omega),List.take_length,List.take_of_length_le (by omega)]
end
end L2
namespace L2
open PySem PySem.Spec PyProof.Rows
section
variable {N:Addr→Prop} {k n m:Nat} {H:Hp} {p:Addr}
end
end L2
namespace L2
open PySem PySem.Spec PyProof.Rows
section
variable {X:Cx}
theorem pe_gint {x:Str} {i:Int} {pos:Pos} (h:∃ t,X.mg x=some (.int i t)) (hg:Gl X x) (hd:(x == ("__debug__" : Str))=false:=by decide):PE X (.Name x pos) (tC (.int i)):=by
 obtain ⟨t,h⟩:=h
 exact pe_glob hg h ⟨t,rfl⟩ hd
end
end L2
namespace L2
open PySem PySem.Spec PyProof.Rows
section
variable {X:Cx} {pins:List (Addr×Obj)} {σ:List (Option V)} {H:Hp} {s:Shared} {h':Heap}
theorem Inv.turnNew {t':Nat} {ch:List Addr} {a:Addr} {o:HO} (I:Inv X pins σ H s) (k:∀ b u,b∉ch→s.heap.get? b=some u→h'.get? b=some u) (hf:∀ b∈ch,FpOk X pins H b)
 (ha:s.heap.objs.size≤a) (new:ObjOk X.prog X.w (upd H a o) h' a o):Inv X pins σ (upd H a o) { s with heap:=h',toks:=t' }:=by
 have fa:H a=none:=I.hok.fresh ha
 have na:∀ b u,H b=some u→b≠a:=fun b u e=>ne_of_none e fa
 have nc:∀ b u,H b=some u→b∉ch:=fun b u e z=>by rw [(hf b z).1] at e; cases e
 have la:∀ b u,s.heap.get? b=some u→b≠a:=fun b u e=>Nat.ne_of_lt (Nat.lt_of_lt_of_le (Heap.lt_size e) ha)
 refine I.step (g':=s.gens) (d':=s.drawn) (ch:=ch) (fun b hb=>?_) (fun b u _ _ hc e _=>k b u hc e) (fun b u _ _ hc e _=>⟨u.slots,k b u hc e⟩) (fun b u _ e n=>by rw [upd_ne (la b u e)]; exact n)
  (fun b u hc e=>⟨u,k b u hc e⟩) (fun b xs e=>by rw [upd_ne (na b _ e)]; exact e) (fun b u v e=>by rw [upd_ne (na b _ e)]; exact e) (fun b ps e=>⟨#[],by rw [upd_ne (na b _ e),e]; simp⟩) (fun m hm=>?_) (fun b u e=>?_) I.bare
 · obtain ⟨f0,f1,f2,f3,f4,f5⟩:=hf b hb
   exact ⟨f3,f1,f4,f5⟩
 · obtain ⟨u,es,ep,hu,r⟩:=hm
   exact ⟨u,es,ep,k _ u (fun z=>(hf _ z).2.1 rfl) hu,r⟩
 · by_cases hb:b=a
   · subst hb; rw [upd_same] at e; cases e; exact new
   · rw [upd_ne hb] at e
     refine (I.hok b u e).stay (fun c v hc q=>k c v ?_ q) (fun c q=>by rw [upd_ne (na c _ q)]; exact q) fun c xs q=>by rw [upd_ne (na c _ q)]; exact q
     rcases hc with z | z
     · rw [z]; exact nc b u e
     · exact nc c _ z
theorem Inv.turnOnly {t':Nat} {ch:List Addr} (I:Inv X pins σ H s) (k:∀ b u,b∉ch→s.heap.get? b=some u→h'.get? b=some u) (hf:∀ b∈ch,FpOk X pins H b):Inv X pins σ H { s with heap:=h',toks:=t' }:=by
 have nc:∀ b u,H b=some u→b∉ch:=fun b u e z=>by rw [(hf b z).1] at e; cases e
 refine I.step (g':=s.gens) (d':=s.drawn) (ch:=ch) (fun b hb=>?_) (fun b u _ _ hc e _=>k b u hc e) (fun b u _ _ hc e _=>⟨u.slots,k b u hc e⟩) (fun _ _ _ _ n=>n)
  (fun b u hc e=>⟨u,k b u hc e⟩) (fun _ _ e=>e) (fun _ _ _ e=>e) (fun b ps e=>⟨#[],by rw [e]; simp⟩) (fun m hm=>?_) (fun b u e=>?_) I.bare
 · obtain ⟨f0,f1,f2,f3,f4,f5⟩:=hf b hb
   exact ⟨f3,f1,f4,f5⟩
 · obtain ⟨u,es,ep,hu,r⟩:=hm
   exact ⟨u,es,ep,k _ u (fun z=>(hf _ z).2.1 rfl) hu,r⟩
 · refine (I.hok b u e).stay (fun c v hc q=>k c v ?_ q) (fun _ q=>q) fun _ _ q=>q
   rcases hc with z | z
   · rw [z]; exact nc b u e
   · exact nc c _ z
end
inductive SK where
 | l
 | t
def SK.Sq (K:PySem.W.Frag) (H:Hp) (a:Addr) (xs:List V):SK→Prop
 | .l=>SqL K H a xs
 | .t=>SqT K H a xs
def SK.Is (h:Heap) (a:Addr) (vs:Array Value):SK→Prop
 | .l=>h.IsList a vs
 | .t=>h.IsTuple a vs
def SK.It (h:Heap) (it a:Addr) (i:Nat):SK→Prop
 | .l=>h.IsListIter it a i
 | .t=>h.IsTupleIter it a i
def SK.name:SK→String
 | .l => "list_iterator"
 | .t => "tuple_iterator"
abbrev SK.obj (k:SK) (a:Addr):Obj:={ cls:=.type k.name,data:=.fields #[.ref a,.int 0 0] }
theorem SK.It.ex {k:SK} {h:Heap} {it a:Addr} {i:Nat} (x:k.It h it a i):∃ o,h.get? it=some o∧o.cls=.type k.name∧o.data=.fields #[.ref a,.int i 0]:=by
 cases k <;> exact x
theorem SK.It.of {k:SK} {h:Heap} {it a:Addr} {i:Nat} (x:∃ o,h.get? it=some o∧o.cls=.type k.name∧o.data=.fields #[.ref a,.int i 0]):k.It h it a i:=by
 cases k <;> exact x
theorem SK.It.at {k:SK} {h h':Heap} {it a:Addr} {i:Nat} (x:k.It h it a i) (f:∀ o,h.get? it=some o→h'.get? it=some o):k.It h' it a i:=by
 obtain ⟨o,e,r⟩:=x.ex
 exact .of ⟨o,f o e,r⟩
theorem SK.Is.ex {k:SK} {h:Heap} {a:Addr} {vs:Array Value} (x:k.Is h a vs):∃ o n,h.get? a=some o∧o.data=.seq vs n:=by
 cases k with
 | l=>obtain ⟨o,e,_,n,d⟩:=(show h.IsList a vs from x); exact ⟨o,n,e,d⟩
 | t=>obtain ⟨o,e,_,n,d⟩:=(show h.IsTuple a vs from x); exact ⟨o,n,e,d⟩
theorem SK.Is.at {k:SK} {h h':Heap} {a:Addr} {vs:Array Value} (x:k.Is h a vs) (f:∀ o,h.get? a=some o→h'.get? a=some o):k.Is h' a vs:=by
 cases k with
 | l=>obtain ⟨o,e,r⟩:=(show h.IsList a vs from x); exact (⟨o,f o e,r⟩:h'.IsList a vs)
 | t=>obtain ⟨o,e,r⟩:=(show h.IsTuple a vs from x); exact (⟨o,f o e,r⟩:h'.IsTuple a vs)
theorem SK.Sq.is {k:SK} {X:Cx} {pins:List (Addr×Obj)} {σ:St} {H:Hp} {s:Shared} {a:Addr} {xs:List V} (q:k.Sq X.K H a xs) (I:Inv X pins σ H s):∃ its,Vals xs its∧k.Is s.heap a its.toArray:=by
 cases k with
 | l=>obtain ⟨its,rv,p,_⟩:=I.list (show SqL X.K H a xs from q); exact ⟨its,rv,p.isList⟩
 | t=>obtain ⟨its,rv,p,_⟩:=I.tuple (show SqT X.K H a xs from q); exact ⟨its,rv,p⟩
theorem SK.Sq.inj {k:SK} {X:Cx} {pins:List (Addr×Obj)} {σ:St} {H:Hp} {s:Shared} {a:Addr} {xs ys:List V} (q:k.Sq X.K H a xs) (r:k.Sq X.K H a ys) (I:Inv X pins σ H s):xs=ys:=by
 cases k with
 | l=>exact I.list_inj q r
 | t=>exact I.tuple_inj q r
section
variable {prog:Program} {w:World} {A:Around} {E:Value→Shared→Prop} {s:Shared}
theorem SK.draw {k:SK} {it a:Addr} {i:Nat} {vs:Array Value} {x:Value} {Q:Value→Shared→Prop} (hi:k.It s.heap it a i) (ha:k.Is s.heap a vs) (hx:vs[i]? = some x)
 (q:∀ h1,k.It h1 it a (i+1)→Heap.SameBut it s.heap h1→Q x { s with heap:=h1 }):wpAny (model prog w) A (Builtin.SmallTypes.nextOf (.ref it)) Q E s:=by
 cases k with
 | l=>exact wpAny_nextOf_list_item hi ha hx q
 | t =>
   have hi':s.heap.IsTupleIter it a i:=hi
   obtain ⟨o,e,c,d⟩:=id hi'
   obtain ⟨oa,ea,_,n,da⟩:=(show s.heap.IsTuple a vs from ha)
   unfold Builtin.SmallTypes.nextOf
   refine wpAny_bind (wpAny_callSpecial?_slot (name:=Str.ofString "__next__") hi'.typeIs F.slot_tuple_iterator_next (wpAny_call_entry F.slot_tuple_iterator_next hi'.typeIs F.entry_tuple_iterator_next ?_ (F.args_tuple_iterator_next_1 _)))
   refine wpAny_bind (m:=field (.ref it) 0) (wpAny_field e d (x:=.ref a) rfl ?_)
   show wpAny _ _ (if (Value.ref a == Value.none)=true then _ else _) _ _ s
   rw [if_neg (show ¬ ((Value.ref a == Value.none)=true) from Bool.false_ne_true)]
   refine wpAny_bind (m:=field (.ref it) 1) (wpAny_field e d (x:=.int i 0) rfl ?_)
   refine wpAny_bind (m:=seqItems? (.ref a)) (wpAny_seqItems ea da ?_)
   simp only [Int.toNat_natCast,hx]
   refine wpAny_bind (wpAny_setField e d (by simp) (wpAny_pure ⟨x,rfl,wpAny_pure (q _ (SK.It.of ?_) (Heap.SameBut.update ..))⟩))
   exact ⟨_,Heap.get?_update_self _ e (Obj.isFreed_of_fields (Obj.data_mapFields d _)),(Obj.cls_mapFields ..).trans c,by rw [Obj.data_mapFields d]; simp [rawInt]⟩
theorem SK.dry {k:SK} {it a:Addr} {i:Nat} {vs:Array Value} {Q:Value→Shared→Prop} (hh:A.handled=none) (hi:k.It s.heap it a i) (ha:k.Is s.heap a vs) (hx:vs[i]? = none)
 (q:∀ h1 e,Heap.ExtBut it s.heap h1→(∃ o,h1.get? e=some o∧o.cls=.type "StopIteration")→E (.ref e) { s with heap:=h1 }):wpAny (model prog w) A (Builtin.SmallTypes.nextOf (.ref it)) Q E s:=by
 cases k with
 | l=>exact wpAny_nextOf_list_end hh hi ha hx q
 | t =>
   have hi':s.heap.IsTupleIter it a i:=hi
   obtain ⟨o,e,c,d⟩:=id hi'
   obtain ⟨oa,ea,_,n,da⟩:=(show s.heap.IsTuple a vs from ha)
   unfold Builtin.SmallTypes.nextOf
   refine wpAny_bind (wpAny_callSpecial?_slot (name:=Str.ofString "__next__") hi'.typeIs F.slot_tuple_iterator_next (wpAny_call_entry F.slot_tuple_iterator_next hi'.typeIs F.entry_tuple_iterator_next ?_ (F.args_tuple_iterator_next_1 _)))
   refine wpAny_bind (m:=field (.ref it) 0) (wpAny_field e d (x:=.ref a) rfl ?_)
   show wpAny _ _ (if (Value.ref a == Value.none)=true then _ else _) _ _ s
   rw [if_neg (show ¬ ((Value.ref a == Value.none)=true) from Bool.false_ne_true)]
   refine wpAny_bind (m:=field (.ref it) 1) (wpAny_field e d (x:=.int i 0) rfl ?_)
   refine wpAny_bind (m:=seqItems? (.ref a)) (wpAny_seqItems ea da ?_)
   simp only [Int.toNat_natCast,hx]
   refine wpAny_bind (wpAny_rule (wpAny_bind (wpAny_setField e d (by simp) ?_)))
   refine wpAny_bind (m:=newExc (.type "StopIteration") []) ?_
   simp only [newExc,newTuple]
   refine wpAny_bind (wpAny_newObj_type (wpAny_bind (m:=firstArgMember _ _) (wpAny_of_eq (a:=Value.none) (by first | rfl | (simp only [firstArgMember]; rfl)) (wpAny_newObj_type ?_ (by size_fits)))) (by size_fits))
   simp only [raiseNew]
   refine wpAny_bind (wpAny_handled ?_)
   first | rw [show A.in1.handled=none from hh] | rw [hh]
   refine wpAny_bind (wpAny_pure (wpAny_throw (q _ _ (((Heap.SameBut.update ..).extBut.push _).push _) ⟨_,Heap.get?_push_size _ rfl,rfl⟩)))
theorem SK.iter {k:SK} {a:Addr} {vs:Array Value} {Q:Value→Shared→Prop} (ha:k.Is s.heap a vs) (q:Q (.ref s.heap.objs.size) { s with heap:=s.heap.push (k.obj a) }):wpAny (model prog w) A (pyIter (.ref a)) Q E s:=by
 cases k with
 | l=>exact wpAny_pyIter_list ha q
 | t=>exact wpAny_pyIter_tuple ha q
end
end L2
namespace L2
open PySem PySem.Spec PyProof.Rows
structure ZP (z t o i j a b:Addr):Prop where
 tz:t≠z
 oz:o≠z
 iz:i≠z
 jz:j≠z
 to:t≠o
 ti:t≠i
 tj:t≠j
 oi:o≠i
 oj:o≠j
 ij:i≠j
 az:a≠z
 ao:a≠o
 ai:a≠i
 aj:a≠j
 bz:b≠z
 bo:b≠o
 bi:b≠i
 bj:b≠j
section
variable {prog:Program} {w:World} {A:Around} {E:Value→Shared→Prop} {s:Shared} {k l:SK}
theorem zip_item {z t o i j a b:Addr} {m n:Nat} {xs ys:Array Value} {x y c d:Value} {Q:Value→Shared→Prop} (D:ZP z t o i j a b)
 (hz:IsZip s.heap z t o .none) (ht:IsPair s.heap t (.ref i) (.ref j)) (ho:IsPair s.heap o c d)
 (hi:k.It s.heap i a m) (hj:l.It s.heap j b n) (ha:k.Is s.heap a xs) (hb:l.Is s.heap b ys) (hx:xs[m]? = some x) (hy:ys[n]? = some y)
 (q:∀ h1,IsZip h1 z t o (rawInt s.heap.objs.size)→IsPair h1 o x y→k.It h1 i a (m+1)→l.It h1 j b (n+1)→IsPair h1 s.heap.objs.size x y→h1.objs.size=s.heap.objs.size+1 →
   (∀ e u,e≠z→e≠o→e≠i→e≠j→s.heap.get? e=some u→h1.get? e=some u)→Q (.ref s.heap.objs.size) { s with heap:=h1 }) :
 wpAny (model prog w) A (Builtin.«zip.__next__» ⟨[.ref z],[]⟩) (fun fin s'=>∃ v,fin=.done (.ret v)∧Q v s') E s:=by
 refine wpAny_bind (m:=field (.ref z) 2) (wpAny_field hz rfl (x:=.bool false) rfl ?_)
 refine wpAny_bind (m:=field (.ref z) 3) (wpAny_field hz rfl (x:=.ref t) rfl (wpAny_bind (wpAny_seqItems ht rfl ?_)))
 refine wpAny_bind (m:=Builtin.SmallTypes.ownedTupleIsFree (.ref z)) ?_
 unfold Builtin.SmallTypes.ownedTupleIsFree
 refine wpAny_bind (wpAny_field hz rfl (x:=.none) rfl (wpAny_pure ?_))
 simp only [if_true]
 refine wpAny_bind (wpAny_rule (wpAny_bind (wpAny_field hz rfl (x:=.ref o) rfl (wpAny_bind (wpAny_setField_rec hz (by simp) fun h1 z1 s1=>?_)))))
 replace z1:IsZip h1 z t o .ellipsis:=z1
 refine wpAny_bind ?_
 simp only [List.zipIdx_cons,List.zipIdx_nil,List.forIn_cons,List.forIn_nil]
 refine wpAny_bind (wpAny_bind (wpAny_onRaise (wpAny_bind (m:=Builtin.SmallTypes.nextOf (.ref i)) ?_)))
 refine SK.draw (hi.at fun u e=>s1.extBut _ _ D.iz e) (ha.at fun u e=>s1.extBut _ _ D.az e) hx fun h2 i2 s2=>wpAny_pure ?_
 have o2:IsPair h2 o c d:=s2.extBut _ _ D.oi (s1.extBut _ _ D.oz ho)
 refine wpAny_bind (wpAny_seqItems o2 rfl (wpAny_bind (wpAny_updateSeq_pair o2 fun h3 o3 s3=>?_)))
 replace o3:IsPair h3 o x d:=o3
 refine wpAny_bind (wpAny_letGo (wpAny_pure (wpAny_bind (wpAny_bind (wpAny_onRaise (wpAny_bind (m:=Builtin.SmallTypes.nextOf (.ref j)) ?_))))))
 refine SK.draw (hj.at fun u e=>s3.extBut _ _ D.oj.symm (s2.extBut _ _ D.ij.symm (s1.extBut _ _ D.jz e))) (hb.at fun u e=>s3.extBut _ _ D.bo (s2.extBut _ _ D.bi (s1.extBut _ _ D.bz e))) hy fun h4 j4 s4=>wpAny_pure ?_
 have o4:IsPair h4 o x d:=s4.extBut _ _ D.oj o3
 refine wpAny_bind (wpAny_seqItems o4 rfl (wpAny_bind (wpAny_updateSeq_pair o4 fun h5 o5 s5=>?_)))
 replace o5:IsPair h5 o x y:=o5
 refine wpAny_bind (wpAny_letGo (wpAny_pure (wpAny_pure (wpAny_bind (wpAny_seqItems o5 rfl (wpAny_bind (wpAny_newTuple ?_)))))))
 have sz:h5.objs.size=s.heap.objs.size:=by rw [s5.1,s4.1,s3.1,s2.1,s1.1]
 have z5:IsZip h5 z t o .ellipsis:=s5.extBut _ _ D.oz.symm (s4.extBut _ _ D.jz.symm (s3.extBut _ _ D.oz.symm (s2.extBut _ _ D.iz.symm z1)))
 have k5:∀ e u,e≠z→e≠o→e≠i→e≠j→s.heap.get? e=some u→h5.get? e=some u:=fun e u e1 e2 e3 e4 g=>s5.extBut _ _ e2 (s4.extBut _ _ e4 (s3.extBut _ _ e2 (s2.extBut _ _ e3 (s1.extBut _ _ e1 g))))
 have i5:k.It h5 i a (m+1):=i2.at fun u e=>s5.extBut _ _ D.oi.symm (s4.extBut _ _ D.ij (s3.extBut _ _ D.oi.symm e))
 have j5:l.It h5 j b (n+1):=j4.at fun u e=>s5.extBut _ _ D.oj.symm e
 have zl:z < h5.objs.size:=Heap.lt_size z5
 refine wpAny_bind (m:=Builtin.SmallTypes.ownedTupleHandOut (.ref z) (.ref h5.objs.size)) ?_
 unfold Builtin.SmallTypes.ownedTupleHandOut
 have z6:IsZip (h5.push { cls:=.type "tuple",data:=.seq #[x,y] }) z t o .ellipsis:=Heap.get?_push_of_some _ z5
 refine wpAny_bind (wpAny_setField_rec z6 (by simp) fun h7 z7 s7=>?_)
 replace z7:IsZip h7 z t o (rawInt h5.objs.size):=z7
 refine wpAny_setField_rec z7 (by simp) fun h8 z8 s8=>?_
 replace z8:IsZip h8 z t o (rawInt h5.objs.size):=z8
 have up:∀ e u,e≠z→h5.get? e=some u→h8.get? e=some u:=fun e u e1 g=>s8.extBut _ _ e1 (s7.extBut _ _ e1 (Heap.get?_push_of_some _ g))
 have T8:IsPair h8 h5.objs.size x y:=s8.extBut _ _ (Nat.ne_of_gt zl) (s7.extBut _ _ (Nat.ne_of_gt zl) (Heap.get?_push_size _ rfl))
 have l8:h8.objs.size=h5.objs.size+1:=by rw [s8.1,s7.1,Heap.size_push]
 rw [sz] at z8 T8 l8
 refine wpAny_pure ⟨_,rfl,?_⟩
 show Q (.ref h5.objs.size) _
 rw [sz]
 exact q h8 z8 (up _ _ D.oz o5) (i5.at fun u e=>up _ u D.iz e) (j5.at fun u e=>up _ u D.jz e) T8 l8 fun e u e1 e2 e3 e4 g=>up e u e1 (k5 e u e1 e2 e3 e4 g)
theorem zip_end {z t o i j a b:Addr} {m n:Nat} {xs ys:Array Value} {c d:Value} {Q:Fin→Shared→Prop} (hh:A.handled=none) (D:ZP z t o i j a b)
 (hz:IsZip s.heap z t o .none) (ht:IsPair s.heap t (.ref i) (.ref j)) (ho:IsPair s.heap o c d)
 (hi:k.It s.heap i a m) (hj:l.It s.heap j b n) (ha:k.Is s.heap a xs) (hb:l.Is s.heap b ys) (hx:xs[m]? = none∨ys[n]? = none)
 (q:∀ h1 e,(∀ e u,e≠z→e≠o→e≠i→e≠j→s.heap.get? e=some u→h1.get? e=some u)→(∃ u,h1.get? e=some u∧u.cls=.type "StopIteration")→E (.ref e) { s with heap:=h1 }) :
 wpAny (model prog w) A (Builtin.«zip.__next__» ⟨[.ref z],[]⟩) Q E s:=by
 refine wpAny_bind (m:=field (.ref z) 2) (wpAny_field hz rfl (x:=.bool false) rfl ?_)
 refine wpAny_bind (m:=field (.ref z) 3) (wpAny_field hz rfl (x:=.ref t) rfl (wpAny_bind (wpAny_seqItems ht rfl ?_)))
 refine wpAny_bind (m:=Builtin.SmallTypes.ownedTupleIsFree (.ref z)) ?_
 unfold Builtin.SmallTypes.ownedTupleIsFree
 refine wpAny_bind (wpAny_field hz rfl (x:=.none) rfl (wpAny_pure ?_))
 simp only [if_true]
 refine wpAny_bind (wpAny_rule (wpAny_bind (wpAny_field hz rfl (x:=.ref o) rfl (wpAny_bind (wpAny_setField_rec hz (by simp) fun h1 z1 s1=>?_)))))
 replace z1:IsZip h1 z t o .ellipsis:=z1
 refine wpAny_bind ?_
 simp only [List.zipIdx_cons,List.zipIdx_nil,List.forIn_cons,List.forIn_nil]
 refine wpAny_bind (wpAny_bind (wpAny_onRaise (wpAny_bind (m:=Builtin.SmallTypes.nextOf (.ref i)) ?_)))
 cases hm:xs[m]? with
 | none =>
   refine SK.dry hh (hi.at fun u e=>s1.extBut _ _ D.iz e) (ha.at fun u e=>s1.extBut _ _ D.az e) hm fun h2 e s2 ⟨u,g,cu⟩=>?_
   have z2:IsZip h2 z t o .ellipsis:=s2 _ _ D.iz.symm z1
   have ez:e≠z:=fun r=>by subst r; rw [z2] at g; cases g; simp at cu
   exact wpAny_setField_rec z2 (by simp) fun h3 _ s3=>q h3 e (fun e' u' e1 _ e3 _ r=>s3.extBut _ _ e1 (s2 _ _ e3 (s1.extBut _ _ e1 r))) ⟨u,s3.extBut _ _ ez g,cu⟩
 | some x =>
   have hn:ys[n]? = none:=by rcases hx with r | r; (rw [hm] at r; cases r); exact r
   refine SK.draw (hi.at fun u e=>s1.extBut _ _ D.iz e) (ha.at fun u e=>s1.extBut _ _ D.az e) hm fun h2 i2 s2=>wpAny_pure ?_
   have o2:IsPair h2 o c d:=s2.extBut _ _ D.oi (s1.extBut _ _ D.oz ho)
   refine wpAny_bind (wpAny_seqItems o2 rfl (wpAny_bind (wpAny_updateSeq_pair o2 fun h3 o3 s3=>?_)))
   refine wpAny_bind (wpAny_letGo (wpAny_pure (wpAny_bind (wpAny_bind (wpAny_onRaise (wpAny_bind (m:=Builtin.SmallTypes.nextOf (.ref j)) ?_))))))
   refine SK.dry hh (hj.at fun u e=>s3.extBut _ _ D.oj.symm (s2.extBut _ _ D.ij.symm (s1.extBut _ _ D.jz e))) (hb.at fun u e=>s3.extBut _ _ D.bo (s2.extBut _ _ D.bi (s1.extBut _ _ D.bz e))) hn fun h4 e s4 ⟨u,g,cu⟩=>?_
   have z4:IsZip h4 z t o .ellipsis:=s4 _ _ D.jz.symm (s3.extBut _ _ D.oz.symm (s2.extBut _ _ D.iz.symm z1))
   have ez:e≠z:=fun r=>by subst r; rw [z4] at g; cases g; simp at cu
   exact wpAny_setField_rec z4 (by simp) fun h5 _ s5=>q h5 e (fun e' u' e1 e2 e3 e4 r=>s5.extBut _ _ e1 (s4 _ _ e4 (s3.extBut _ _ e2 (s2.extBut _ _ e3 (s1.extBut _ _ e1 r))))) ⟨u,s5.extBut _ _ ez g,cu⟩
theorem next_zip_item {z t o i j a b:Addr} {m n:Nat} {xs ys:Array Value} {x y c d:Value} {Q:Option Value→Shared→Prop} (D:ZP z t o i j a b)
 (hz:IsZip s.heap z t o .none) (ht:IsPair s.heap t (.ref i) (.ref j)) (ho:IsPair s.heap o c d)
 (hi:k.It s.heap i a m) (hj:l.It s.heap j b n) (ha:k.Is s.heap a xs) (hb:l.Is s.heap b ys) (hx:xs[m]? = some x) (hy:ys[n]? = some y)
 (q:∀ h1,IsZip h1 z t o (rawInt s.heap.objs.size)→IsPair h1 o x y→k.It h1 i a (m+1)→l.It h1 j b (n+1)→IsPair h1 s.heap.objs.size x y→h1.objs.size=s.heap.objs.size+1 →
   (∀ e u,e≠z→e≠o→e≠i→e≠j→s.heap.get? e=some u→h1.get? e=some u)→Q (some (.ref s.heap.objs.size)) { s with heap:=h1 }) :
 wpAny (model prog w) A (pyNext (.ref z)) Q E s:=by
 have hT:s.TypeIs (.ref z) "zip" := ⟨_,hz,rfl⟩
 unfold pyNext
 exact wpAny_bind (wpAny_attempt (wpAny_callSpecial?_slot (name:=Str.ofString "__next__") hT F.slot_zip_next (wpAny_call_entry F.slot_zip_next hT F.entry_zip_next
  (zip_item D hz ht ho hi hj ha hb hx hy fun h1 r1 r2 r3 r4 r5 r6 r7=>wpAny_pure (q h1 r1 r2 r3 r4 r5 r6 r7)) (F.args_zip_next_1 _))))
theorem next_zip_end {z t o i j a b:Addr} {m n:Nat} {xs ys:Array Value} {c d:Value} {Q:Option Value→Shared→Prop} (hh:A.handled=none) (D:ZP z t o i j a b)
 (hz:IsZip s.heap z t o .none) (ht:IsPair s.heap t (.ref i) (.ref j)) (ho:IsPair s.heap o c d)
 (hi:k.It s.heap i a m) (hj:l.It s.heap j b n) (ha:k.Is s.heap a xs) (hb:l.Is s.heap b ys) (hx:xs[m]? = none∨ys[n]? = none)
 (q:∀ h1,(∀ e u,e≠z→e≠o→e≠i→e≠j→s.heap.get? e=some u→h1.get? e=some u)→Q none { s with heap:=h1 }) :
 wpAny (model prog w) A (pyNext (.ref z)) Q E s:=by
 have hT:s.TypeIs (.ref z) "zip" := ⟨_,hz,rfl⟩
 unfold pyNext
 refine wpAny_bind (wpAny_attempt (wpAny_callSpecial?_slot (name:=Str.ofString "__next__") hT F.slot_zip_next (wpAny_call_entry F.slot_zip_next hT F.entry_zip_next
  (zip_end hh D hz ht ho hi hj ha hb hx fun h1 e r1 ⟨u,g,cu⟩=>?_) (F.args_zip_next_1 _))))
 exact wpAny_bind (wpAny_isInstance (T := "StopIteration") (b:=true) ⟨u,g,cu⟩ isSubtype_stop (wpAny_pure (q _ r1)))
abbrev zp1 (k:SK) (h:Heap) (a:Addr):Heap:=h.push (k.obj a)
abbrev zp2 (k l:SK) (h:Heap) (a b:Addr):Heap:=(zp1 k h a).push (l.obj b)
abbrev zp3 (k l:SK) (h:Heap) (a b:Addr):Heap:=(zp2 k l h a b).push { cls:=.type "tuple",data:=.seq #[.ref h.objs.size,.ref (zp1 k h a).objs.size] }
abbrev zp4 (k l:SK) (h:Heap) (a b:Addr):Heap:=(zp3 k l h a b).push { cls:=.type "tuple",data:=.seq #[.none,.none] }
abbrev zp5 (k l:SK) (h:Heap) (a b:Addr):Heap:=(zp4 k l h a b).push { cls:=.type "zip",data:=.fields #[.none,.bool false,.bool false,.ref (zp2 k l h a b).objs.size,.ref (zp3 k l h a b).objs.size] }
theorem meets_zip (k l:SK) (a b:Addr) (xs ys:Array Value):Meets (Builtin.«zip.__new__» ⟨[.type "zip",.ref a,.ref b],[]⟩) (fun _ R s=>k.Is s.heap a xs∧l.Is s.heap b ys∧R (.ok (.ret (.ref (zp4 k l s.heap a b).objs.size))) { s with heap:=zp5 k l s.heap a b }) :=
 .of_wp fun prog w A R s h=>by
  obtain ⟨hp,g,d,tk,os⟩:=s; obtain ⟨h1,h2,h⟩:=h
  have hsub:=sub_zip
  have r1:k.Is (Shared.heap ⟨hp,g,d,tk,os⟩) a xs:=h1
  have r2:l.Is (Shared.heap ⟨hp.push (k.obj a),g,d,tk,os⟩) b ys:=SK.Is.at h2 fun o e=>Heap.get?_push_of_some _ e
  wp_walk using SK.iter r1,SK.iter r2
  exact ⟨_,rfl,h⟩
theorem call_zip {a b:Addr} {xs ys:Array Value} {Q:Value→Shared→Prop} (ha:k.Is s.heap a xs) (hb:l.Is s.heap b ys)
 (q:∀ h1,IsZip h1 (s.heap.objs.size+4) (s.heap.objs.size+2) (s.heap.objs.size+3) .none→IsPair h1 (s.heap.objs.size+2) (.ref s.heap.objs.size) (.ref (s.heap.objs.size+1)) →
   IsPair h1 (s.heap.objs.size+3) .none .none→k.It h1 s.heap.objs.size a 0→l.It h1 (s.heap.objs.size+1) b 0→h1.objs.size=s.heap.objs.size+5 →
   (∀ c o,s.heap.get? c=some o→h1.get? c=some o)→Q (.ref (s.heap.objs.size+4)) { s with heap:=h1 }) :
 wpAny (model prog w) A (call (.type "zip") [.ref a,.ref b]) Q E s:=by
 refine callType_new F.called_zip (by decide) (F.typeCall_zip_2 _ _) (F.newCall_zip_2 _ _) (fun obj=>F.args_object_init_3 obj _ _) F.entry_zip_new (meets_zip k l a b xs ys) ⟨ha,hb,?_⟩
 have n1:(zp1 k s.heap a).objs.size=s.heap.objs.size+1:=Heap.size_push ..
 have n2:(zp2 k l s.heap a b).objs.size=s.heap.objs.size+2:=by rw [Heap.size_push,n1]
 have n3:(zp3 k l s.heap a b).objs.size=s.heap.objs.size+3:=by rw [Heap.size_push,n2]
 have n4:(zp4 k l s.heap a b).objs.size=s.heap.objs.size+4:=by rw [Heap.size_push,n3]
 have n5:(zp5 k l s.heap a b).objs.size=s.heap.objs.size+5:=by rw [Heap.size_push,n4]
 have m5:(zp5 k l s.heap a b).get? (zp4 k l s.heap a b).objs.size=some _:=Heap.get?_push_size _ rfl
 have m4:(zp5 k l s.heap a b).get? (zp3 k l s.heap a b).objs.size=some _:=Heap.get?_push_of_some _ (Heap.get?_push_size _ rfl)
 have m3:(zp5 k l s.heap a b).get? (zp2 k l s.heap a b).objs.size=some _:=Heap.get?_push_of_some _ (Heap.get?_push_of_some _ (Heap.get?_push_size _ rfl))
 have m2:(zp5 k l s.heap a b).get? (zp1 k s.heap a).objs.size=some _:=Heap.get?_push_of_some _ (Heap.get?_push_of_some _ (Heap.get?_push_of_some _ (Heap.get?_push_size _ rfl)))
 have m1:(zp5 k l s.heap a b).get? s.heap.objs.size=some _:=Heap.get?_push_of_some _ (Heap.get?_push_of_some _ (Heap.get?_push_of_some _ (Heap.get?_push_of_some _ (Heap.get?_push_size _ rfl))))
 show _∧_
 rw [n2,n3,n4] at m5
 rw [n1,n2] at m3
 rw [n3] at m4
 rw [n1] at m2
 rw [n4]
 exact ⟨⟨_,m5,rfl⟩,q _ m5 m3 m4 (.of ⟨_,m1,rfl,rfl⟩) (.of ⟨_,m2,rfl,rfl⟩) n5 fun c o e=>Heap.get?_push_of_some _ (Heap.get?_push_of_some _ (Heap.get?_push_of_some _ (Heap.get?_push_of_some _ (Heap.get?_push_of_some _ e))))⟩
end
end L2
namespace L2
open PySem PySem.Spec PyProof.Rows
def Itz (k l:SK) (K:PySem.W.Frag) (a b:Addr):It :=
 ⟨fun i H=>∃ xs ys x y,k.Sq K H a xs∧l.Sq K H b ys∧xs[i]? = some x∧ys[i]? = some y,
  fun i H v H'=>∃ p x y,v=.ref p∧H p=none∧H'=upd H p (.tup [x,y])∧(∀ xs,k.Sq K H a xs→xs[i]? = some x)∧∀ ys,l.Sq K H b ys→ys[i]? = some y,
  fun i H=>∃ xs ys,k.Sq K H a xs∧l.Sq K H b ys∧(xs.length≤i∨ys.length≤i)⟩
theorem turn_zip {P:Program} {w:World} {K:PySem.W.Frag} {es:List Expr} {x1:Nat} {tp:Pos} {k l:SK} {z t o i j a b:Addr} (D:ZP z t o i j a b) :
 Turn P w K (.Tuple es x1 tp) (Itz k l K a b) [z,t,o,i,j] z (fun n h=>IsZip h z t o .none∧IsPair h t (.ref i) (.ref j)∧(∃ c d,IsPair h o c d)∧k.It h i a n∧l.It h j b n) where
 mem:=by simp
 obj:=fun n h st e he=>by
  obtain ⟨h1,h2,⟨c,d,h3⟩,h4,h5⟩:=st
  simp only [List.mem_cons,List.not_mem_nil,or_false] at he
  rcases he with rfl | rfl | rfl | rfl | rfl
  · exact ⟨_,h1,fun v q=>by cases (show Data.fields _=Data.cell v from q)⟩
  · exact ⟨_,h2,fun v q=>by cases (show Data.seq _ _=Data.cell v from q)⟩
  · exact ⟨_,h3,fun v q=>by cases (show Data.seq _ _=Data.cell v from q)⟩
  · obtain ⟨u,e,_,q⟩:=h4.ex; exact ⟨u,e,fun v r=>by rw [q] at r; cases r⟩
  · obtain ⟨u,e,_,q⟩:=h5.ex; exact ⟨u,e,fun v r=>by rw [q] at r; cases r⟩
 keep:=fun n h h' st f=>by
  obtain ⟨h1,h2,⟨c,d,h3⟩,h4,h5⟩:=st
  exact ⟨f z (by simp) _ h1,f t (by simp) _ h2,⟨c,d,f o (by simp) _ h3⟩,h4.at fun u e=>f i (by simp) u e,h5.at fun u e=>f j (by simp) u e⟩
 item:=by
  intro X hP hw hK hc n pins s σ H E I hf st hg
  subst hP hw hK
  obtain ⟨h1,h2,⟨c,d,h3⟩,h4,h5⟩:=st
  obtain ⟨xs,ys,x,y,q1,q2,hx,hy⟩:=hg
  obtain ⟨us,ru,pu⟩:=q1.is I
  obtain ⟨vs,rv,pv⟩:=q2.is I
  obtain ⟨u,hu,ux⟩:=ru.get hx
  obtain ⟨v,hv,vy⟩:=rv.get hy
  have lt:∀ {e o'},s.heap.get? e=some o'→e≠s.heap.objs.size:=fun e=>Nat.ne_of_lt (Heap.lt_size e)
  refine next_zip_item D h1 h2 h3 h4 h5 pu pv (x:=u) (y:=v) (by simpa using hu) (by simpa using hv) fun g r1 r2 r3 r4 r5 r6 r7=>?_
  refine ⟨_,rfl,wpAny_letOwnedTupleGo_zip r1 fun g2 z2 s2=>?_⟩
  have hp:H s.heap.objs.size=none:=I.hok.fresh (Nat.le_refl _)
  have T2:IsPair g2 s.heap.objs.size u v:=s2.extBut _ _ (Ne.symm (lt h1)) r5
  have I2:Inv X pins σ (upd H s.heap.objs.size (.tup [x,y])) { s with heap:=g2,toks:=s.toks }:=by
   refine I.turnNew (ch:=[z,o,i,j]) (fun e o' ne q=>?_) (fun e he=>hf e ?_) (Nat.le_refl _) ⟨by show 2≤sizeLine; decide,[u,v],.cons ux (.cons vy .nil),⟨_,T2,rfl,_,rfl⟩⟩
   · simp only [List.mem_cons,List.not_mem_nil,or_false,not_or] at ne
     exact s2.extBut _ _ ne.1 (r7 e o' ne.1 ne.2.1 ne.2.2.1 ne.2.2.2 q)
   · simp only [List.mem_cons,List.not_mem_nil,or_false] at he ⊢
     rcases he with q | q | q | q <;> simp [q]
  refine ⟨.ref s.heap.objs.size,_,I2,rfl,⟨_,x,y,rfl,hp,rfl,fun xs' q=>by rw [q.inj q1 I]; exact hx,fun ys' q=>by rw [q.inj q2 I]; exact hy⟩,⟨z2,?_,⟨u,v,s2.extBut _ _ D.oz r2⟩,r3.at fun u' e=>s2.extBut _ _ D.iz e,r4.at fun u' e=>s2.extBut _ _ D.jz e⟩,fun e he=>?_⟩
  · exact s2.extBut _ _ D.tz (r7 _ _ D.tz D.to D.ti D.tj h2)
  · have ne:e≠s.heap.objs.size:=by
     simp only [List.mem_cons,List.not_mem_nil,or_false] at he
     rcases he with rfl | rfl | rfl | rfl | rfl
     · exact lt h1
     · exact lt h2
     · exact lt h3
     · obtain ⟨_,q,_⟩:=h4.ex; exact lt q
     · obtain ⟨_,q,_⟩:=h5.ex; exact lt q
    rw [upd_ne ne]
    exact (hf e he).1
 done:=by
  intro X hP hw hK hc n pins s σ H E I hf st hg
  subst hP hw hK
  obtain ⟨h1,h2,⟨c,d,h3⟩,h4,h5⟩:=st
  obtain ⟨xs,ys,q1,q2,hl⟩:=hg
  obtain ⟨us,ru,pu⟩:=q1.is I
  obtain ⟨vs,rv,pv⟩:=q2.is I
  have e1:=ru.length
  have e2:=rv.length
  refine next_zip_end (I.ok.hd hc) D h1 h2 h3 h4 h5 pu pv ?_ fun g r=>⟨rfl,?_⟩
  · rcases hl with q | q
    · left; simp; omega
    · right; simp; omega
  · refine I.turnOnly (t':=s.toks) (ch:=[z,o,i,j]) (fun e o' ne q=>?_) (fun e he=>hf e ?_)
    · simp only [List.mem_cons,List.not_mem_nil,or_false,not_or] at ne
      exact r e o' ne.1 ne.2.1 ne.2.2.1 ne.2.2.2 q
    · simp only [List.mem_cons,List.not_mem_nil,or_false] at he ⊢
      rcases he with q | q | q | q <;> simp [q]
 self:=fun _ _ _ _ _ st h=>wpAny_pyIter_zip st.1 h
theorem zp_new {n a b:Addr} (la:a < n) (lb:b < n):ZP (n+4) (n+2) (n+3) n (n+1) a b:=by
 constructor <;> (intro h; have h':@Eq Nat _ _:=h; have la':@LT.lt Nat _ _ _:=la; have lb':@LT.lt Nat _ _ _:=lb; clear h la lb; omega)
theorem boot_zip':bootBuiltins "zip" = some (.type "zip"):=by decide +kernel
section
variable {X:Cx} {es:List Expr} {x1:Nat} {tp:Pos}
def iZip (k l:SK) (K:PySem.W.Frag) (ta:TA):TI:=fun σ H R=>ta σ H fun vs H1=>∃ a b,vs=[.ref a,.ref b]∧(∃ xs,k.Sq K H1 a xs)∧(∃ ys,l.Sq K H1 b ys)∧R (Itz k l K a b) H1
theorem Inv.fps {pins:List (Addr×Obj)} {σ:St} {H:Hp} {s:Shared} (I:Inv X pins σ H s) {fp:List Addr} (h:∀ b∈fp,s.heap.objs.size≤b):∀ b∈fp,FpOk X pins H b:=fun b hb=>I.fpOk (h b hb) (I.hok.fresh (h b hb))
theorem pi_zip (k l:SK) {a b:Expr} {ta:TA} {p pos:Pos} (hg:Gl X "zip") (hm:X.mg "zip" = none) (ha:PA X [a,b] ta) (hs:starEach [a,b] X.env=[(false,eval a X.env),(false,eval b X.env)]:=by rfl) (hs2:starEach [b] X.env=[(false,eval b X.env)]:=by rfl) :
 PI X (.Tuple es x1 tp) (.Call (.Name "zip" p) [a,b] [] pos) (iZip k l X.K ta):=by
 intro pins s σ H R I h
 refine Call_ (ld_blt I hg hm boot_zip' (PyProof.Rows.callWith_type1 (thn (ha pos pins s σ H _ I h) fun us s1 ⟨vs,H1,I1,r1,q1⟩=>?_) (by rw [hs,hs2]) (by rw [hs2]; rfl)))
 obtain ⟨a,b,e,⟨xs,hx⟩,⟨ys,hy⟩,q⟩:=q1
 subst e
 cases r1 with
 | cons r rr =>
   cases rr with
   | cons r' rr =>
     cases rr
     cases r
     cases r'
     obtain ⟨us,ru,pu⟩:=hx.is I1
     obtain ⟨ws,rw',pw⟩:=hy.is I1
     have la:a < s1.heap.objs.size:=by obtain ⟨_,_,e,_⟩:=pu.ex; exact Heap.lt_size e
     have lb:b < s1.heap.objs.size:=by obtain ⟨_,_,e,_⟩:=pw.ex; exact Heap.lt_size e
     refine call_zip pu pw fun h1 m1 m2 m3 m4 m5 m6 m7=>wpAny_pyIter_zip m1 ?_
     have I2:Inv X pins σ H1 { s1 with heap:=h1,toks:=s1.toks }:=I1.kept m7
     refine ⟨_,_,_,_,H1,rfl,I2,turn_zip (z:=s1.heap.objs.size+4) (t:=s1.heap.objs.size+2) (o:=s1.heap.objs.size+3) (i:=s1.heap.objs.size) (j:=s1.heap.objs.size+1) (k:=k) (l:=l) (a:=a) (b:=b) ?_,⟨m1,m2,⟨_,_,m3⟩,m4,m5⟩,?_,q⟩
     · exact zp_new la lb
     · have f1:=I1.fps (fp:=[s1.heap.objs.size+4,s1.heap.objs.size+2,s1.heap.objs.size+3,s1.heap.objs.size,s1.heap.objs.size+1]) (by
        intro e he
        simp only [List.mem_cons,List.not_mem_nil,or_false] at he
        rcases he with rfl | rfl | rfl | rfl | rfl <;> omega)
       exact f1
end
def Ite (k:SK) (K:PySem.W.Frag) (a:Addr):It :=
 ⟨fun i H=>∃ xs x,k.Sq K H a xs∧xs[i]? = some x,
  fun i H v H'=>∃ p x,v=.ref p∧H p=none∧H'=upd H p (.tup [.int i,x])∧∀ xs,k.Sq K H a xs→xs[i]? = some x,
  fun i H=>∃ xs,k.Sq K H a xs∧xs.length=i⟩
theorem SK.draws {prog:Program} {w:World} {A:Around} {k:SK} (hh:A.handled=none) (it a:Addr) (ne:a≠it) (vs:Array Value):Draws prog w A it [it,a] vs.size (fun i v=>vs[i]? = some v) (fun i h=>k.It h it a i∧k.Is h a vs) where
 live:=fun _ _ st=>let ⟨o,e,_⟩:=st.1.ex; ⟨o,e⟩
 frame:=fun _ _ _ st f=>⟨st.1.at fun o e=>f it (by simp) o e,st.2.at fun o e=>f a (by simp) o e⟩
 item:=fun i s Q E hi st q=>SK.draw st.1 st.2 (x:=vs[i]) (by simp [hi]) fun h1 r1 r2=>q _ h1 s.toks (by simp [hi]) ⟨r1,st.2.at fun o e=>r2.extBut _ _ ne e⟩ r2
 done:=fun s Q E st q=>SK.dry hh st.1 st.2 (by simp) q
theorem turn_enum {P:Program} {w:World} {K:PySem.W.Frag} {es:List Expr} {x1:Nat} {tp:Pos} {k:SK} {e it a:Addr} (n1:e≠it) (n2:a≠e) (n3:a≠it) :
 Turn P w K (.Tuple es x1 tp) (Ite k K a) [e,it] e (fun n h=>(∃ old,IsEnum h e it n old)∧k.It h it a n) where
 mem:=by simp
 obj:=fun n h st b hb=>by
  obtain ⟨⟨old,h1⟩,h2⟩:=st
  simp only [List.mem_cons,List.not_mem_nil,or_false] at hb
  rcases hb with rfl | rfl
  · exact ⟨_,h1,fun v q=>by cases (show Data.fields _=Data.cell v from q)⟩
  · obtain ⟨u,e,_,q⟩:=h2.ex; exact ⟨u,e,fun v r=>by rw [q] at r; cases r⟩
 keep:=fun n h h' st f=>by
  obtain ⟨⟨old,h1⟩,h2⟩:=st
  exact ⟨⟨old,f e (by simp) _ h1⟩,h2.at fun u q=>f it (by simp) u q⟩
 item:=by
  intro X hP hw hK hc n pins s σ H E I hf st hg
  subst hP hw hK
  obtain ⟨⟨old,h1⟩,h2⟩:=st
  obtain ⟨xs,x,q1,hx⟩:=hg
  obtain ⟨us,ru,pu⟩:=q1.is I
  obtain ⟨u,hu,ux⟩:=ru.get hx
  have lt:∀ {b o'},s.heap.get? b=some o'→b≠s.heap.objs.size:=fun e=>Nat.ne_of_lt (Heap.lt_size e)
  have hlen:n < us.toArray.size:=by have:=(List.getElem?_eq_some_iff.mp hu).1; simpa using this
  refine wpAny_pyNext_enum_itemD (SK.draws (k:=k) (show X.A.in1.handled=none from I.ok.hd hc) it a n3 us.toArray) h1 ⟨h2,pu⟩ hlen n1 (by simp [n1,n2.symm]) fun v g tk hv r1 r2 r3 r4 r5=>?_
  have ev:v=u:=by
   have:us[n]? = some v:=by simpa using hv
   rw [hu] at this; exact (Option.some.inj this).symm
  subst ev
  refine ⟨_,rfl,wpAny_letOwnedTupleGo_enum r1 fun g2 z2 s2=>?_⟩
  have hp:H s.heap.objs.size=none:=I.hok.fresh (Nat.le_refl _)
  have T2:g2.get? s.heap.objs.size=some { cls:=.type "tuple",data:=.seq #[.int n tk,v] }:=s2.extBut _ _ (Ne.symm (lt h1)) r3
  have I2:Inv X pins σ (upd H s.heap.objs.size (.tup [.int n,x])) { s with heap:=g2,toks:=tk+1 }:=by
   refine I.turnNew (ch:=[e,it]) (fun b o' ne q=>?_) (fun b hb=>hf b hb) (Nat.le_refl _) ⟨by show 2≤sizeLine; decide,[.int n tk,v],.cons ⟨tk,rfl⟩ (.cons ux .nil),⟨_,T2,rfl,_,rfl⟩⟩
   simp only [List.mem_cons,List.not_mem_nil,or_false,not_or] at ne
   exact s2.extBut _ _ ne.1 (r5 b o' ne.1 ne.2 q)
  refine ⟨.ref s.heap.objs.size,_,I2,rfl,⟨_,x,rfl,hp,rfl,fun xs' q=>by rw [q.inj q1 I]; exact hx⟩,⟨⟨v,by simpa using z2⟩,r2.1.at fun u' q=>s2.extBut _ _ n1.symm q⟩,fun b hb=>?_⟩
  have ne:b≠s.heap.objs.size:=by
   simp only [List.mem_cons,List.not_mem_nil,or_false] at hb
   rcases hb with rfl | rfl
   · exact lt h1
   · obtain ⟨_,q,_⟩:=h2.ex; exact lt q
  rw [upd_ne ne]
  exact (hf b hb).1
 done:=by
  intro X hP hw hK hc n pins s σ H E I hf st hg
  subst hP hw hK
  obtain ⟨⟨old,h1⟩,h2⟩:=st
  obtain ⟨xs,q1,hl⟩:=hg
  obtain ⟨us,ru,pu⟩:=q1.is I
  have e1:=ru.length
  have en:us.toArray.size=n:=by rw [List.size_toArray]; omega
  subst en
  have D:=SK.draws (prog:=X.prog) (w:=X.w) (k:=k) (show X.A.in1.handled=none from I.ok.hd hc) it a n3 us.toArray
  refine wpAny_pyNext_enum_endD D h1 ⟨h2,pu⟩ fun g r=>⟨rfl,?_⟩
  exact I.turnOnly (t':=s.toks) (ch:=[it]) (fun b o' ne q=>r b o' (by simpa using ne) q) (fun b hb=>hf b (by simp at hb; simp [hb]))
 self:=fun _ _ _ _ _ st h=>by obtain ⟨⟨old,h1⟩,_⟩:=st; exact wpAny_pyIter_enum h1 h
end L2
namespace L2
open PySem PySem.Spec PyProof.Rows
open AutoSeq1 (wpAny_loadPart')
abbrev enumObj (it:Addr):Obj:={ cls:=.type "enumerate",data:=.fields #[.none,.bool false,.ref it,rawInt 0,.none,.none] }
theorem meets_enum (k:SK) (a:Addr) (vs:Array Value) (o:Obj):Meets (Builtin.«enumerate.__new__» ⟨[.type "enumerate",.ref a],[]⟩) (fun _ R s=>s.heap.get? a=some o∧k.Is s.heap a vs ∧
 R (.ok (.ret (.ref (s.heap.push (k.obj a)).objs.size))) { s with heap:=(s.heap.push (k.obj a)).push (enumObj s.heap.objs.size) }) :=
 .of_wp fun prog w A R s h=>by
  obtain ⟨hp,g,d,tk,os⟩:=s; obtain ⟨ho,hk,h⟩:=h
  have hsub:=sub_enumerate
  have r1:k.Is (Shared.heap ⟨hp,g,d,tk,os⟩) a vs:=hk
  wp_walk using wpAny_loadPart' ho
  refine wpAny_stack_any fun st=>wpAny_pure ?_
  split
  · rename_i c _ _ _ _ _
    cases (c == Value.type "enumerate")
    · (wp_walk using wpAny_loadPart' ho,SK.iter r1); exact ⟨_,rfl,h⟩
    · (wp_walk using wpAny_loadPart' ho,SK.iter r1); exact ⟨_,rfl,h⟩
  · (wp_walk using wpAny_loadPart' ho,SK.iter r1); exact ⟨_,rfl,h⟩
section
variable {prog:Program} {w:World} {A:Around} {E:Value→Shared→Prop} {s:Shared} {k:SK}
theorem call_enum {a:Addr} {vs:Array Value} {Q:Value→Shared→Prop} (ha:k.Is s.heap a vs)
 (q:∀ h1,IsEnum h1 (s.heap.objs.size+1) s.heap.objs.size 0 .none→k.It h1 s.heap.objs.size a 0→(∀ b o,s.heap.get? b=some o→h1.get? b=some o)→Q (.ref (s.heap.objs.size+1)) { s with heap:=h1 }) :
 wpAny (model prog w) A (call (.type "enumerate") [.ref a]) Q E s:=by
 obtain ⟨o,n,e,d⟩:=ha.ex
 refine callType_new F.called_enumerate (by decide) (F.typeCall_enumerate_1 _) (F.newCall_enumerate_1 _) (fun obj=>F.args_object_init_2 obj _) F.entry_enumerate_new (meets_enum k a vs o) ⟨e,ha,?_⟩
 have n1:(s.heap.push (k.obj a)).objs.size=s.heap.objs.size+1:=Heap.size_push ..
 have m2:((s.heap.push (k.obj a)).push (enumObj s.heap.objs.size)).get? (s.heap.push (k.obj a)).objs.size=some (enumObj s.heap.objs.size):=Heap.get?_push_size _ rfl
 have m1:((s.heap.push (k.obj a)).push (enumObj s.heap.objs.size)).get? s.heap.objs.size=some (k.obj a):=Heap.get?_push_of_some _ (Heap.get?_push_size _ rfl)
 show _∧_
 rw [n1] at m2
 rw [n1]
 exact ⟨⟨_,m2,rfl⟩,q _ m2 (.of ⟨_,m1,rfl,rfl⟩) fun b o' r=>Heap.get?_push_of_some _ (Heap.get?_push_of_some _ r)⟩
end
theorem boot_enum':bootBuiltins "enumerate" = some (.type "enumerate"):=by decide +kernel
section
variable {X:Cx} {es:List Expr} {x1:Nat} {tp:Pos}
def iEnum (k:SK) (K:PySem.W.Frag) (ta:TA):TI:=fun σ H R=>ta σ H fun vs H1=>∃ a,vs=[.ref a]∧(∃ xs,k.Sq K H1 a xs)∧R (Ite k K a) H1
theorem ne3 {n a:Addr} (la:a < n):n+1≠n∧a≠n+1∧a≠n:=by
 have la':@LT.lt Nat _ a n:=la
 refine ⟨fun h=>?_,fun h=>?_,fun h=>?_⟩ <;> (have h':@Eq Nat _ _:=h; clear h la; omega)
theorem pi_enum (k:SK) {a:Expr} {ta:TA} {p pos:Pos} (hg:Gl X "enumerate") (hm:X.mg "enumerate" = none) (ha:PA X [a] ta) (hs:starEach [a] X.env=[(false,eval a X.env)]:=by rfl) :
 PI X (.Tuple es x1 tp) (.Call (.Name "enumerate" p) [a] [] pos) (iEnum k X.K ta):=by
 intro pins s σ H R I h
 refine Call_ (ld_blt I hg hm boot_enum' (PyProof.Rows.callWith_type1 (thn (ha pos pins s σ H _ I h) fun us s1 ⟨vs,H1,I1,r1,q1⟩=>?_) hs rfl))
 obtain ⟨a,e,⟨xs,hx⟩,q⟩:=q1
 subst e
 cases r1 with
 | cons r rr =>
   cases rr
   cases r
   obtain ⟨us,ru,pu⟩:=hx.is I1
   have la:a < s1.heap.objs.size:=by obtain ⟨_,_,e,_⟩:=pu.ex; exact Heap.lt_size e
   refine call_enum pu fun h1 m1 m4 m7=>wpAny_pyIter_enum m1 ?_
   have I2:Inv X pins σ H1 { s1 with heap:=h1,toks:=s1.toks }:=I1.kept m7
   obtain ⟨z1,z2,z3⟩:=ne3 la
   refine ⟨_,_,_,_,H1,rfl,I2,turn_enum (e:=s1.heap.objs.size+1) (it:=s1.heap.objs.size) (k:=k) (a:=a) z1 z2 z3,⟨⟨_,m1⟩,m4⟩,?_,q⟩
   exact I1.fps (fp:=[s1.heap.objs.size+1,s1.heap.objs.size]) (by
    intro e he
    simp only [List.mem_cons,List.not_mem_nil,or_false] at he
    rcases he with rfl | rfl
    · exact Nat.le_succ _
    · exact Nat.le_refl _)
end
theorem lc_gen {J:It} {n:Nat} {D:Addr} {g:TG} {tt:TT} {te:TE} {σ0:St} {H:Hp} {Q:VK} (Pv:Nat→St→Hp→Prop) (h0:Pv 0 σ0 (upd H D (.lst [])))
 (hx:∀ i σ H,i < n→Pv i σ H→J.go i H) (hz:∀ σ H,Pv n σ H→J.stop n H)
 (hs:∀ i x σ2 H2 H3,i < n→J.yld i H2 x H3→Pv i σ2 H2→g x σ2 H3 fun σ4 H4=>tt σ4 H4 fun b H5=>if b=true then te σ4 H5 fun y H6=>∃ ys,H6 D=some (.lst ys)∧ys.length < sizeLine ∧
   ∃ m',m' < n - i∧LcN n Pv (i+1) m' σ4 (upd H6 D (.lst (ys++[y]))) else ∃ m',m' < n - i∧LcN n Pv (i+1) m' σ4 H5)
 (hd:∀ σ2 H2,Pv n σ2 H2→Q (.ref D) H2):LcGo J g tt te σ0 H D Q:=by
 refine ⟨LcN n Pv,⟨_,Nat.zero_le _,rfl,h0⟩,?_⟩
 rintro i m σ2 H2 ⟨hi,rfl,p⟩
 by_cases hlt:i < n
 · exact .inr ⟨hx i σ2 H2 hlt p,fun x H3 y=>hs i x σ2 H2 H3 hlt y p⟩
 · have e:i=n:=by omega
   subst e
   exact .inl ⟨hz σ2 H2 p,hd σ2 H2 p⟩
theorem for_gen {J:It} {n:Nat} {g:TG} {tb:TS} {D:Ends} {σ:St} {H:Hp} (Pv:Nat→St→Hp→Prop) (h0:Pv 0 σ H)
 (hx:∀ i σ H,i < n→Pv i σ H→J.go i H) (hz:∀ σ H,Pv n σ H→J.stop n H)
 (hs:∀ i x σ H H',i < n→J.yld i H x H'→Pv i σ H→g x σ H' fun σ2 H2=>tb { D with nx:=Pv (i+1),ct:=Pv (i+1),bk:=D.nx } σ2 H2) (hd:∀ σ H,Pv n σ H→D.nx σ H) :
 ∃ W:Nat→Nat→St→Hp→Prop,(∃ m,W 0 m σ H)∧∀ i m σ H,W i m σ H →
   (J.stop i H∧D.nx σ H)∨(J.go i H∧∃ N:St→Hp→Prop,(∀ σ' H',N σ' H'→∃ m',m' < m∧W (i+1) m' σ' H')∧∀ x H',J.yld i H x H'→g x σ H' fun σ2 H2=>tb { D with nx:=N,ct:=N,bk:=D.nx } σ2 H2):=by
 refine ⟨fun i m σ H=>m=n - i∧i≤n∧Pv i σ H,⟨n,by simp,Nat.zero_le _,h0⟩,?_⟩
 rintro i m σ H ⟨rfl,hi,p⟩
 by_cases hlt:i < n
 · exact .inr ⟨hx i σ H hlt p,Pv (i+1),fun σ' H' p'=>⟨n - (i+1),by omega,rfl,hlt,p'⟩,fun x H' y=>hs i x σ H H' hlt y p⟩
 · have e:i=n:=by omega
   subst e
   exact .inl ⟨hz σ H p,hd σ H p⟩
end L2
namespace STb
open PySem
def step (M:Nat) (q:Nat×Nat):Nat×Nat:=SetTable.leap M q.1 q.2
def nth (M:Nat):Nat→Nat×Nat→Nat×Nat
 | 0,q=>q
 | n+1,q=>nth M n (step M q)
theorem nth_succ (M n:Nat) (q:Nat×Nat):nth M (n+1) q=step M (nth M n q):=by
 induction n generalizing q with
 | zero=>rfl
 | succ n ih=>exact ih (step M q)
theorem nth_add (M a b:Nat) (q:Nat×Nat):nth M (a+b) q=nth M b (nth M a q):=by
 induction a generalizing q with
 | zero=>rw [Nat.zero_add]; rfl
 | succ a ih=>rw [Nat.succ_add]; exact ih (step M q)
theorem nth_snd (M n:Nat) (q:Nat×Nat):(nth M n q).2=q.2 / 32 ^ n:=by
 induction n generalizing q with
 | zero=>simp [nth]
 | succ n ih =>
   show (nth M n (step M q)).2=_
   rw [ih]
   show q.2 / 32 / 32 ^ n=_
   rw [Nat.div_div_eq_div_mul,Nat.pow_succ,Nat.mul_comm]
def fz (M:Nat) (i:Nat):Nat:=(i * 5+1) % (M+1)
def fzn (M:Nat):Nat→Nat→Nat
 | 0,i=>i
 | n+1,i=>fzn M n (fz M i)
theorem nth_fz (M n:Nat) (i:Nat):nth M n (i,0)=(fzn M n i,0):=by
 induction n generalizing i with
 | zero=>rfl
 | succ n ih =>
   show nth M n (step M (i,0))=_
   have e:step M (i,0)=(fz M i,0):=by
    unfold step SetTable.leap fz
    simp
   rw [e,ih]
   rfl
def masks (M:Nat):Prop:=M=7∨M=31∨M=127
def orb (M:Nat):List Nat:=(List.range (M+1)).map fun n=>fzn M n 0
theorem fzn_add (M a b i:Nat):fzn M (a+b) i=fzn M b (fzn M a i):=by
 induction a generalizing i with
 | zero=>rw [Nat.zero_add]; rfl
 | succ a ih=>rw [Nat.succ_add]; exact ih (fz M i)
def good (M:Nat):Bool:=(List.range (M+1)).all (fun j=>(orb M).contains j) && fzn M (M+1) 0 == 0
theorem good7:good 7=true:=by decide +kernel
theorem good31:good 31=true:=by decide +kernel
theorem good127:good 127=true:=by decide +kernel
theorem good_of {M:Nat} (h:masks M):good M=true:=by
 rcases h with rfl | rfl | rfl
 · exact good7
 · exact good31
 · exact good127
theorem reach {M i j:Nat} (h:masks M) (hi:i≤M) (hj:j≤M):∃ n,n≤M∧fzn M n i=j:=by
 have g:=good_of h
 unfold good at g
 rw [Bool.and_eq_true,List.all_eq_true] at g
 obtain ⟨g1,g2⟩:=g
 have g2':fzn M (M+1) 0=0:=by simpa using g2
 have mem:∀ j,j≤M→∃ a,a≤M∧fzn M a 0=j:=fun j hj=>by
  have:=g1 j (by simpa using Nat.lt_succ_of_le hj)
  have:j∈orb M:=by simpa using this
  unfold orb at this
  obtain ⟨a,ha,e⟩:=List.mem_map.mp this
  exact ⟨a,Nat.le_of_lt_succ (List.mem_range.mp ha),e⟩
 obtain ⟨a,ha,ea⟩:=mem i hi
 obtain ⟨b,hb,eb⟩:=mem j hj
 by_cases hab:a≤b
 · refine ⟨b - a,by omega,?_⟩
   rw [← ea,← fzn_add,show a+(b - a)=b by omega]
   exact eb
 · refine ⟨M+1 - a+b,by omega,?_⟩
   rw [← ea,← fzn_add,show a+(M+1 - a+b)=(M+1)+b by omega,fzn_add,g2']
   exact eb
theorem step_le (M:Nat) (q:Nat×Nat):(step M q).1≤M:=Nat.le_of_lt_succ (Nat.mod_lt _ (Nat.succ_pos _))
theorem nth_le {M n:Nat} {q:Nat×Nat} (h:q.1≤M):(nth M n q).1≤M:=by
 cases n with
 | zero=>exact h
 | succ n=>rw [nth_succ]; exact step_le M _
theorem meets {M i p j:Nat} (h:masks M) (hi:i≤M) (hp:p < 2 ^ 64) (hj:j≤M):∃ n,n≤M+13∧(nth M n (i,p)).1=j:=by
 have z:(nth M 13 (i,p)).2=0:=by
  rw [nth_snd]
  refine Nat.div_eq_of_lt (Nat.lt_of_lt_of_le hp ?_)
  decide
 have e:nth M 13 (i,p)=((nth M 13 (i,p)).1,0):=by rw [← z]
 obtain ⟨n,hn,en⟩:=reach h (nth_le (n:=13) (q:=(i,p)) hi) hj
 refine ⟨13+n,by omega,?_⟩
 rw [nth_add,e,nth_fz]
 exact en
theorem bits_lt (h:Int):SetTable.bits h < 2 ^ 64:=by
 unfold SetTable.bits
 have h1:(0:Int)≤h % 2 ^ 64:=Int.emod_nonneg _ (by decide)
 have h2:h % 2 ^ 64 < 2 ^ 64:=Int.emod_lt_of_pos _ (by decide)
 omega
theorem slot_empty {t:SetTable} {j:Nat} (hd:t.dummies=#[]) (hj:j∉t.place.toList):t.slot j=.empty:=by
 unfold SetTable.slot
 have h1:(t.place[SetTable.below t.place j]? == some j)=false:=by
  rw [beq_eq_false_iff_ne]
  intro e
  exact hj (by simpa using Array.mem_of_getElem? e)
 have h2:SetTable.has t.dummies j=false:=by
  rw [hd]; unfold SetTable.has
  simp
 simp only [h1,h2]
 rfl
theorem slot_cases {t:SetTable} {j:Nat} (hd:t.dummies=#[]):t.slot j=.empty∨∃ i,t.slot j=.live i∧t.place[i]? = some j:=by
 by_cases h:t.place[SetTable.below t.place j]? = some j
 · refine .inr ⟨_,?_,h⟩
   unfold SetTable.slot
   simp only [h,beq_self_eq_true,if_true]
 · left
   have h1:(t.place[SetTable.below t.place j]? == some j)=false:=beq_eq_false_iff_ne.mpr h
   have h2:SetTable.has t.dummies j=false:=by
    rw [hd]; unfold SetTable.has
    simp
   unfold SetTable.slot
   simp only [h1,h2]
   rfl
theorem exists_free (l:List Nat) (n:Nat) (h:l.length < n):∃ j,j < n∧j∉l:=by
 induction n generalizing l with
 | zero=>omega
 | succ n ih =>
   by_cases hm:n∈l
   · obtain ⟨j,hj,hl⟩:=ih (l.filter (·≠n)) (by
      have:(l.filter (·≠n)).length < l.length:=by
       refine List.length_filter_lt_length_iff_exists.mpr ⟨n,hm,by simp⟩
      omega)
     refine ⟨j,by omega,fun z=>hl ?_⟩
     rw [List.mem_filter]
     exact ⟨z,by simp; omega⟩
   · exact ⟨n,Nat.lt_succ_self n,hm⟩
def adv (t:SetTable):Nat→SetTable.Probe→SetTable.Probe
 | 0,p=>p
 | n+1,p=>adv t n (t.advance p)
theorem adv_add (t:SetTable) (a b:Nat) (p:SetTable.Probe):adv t (a+b) p=adv t b (adv t a p):=by
 induction a generalizing p with
 | zero=>rw [Nat.zero_add]; rfl
 | succ a ih=>rw [Nat.succ_add]; exact ih (t.advance p)
def start (t:SetTable) (q:Nat×Nat) (d:Option Nat):SetTable.Probe:={ j:=q.1,more:=SetTable.runEnd t.mask q.1 - q.1,i:=q.1,perturb:=q.2,dummy:=d }
theorem run_le (M i:Nat):SetTable.runEnd M i - i≤9:=by
 unfold SetTable.runEnd
 split <;> omega
theorem adv_run (t:SetTable):∀ (k:Nat) (p:SetTable.Probe),p.more=k→adv t (k+1) p=start t (step t.mask (p.i,p.perturb)) p.dummy
 | 0,p,h=>by
   show t.advance p=_
   unfold SetTable.advance
   rw [if_neg (by omega)]
   rfl
 | k+1,p,h=>by
   show adv t (k+1) (t.advance p)=_
   have e:t.advance p={ p with j:=p.j+1,more:=p.more - 1 }:=by
    unfold SetTable.advance
    rw [if_pos (by omega)]
   rw [e]
   have:=adv_run t k { p with j:=p.j+1,more:=p.more - 1 } (by show p.more - 1=k; omega)
   rw [this]
theorem adv_leaps (t:SetTable) (n:Nat) (q:Nat×Nat) (d:Option Nat):∃ m,m≤10 * n∧adv t m (start t q d)=start t (nth t.mask n q) d:=by
 induction n generalizing q with
 | zero=>exact ⟨0,Nat.le_refl _,rfl⟩
 | succ n ih =>
   obtain ⟨m,hm,e⟩:=ih (step t.mask q)
   refine ⟨(SetTable.runEnd t.mask q.1 - q.1)+1+m,?_,?_⟩
   · have:=run_le t.mask q.1; omega
   · rw [adv_add,adv_run t (SetTable.runEnd t.mask q.1 - q.1) (start t q d) rfl]
     exact e
def Near (t:SetTable) (n:Nat) (p:SetTable.Probe):Prop:=∃ m,m≤n∧t.slot (adv t m p).j=.empty
theorem near_start {t:SetTable} {h:Int} (hm:masks t.mask) (hd:t.dummies=#[]) (hl:t.place.size < t.mask+1):Near t (10 * (t.mask+13)) (t.probeStart h):=by
 obtain ⟨j,hj,hn⟩:=exists_free t.place.toList (t.mask+1) (by simpa using hl)
 have hi:SetTable.bits h % (t.mask+1)≤t.mask:=Nat.le_of_lt_succ (Nat.mod_lt _ (Nat.succ_pos _))
 obtain ⟨n,hn2,e⟩:=meets hm hi (bits_lt h) (Nat.le_of_lt_succ hj)
 obtain ⟨m,hm2,e2⟩:=adv_leaps t n (SetTable.bits h % (t.mask+1),SetTable.bits h) none
 refine ⟨m,by omega,?_⟩
 have:t.probeStart h=start t (SetTable.bits h % (t.mask+1),SetTable.bits h) none:=rfl
 rw [this,e2]
 show t.slot (nth t.mask n _).1=.empty
 rw [e]
 exact slot_empty hd hn
theorem adv_dummy (t:SetTable):∀ (n:Nat) (p:SetTable.Probe),(adv t n p).dummy=p.dummy
 | 0,_=>rfl
 | n+1,p=>by
   show (adv t n (t.advance p)).dummy=_
   rw [adv_dummy t n]
   unfold SetTable.advance
   split <;> rfl
theorem go_near {t:SetTable} {f:Nat→Int} {h:Int} (hd:t.dummies=#[]):∀ (n:Nat) (fuel:Nat) (p:SetTable.Probe),p.dummy=none→Near t n p→n < fuel →
 (∃ j,SetTable.probe.go t f h fuel p=some (.empty j none)∧t.slot j=.empty) ∨
 (∃ j i q,SetTable.probe.go t f h fuel p=some (.candidate j i q)∧t.slot j=.live i∧t.place[i]? = some j∧q.dummy=none∧∃ n',n' < n∧Near t n' q)
 | n,0,p,_,_,hf=>by omega
 | n,fuel+1,p,hp,⟨m,hm,e⟩,hf=>by
   rcases slot_cases (j:=p.j) hd with hs | ⟨i,hs,hi⟩
   · left
     refine ⟨p.j,?_,hs⟩
     unfold SetTable.probe.go
     rw [hs,hp]
   · have hm0:m≠0:=by
      rintro rfl
      have:t.slot p.j=.empty:=e
      rw [hs] at this
      cases this
     obtain ⟨k,rfl⟩:∃ k,m=k+1:=⟨m - 1,by omega⟩
     have e':t.slot (adv t k (t.advance p)).j=.empty:=e
     have hp':(t.advance p).dummy=none:=by
      have:=adv_dummy t 1 p
      exact this.trans hp
     by_cases hc:(f i == h)=true
     · right
       refine ⟨p.j,i,t.advance p,?_,hs,hi,hp',n - 1,by omega,k,by omega,e'⟩
       unfold SetTable.probe.go
       rw [hs]
       simp only [hc,if_true]
     · have:=go_near (f:=f) (h:=h) hd (n - 1) fuel (t.advance p) hp' ⟨k,by omega,e'⟩ (by omega)
       have eq:SetTable.probe.go t f h (fuel+1) p=SetTable.probe.go t f h fuel (t.advance p):=by
        conv=>lhs; unfold SetTable.probe.go
        rw [hs]
        simp only [hc,if_false]
        rfl
       rw [eq]
       rcases this with r | ⟨j,i',q,r1,r2,r3,r4,n',r5,r6⟩
       · exact .inl r
       · exact .inr ⟨j,i',q,r1,r2,r3,r4,n',by omega,r6⟩
theorem free_some {M:Nat} {owner:Array (Option Nat)}:∀ (n fuel:Nat) (q:Nat×Nat),(∃ m,m≤n∧(owner.getD (nth M m q).1 (some 0)).isNone=true)→n < fuel →
 ∃ j,SetTable.layClean.free M owner fuel q.1 q.2=some j∧(owner.getD j (some 0)).isNone=true
 | n,0,_,_,hf=>by omega
 | n,fuel+1,q,⟨m,hm,e⟩,hf=>by
   unfold SetTable.layClean.free
   cases hfi:(List.range (SetTable.runEnd M q.1+1 - q.1)).find? fun k=>(owner.getD (q.1+k) (some 0)).isNone with
   | some k =>
     refine ⟨q.1+k,rfl,?_⟩
     exact (List.find?_some (p:=fun k=>(owner.getD (q.1+k) (some 0)).isNone) hfi)
   | none =>
     have hm0:m≠0:=by
      rintro rfl
      have e0:(owner.getD q.1 (some 0)).isNone=true:=e
      have:=List.find?_eq_none.mp hfi 0 (by
       rw [List.mem_range]
       unfold SetTable.runEnd
       split <;> omega)
      rw [Nat.add_zero] at this
      exact this e0
     obtain ⟨k,rfl⟩:∃ k,m=k+1:=⟨m - 1,by omega⟩
     exact free_some (n - 1) fuel (step M q) ⟨k,by omega,e⟩ (by omega)
def cnt (owner:Array (Option Nat)):Nat:=owner.toList.countP (·.isSome)
structure Own (M n:Nat) (owner:Array (Option Nat)):Prop where
 size:owner.size=M+1
 cnt:cnt owner=n
 lt:∀ (j k:Nat),owner[j]? = some (some k)→k < n
theorem countP_lt_exists {α:Type} (p:α→Bool):∀ (l:List α),l.countP p < l.length→∃ (j:Nat) (x:α),l[j]? = some x∧p x=false
 | [],h=>by simp at h
 | x :: l,h=>by
   by_cases hx:p x=true
   · rw [List.countP_cons,if_pos hx,List.length_cons] at h
     obtain ⟨j,y,e,hy⟩:=countP_lt_exists p l (by omega)
     exact ⟨j+1,y,by simpa using e,hy⟩
   · exact ⟨0,x,rfl,by simpa using hx⟩
theorem countP_set {α:Type} (p:α→Bool):∀ (l:List α) (j:Nat) (x y:α),l[j]? = some x→p x=false→p y=true→(l.set j y).countP p=l.countP p+1
 | [],j,x,y,h,_,_=>by simp at h
 | z :: l,0,x,y,h,hx,hy=>by
   have:z=x:=by simpa using h
   subst this
   simp [List.countP_cons,hx,hy]
 | z :: l,j+1,x,y,h,hx,hy=>by
   have:=countP_set p l j x y (by simpa using h) hx hy
   simp only [List.set_cons_succ,List.countP_cons,this]
   omega
theorem Own.free {M n:Nat} {owner:Array (Option Nat)} (o:Own M n owner) (hm:masks M) (hn:n < M+1) (h:Int):∃ j,SetTable.layClean.free M owner (SetTable.turns M) (SetTable.bits h % (M+1)) (SetTable.bits h)=some j∧owner[j]? = some none:=by
 obtain ⟨j,x,e,hx⟩:=countP_lt_exists (fun x:Option Nat=>x.isSome) owner.toList (by
  have:owner.toList.countP (fun x:Option Nat=>x.isSome)=n:=o.cnt
  rw [this,Array.length_toList,o.size]; exact hn)
 have hj:j≤M:=by
  have:=(List.getElem?_eq_some_iff.mp e).1
  rw [Array.length_toList,o.size] at this
  omega
 have e':owner[j]? = some x:=by simpa using e
 obtain ⟨m,hm2,em⟩:=meets hm (Nat.le_of_lt_succ (Nat.mod_lt (SetTable.bits h) (Nat.succ_pos M))) (bits_lt h) hj
 obtain ⟨j',r1,r2⟩:=free_some (M:=M) (owner:=owner) (M+13) (SetTable.turns M) (SetTable.bits h % (M+1),SetTable.bits h) ⟨m,hm2,by
  rw [em,Array.getD_eq_getD_getElem?,e']
  cases x with
  | none=>rfl
  | some _=>cases hx⟩ (by unfold SetTable.turns; omega)
 refine ⟨j',r1,?_⟩
 rw [Array.getD_eq_getD_getElem?] at r2
 cases q:owner[j']? with
 | none=>rw [q] at r2; cases r2
 | some y =>
   rw [q] at r2
   cases y with
   | none=>rfl
   | some _=>cases r2
theorem Own.put {M n:Nat} {owner:Array (Option Nat)} (o:Own M n owner) {j:Nat} (hj:owner[j]? = some none):Own M (n+1) (owner.setIfInBounds j (some n)) where
 size:=by rw [Array.size_setIfInBounds]; exact o.size
 cnt:=by
  unfold STb.cnt
  rw [Array.toList_setIfInBounds]
  rw [countP_set (fun x:Option Nat=>x.isSome) owner.toList j none (some n) (by simpa using hj) rfl rfl]
  have:owner.toList.countP (fun x:Option Nat=>x.isSome)=n:=o.cnt
  rw [this]
 lt:=fun i k e=>by
  rw [Array.getElem?_setIfInBounds] at e
  split at e
  · split at e
    · have:n=k:=by simpa using e
      omega
    · cases e
  · have:=o.lt i k e; omega
def layStep (M:Nat) (acc:Option (Array (Option Nat)×Nat)) (h:Int):Option (Array (Option Nat)×Nat):=do
 let (owner,k) ← acc
 let j ← SetTable.layClean.free M owner (SetTable.turns M) (SetTable.bits h % (M+1)) (SetTable.bits h)
 pure (owner.setIfInBounds j (some k),k+1)
theorem lay_fold {M:Nat} (hm:masks M):∀ (hs:List Int) (n:Nat) (owner:Array (Option Nat)),Own M n owner→n+hs.length < M+1→∃ owner',hs.foldl (layStep M) (some (owner,n))=some (owner',n+hs.length)∧Own M (n+hs.length) owner'
 | [],n,owner,o,_=>⟨owner,rfl,o⟩
 | h :: hs,n,owner,o,hl=>by
   rw [List.length_cons] at hl
   obtain ⟨j,r1,r2⟩:=o.free hm (by omega) h
   have e:layStep M (some (owner,n)) h=some (owner.setIfInBounds j (some n),n+1):=by
    unfold layStep
    show (SetTable.layClean.free M owner (SetTable.turns M) (SetTable.bits h % (M+1)) (SetTable.bits h)).bind _=_
    rw [r1]
    rfl
   obtain ⟨owner',e2,o2⟩:=lay_fold hm hs (n+1) _ (o.put r2) (by omega)
   refine ⟨owner',?_,?_⟩
   · rw [List.foldl_cons,e,e2,List.length_cons]; congr 2; omega
   · rw [List.length_cons,show n+(hs.length+1)=n+1+hs.length by omega]; exact o2
theorem own0 (M:Nat):Own M 0 (Array.replicate (M+1) none) where
 size:=by simp
 cnt:=by
  unfold STb.cnt
  rw [Array.toList_replicate,List.countP_replicate]
  rfl
 lt:=fun j k e=>by
  rw [Array.getElem?_replicate] at e
  split at e <;> cases e
theorem layClean_ok {M:Nat} (hm:masks M) (hs:Array Int) (hl:hs.size < M+1):∃ owner,SetTable.layClean M hs=some owner∧Own M hs.size owner:=by
 obtain ⟨owner,e,o⟩:=lay_fold hm hs.toList 0 _ (own0 M) (by simpa using hl)
 refine ⟨owner,?_,by simpa using o⟩
 unfold SetTable.layClean
 rw [← Array.foldl_toList]
 have:(hs.toList.foldl (layStep M) (some (Array.replicate (M+1) none,0)))=some (owner,0+hs.toList.length):=e
 show (List.foldl (layStep M) (some (Array.replicate (M+1) none,0)) hs.toList).map (·.1)=some owner
 rw [this]
 rfl
theorem filterMap_len {α β:Type} (f:α→Option β):∀ l:List α,(l.filterMap f).length=l.countP (fun x=>(f x).isSome)
 | []=>rfl
 | x :: l=>by
   rw [List.countP_cons]
   cases h:f x with
   | none=>rw [List.filterMap_cons_none h,filterMap_len f l]; simp
   | some y=>rw [List.filterMap_cons_some h,List.length_cons,filterMap_len f l]; simp
theorem live_len {M n:Nat} {owner:Array (Option Nat)} (o:Own M n owner):((List.range (M+1)).filterMap fun j=>(owner.getD j none).map (j,·)).length=n:=by
 rw [filterMap_len]
 have e:(List.range (M+1)).countP (fun j=>((owner.getD j none).map (j,·)).isSome)=(List.range owner.size).countP (fun j=>(owner.getD j none).isSome):=by
  rw [o.size]
  refine List.countP_congr fun j _=>?_
  cases owner.getD j none <;> simp
 rw [e]
 have e2:owner.toList=(List.range owner.size).map (fun j=>owner.getD j none):=by
  refine List.ext_getElem (by simp) fun i h1 h2=>?_
  have hi:i < owner.size:=by simpa using h1
  simp [Array.getD,hi]
 have:=o.cnt
 unfold STb.cnt at this
 rw [e2,List.countP_map] at this
 exact this
theorem live_lt {M n:Nat} {owner:Array (Option Nat)} (o:Own M n owner):∀ q∈((List.range (M+1)).filterMap fun j=>(owner.getD j none).map (j,·)),q.2 < n:=fun q hq=>by
 obtain ⟨j,_,e⟩:=List.mem_filterMap.mp hq
 cases h:owner.getD j none with
 | none=>rw [h] at e; cases e
 | some k =>
   rw [h] at e
   have e':(j,k)=q:=by simpa using e
   rw [← e']
   refine o.lt j k ?_
   rw [Array.getD_eq_getD_getElem?] at h
   cases g:owner[j]? with
   | none=>rw [g] at h; cases h
   | some y=>rw [g] at h; exact congrArg some h
theorem relaid_ok {t:SetTable} {hs:Array Int} {wanted M:Nat} (hM:SetTable.sizeAbove wanted - 1=M) (hm:masks M) (hl:hs.size < M+1):∃ (t':SetTable) (order:Array Nat),t.relaid hs wanted=some (t',order) ∧
 t'.mask=M∧t'.dummies=#[]∧t'.place.size=hs.size∧order.size=hs.size∧∀ k∈order.toList,k < hs.size:=by
 obtain ⟨owner,e,o⟩:=layClean_ok hm hs hl
 unfold SetTable.relaid SetTable.laid
 rw [hM,e]
 refine ⟨_,_,rfl,rfl,rfl,?_,?_,fun k hk=>?_⟩
 · simp only [List.size_toArray,List.length_map]; exact live_len o
 · simp only [List.size_toArray,List.length_map]; exact live_len o
 · have hk':k∈List.map (fun q:Nat×Nat=>q.2) ((List.range (M+1)).filterMap fun j=>(owner.getD j none).map (j,·)):=hk
   obtain ⟨q,hq,rfl⟩:=List.mem_map.mp hk'
   exact live_lt o q hq
theorem pick_size {α:Type} {es:Array α} {order:Array Nat} (h1:order.size=es.size) (h2:∀ k∈order.toList,k < es.size):(order.filterMap (es[·]?)).size=es.size∧∀ x∈(order.filterMap (es[·]?)).toList,x∈es.toList:=by
 constructor
 · rw [← Array.length_toList,Array.toList_filterMap,filterMap_len,← h1,← Array.length_toList]
   rw [List.countP_eq_length]
   intro k hk
   have:k < es.size:=h2 k hk
   simp [this]
 · intro x hx
   rw [Array.toList_filterMap] at hx
   obtain ⟨k,_,e⟩:=List.mem_filterMap.mp hx
   exact by simpa using Array.mem_of_getElem? e
theorem insertAt_size {α:Type} (xs:Array α) (p:Nat) (x:α):(SetTable.insertAt xs p x).size=xs.size+1:=by
 unfold SetTable.insertAt
 simp only [Array.size_append,Array.size_push,Array.size_extract]
 omega
theorem insertAt_mem {α:Type} {xs:Array α} {p:Nat} {x y:α} (h:y∈(SetTable.insertAt xs p x).toList):y=x∨y∈xs.toList:=by
 unfold SetTable.insertAt at h
 rw [Array.toList_append,Array.toList_push,List.mem_append,List.mem_append] at h
 rcases h with (h | h) | h
 · right; rw [Array.toList_extract] at h; exact List.mem_of_mem_drop (List.mem_of_mem_take h)
 · left; simpa using h
 · right; rw [Array.toList_extract] at h; exact List.mem_of_mem_drop (List.mem_of_mem_take h)
end STb
namespace L2
open PySem PySem.Spec PyProof.Rows
section
variable {prog:Program} {w:World} {A:Around} {E:Value→Shared→Prop} {s:Shared} {K:Type} [DecidableEq K] {knd:KeyKind prog w K}
structure TupSet (knd:KeyKind prog w K) (h:Heap) (S:Addr) (ks:List (List K)) (es:Array (Int×Value)) (t:SetTable) (ep:Nat) (o:Obj):Prop where
 get:h.get? S=some o
 ex:o.ExactSet
 dat:o.data=.set es ep t
 mem:∀ e∈es.toList,∃ a k,e.2=.ref a∧k∈ks∧IsTupleKey knd h k a
 len:es.size=ks.length
 pl:t.place.size=es.size
 dum:t.dummies=#[]
 msk:STb.masks t.mask
 few:es.size * 5 < t.mask * 3
theorem TupSet.fits {h:Heap} {S:Addr} {ks:List (List K)} {es:Array (Int×Value)} {t:SetTable} {ep:Nat} {o:Obj} (T:TupSet knd h S ks es t ep o):t.fits es.size=true:=by
 unfold SetTable.fits SetTable.fill
 rw [T.dum,T.pl]
 have:=T.few
 have:es.size+(#[]:Array Nat).size≤t.mask:=by show es.size+0≤t.mask; omega
 simp
 show es.size≤t.mask
 exact this
theorem TupSet.way {h:Heap} {S:Addr} {ks:List (List K)} {es:Array (Int×Value)} {t:SetTable} {ep:Nat} {o:Obj} (T:TupSet knd h S ks es t ep o):t.gaveWay=false:=by
 unfold SetTable.gaveWay
 rcases T.msk with e | e | e <;> rw [e] <;> rfl
theorem class_tuple {ks:List K} {a:Addr} {n:Nat} {Q:Bool→Shared→Prop} (hk:IsTupleKey knd s.heap ks a) (h:Q false s):wpAny (model prog w) A (ofAClassStatement (n+1) (.ref a)) Q E s:=by
 have hT:=hk.typeIs
 obtain ⟨o,items,m,ho,_,hd,hi⟩:=hk
 unfold ofAClassStatement
 refine wpAny_bind (wpAny_typeOf hT ?_)
 simp only [beq_self_eq_true,if_true]
 refine wpAny_bind (wpAny_pure ?_)
 simp only [Bool.not_true,Bool.false_eq_true,if_false]
 refine wpAny_bind (wpAny_seqItems ho hd ?_)
 refine wpAny_bind ?_
 show wpAny _ _ (forIn items _ _) _ _ s
 rw [← Array.forIn_toList]
 refine wpAny_forIn_list _ (fun rest r s'=>r.1=none∧s'=s∧∀ v∈rest,carriedByValue v=true) _ ?_ ?_ _ _ ⟨rfl,rfl,hi.byValue⟩
 · rintro v rest r s' ⟨hr,rfl,hall⟩
   have hv:=hall v List.mem_cons_self
   have e:ofAClassStatement n v=pure false:=by
    cases v <;> first | (unfold ofAClassStatement; rfl) | (cases hv)
   rw [e]
   refine wpAny_bind (wpAny_pure ?_)
   simp only [Bool.false_eq_true,if_false]
   exact wpAny_pure ⟨rfl,rfl,fun u hu'=>hall u (List.mem_cons_of_mem _ hu')⟩
 · rintro ⟨r1,r2⟩ s' ⟨hr,rfl,_⟩
   simp only at hr
   subst hr
   exact wpAny_pure h
theorem unseen {k:List K} {a:Addr} {Q:Bool→Shared→Prop} (hk:IsTupleKey knd s.heap k a) (l:List Value) (hl:∀ y∈l,∃ b k',y=.ref b∧IsTupleKey knd s.heap k' b) (h:Q false s) :
 wpAny (model prog w) A (searchCouldBeSeen (.ref a) l) Q E s:=by
 unfold searchCouldBeSeen
 refine wpAny_bind ?_
 refine wpAny_forIn_list _ (fun rest r s'=>r.1=none∧s'=s∧∀ y∈rest,∃ b k',y=.ref b∧IsTupleKey knd s.heap k' b) _ ?_ ?_ _ _ ⟨rfl,rfl,hl⟩
 · rintro y rest r s' ⟨hr,rfl,hall⟩
   obtain ⟨b,k',rfl,hb⟩:=hall y List.mem_cons_self
   have rest':∀ y∈rest,∃ b k',y=.ref b∧IsTupleKey knd s'.heap k' b:=fun u hu=>hall u (List.mem_cons_of_mem _ hu)
   dsimp only
   split
   · exact wpAny_pure ⟨rfl,rfl,rest'⟩
   · refine wpAny_bind (wpAny_eqIsQuiet_tuple hk ?_)
     simp only [Bool.not_true,Bool.false_eq_true,if_false]
     refine wpAny_bind (wpAny_eqIsQuiet_tuple hb ?_)
     simp only [Bool.not_true,Bool.false_eq_true,if_false]
     refine wpAny_bind (class_tuple hk ?_)
     simp only [Bool.false_eq_true,if_false]
     refine wpAny_bind (class_tuple hb ?_)
     simp only [Bool.false_eq_true,if_false]
     exact wpAny_pure ⟨rfl,rfl,rest'⟩
 · rintro ⟨r1,r2⟩ s' ⟨hr,rfl,_⟩
   simp only at hr
   subst hr
   exact wpAny_pure h
theorem probe_cases {F:Nat→Int} {t:SetTable} {h:Int} {p:SetTable.Probe} {n:Nat} {met:Option SetTable.Met} (e:t.probe F h p=met) (hd:t.dummies=#[]) (hp:p.dummy=none) (hN:STb.Near t n p) (hn:n < 10 * SetTable.turns t.mask) :
 (∃ j,met=some (.empty j none)∧t.slot j=.empty)∨(∃ j i q,met=some (.candidate j i q)∧t.slot j=.live i∧t.place[i]? = some j∧q.dummy=none∧∃ n',n' < n∧STb.Near t n' q):=by
 subst e
 exact STb.go_near hd n _ p hp hN hn
theorem search {S a:Addr} {ks:List (List K)} {es:Array (Int×Value)} {t:SetTable} {ep:Nat} {o:Obj} {k:List K} {h:Int} {Q:SetFound→Shared→Prop} (hu:A.units < cLine) (T:TupSet knd s.heap S ks es t ep o) (hk:IsTupleKey knd s.heap k a) (hn:k∉ks)
 (q:∀ j,t.slot j=.empty→Q (.free j false) s):∀ (n fuel:Nat) (stand:Option SetTable.Probe),n < fuel→n < 10 * SetTable.turns t.mask→(stand.getD (t.probeStart h)).dummy=none→STb.Near t n (stand.getD (t.probeStart h)) →
 wpAny (model prog w) A (setSearchFrom S (.ref a) h true fuel stand) Q E s:=by
 intro n
 induction n using Nat.strongRecOn with
 | ind n ih =>
   intro fuel stand hf hn2 hd hN
   obtain ⟨f,rfl⟩:∃ f,fuel=f+1:=⟨fuel - 1,by omega⟩
   unfold setSearchFrom
   refine wpAny_bind (wpAny_setState_of T.get T.dat T.fits ?_)
   dsimp only
   rw [T.way]
   simp only [Bool.false_eq_true,if_false]
   split
   rotate_left
   · rename_i heq
     exact ((probe_cases rfl T.dum hd hN hn2).elim (fun ⟨j,e,_⟩=>heq _ e) (fun ⟨j,i,p,e,_⟩=>heq _ e)).elim
   rename_i met heq
   rcases probe_cases heq T.dum hd hN hn2 with ⟨j,e,hj⟩ | ⟨j,i,p,e,hs,hi,hp,n',hn',hN'⟩
   · cases e
     exact wpAny_pure (q j hj)
   · cases e
     dsimp only
     have hi2:i < es.size:=by rw [← T.pl]; exact (Array.getElem?_eq_some_iff.mp hi).1
     obtain ⟨y,hy⟩:∃ y,es[i]? = some y:=⟨_,Array.getElem?_eq_getElem hi2⟩
     obtain ⟨h0,y⟩:=y
     obtain ⟨b,k',rfl,hk',hb⟩:=(by simpa using T.mem (h0,y) (by simpa using Array.mem_of_getElem? hy):∃ b k',y=.ref b∧k'∈ks∧IsTupleKey knd s.heap k' b)
     have core:wpAny (model prog w) A (do
      let some (_,y):=es[i]? | unsupported "internal:set-entry"
      let equal ← holding [y] (eqBool y (.ref a))
      let (es',_,t') ← setState S
      if true && equal then return SetFound.there none
      let some same:=t'.sameMemory t.moves t.mask | unsupported "set.changed-during-lookup:is-the-new-block-at-the-old-address"
      let still ← match (if same then t'.slot j else .empty) with
       | .live i'=>match es'[i']? with
         | some (_,y')=>do pure (if ← isSame y' y then some i' else none)
         | none=>pure none
       | _=>pure none
      match still with
      | none=>rule "set.search.anew"; setSearchFrom S (.ref a) h true f none
      | some i'=>if equal then return .there (some i') else setSearchFrom S (.ref a) h true f (some p)) Q E s:=by
      rw [hy]
      dsimp only
      refine wpAny_bind (wpAny_holding (wpAny_eqBool_tuple hu hb hk ?_))
      have ne:decide (k'=k)=false:=decide_eq_false (fun z=>hn (z ▸ hk'))
      rw [ne]
      refine wpAny_bind (wpAny_setState_of T.get T.dat T.fits ?_)
      dsimp only
      simp only [Bool.and_false,Bool.false_eq_true,if_false]
      have sm:t.sameMemory t.moves t.mask=some true:=by unfold SetTable.sameMemory; simp
      rw [sm]
      dsimp only
      simp only [if_true,hs,hy]
      refine wpAny_bind (wpAny_isSame_ref_self ?_)
      simp only [if_true]
      refine wpAny_bind (wpAny_pure ?_)
      dsimp only
      exact ih n' hn' f (some p) (by omega) (by omega) hp hN'
     by_cases hl:t.led=true
     · rw [hl]
       simp only [Bool.not_true,Bool.false_eq_true,if_false]
       exact core
     · have hl':t.led=false:=by simpa using hl
       rw [hl']
       simp only [Bool.not_false,if_true]
       refine wpAny_bind (unseen hk _ (fun y hy=>?_) ?_)
       · obtain ⟨z,hz,rfl⟩:=List.mem_map.mp hy
         obtain ⟨b,k',e1,_,e3⟩:=T.mem z (by
          have hz':z∈es∧z.1=h:=by simpa using hz
          simpa using hz'.1)
         exact ⟨b,k',e1,e3⟩
       · simp only [Bool.false_eq_true,if_false]
         exact core
end
end L2
namespace L2
open PySem PySem.Spec PyProof.Rows
section
variable {prog:Program} {w:World} {A:Around} {E:Value→Shared→Prop} {s:Shared} {K:Type} [DecidableEq K] {knd:KeyKind prog w K}
theorem byvalue_any {ks:List K} {a:Addr} {n:Nat} {Q:Bool→Shared→Prop} (hk:IsTupleKey knd s.heap ks a) (h:∀ b,Q b s):wpAny (model prog w) A (hashByValue (n+1) (.ref a)) Q E s:=by
 have hT:=hk.typeIs
 obtain ⟨o,items,m,ho,_,hd,hi⟩:=hk
 unfold hashByValue
 refine wpAny_bind (wpAny_specialOf hT F.slot_tuple_hash.lookup ?_)
 dsimp only
 refine wpAny_bind (wpAny_seqItems ho hd ?_)
 refine wpAny_bind ?_
 show wpAny _ _ (forIn items _ _) _ _ s
 rw [← Array.forIn_toList]
 refine wpAny_forIn_list _ (fun rest r s'=>s'=s∧∀ v∈rest,carriedByValue v=true) _ ?_ ?_ _ _ ⟨rfl,hi.byValue⟩
 · rintro v rest r s' ⟨rfl,hall⟩
   have hv:=hall v List.mem_cons_self
   have rest':∀ u∈rest,carriedByValue u=true:=fun u hu'=>hall u (List.mem_cons_of_mem _ hu')
   have e:∃ b,hashByValue n v=pure b:=by
    cases v <;> first | exact ⟨_,by unfold hashByValue; rfl⟩ | (cases hv)
   obtain ⟨b,e⟩:=e
   rw [e]
   refine wpAny_bind (wpAny_pure ?_)
   cases b
   · simp only [Bool.not_false,if_true]; exact wpAny_pure (wpAny_pure (h _))
   · simp only [Bool.not_true,Bool.false_eq_true,if_false]; exact wpAny_pure ⟨rfl,rest'⟩
 · rintro ⟨r1,r2⟩ s' ⟨rfl,_⟩
   cases r1 with
   | none=>exact wpAny_pure (h _)
   | some b=>exact wpAny_pure (h _)
theorem TupSet.store {h:Heap} {S:Addr} {ks':List (List K)} {es es':Array (Int×Value)} {t t':SetTable} {ep:Nat} {o:Obj} (get:h.get? S=some o) (ex:o.ExactSet) (dat:o.data=.set es ep t) (mem:∀ e∈es'.toList,∃ a k,e.2=.ref a∧k∈ks'∧IsTupleKey knd h k a)
 (len:es'.size=ks'.length) (pl:t'.place.size=es'.size) (dum:t'.dummies=#[]) (msk:STb.masks t'.mask) (few:es'.size * 5 < t'.mask * 3) :
 TupSet knd (h.update S (Obj.putSet es' t')) S ks' es' t' (ep+1) { o with data:=.set es' (ep+1) t' }:=by
 have hg:(h.update S (Obj.putSet es' t')).get? S=some { o with data:=.set es' (ep+1) t' }:=by
  have:=Heap.get?_update_self (Obj.putSet es' t') get (by rw [putSet_of es' t' dat]; rfl)
  rw [putSet_of es' t' dat] at this; exact this
 refine ⟨hg,ex,rfl,fun e he=>?_,len,pl,dum,msk,few⟩
 obtain ⟨a,k,e1,e2,oa,items,n,e3,e4,e5,e6⟩:=mem e he
 have ne:a≠S:=by
  rintro rfl
  rw [get] at e3; cases e3
  rw [dat] at e5; cases e5
 exact ⟨a,k,e1,e2,oa,items,n,((Heap.SameBut.update h S _).2 a ne).trans e3,e4,e5,e6⟩
theorem grow_eq {n M:Nat} (hn:n≤30) (hm:STb.masks M) (h:n * 5 ≥ M * 3) (h2:(n - 1) * 5 < M * 3):STb.masks (SetTable.sizeAbove (SetTable.grown n) - 1)∧n < SetTable.sizeAbove (SetTable.grown n) - 1+1∧n * 5 < (SetTable.sizeAbove (SetTable.grown n) - 1) * 3∧¬ SetTable.sizeAbove (SetTable.grown n) > sizeLine:=by
 rcases hm with rfl | rfl | rfl
 · have:n=5:=by omega
   subst this
   exact ⟨.inr (.inl (by decide +kernel)),by decide +kernel,by decide +kernel,by decide +kernel⟩
 · have:n=19:=by omega
   subst this
   exact ⟨.inr (.inr (by decide +kernel)),by decide +kernel,by decide +kernel,by decide +kernel⟩
 · omega
theorem relay {S:Addr} {ks:List (List K)} {es:Array (Int×Value)} {t:SetTable} {ep:Nat} {o:Obj} {Q:Unit→Shared→Prop}
 (get:s.heap.get? S=some o) (ex:o.ExactSet) (dat:o.data=.set es ep t) (mem:∀ e∈es.toList,∃ a k,e.2=.ref a∧k∈ks∧IsTupleKey knd s.heap k a) (len:es.size=ks.length) (pl:t.place.size=es.size) (dum:t.dummies=#[]) (msk:STb.masks t.mask)
 (hn:ks.length≤30) (full:es.size * 5 ≥ t.mask * 3) (h2:(es.size - 1) * 5 < t.mask * 3)
 (q:∀ h' es' t' ep' o',Heap.SameBut S s.heap h'→TupSet knd h' S ks es' t' ep' o'→Q () { s with heap:=h' }):wpAny (model prog w) A (setRelay S (SetTable.grown es.size)) Q E s:=by
 have fit:t.fits es.size=true:=by
  unfold SetTable.fits SetTable.fill
  rw [dum,pl]
  simp
  show es.size≤t.mask
  rcases msk with e | e | e <;> rw [e] at h2 ⊢ <;> omega
 obtain ⟨g1,g2,g3,g4⟩:=grow_eq (by omega) msk full h2
 obtain ⟨t',order,e,r1,r2,r3,r4,r5⟩:=STb.relaid_ok (t:=t) (hs:=es.map (·.1)) (wanted:=SetTable.grown es.size) rfl g1 (by simpa using g2)
 have z:(es.map (·.1)).size=es.size:=by simp
 rw [z] at r3 r4 r5
 obtain ⟨p1,p2⟩:=STb.pick_size r4 r5
 unfold setRelay
 refine wpAny_bind (wpAny_setState_of get dat fit ?_)
 dsimp only
 rw [if_neg g4]
 rw [e]
 have hb:((order.filterMap (es[·]?)).size != es.size)=false:=by rw [p1]; simp
 refine wpAny_bind ?_
 have red:wpAny (model prog w) A (if ((order.filterMap (es[·]?)).size != es.size)=true then (unsupported "internal:set-table-lost-an-element" : Sem (Array (Int×Value)×SetTable)) else pure (order.filterMap (es[·]?),t')) (fun r s'=>wpAny (model prog w) A (storeSet S r.1 r.2) Q E s') E s:=by
  rw [hb,if_neg (by decide)]
  refine wpAny_pure ?_
  refine wpAny_storeSet_of get dat (q _ _ _ _ _ (Heap.SameBut.update ..) (TupSet.store get ex dat (fun x hx=>mem x (p2 x hx)) (p1.trans len) (r3.trans p1.symm) r2 (by rw [r1]; exact g1) (by rw [r1,p1]; exact g3))) (by rw [p1,sizeLine_eq]; omega)
 first
  | exact red
  | (refine wpAny_bind ?_; exact red)
  | trace_state
theorem put_place (t:SetTable) (j:Nat):(t.put j).1.place.size=t.place.size+1∧(t.dummies=#[]→(t.put j).1.dummies=#[])∧(t.put j).1.mask=t.mask:=by
 unfold SetTable.put
 refine ⟨STb.insertAt_size _ _ _,fun hd=>?_,rfl⟩
 have h2:SetTable.has t.dummies j=false:=by
  rw [hd]; unfold SetTable.has
  simp
 simp only [h2]
 exact hd
theorem add_hashed {S a:Addr} {ks:List (List K)} {es:Array (Int×Value)} {t:SetTable} {ep:Nat} {o:Obj} {k:List K} {h:Int} {Q:Bool→Shared→Prop} (hu:A.units < cLine) (T:TupSet knd s.heap S ks es t ep o) (hk:IsTupleKey knd s.heap k a) (hn:k∉ks) (hl:ks.length < 30)
 (q:∀ h' es' t' ep' o',Heap.SameBut S s.heap h'→TupSet knd h' S (k :: ks) es' t' ep' o'→Q true { s with heap:=h' }):wpAny (model prog w) A (setAddHashed S (.ref a) h) Q E s:=by
 unfold setAddHashed setAddHashedIn
 refine wpAny_holding (wpAny_bind (wpAny_setState_of T.get T.dat T.fits ?_))
 dsimp only
 rw [show byScan (.ref a) es=false from rfl]
 simp only [Bool.false_eq_true,if_false]
 have few:=T.few
 have lt:t.place.size < t.mask+1:=by rw [T.pl]; omega
 refine wpAny_bind (search hu T hk hn (fun j hj=>?_) (10 * (t.mask+13)) 100000 none (by rcases T.msk with e | e | e <;> rw [e] <;> decide) (by unfold SetTable.turns; omega) rfl (STb.near_start T.msk T.dum lt))
 dsimp only
 refine wpAny_bind (wpAny_setState_of T.get T.dat T.fits ?_)
 dsimp only
 obtain ⟨u1,u2,u3⟩:=put_place t j
 generalize hput:t.put j=tp at u1 u2 u3
 obtain ⟨t1,p⟩:=tp
 dsimp only at u1 u2 u3 ⊢
 have u2:=u2 T.dum
 have mem1:∀ e∈(SetTable.insertAt es p (h,Value.ref a)).toList,∃ b k',e.2=.ref b∧k'∈k :: ks∧IsTupleKey knd s.heap k' b:=fun e he=>by
  rcases STb.insertAt_mem he with rfl | he
  · exact ⟨a,k,rfl,List.mem_cons_self,hk⟩
  · obtain ⟨b,k',e1,e2,e3⟩:=T.mem e he
    exact ⟨b,k',e1,List.mem_cons_of_mem _ e2,e3⟩
 have sz1:(SetTable.insertAt es p (h,Value.ref a)).size=es.size+1:=STb.insertAt_size _ _ _
 have key:∀ t2:SetTable,t2.place=t1.place→t2.dummies=t1.dummies→t2.mask=t1.mask→wpAny (model prog w) A (do
  storeSet S (SetTable.insertAt es p (h,Value.ref a)) t2
  if (!false && t2.tooFull)=true then setRelay S (SetTable.grown (es.size+1))
  return true) Q E s:=by
  intro t2 e1 e2 e3
  have full:t2.tooFull=decide ((es.size+1) * 5 ≥ t.mask * 3):=by
   unfold SetTable.tooFull SetTable.fill
   rw [e1,e2,e3,u1,u2,u3,T.pl]
   rfl
  refine wpAny_bind (wpAny_storeSet_of T.get T.dat ?_ (by rw [sz1,sizeLine_eq,T.len]; omega))
  have hg:(s.heap.update S (Obj.putSet (SetTable.insertAt es p (h,Value.ref a)) t2)).get? S=some { o with data:=.set (SetTable.insertAt es p (h,Value.ref a)) (ep+1) t2 }:=by
   have:=Heap.get?_update_self (Obj.putSet (SetTable.insertAt es p (h,Value.ref a)) t2) T.get (by rw [putSet_of _ t2 T.dat]; rfl)
   rw [putSet_of _ t2 T.dat] at this; exact this
  have sb:=Heap.SameBut.update s.heap S (Obj.putSet (SetTable.insertAt es p (h,Value.ref a)) t2)
  by_cases hf:(es.size+1) * 5 ≥ t.mask * 3
  · rw [full,decide_eq_true hf]
    simp only [Bool.not_false,Bool.true_and,if_true]
    have mem2:∀ e∈(SetTable.insertAt es p (h,Value.ref a)).toList,∃ b k',e.2=.ref b∧k'∈k :: ks∧IsTupleKey knd (s.heap.update S (Obj.putSet (SetTable.insertAt es p (h,Value.ref a)) t2)) k' b:=fun e he=>by
     obtain ⟨b,k',f1,f2,ob,items,n,f3,f4,f5,f6⟩:=mem1 e he
     have ne:b≠S:=by
      rintro rfl
      rw [T.get] at f3; cases f3
      rw [T.dat] at f5; cases f5
     exact ⟨b,k',f1,f2,ob,items,n,(sb.2 b ne).trans f3,f4,f5,f6⟩
    rw [show es.size+1=(SetTable.insertAt es p (h,Value.ref a)).size from sz1.symm]
    refine wpAny_bind (relay (s:={ s with heap:=s.heap.update S (Obj.putSet (SetTable.insertAt es p (h,Value.ref a)) t2) }) hg T.ex rfl mem2 (by rw [sz1,T.len]; rfl) (by rw [e1,u1,T.pl,sz1]) (by rw [e2]; exact u2) (by rw [e3,u3]; exact T.msk) (by simp; omega) (by rw [sz1,e3,u3]; exact hf) (by rw [sz1,e3,u3]; simpa using few) fun h' es' t' ep' o' r1 r2=>?_)
    exact wpAny_pure (q h' es' t' ep' o' (sb.trans r1) r2)
  · rw [full,decide_eq_false hf]
    simp only [Bool.not_false,Bool.true_and,Bool.false_eq_true,if_false]
    have T2:=TupSet.store (es':=SetTable.insertAt es p (h,Value.ref a)) (t':=t2) (ks':=k :: ks) T.get T.ex T.dat mem1 (by rw [sz1,T.len]; rfl) (by rw [e1,u1,T.pl,sz1]) (by rw [e2]; exact u2) (by rw [e3,u3]; exact T.msk) (by rw [sz1,e3,u3]; omega)
    exact wpAny_pure (q _ _ _ _ _ sb T2)
 cases hpl:t1.plain with
 | true =>
   simp only [if_true]
   refine wpAny_bind (byvalue_any hk fun b=>?_)
   cases b
   · exact key _ rfl rfl rfl
   · exact key _ rfl rfl rfl
 | false =>
   simp only [Bool.false_eq_true,if_false]
   refine wpAny_bind (wpAny_pure ?_)
   exact key _ rfl rfl rfl
theorem add_tuple {S a:Addr} {ks:List (List K)} {es:Array (Int×Value)} {t:SetTable} {ep:Nat} {o:Obj} {k:List K} {Q:Bool→Shared→Prop} (hu:A.units < cLine) (T:TupSet knd s.heap S ks es t ep o) (hk:IsTupleKey knd s.heap k a) (hn:k∉ks) (hl:ks.length < 30)
 (q:∀ h' es' t' ep' o' tk,Heap.SameBut S s.heap h'→TupSet knd h' S (k :: ks) es' t' ep' o'→Q true { s with heap:=h',toks:=tk }):wpAny (model prog w) A (setAdd S (.ref a)) Q E s:=by
 unfold setAdd
 refine wpAny_holding (wpAny_bind (wpAny_pyHash_tuple hu hk ?_))
 exact add_hashed (s:={ s with toks:=s.toks+(k.length+1) }) hu T hk hn hl fun h' es' t' ep' o' r1 r2=>q h' es' t' ep' o' _ r1 r2
end
end L2
namespace L2
open PySem PySem.Spec PyProof.Rows
section
variable {prog:Program} {w:World} {A:Around} {s:Shared} {K:Type} [DecidableEq K] {knd:KeyKind prog w K}
def TupKeys (knd:KeyKind prog w K) (h:Heap) (items:Array Value) (kl:List (List K)):Prop:=∀ (j:Nat) (v:Value),items[j]? = some v→∃ a k,v=.ref a∧kl[j]? = some k∧IsTupleKey knd h k a
theorem TupKeys.keep {h h':Heap} {items:Array Value} {kl:List (List K)} {bad:List Addr} (t:TupKeys knd h items kl) (k:∀ b o,b∉bad→h.get? b=some o→h'.get? b=some o) (hb:∀ b∈bad,∀ o items n,h.get? b=some o→o.cls=.type "tuple" → o.data=.seq items n→False):TupKeys knd h' items kl:=fun j v e=>by
 obtain ⟨a,ke,e1,e2,o,its,n,e3,e4,e5,e6⟩:=t j v e
 exact ⟨a,ke,e1,e2,o,its,n,k a o (fun z=>hb a z o its n e3 e4 e5) e3,e4,e5,e6⟩
theorem TupSet.kept {h h':Heap} {S:Addr} {ks:List (List K)} {es:Array (Int×Value)} {t:SetTable} {ep:Nat} {o:Obj} {bad:List Addr} (T:TupSet knd h S ks es t ep o) (hS:S∉bad) (k:∀ b o,b∉bad→h.get? b=some o→h'.get? b=some o) (hb:∀ b∈bad,∀ o items n,h.get? b=some o→o.cls=.type "tuple" → o.data=.seq items n→False):TupSet knd h' S ks es t ep o :=
 ⟨k _ _ hS T.get,T.ex,T.dat,fun e he=>by
  obtain ⟨a,ke,e1,e2,o,its,n,e3,e4,e5,e6⟩:=T.mem e he
  exact ⟨a,ke,e1,e2,o,its,n,k a o (fun z=>hb a z o its n e3 e4 e5) e3,e4,e5,e6⟩,T.len,T.pl,T.dum,T.msk,T.few⟩
theorem loop_set {S I t:Addr} {items:Array Value} {kl:List (List K)} {R:Result→Shared→Prop} (hh:A.in1.handled=none) (hu:A.in1.units < cLine) (hI:t≠I) (hSI:S≠I) (hSt:S≠t) (nd:kl.Nodup) (hl:kl.length=items.size) (h30:kl.length≤30) :
 ∀ (m i:Nat) (s:Shared) (es:Array (Int×Value)) (tb:SetTable) (ep:Nat) (o:Obj),items.size - i=m→i≤items.size→s.heap.IsTupleIter I t i→s.heap.IsTuple t items→TupKeys knd s.heap items kl→TupSet knd s.heap S (kl.take i).reverse es tb ep o →
   (∀ h' tk es' tb' ep' o',(∀ b u,b∉[S,I]→s.heap.get? b=some u→h'.get? b=some u)→TupSet knd h' S kl.reverse es' tb' ep' o'→R (.ok (.ret .none)) { s with heap:=h',toks:=tk }) →
   codeAny (model prog w) A (.builtin "set.update.loop" ⟨[.ref S,.ref I],[]⟩) R s:=by
 intro m
 induction m with
 | zero =>
   intro i s es tb ep o hm hi st ht tk T q
   have e:i=items.size:=by omega
   subst e
   refine codeAny_builtin F.entry_set_update_loop ?_
   rw [Around.under_plainId F.plain_set_update_loop _]
   refine wpAny_bind (m:=pyNext (.ref I)) (wpAny_pyNext_tuple_end hh st ht (by simp) fun h' k=>?_)
   obtain ⟨oi,gi,ci,di⟩:=st
   have T':TupSet knd h' S (kl.take items.size).reverse es tb ep o:=T.kept (bad:=[I]) (by simpa using hSI) (fun b u nb e=>k b u (by simpa using nb) e) (fun b hb u its n e c _=>by
    have:b=I:=by simpa using hb
    subst this
    rw [gi] at e; cases e
    rw [ci] at c; exact absurd c (by decide))
   rw [List.take_of_length_le (by omega)] at T'
   exact wpAny_pure (q h' s.toks es tb ep o (fun b u nb e=>k b u (fun z=>nb (by simp [z])) e) T')
 | succ m ih =>
   intro i s es tb ep o hm hi st ht tk T q
   have hlt:i < items.size:=by omega
   refine codeAny_builtin F.entry_set_update_loop ?_
   rw [Around.under_plainId F.plain_set_update_loop _]
   refine wpAny_bind (m:=pyNext (.ref I)) (wpAny_pyNext_tuple_item st ht (x:=items[i]) (by simp [hlt]) fun h1 st1 sb1=>?_)
   obtain ⟨oi,gi,ci,di⟩:=st
   have badI:∀ b∈[I],∀ (u:Obj) (its:Array Value) (n:Nat),s.heap.get? b=some u→u.cls=.type "tuple" → u.data=.seq its n→False:=fun b hb u its n e c _=>by
    have:b=I:=by simpa using hb
    subst this
    rw [gi] at e; cases e
    rw [ci] at c; exact absurd c (by decide)
   have k1:∀ b u,b∉[I]→s.heap.get? b=some u→h1.get? b=some u:=fun b u nb e=>sb1.extBut b u (by simpa using nb) e
   have T1:=T.kept (by simpa using hSI) k1 badI
   have tk1:=tk.keep k1 badI
   have ht1:h1.IsTuple t items:=ht.extBut sb1.extBut hI
   obtain ⟨a,k,ea,ek,hk⟩:=tk1 i items[i] (by simp [hlt])
   rw [ea]
   refine wpAny_bind (m:=holding [Value.ref a] (setAdd S (.ref a))) (wpAny_holding ?_)
   have hkl:i < kl.length:=by omega
   have ek':kl[i]=k:=by rw [List.getElem?_eq_getElem hkl] at ek; exact Option.some.inj ek
   have hn:k∉(kl.take i).reverse:=by
    rw [List.mem_reverse,← ek']
    intro z
    obtain ⟨j,hj,e⟩:=List.getElem_of_mem z
    rw [List.getElem_take] at e
    have hj':j < i:=by rw [List.length_take] at hj; omega
    have:=(List.getElem_inj nd).mp e
    omega
   refine add_tuple (s:={ s with heap:=h1 }) hu T1 hk hn (by rw [List.length_reverse,List.length_take]; omega) fun h2 es' tb' ep' o' tk' sb2 T2=>?_
   have oS:=T1.get
   have badS:∀ b∈[S],∀ (u:Obj) (its:Array Value) (n:Nat),h1.get? b=some u→u.cls=.type "tuple" → u.data=.seq its n→False:=fun b hb u its n e _ d=>by
    have:b=S:=by simpa using hb
    subst this
    rw [oS] at e; cases e
    rw [T1.dat] at d; cases d
   have k2:∀ b u,b∉[S]→h1.get? b=some u→h2.get? b=some u:=fun b u nb e=>(sb2.2 b (by simpa using nb)).trans e
   have T2':TupSet knd h2 S (kl.take (i+1)).reverse es' tb' ep' o':=by
    have:(kl.take (i+1)).reverse=k :: (kl.take i).reverse:=by
     rw [List.take_succ_eq_append_getElem hkl,List.reverse_append,ek']
     rfl
    rw [this]; exact T2
   refine wpAny_pure ⟨plainId_quiet F.plain_set_update_loop _,ih (i+1) { s with heap:=h2,toks:=tk' } es' tb' ep' o' (by omega) hlt (st1.extBut sb2.extBut (Ne.symm hSI)) (ht1.extBut sb2.extBut (Ne.symm hSt)) (tk1.keep k2 badS) T2' fun h3 tk3 es3 tb3 ep3 o3 k3 T3=>?_⟩
   refine q h3 tk3 es3 tb3 ep3 o3 (fun b u nb e=>k3 b u nb (k2 b u (fun z=>nb (by simp at z; simp [z])) (k1 b u (fun z=>nb (by simp at z; simp [z])) e))) T3
theorem tup_set_fresh (led:Bool) {h:Heap} {S:Addr} (hS:h.get? S=some { cls:=.type "set",dict:=none,data:=.set #[] 0 (.fresh 0 0 led) }):TupSet knd h S [] #[] (.fresh 0 0 led) 0 { cls:=.type "set",dict:=none,data:=.set #[] 0 (.fresh 0 0 led) } :=
 ⟨hS,⟨rfl,rfl,rfl⟩,rfl,fun e he=>by simp at he,rfl,rfl,rfl,.inl rfl,by show 0 * 5 < 7 * 3; decide⟩
theorem sub_tuple_set:isSubtype (.type "tuple") (.type "set")=pure false:=by rw [isSubtype_type]; kernel_rfl
theorem sub_tuple_frozenset:isSubtype (.type "tuple") (.type "frozenset")=pure false:=by rw [isSubtype_type]; kernel_rfl
abbrev emptySet (led:Bool):Obj:={ cls:=.type "set",dict:=none,data:=.set #[] 0 (.fresh 0 0 led) }
set_option maxHeartbeats 3200000 in
theorem call_set_tup {E:Value→Shared→Prop} {t:Addr} {items:Array Value} {kl:List (List K)} {Q:Value→Shared→Prop} (hh:A.handled=none) (hu:A.units+8 < cLine) (ht:s.heap.IsTuple t items) (tk:TupKeys knd s.heap items kl) (nd:kl.Nodup) (hl:kl.length=items.size) (h30:kl.length≤30)
 (q:∀ h' tk es' tb' ep' o',TupSet knd h' s.heap.objs.size kl.reverse es' tb' ep' o'→(∀ b u,s.heap.get? b=some u→h'.get? b=some u)→Q (.ref s.heap.objs.size) { s with heap:=h',toks:=tk }) :
 wpAny (model prog w) A (call (.type "set") [.ref t]) Q E s:=by
 obtain ⟨c,tl,hmro⟩:=F.called_set.mro
 have hmade:=F.called_set.made; have hsub:=F.called_set.sub
 refine wpAny_call (codeAny_of_tree (wpAny_pure (a:=_) ⟨Code.quiet_builtin _ (by decide +kernel),codeAny_builtin F.entry_type_call ?_⟩))
 rw [Around.under_plain (weight_type_call_type "set" [.ref t] []) rfl]
 have h1:=F.called_set.notType; have h2:=F.called_set.canCreate; have hct:=F.typeCall_set_1 (.ref t)
 repeat (any_goals (first | assumption | wp_step))
 refine codeAny_mono (code_set_new_1 (.ref t) (E:=E) (Q₁:=fun v s1=>∃ led:Bool,v=.ref s.heap.objs.size∧s1={ s with heap:=s.heap.push (emptySet led) }) fun led=>⟨led,rfl,rfl⟩) fun r s1 hr=>?_
 cases r with
 | error e=>exact hr
 | ok fl =>
   cases fl with
   | ret obj =>
     obtain ⟨led,rfl,rfl⟩:=hr
     have hS:(s.heap.push (emptySet led)).get? s.heap.objs.size=some (emptySet led):=Heap.get?_push_size _ rfl
     have hT:Shared.TypeIs { s with heap:=s.heap.push (emptySet led) } (.ref s.heap.objs.size) "set" := ⟨_,hS,rfl⟩
     have hli:=F.called_set.init.lookup; have hbi:=F.called_set.init.bind (.ref s.heap.objs.size)
     repeat (any_goals (first | assumption | wp_step))
     refine codeAny_mono (codeAny_call_builtin (R:=wants (fun r s2=>r=.none∧∃ h' tk es' tb' ep' o',s2={ s with heap:=h',toks:=tk }∧TupSet knd h' s.heap.objs.size kl.reverse es' tb' ep' o'∧(∀ b u,s.heap.get? b=some u→h'.get? b=some u)) E) F.called_set.init.plain F.entry_set_init (check_set_init_1 hT ?_)) fun r2 s2 hr2=>?_
     · obtain ⟨⟨c0,d0,dd,sl0⟩,hol,hcl,nl,hdl⟩:=ht
       simp only at hcl hdl
       subst hcl; subst hdl
       have hol':(s.heap.push (emptySet led)).get? t=some { cls:=.type "tuple",dict:=d0,data:=.seq items nl,slots:=sl0 }:=Heap.get?_push_of_some _ hol
       have hsls:=sub_tuple_set; have hslf:=sub_tuple_frozenset
       have hne:(Value.type "tuple" == Value.type "dict")=false:=by decide
       have ht1:(s.heap.push (emptySet led)).IsTuple t items:=⟨_,hol',rfl,nl,rfl⟩
       unfold Builtin.«set.__init__» noKeywords Builtin.Frozenset.updateFrom
       generalize hPI:pyIter=PI
       wp_walk
       subst hPI
       refine wpAny_pyIter_tuple ht1 (wpAny_bind (wpAny_runValue ?_))
       have tS:t < s.heap.objs.size:=Heap.lt_size hol
       have n1:(s.heap.push (emptySet led)).objs.size=s.heap.objs.size+1:=Heap.size_push ..
       have k1:∀ b u,s.heap.get? b=some u→((s.heap.push (emptySet led)).push { cls:=.type "tuple_iterator",data:=.fields #[.ref t,.int 0 0] }).get? b=some u:=fun b u e=>Heap.get?_push_of_some _ (Heap.get?_push_of_some _ e)
       have e1:t≠(s.heap.push (emptySet led)).objs.size:=by rw [n1]; exact Nat.ne_of_lt (Nat.lt_succ_of_lt tS)
       have e2:s.heap.objs.size≠(s.heap.push (emptySet led)).objs.size:=by rw [n1]; exact Nat.ne_of_lt (Nat.lt_succ_self _)
       refine loop_set (knd:=knd) (S:=s.heap.objs.size) (I:=(s.heap.push (emptySet led)).objs.size) (t:=t) (items:=items) (kl:=kl) (by first | exact hh | simp [hh]) (by simp; omega) e1 e2 (Nat.ne_of_gt tS) nd hl h30 (items.size - 0) 0 _ #[] (.fresh 0 0 led) 0 _ (by omega) (Nat.zero_le _) ⟨_,Heap.get?_push_size _ rfl,rfl,rfl⟩ (ht1.push _)
        (tk.keep (bad:=[]) (fun b u _ e=>k1 b u e) (fun b hb=>by simp at hb)) (tup_set_fresh led (Heap.get?_push_of_some _ hS)) fun h' tk' es' tb' ep' o' k' T'=>?_
       show wpAny _ _ _ _ _ _
       refine wpAny_pure ?_
       show wpAny _ _ (ret Value.none) _ _ _
       refine wpAny_pure ⟨rfl,h',tk',es',tb',ep',o',rfl,T',fun b u e=>k' b u ?_ (k1 b u e)⟩
       have lb:b < s.heap.objs.size:=Heap.lt_size e
       simp only [List.mem_cons,List.not_mem_nil,or_false,not_or,n1]
       exact ⟨Nat.ne_of_lt lb,Nat.ne_of_lt (Nat.lt_succ_of_lt lb)⟩
     · cases r2 with
       | error e=>exact hr2
       | ok fl2 =>
         cases fl2 with
         | ret r =>
           obtain ⟨rfl,h',tk',es',tb',ep',o',rfl,T',k'⟩:=hr2
           repeat (any_goals (first | assumption | wp_step))
           exact q _ _ _ _ _ _ T' k'
         | _=>exact hr2.elim
   | _=>exact hr.elim
end
end L2
namespace L2
open PySem PySem.Spec PyProof.Rows
def isSetN (S:Addr) (n:Nat) (h:Heap):Prop:=∃ o es ep t,h.get? S=some o∧o.ExactSet∧o.data=.set es ep t∧t.fits es.size=true∧es.size=n
section
variable {X:Cx}
theorem isSetN_ok {P:Program} {w:World} {H:Hp} {h:Heap} {S:Addr} {n:Nat} (q:isSetN S n h):ObjOk P w H h S (.ext (isSetN S n)):=by
 refine ⟨q,?_,fun h1 h2 r k=>?_⟩
 · obtain ⟨o,_,_,_,e,_⟩:=q; exact ⟨o,e⟩
 · obtain ⟨o,es,ep,t,e,r⟩:=r; exact ⟨o,es,ep,t,k o e,r⟩
theorem items_int {prog:Program} {w:World}:∀ {ns:List Int} {us:List Value},Vals (ns.map V.int) us→ItemsAre (PySem.intKind prog w) ns us
 | [],_,.nil=>.nil
 | n :: ns,_,.cons r rs=>by
   obtain ⟨t,rfl⟩:=r
   exact .cons (intKind_is _ _ _ _) (items_int rs)
theorem call_setT {j:Nat} (hc:X.calm=true) (hr:Room j X.A):CallR X (.type "set") (fun xs H Q=>∃ (a:Addr) (vs:List V) (kl:List (List Int)),xs=[.ref a]∧SqT X.K H a vs∧vs.length=kl.length∧(∀ (i:Nat) (v:V),vs[i]? = some v→∃ (b:Addr) (k:List Int),v=.ref b∧kl[i]? = some k∧SqT X.K H b (k.map V.int))∧kl.Nodup∧kl.length≤30 ∧
 ∀ S,H S=none→Q (.ref S) (upd H S (.ext (isSetN S kl.length)))):=by
 intro pins s σ H xs us Q I r h
 obtain ⟨a,vs,kl,rfl,hq,hl,hk,nd,h30,q⟩:=h
 cases r with
 | cons rx r =>
   cases r
   cases (show _=Value.ref a from rx)
   obtain ⟨its,rv,pl,hz⟩:=I.tuple hq
   have hlen:=rv.length
   have hs:H s.heap.objs.size=none:=I.hok.fresh (Nat.le_refl _)
   refine call_set_tup (knd:=PySem.intKind X.prog X.w) (kl:=kl) (items:=its.toArray) (I.ok.hd hc) (by have:=hr.un; omega) pl (fun i v e=>?_) nd (by simp; omega) h30 fun h' tk es' tb' ep' o' T k=>?_
   · have e':its[i]? = some v:=by simpa using e
     have hi:i < vs.length:=by rw [hlen]; exact (List.getElem?_eq_some_iff.mp e').1
     obtain ⟨x,hx⟩:∃ x,vs[i]? = some x:=⟨_,List.getElem?_eq_getElem hi⟩
     obtain ⟨b,k,rfl,ek,hb⟩:=hk i x hx
     obtain ⟨u,eu,ru⟩:=rv.get hx
     rw [eu] at e'
     cases e'
     cases ru
     obtain ⟨its2,rv2,⟨o2,g2,c2,n2,d2⟩,_⟩:=I.tuple hb
     exact ⟨b,k,rfl,ek,o2,its2.toArray,n2,g2,c2,d2,by simpa using items_int rv2⟩
   · refine ⟨.ref s.heap.objs.size,_,I.laid (t':=tk) k (Nat.le_refl _) (isSetN_ok (n:=kl.length) ⟨o',es',ep',tb',T.get,T.ex,T.dat,T.fits,by rw [T.len,List.length_reverse]⟩),rfl,q _ hs⟩
theorem call_lenX:CallR X (.builtin "len") (fun xs H Q=>∃ S n,xs=[.ref S]∧H S=some (.ext (isSetN S n))∧n≤sizeLine∧Q (.int n) H):=by
 intro pins s σ H xs us Q I r h
 obtain ⟨S,n,rfl,hS,hn,q⟩:=h
 cases r with
 | cons rx r =>
   cases r
   cases (show _=Value.ref S from rx)
   obtain ⟨⟨o,es,ep,t,e,ex,d,f,en⟩,_,_⟩:=(show ObjOk X.prog X.w H s.heap S (.ext (isSetN S n)) from I.hok S _ hS)
   have hl:=line63
   have hz:sizeLine=16777216:=sizeLine_eq
   refine call_len_set e ex d f (by omega) ⟨.int n,H,I.tok _,⟨_,by rw [en]⟩,q⟩
theorem range_anyB:∀ (bs:List Bool),((List.range bs.length).any fun i=>(bs[i]?).getD true)=bs.any id
 | []=>rfl
 | b :: bs=>by
   rw [List.length_cons,List.range_succ_eq_map,List.any_cons,List.any_map,List.any_cons,← range_anyB bs]
   rfl
theorem call_anyB (hc:X.calm=true):CallR X (.builtin "any") (fun xs H Q=>∃ (p:Addr) (bs:List Bool),xs=[.ref p]∧SqL X.K H p (bs.map V.bl)∧Q (.bl (bs.any id)) H):=by
 intro pins s σ H xs us Q I r h
 obtain ⟨p,bs,rfl,hq,q⟩:=h
 cases r with
 | cons rx r =>
   cases r
   cases (show _=Value.ref p from rx)
   obtain ⟨its,rv,pl,hz⟩:=I.list hq
   have hl:=pl.isList
   have hlt:p < s.heap.objs.size:=by obtain ⟨_,e,_⟩:=hl; exact Heap.lt_size e
   have hh:X.A.handled=none:=I.ok.hd hc
   refine call_any_walk (wpAny_pyIter_list hl ⟨s.heap.objs.size,[s.heap.objs.size,p],[s.heap.objs.size],its.toArray.size,_,_,fun i=>(bs[i]?).getD true,rfl,Walks.list (A:=X.A.in1) hh _ p (Nat.ne_of_lt hlt) its.toArray,⟨⟨_,Heap.get?_push_size _ rfl,rfl,rfl⟩,hl.push _⟩,fun i v s' Q' E' hP hQ=>?_,fun h' tk hk=>?_⟩)
   · obtain ⟨b,e,rfl⟩:=vals_bools rv (show its[i]? = some v by simpa using hP)
     simp only [e,Option.getD_some] at hQ
     exact wpAny_truthy_bool hQ
   · have e:((List.range its.toArray.size).any fun i=>(bs[i]?).getD true)=bs.any id:=by
      rw [List.size_toArray,← rv.length,List.length_map]; exact range_anyB bs
     rw [e]
     exact ⟨.bl _,H,I.kept (kept_it hk),rfl,q⟩
end
end L2
namespace L2
open PySem PySem.Spec PyProof.Rows
section
variable {prog:Program} {w:World} {A:Around} {E:Value→Shared→Prop} {s:Shared}
theorem draw_l {it l:Addr} {items:Array Value} (ne:l≠it):∀ (n i:Nat) (s:Shared) (Q:List Value→Shared→Prop),s.heap.IsListIter it l i→s.heap.IsList l items→i+n≤items.size →
 (∀ h',h'.IsListIter it l (i+n)→Heap.SameBut it s.heap h'→Q ((items.toList.drop i).take n) { s with heap:=h' })→wpAny (model prog w) A (draw (.ref it) n) Q E s
 | 0,i,s,Q,hit,_,_,q=>by
   show wpAny _ _ (pure []) Q E s
   exact wpAny_pure (by simpa using q s.heap hit (Heap.SameBut.refl ..))
 | n+1,i,s,Q,hit,hl,hle,q=>by
   have hlt:i < items.size:=by omega
   refine wpAny_bind (m:=pyNext (.ref it)) (wpAny_pyNext_list_item hit hl (x:=items[i]) (by simp [hlt]) fun h1 it1 s1=>?_)
   refine wpAny_bind (wpAny_holding (draw_l ne n (i+1) _ _ it1 (hl.extBut s1.extBut ne) (by omega) fun h2 it2 s2=>wpAny_pure ?_))
   have e:items.toList.drop i=items[i] :: items.toList.drop (i+1):=by simp [List.drop_eq_getElem_cons,hlt]
   have z:=q h2 (by rw [show i+(n+1)=i+1+n by omega]; exact it2) (s1.trans s2)
   rw [e,List.take_succ_cons] at z
   exact z
theorem unpackItems_l {l:Addr} {items:Array Value} {Q:List Value→Shared→Prop} (hh:A.handled=none) (hl:s.heap.IsList l items)
 (q:∀ h',Heap.ExtBut s.heap.objs.size s.heap h'→Q items.toList { s with heap:=h' }):wpAny (model prog w) A (unpackItems (.ref l) items.size none) Q E s:=by
 have ne:l≠s.heap.objs.size:=by obtain ⟨o,ho,_⟩:=hl; exact Nat.ne_of_lt (Heap.lt_size ho)
 unfold unpackItems
 refine wpAny_bind ?_
 · unfold notIterableAtAll
   refine wpAny_bind (wpAny_specialOf hl.typeIs F.slot_list_iter.lookup (wpAny_pure ?_))
   simp only [Bool.false_eq_true,if_false]
   refine wpAny_bind (wpAny_holding (wpAny_pyIter_list hl ?_))
   refine wpAny_bind (wpAny_holding (draw_l ne items.size 0 _ _ ⟨_,Heap.get?_push_size _ rfl,rfl,rfl⟩ (hl.push _) (by omega) fun h1 it1 s1=>?_))
   rw [show List.take items.size (List.drop 0 items.toList)=items.toList by rw [List.drop_zero]; exact List.take_of_length_le (by simp),if_neg (by simp)]
   refine wpAny_bind (wpAny_holding (wpAny_pyNext_list_end hh it1 ((hl.push _).extBut s1.extBut ne) (by simp) fun h2 e2=>?_))
   simp only [Option.isSome_none,Bool.false_eq_true,if_false]
   refine wpAny_pure (q h2 fun b o hb e=>e2 b o hb (s1.extBut b o hb (Heap.get?_push_of_some _ e)))
theorem assign_l {env:Env} {elts:List Expr} {x1} {pos:Pos} {l:Addr} {items:Array Value} {Q:Unit→Shared→Prop} (hh:A.handled=none) (hl:s.heap.IsList l items)
 (hn:(assignEach elts env).length=items.size) (hs:(assignEach elts env).findIdx? (·.1)=none)
 (h:∀ h',Heap.ExtBut s.heap.objs.size s.heap h'→wpAny (model prog w) A (assignInOrder ((assignEach elts env).map (·.2)) items.toList) Q E { s with heap:=h' }) :
 wpAny (model prog w) A (assign (.Tuple elts x1 pos) env (.ref l)) Q E s:=by
 rw [assign_Tuple]
 refine wpAny_bind (wpAny_standAt ?_)
 unfold unpack
 rw [hn,hs]
 exact wpAny_bind (wpAny_holding (unpackItems_l hh hl h))
end
section
variable {X:Cx} {pos:Pos}
def gLst (K:PySem.W.Frag) (n:Nat) (t:TGs):TG:=fun v σ H Q=>∃ a xs,v=.ref a∧SqL K H a xs∧xs.length=n∧t xs σ H Q
theorem pg_lst {es:List Expr} {k:Nat} {t:TGs} {n:Nat} (hc:X.calm=true) (h:PGs X es t) (hn:(assignEach es X.env).length=n:=by rfl) (hst:(assignEach es X.env).findIdx? (·.1)=none:=by rfl):PG X (.Tuple es k pos) (gLst X.K n t):=by
 intro pins s σ H v u Q I r hw
 obtain ⟨a,xs,e1,hq,hl,hw⟩:=hw
 subst e1
 cases r
 obtain ⟨its,rv,pl,hz⟩:=I.list hq
 refine assign_l (I.ok.hd hc) pl.isList (by simp [hn,← hl,rv.length]) hst fun h' hx=>?_
 have I1:Inv X pins σ H { s with heap:=h' }:=I.kept (t':=s.toks) fun b o e=>hx b o (Nat.ne_of_lt (Heap.lt_size e)) e
 exact h pins _ σ H xs _ Q I1 (by simpa using rv) hw
theorem vals_of_ints:∀ {us:List Value} {ns:List Int},IntsAre us ns→Vals (ns.map V.int) us
 | _,_,.nil=>.nil
 | _,_,.cons n t r=>.cons ⟨t,rfl⟩ (vals_of_ints r)
theorem call_sortedI:CallR X (.builtin "sorted") (fun xs H Q=>∃ (p:Addr) (ns:List Int),xs=[.ref p]∧SqL X.K H p (ns.map V.int)∧ns.length < 64∧∀ (l:Addr) (ns':List Int),H l=none→ns'.Perm ns→ns'.Pairwise (·≤·)→Q (.ref l) (upd H l (.lst (ns'.map V.int)))):=by
 intro pins s σ H xs us Q I r h
 obtain ⟨p,ns,rfl,hq,h64,q⟩:=h
 cases r with
 | cons rx r =>
   cases r
   cases (show _=Value.ref p from rx)
   obtain ⟨its,rv,pl,hz⟩:=I.list hq
   have hlen:=rv.length
   rw [List.length_map] at hlen
   refine sorted_ints pl.isList (intsAre_of rv) (by omega) fun out ns' a1 a2 a3=>?_
   obtain ⟨e,he⟩:=sortedAll_at s.heap its out
   have fr:H (s.heap.objs.size+1)=none:=I.hok.fresh (Nat.le_succ _)
   refine ⟨.ref (s.heap.objs.size+1),_,I.laid (o:=.lst (ns'.map V.int)) (t':=s.toks) (fun b u e=>sortedAll_old e) (Nat.le_succ _) ⟨?_,out.toList,e,vals_of_ints a1,by simpa using he⟩,rfl,q _ ns' fr a2 a3⟩
   rw [List.length_map,a2.length_eq,sizeLine_eq]; omega
theorem items_range {n:Nat}:∀ {l:List Value} (k:Nat),l.length=n→(∀ (j:Nat) (v:Value),l[j]? = some v→∃ t,v=.int ((k:Int)+j) t)→Vals ((List.range' k n).map fun i:Nat=>V.int i) l:=by
 induction n with
 | zero=>intro l k hl _; cases l with
   | nil=>exact .nil
   | cons _ _=>simp at hl
 | succ n ih =>
   intro l k hl h
   cases l with
   | nil=>simp at hl
   | cons x l =>
     obtain ⟨t,rfl⟩:=h 0 x rfl
     refine .cons ⟨t,by simp⟩ (ih (k+1) (by simpa using hl) fun j v e=>?_)
     obtain ⟨t',e'⟩:=h (j+1) v (by simpa using e)
     exact ⟨t',by rw [e']; congr 1; omega⟩
theorem pe_rng {a:Expr} {ta:TA} {p2 q2:Pos} (hg2:Gl X "range") (hm2:X.mg "range" = none) (ha:PA X [a] ta) (he:starEach [a] X.env=[(false,eval a X.env)]:=by rfl) :
 PE X (.Call (.Name "range" p2) [a] [] q2) (fun σ H Q=>ta σ H fun vs H1=>∃ n:Nat,vs=[.int n]∧∀ r,H1 r=none→Q (.ref r) (upd H1 r (.rng 0 n))):=by
 intro pins s σ H Q I h
 refine Call_ (ld_blt I hg2 hm2 boot_range (PyProof.Rows.callWith_type1 (thn (ha q2 pins s σ H _ I h) fun us s1 ⟨vs,H1,I1,r1,q1⟩=>?_) he rfl))
 obtain ⟨n,rfl,q⟩:=q1
 cases r1 with
 | cons r rr =>
   cases rr
   obtain ⟨t,rfl⟩:=r
   refine call_range_1 ?_
   have fr:H1 s1.heap.objs.size=none:=I1.hok.fresh (Nat.le_refl _)
   exact ⟨.ref s1.heap.objs.size,_,I1.laid (o:=.rng 0 n) (fun b o e=>Heap.get?_push_of_some _ e) (Nat.le_refl _) ⟨_,_,_,Heap.get?_push_size _ rfl⟩,rfl,q _ fr⟩
theorem call_listR (hc:X.calm=true):CallR X (.type "list") (fun xs H Q=>∃ (r:Addr) (n:Nat),xs=[.ref r]∧H r=some (.rng 0 n)∧n≤1000∧∀ l,H l=none→Q (.ref l) (upd H l (.lst ((List.range n).map fun i:Nat=>V.int i)))):=by
 intro pins s σ H xs us Q I r h
 obtain ⟨a,n,rfl,hr,hn,q⟩:=h
 cases r with
 | cons rx r =>
   cases r
   cases (show _=Value.ref a from rx)
   obtain ⟨t,u,v,e⟩:=(show ObjOk X.prog X.w H s.heap a (.rng 0 n) from I.hok a _ hr)
   have fr:H s.heap.objs.size=none:=I.hok.fresh (Nat.le_refl _)
   refine call_list_range (n:=n) (I.ok.hd hc) e (small_one (by omega) (by omega) (by omega) (by omega)) (by rw [rangeSize_one]; split <;> omega) (by omega) fun h' tk acc c k hS it=>?_
   refine ⟨.ref s.heap.objs.size,_,I.laid (o:=.lst ((List.range n).map fun i:Nat=>V.int i)) (t':=tk) k (Nat.le_refl _) ⟨?_,acc.toList,c,?_,by simpa using hS⟩,rfl,q _ fr⟩
   · rw [List.length_map,List.length_range,sizeLine_eq]; omega
   · rw [List.range_eq_range']
     refine items_range 0 (by rw [Array.length_toList]; exact it.1) fun j v e=>?_
     obtain ⟨t',e'⟩:=it.2 j v (by simpa using e)
     exact ⟨t',by rw [e']; congr 1; omega⟩
end
end L2
namespace L2
open PySem PySem.Spec PyProof.Rows
def tree0 (c t0 i0 i1:Expr) (it acc:Value) (env:Env):Sem Fin:=do
 standAt i0.pos
 match ← pyNext it with
 | none=>pure (.done .next)
 | some v =>
   letOwnedTupleGo t0 it v
   assign t0 env v
   let mut ok:=true
   for c in ([]:List Expr) do
    if ok then ok ← isTrue c env (eval c env)
   if ok then do
    let x ← eval i1 env
    standAt i1.pos
    let x ← foldedSetIterable i1 env x
    let _ ← runOwn (.compStart c 1 (← holding [x] (pyIter x)) acc env) env
    again (.compLoop c 0 it acc env)
   else again (.compLoop c 0 it acc env)
def tree1 (c t1 i1 elt:Expr) (add:Value→Sem PUnit) (it acc:Value) (env:Env):Sem Fin:=do
 standAt i1.pos
 match ← pyNext it with
 | none=>pure (.done .next)
 | some v =>
   letOwnedTupleGo t1 it v
   assign t1 env v
   let mut ok:=true
   for c in ([]:List Expr) do
    if ok then ok ← isTrue c env (eval c env)
   if ok then
    (do let v ← eval elt env; add v)
   again (.compLoop c 1 it acc env)
structure C2Ok (prog:Program) (w:World) (c t0 i0 t1 i1 elt:Expr) (id:String) (add:Value→Value→Sem PUnit):Prop where
 un:∀ (A:Around) (k:Nat) (it acc:Value) (env:Env),A.under (.compLoop c k it acc env)=A
 den:∀ (k:Nat) (it acc:Value) (env:Env),(model prog w).den (.compLoop c k it acc env)=(compTurn c k it acc env).onRaise (fun x=>do noteFrame x env; theTreesLotGoes x)
 qu:∀ (k:Nat) (it acc:Value) (env:Env),(Code.compLoop c k it acc env).quiet=true
 e0:∀ it acc env,compTurn c 0 it acc env=tree0 c t0 i0 i1 it acc env
 e1:∀ it acc env,compTurn c 1 it acc env=tree1 c t1 i1 elt (add acc) it acc env
 ha:∀ (A:Around) acc x s (P:Shared→Prop) E,wpAny (model prog w) A (call (.builtin id) [acc,x]) (fun _ s5=>P s5) NoX s→wpAny (model prog w) A (add acc x) (fun _ s5=>P s5) E s
 start:∀ (A:Around) k,k < 2→∀ it acc env R s4,codeAny (model prog w) A (.compLoop c k it acc env) R s4→(∀ E,wpAny (model prog w) A (pyIter it) (fun it' s'=>codeAny (model prog w) A (.compLoop c k it' acc env) R s') E s4)→codeAny (model prog w) A (.compStart c k it acc env) R s4
section
variable {prog:Program} {w:World} {A:Around} {R:Result→Shared→Prop} {s:Shared} {c elt t0 i0 t1 i1:Expr} {it acc:Value} {env:Env} {add:Value→Value→Sem PUnit} {id:String} (c2:C2Ok prog w c t0 i0 t1 i1 elt id add)
include c2
theorem c2_inner (I:Nat→Shared→Prop)
 (turn:∀ n s,I n s→CTurn (model prog w) A t1 it env R (fun n s3=>wpAny (model prog w) A (eval elt env) (fun x s4=>wpAny (model prog w) A (call (.builtin id) [acc,x]) (fun _ s5=>∃ m,m < n∧I m s5) NoX s4) NoX s3) n s)
 (n:Nat) (h:I n s):codeAny (model prog w) A (.compLoop c 1 it acc env) R s:=by
 refine codeAny_loop (c2.qu _ _ _ _) I (fun n s hI=>?_) n h
 rw [c2.un,c2.den]
 refine wpAny_noted ?_
 rw [c2.e1]
 unfold tree1
 refine wpAny_bind (wpAny_standAt (wpAny_bind (wpAny_mono (turn n s hI) (fun r s1 h1=>?_) fun _ _ h'=>h'.elim)))
 cases r with
 | none=>exact wpAny_pure h1
 | some v =>
   refine wpAny_bind (wpAny_mono h1 (fun _ s2 h2=>wpAny_bind (wpAny_mono h2 (fun _ s3 h3=>wpAny_bind (wpAny_pure ?_)) fun _ _ h'=>h'.elim)) fun _ _ h'=>h'.elim)
   simp only [if_true]
   exact wpAny_bind (wpAny_bind (wpAny_mono h3 (fun x s4 h4=>wpAny_mono (c2.ha _ _ x s4 _ _ h4) (fun _ s5 h5=>wpAny_pure ⟨rfl,h5⟩) fun _ _ h'=>h') fun _ _ h'=>h'.elim))
theorem c2_outer (hs1:∀ x,foldedSetIterable i1 env x=pure x) (I:Nat→Shared→Prop)
 (turn:∀ n s,I n s→CTurn (model prog w) A t0 it env R (fun n s3=>wpAny (model prog w) A (eval i1 env) (fun x s4=>wpAny (model prog w) A (pyIter x) (fun itv s5 =>
   codeAny (model prog w) A (.compStart c 1 itv acc env) (fun r s6=>match r with | .ok _=>∃ m,m < n∧I m s6 | .error _=>False) s5) NoX s4) NoX s3) n s)
 (n:Nat) (h:I n s):codeAny (model prog w) A (.compLoop c 0 it acc env) R s:=by
 refine codeAny_loop (c2.qu _ _ _ _) I (fun n s hI=>?_) n h
 rw [c2.un,c2.den]
 refine wpAny_noted ?_
 rw [c2.e0]
 unfold tree0
 refine wpAny_bind (wpAny_standAt (wpAny_bind (wpAny_mono (turn n s hI) (fun r s1 h1=>?_) fun _ _ h'=>h'.elim)))
 cases r with
 | none=>exact wpAny_pure h1
 | some v =>
   refine wpAny_bind (wpAny_mono h1 (fun _ s2 h2=>wpAny_bind (wpAny_mono h2 (fun _ s3 h3=>wpAny_bind (wpAny_pure ?_)) fun _ _ h'=>h'.elim)) fun _ _ h'=>h'.elim)
   simp only [if_true]
   refine wpAny_bind (wpAny_mono h3 (fun x s4 h4=>wpAny_bind (wpAny_standAt (wpAny_bind (wpAny_of_eq (hs1 x) (wpAny_bind (wpAny_holding (wpAny_mono h4 (fun itv s5 h5=>wpAny_bind (wpAny_runOwn ?_)) fun _ _ h'=>h'.elim))))))) fun _ _ h'=>h'.elim)
   refine codeAny_mono h5 fun r s6 h6=>?_
   cases r with
   | ok f=>exact wpAny_pure ⟨rfl,h6⟩
   | error e=>exact h6.elim
end
abbrev TAd:=V→Addr→Hp→(Hp→Prop)→Prop
abbrev adS:TAd:=fun v D H C=>∃ (k:Int) (S:Int→Bool) (n:Nat),v=.int k∧H D=some (.set S n)∧n+1 < scanBound∧C (upd H D (.set (fun k'=>S k' || decide (k'=k)) (if S k then n else n+1)))
def PAd (id:String) (ad:TAd):Prop:=∀ (X:Cx) (pins:List (Addr×Obj)) (s:Shared) (σ:St) (H:Hp) (v:V) (u:Value) (D:Addr) (C:Hp→Prop),Inv X pins σ H s→RelV v u→ad v D H C→wpAny (model X.prog X.w) X.A (call (.builtin id) [.ref D,u]) (fun _ s'=>∃ H',Inv X pins σ H' s'∧C H') X.xe s
def C2In (ad:TAd) (J1:It) (g1:TG) (te:TE) (D:Addr) (σ4:St) (H5:Hp) (fin:St→Hp→Prop):Prop:=∃ W1:Nat→Nat→St→Hp→Prop,(∃ m1,W1 0 m1 σ4 H5)∧∀ i1 m1 σ6 H6,W1 i1 m1 σ6 H6 →
 (J1.stop i1 H6∧fin σ6 H6)∨(J1.go i1 H6∧∀ y H7,J1.yld i1 H6 y H7→g1 y σ6 H7 fun σ8 H8=>te σ8 H8 fun v H9=>ad v D H9 fun Hn=>∃ m1',m1' < m1∧W1 (i1+1) m1' σ8 Hn)
def C2Go (ad:TAd) (ac:HO) (J:It) (g0:TG) (wi1:TI) (g1:TG) (te:TE) (σ0:St) (H1:Hp) (D:Addr) (Q:VK):Prop:=∃ W:Nat→Nat→St→Hp→Prop,(∃ m,W 0 m σ0 (upd H1 D ac)) ∧
 ∀ i m σ2 H2,W i m σ2 H2→(J.stop i H2∧Q (.ref D) H2)∨(J.go i H2∧∀ x H3,J.yld i H2 x H3→g0 x σ2 H3 fun σ4 H4=>wi1 σ4 H4 fun J1 H5=>C2In ad J1 g1 te D σ4 H5 fun σ6 H6=>∃ m',m' < m∧W (i+1) m' σ6 H6)
theorem c2_core {X:Cx} {pins:List (Addr×Obj)} {σ:St} {H2:Hp} {s2 s3:Shared} {scope:Scope} {cl:List (Str×Addr)} {N:List Str} {fr:List (Option Nat)} {t0 i0 t1 i1 elt:Expr} {g0 g1:TG} {wi1:TI} {te:TE} {J:It} {fp:List Addr} {it:Addr} {tn:Nat→Heap→Prop} {ac:HO} {ad:TAd} {id:String} {o0:Obj} {c:Expr} {Q:VK} {add:Value→Value→Sem PUnit}
 (hs3:s3={ s2 with heap:=s2.heap.push o0 }) (hc:X.calm=true) (L:LcO X scope cl N fr) (hg:∀ C s3 H3 fp,PG (blk X scope cl C N s3 H3 fp) t0 g0) (hi1:∀ C s3 H3 fp,PI (blk X scope cl C N s3 H3 fp) t1 i1 wi1) (hg1:∀ C s3 H3 fp,PG (blk X scope cl C N s3 H3 fp) t1 g1) (he:∀ C s3 H3 fp,PE (blk X scope cl C N s3 H3 fp) elt te) (hA:PAd id ad)
 (I2:Inv X pins σ H2 s2) (T:Turn X.prog X.w X.K t0 J fp it tn) (st2:tn 0 s2.heap) (f2:∀ b∈fp,FpOk X pins H2 b)
 (ok0:ObjOk X.prog X.w (upd H2 s2.heap.objs.size ac) (s2.heap.push o0) s2.heap.objs.size ac) (h:C2Go ad ac J g0 wi1 g1 te (lcStart fr σ) H2 s2.heap.objs.size Q) (hs1:∀ env x,foldedSetIterable i1 env x=pure x)
 (c2:C2Ok X.prog X.w c t0 i0 t1 i1 elt id add) :
 wpAny (model X.prog X.w) X.A (newFunctionEnv scope X.env.globals cl [] X.env.qual none .none (some X.env)) (fun cenv s4=>codeAny (model X.prog X.w) X.A (.compStart c 0 (.ref it) (.ref s2.heap.objs.size) { cenv with scope:=relabel scope X.env }) (compPost (model X.prog X.w) X.A X.xe none (EP X pins σ Q) (.ref s2.heap.objs.size) cenv.locals) s4) X.xe s3:=by
 obtain ⟨W,⟨m0,w0⟩,turn⟩:=h
 refine cmp_core (R:=fun C=>compPost (model X.prog X.w) X.A X.xe none (EP X pins σ Q) (.ref s2.heap.objs.size) C) hs3 hc L hg I2 T st2 f2 ok0 w0 turn (fun env s4 a b=>c2.start _ 0 (by decide) _ _ _ _ _ a b) (fun LI s4 t n h=>c2_outer c2 (hs1 _) LI t n h) (fun H7 s7 qn _ _ c=>stop_ep qn c) fun LI n i σ9 H9 s9 ps I9 q9 again=>?_
 refine thn (hi1 _ _ _ _ ps s9 σ9 H9 _ I9 q9) fun xv s10 h10=>thn h10 fun itv s11 h11=>?_
 obtain ⟨it1,fp1,tn1,J1,H11,e,I11,T1,st11,f11,W1,⟨m1,w1⟩,turn1⟩:=h11
 subst e
 have fpC:∀ {H':Hp} (b:Addr),b∈fp1→H' b=none→FpOk (blk X scope cl s3.heap.objs.size N s3 (upd H2 s2.heap.objs.size ac) fp) ps H' b:=fun b hb hn=>⟨hn,(f11 b hb).2⟩
 have lp:codeAny (model X.prog X.w) X.A (.compLoop c 1 (.ref it1) (.ref s2.heap.objs.size) (blk X scope cl s3.heap.objs.size N s3 (upd H2 s2.heap.objs.size ac) fp).env) (fun r s6=>match r with | .ok _=>∃ m,m < n∧LI m s6 | .error _=>False) s11:=by
  refine c2_inner c2 (fun n1 s'=>∃ j σ' H',Inv (blk X scope cl s3.heap.objs.size N s3 (upd H2 s2.heap.objs.size ac) fp) ps σ' H' s'∧tn1 j s'.heap∧(∀ b∈fp1,H' b=none)∧W1 j n1 σ' H') ?_ m1 ⟨0,_,_,I11,st11,fun b hb=>(f11 b hb).1,w1⟩
  rintro n1 s13 ⟨j,σ13,H13,I13,st13,fr13,w13⟩
  unfold CTurn
  rcases turn1 j n1 σ13 H13 w13 with ⟨stop,m',hm',qn⟩ | ⟨go1,step1⟩
  · refine thn (T1.done (blk X scope cl s3.heap.objs.size N s3 (upd H2 s2.heap.objs.size ac) fp) rfl rfl rfl hc j _ s13 σ13 H13 (fun _ _=>False) I13 (fun b hb=>fpC b hb (fr13 b hb)) st13 stop) fun r s14 ⟨hr,I14⟩=>?_
    subst hr
    exact again I14 hm' qn
  · refine thn (T1.item (blk X scope cl s3.heap.objs.size N s3 (upd H2 s2.heap.objs.size ac) fp) rfl rfl rfl hc j _ s13 σ13 H13 (fun _ _=>False) I13 (fun b hb=>fpC b hb (fr13 b hb)) st13 go1) fun r s14 ⟨u1,hr,h14⟩=>?_
    subst hr
    refine thn h14 fun _ s15 ⟨y,H15,I15,r15,y15,st15,fr15⟩=>?_
    have I15':=I15.pinned (fun b hb=>fpC b hb (fr15 b hb)) (T1.obj _ _ st15)
    refine thn (hg1 _ _ _ _ _ s15 σ13 H15 y u1 _ I15' r15 (step1 y H15 y15)) fun _ s16 ⟨σ16,H16,I16,q16⟩=>?_
    refine thn (he _ _ _ _ _ s16 σ16 H16 _ I16 q16) fun vv s17 ⟨vk,H17,I17,r17,q17⟩=>?_
    refine thn (hA _ _ s17 σ16 H17 vk vv _ _ I17 r17 q17) fun _ s18 ⟨H18,I18,m',hm',w18⟩=>?_
    refine ⟨m',hm',j+1,σ16,_,I18.unpinned,T1.keep _ _ _ st15 fun b hb o e=>(I18.pin (b,o) (List.mem_append_right _ (List.mem_append_right _ (mem_pinsAt hb e)))).1,fun b hb=>?_,w18⟩
    obtain ⟨o,e,d⟩:=T1.obj _ _ st15 b hb
    exact (I18.pin (b,o) (List.mem_append_right _ (List.mem_append_right _ (mem_pinsAt hb e)))).2.1
 exact c2.start _ 1 (by decide) _ _ _ _ _ lp fun E=>T1.self _ 0 _ _ _ st11 lp
end L2
namespace L2
open PySem PySem.Spec PyProof.Rows
abbrev sc2 (elt t0 i0 t1 i1:Expr) (scope:Scope) (pos:Pos):Expr:=.SetComp elt [⟨t0,i0,[],0⟩,⟨t1,i1,[],0⟩] scope pos
theorem sc2_ok {prog:Program} {w:World} {elt t0 i0 t1 i1:Expr} {scope:Scope} {pos:Pos}:C2Ok prog w (sc2 elt t0 i0 t1 i1 scope pos) t0 i0 t1 i1 elt "set.add" (fun acc v=>do standAt elt.pos; let _ ← call (.builtin "set.add") [acc,v]):=by
 refine ⟨fun _ _ _ _ _=>rfl,fun _ _ _ _=>rfl,fun _ _ _ _=>rfl,fun _ _ _=>rfl,fun _ _ _=>rfl,fun A acc x s P E h=>wpAny_bind (wpAny_standAt (wpAny_bind (wpAny_mono h (fun _ s5 h5=>wpAny_pure h5) fun _ _ h'=>h'.elim))),fun A k hk it acc env R s4 h0 h=>?_⟩
 refine codeAny_of_tree ?_
 show wpAny _ _ ((compStart (sc2 elt t0 i0 t1 i1 scope pos) k it acc env).onRaise (fun x=>do noteFrame x env; standAt theWindowsPlace)) _ _ s4
 refine wpAny_notedAt ?_
 have hk':k=0∨k=1:=by omega
 rcases hk' with rfl | rfl <;>
 · unfold compStart
   show wpAny _ _ (ask >>= _) _ _ s4
   refine wpAny_bind (wpAny_askSetting (wpAny_ite ?_))
   split
   · first
      | exact wpAny_bind (wpAny_pure (wpAny_pure (And.intro rfl h0)))
      | exact wpAny_pure (And.intro rfl h0)
   · first
      | exact wpAny_bind (wpAny_rule (wpAny_bind (wpAny_standAt (wpAny_bind (wpAny_mono (h NoX) (fun it' s' h'=>wpAny_pure (And.intro rfl h')) fun _ _ x=>x.elim)))))
      | (refine wpAny_bind (wpAny_rule ?_); show wpAny _ _ (standAt _ >>= _) _ _ s4; exact wpAny_bind (wpAny_standAt (wpAny_bind (wpAny_mono (h NoX) (fun it' s' h'=>wpAny_pure (And.intro rfl h')) fun _ _ x=>x.elim))))
theorem pad_S:PAd "set.add" adS:=fun X pins s σ H v u D C I r ⟨k,S,nn,e,hS,hroom,q⟩=>by
 subst e
 obtain ⟨tk,rfl⟩:=r
 have hset:s.heap.SetOf (PySem.intKind X.prog X.w) D S nn:=I.hok _ _ hS
 refine call_set_add (knd:=PySem.intKind X.prog X.w) (k:=k) (intKind_is _ _ _ _) rfl hset hroom fun h18 sb18 hset'=>⟨_,?_,q⟩
 refine I.write (e:=D) (by rw [hS]; trivial) (.inl rfl) (fun b o hb e=>(sb18.2 b hb).trans e) ?_ hset'
 obtain ⟨o,_,_,_,e,_⟩:=hset'
 exact ⟨o,e⟩
abbrev ScGo:=C2Go adS (.set (fun _=>false) 0)
def tSC (wi:TI) (g0:TG) (wi1:TI) (g1:TG) (te:TE) (fr:List (Option Nat)):TE:=fun σ H Q=>wi σ H fun J H1=>∀ D,H1 D=none→ScGo J g0 wi1 g1 te (lcStart fr σ) H1 D Q
theorem pe_sc2 {X:Cx} {t0 i0 t1 i1 elt:Expr} {scope:Scope} {cl:List (Str×Addr)} {N:List Str} {fr:List (Option Nat)} {pos:Pos} {wi wi1:TI} {g0 g1:TG} {te:TE}
 (hc:X.calm=true) (L:LcO X scope cl N fr) (hi:PI X t0 i0 wi) (hg:∀ C s3 H3 fp,PG (blk X scope cl C N s3 H3 fp) t0 g0) (hi1:∀ C s3 H3 fp,PI (blk X scope cl C N s3 H3 fp) t1 i1 wi1) (hg1:∀ C s3 H3 fp,PG (blk X scope cl C N s3 H3 fp) t1 g1)
 (he:∀ C s3 H3 fp,PE (blk X scope cl C N s3 H3 fp) elt te)
 (hs:∀ x,foldedSetIterable i0 X.env x=pure x:=by intro _; rfl) (hs1:∀ env x,foldedSetIterable i1 env x=pure x:=by intro _ _; rfl):PE X (sc2 elt t0 i0 t1 i1 scope pos) (tSC wi g0 wi1 g1 te fr):=by
 intro pins s σ H Q I h
 rw [arm_eval_SetComp]
 dsimp only
 refine wpAny_comprehension_free (use:=none) rfl hs L.clos L.kind L.names (thn (hi pins s σ H _ I h) fun v s1 h1=>thn h1 fun itv s2 h2=>?_)
 obtain ⟨it,fp,tn,J,H2,e,I2,T,st2,f2,h⟩:=h2
 subst e
 refine wpAny_newSet_of (knd:=PySem.intKind X.prog X.w) fun led setOf=>?_
 exact c2_core (ac:=.set (fun _=>false) 0) rfl hc L hg hi1 hg1 he pad_S I2 T st2 f2 setOf (h _ (I2.hok.fresh (Nat.le_refl _))) hs1 sc2_ok
end L2
namespace L2
open PySem PySem.Spec PyProof.Rows PySem.W
def krun {α:Type} (f:Nat→Nat→Bool):KasT α→α
 | .ret a=>a
 | .ask i j k=>krun f (k (f i j))
def kin {α:Type} (n:Nat) (f:Nat→Nat→Bool):KasT α→Bool
 | .ret _=>true
 | .ask i j k=>decide (i < n) && decide (j < n) && kin n f (k (f i j))
theorem krun_wp {α:Type} {n:Nat} {f:Nat→Nat→Bool} {cmp:Nat→Nat→(Bool→Shared→Prop)→Shared→Prop} {Q:α→Shared→Prop} {s:Shared} (hc:∀ i j C,i < n→j < n→C (f i j) s→cmp i j C s) :
 ∀ (t:KasT α),kin n f t=true→Q (krun f t) s→t.kasWp cmp Q s
 | .ret a,_,h=>h
 | .ask i j k,hk,h=>by
   unfold kin at hk
   rw [Bool.and_eq_true,Bool.and_eq_true] at hk
   exact hc i j _ (of_decide_eq_true hk.1.1) (of_decide_eq_true hk.1.2) (krun_wp hc (k (f i j)) hk.2 h)
def fB (b:Nat→Nat→Bool) (i j:Nat):Bool:=if i < j then b i j else if j < i then !b j i else false
def tot (n:Nat) (f:Nat→Nat→Bool):Bool:=(List.range n).all fun i=>(List.range n).all fun j=>(List.range n).all fun k=>!(f i j && f j k) || f i k
def srt (f:Nat→Nat→Bool):List Nat→Bool
 | []=>true
 | [_]=>true
 | i :: j :: r=>f i j && srt f (j :: r)
def fine (n:Nat) (f:Nat→Nat→Bool):Bool:=!tot n f || (kin n f (kas_sort n) && (krun f (kas_sort n)).toList.isPerm (List.range n) && srt f (krun f (kas_sort n)).toList)
def g2 (a:Bool):Nat→Nat→Bool:=fun _ _=>a
def g3 (a b c:Bool):Nat→Nat→Bool:=fun i j=>if i=0 then (if j=1 then a else b) else c
def g4 (a b c d e g:Bool):Nat→Nat→Bool:=fun i j=>if i=0 then (if j=1 then a else if j=2 then b else c) else if i=1 then (if j=2 then d else e) else g
theorem fine2:∀ a,fine 2 (fB (g2 a))=true:=by decide +kernel
theorem fine3:∀ a b c,fine 3 (fB (g3 a b c))=true:=by decide +kernel
theorem fine4:∀ a b c d e g,fine 4 (fB (g4 a b c d e g))=true:=by decide +kernel
theorem krun_eq {α:Type} {n:Nat} {f f':Nat→Nat→Bool} (h:∀ i j,i < n→j < n→f i j=f' i j):∀ (t:KasT α),kin n f' t=true→kin n f t=true∧krun f t=krun f' t
 | .ret a,_=>⟨rfl,rfl⟩
 | .ask i j k,hk=>by
   unfold kin at hk
   rw [Bool.and_eq_true,Bool.and_eq_true] at hk
   obtain ⟨⟨h1,h2⟩,h3⟩:=hk
   have e:=h i j (of_decide_eq_true h1) (of_decide_eq_true h2)
   obtain ⟨r1,r2⟩:=krun_eq h (k (f' i j)) h3
   refine ⟨?_,?_⟩
   · unfold kin; rw [e,h1,h2,r1]; rfl
   · show krun f (k (f i j))=krun f' (k (f' i j))
     rw [e]; exact r2
structure Ord (n:Nat) (f:Nat→Nat→Bool):Prop where
 irr:∀ i,i < n→f i i=false
 ant:∀ i j,i < n→j < n→i≠j→f j i = !f i j
 tr:∀ i j k,i < n→j < n→k < n→f i j=true→f j k=true→f i k=true
theorem srt_congr {n:Nat} {f f':Nat→Nat→Bool} (h:∀ i j,i < n→j < n→f i j=f' i j):∀ (l:List Nat),(∀ i∈l,i < n)→srt f l=srt f' l
 | [],_=>rfl
 | [_],_=>rfl
 | i :: j :: r,hl=>by
   show (f i j && srt f (j :: r))=(f' i j && srt f' (j :: r))
   rw [h i j (hl i (by simp)) (hl j (by simp)),srt_congr h (j :: r) fun k hk=>hl k (List.mem_cons_of_mem _ hk)]
theorem fine_use {n:Nat} {f f':Nat→Nat→Bool} (o:Ord n f) (h:∀ i j,i < n→j < n→f i j=f' i j) (hf:fine n f'=true):kin n f (kas_sort n)=true∧(krun f (kas_sort n)).toList.Perm (List.range n)∧srt f (krun f (kas_sort n)).toList=true:=by
 have ht:tot n f'=true:=by
  unfold tot
  simp only [List.all_eq_true,List.mem_range]
  intro i hi j hj k hk
  rw [← h i j hi hj,← h j k hj hk,← h i k hi hk]
  cases a:f i j <;> cases b:f j k <;> simp
  exact o.tr i j k hi hj hk a b
 unfold fine at hf
 rw [ht] at hf
 simp only [Bool.not_true,Bool.false_or,Bool.and_eq_true] at hf
 obtain ⟨⟨h1,h2⟩,h3⟩:=hf
 obtain ⟨r1,r2⟩:=krun_eq h (kas_sort n) h1
 have hp:(krun f' (kas_sort n)).toList.Perm (List.range n):=List.isPerm_iff.mp h2
 refine ⟨r1,by rw [r2]; exact hp,?_⟩
 rw [r2,srt_congr h _ fun i hi=>List.mem_range.mp (hp.mem_iff.mp hi)]
 exact h3
theorem sort_few {n:Nat} {f:Nat→Nat→Bool} (o:Ord n f) (h1:2≤n) (h2:n≤4):kin n f (kas_sort n)=true∧(krun f (kas_sort n)).toList.Perm (List.range n)∧srt f (krun f (kas_sort n)).toList=true:=by
 have cases3:n=2∨n=3∨n=4:=by omega
 have key:∀ (g:Nat→Nat→Bool),(∀ i j,i < j→j < n→f i j=g i j)→∀ i j,i < n→j < n→f i j=fB g i j:=fun g hg i j hi hj=>by
  unfold fB
  by_cases a:i < j
  · rw [if_pos a]; exact hg i j a hj
  · rw [if_neg a]
    by_cases b:j < i
    · rw [if_pos b,← hg j i b hi]; exact o.ant j i hj hi (by omega)
    · rw [if_neg b]
      have:i=j:=by omega
      subst this
      exact o.irr i hi
 rcases cases3 with rfl | rfl | rfl
 · refine fine_use o (key (g2 (f 0 1)) fun i j a b=>?_) (fine2 _)
   have:i=0∧j=1:=by omega
   obtain ⟨rfl,rfl⟩:=this
   rfl
 · refine fine_use o (key (g3 (f 0 1) (f 0 2) (f 1 2)) fun i j a b=>?_) (fine3 _ _ _)
   have:(i=0∧j=1)∨(i=0∧j=2)∨(i=1∧j=2):=by omega
   rcases this with ⟨rfl,rfl⟩ | ⟨rfl,rfl⟩ | ⟨rfl,rfl⟩ <;> rfl
 · refine fine_use o (key (g4 (f 0 1) (f 0 2) (f 0 3) (f 1 2) (f 1 3) (f 2 3)) fun i j a b=>?_) (fine4 _ _ _ _ _ _)
   have:(i=0∧j=1)∨(i=0∧j=2)∨(i=0∧j=3)∨(i=1∧j=2)∨(i=1∧j=3)∨(i=2∧j=3):=by omega
   rcases this with ⟨rfl,rfl⟩ | ⟨rfl,rfl⟩ | ⟨rfl,rfl⟩ | ⟨rfl,rfl⟩ | ⟨rfl,rfl⟩ | ⟨rfl,rfl⟩ <;> rfl
section
variable {prog:Program} {w:World} {A:Around} {E:Value→Shared→Prop} {s:Shared}
theorem sort_by {a:Addr} {vs:List Value} {n:Nat} {P:PySem.Fin→Shared→Prop} (good:List Nat→Prop) (g1:vs.length < 2→good (List.range vs.length)) (ho:s.heap.get? a=some (seqObj "list" vs.toArray n)) (h64:vs.length < 64)
 (ask:2≤vs.length→∀ h1,(∀ b u,b≠a→s.heap.get? b=some u→h1.get? b=some u)→wpAny (model prog w) A (keyKind' vs.toArray) (fun κ s1=>s1={ s with heap:=h1 }∧(kas_sort vs.length).kasWp (kas_ask prog w A κ vs) (fun p s2=>s2={ s with heap:=h1 }∧good p.toList) s1) (fun _ _=>False) { s with heap:=h1 })
 (h:∀ p:List Nat,good p→P (.done (.ret .none)) { s with heap:=sortedHeap s.heap a vs (p.map fun i=>vs.getD i Value.none).toArray }) :
 wpAny (model prog w) A (Builtin.«list.sort» ⟨[.ref a],[]⟩) P E s:=by
 have ha:a < s.heap.objs.size:=Heap.lt_size ho
 obtain ⟨e1,o1⟩:∃ e1,(s.heap.update a (Obj.mapSeq fun _=>(#[]:Array Value))).get? a=some (seqObj "list" #[] e1):=⟨_,get?_update_seq ho fun _=>#[]⟩
 have s1:=Heap.SameBut.update s.heap a (Obj.mapSeq fun _=>(#[]:Array Value))
 have k6:∀ b u,b≠a→s.heap.get? b=some u→(((s.heap.update a (Obj.mapSeq fun _=>#[])).push (seqObj "tuple" vs.toArray 0)).push (seqObj "list" #[] 0)).get? b=some u:=fun b u nb e=>Heap.get?_push_of_some _ (Heap.get?_push_of_some _ ((s1.2 b nb).trans e))
 have o6:(((s.heap.update a (Obj.mapSeq fun _=>#[])).push (seqObj "tuple" vs.toArray 0)).push (seqObj "list" #[] 0)).get? a=some (seqObj "list" #[] e1):=Heap.get?_push_of_some _ (Heap.get?_push_of_some _ o1)
 rw [list_sort_plain]
 refine wpAny_bind (listItems_at ho rfl (wpAny_bind (listUpdate_at ho rfl (wpAny_bind (seqEpoch_at o1 rfl (wpAny_bind (wpAny_newTuple (wpAny_bind (wpAny_newList (wpAny_holding ?_) (Nat.zero_le _))) (by show vs.length≤_; rw [sizeLine_eq]; omega))))) (by rw [List.size_toArray,sizeLine_eq]; omega) (Nat.zero_le _))))
 show wpAny (model prog w) A _ P E { s with heap:=((s.heap.update a (Obj.mapSeq fun _=>#[])).push (seqObj "tuple" vs.toArray 0)).push (seqObj "list" #[] 0) }
 dsimp only
 by_cases h2:vs.toArray.size < 2
 · rw [if_pos h2,if_pos h2]
   refine wpAny_bind (wpAny_pure ?_)
   rw [StateT.run_pure]
   refine wpAny_bind (wpAny_pure ?_)
   dsimp only
   have z:=h _ (g1 (by simpa using h2))
   have ev:((List.range vs.length).map fun i=>vs.getD i Value.none)=vs:=by
    refine List.ext_getElem (by simp) fun i a1 a2=>?_
    simp [List.getD_eq_getElem?_getD,a2]
   rw [ev] at z
   refine wpAny_bind (seqEpoch_at o6 rfl (wpAny_bind (listUpdate_at o6 rfl ?_ (hsz2:=by rw [Array.size_map]; show (vs.toArray.zip vs.toArray).size≤_; rw [Array.size_zip,List.size_toArray,sizeLine_eq]; omega))))
   simp only [bne_self_eq_false,Bool.false_eq_true,if_false]
   refine wpAny_pure ?_
   have em:((vs.toArray.zip vs.toArray).map (·.2))=vs.toArray:=by
    apply Array.ext (by simp)
    intro i a1 a2
    simp
   unfold sortedHeap at z
   show P _ { s with heap:=(((s.heap.update a (Obj.mapSeq fun _=>#[])).push (seqObj "tuple" vs.toArray 0)).push (seqObj "list" #[] 0)).update a (Obj.mapSeq fun _=>(vs.toArray.zip vs.toArray).map (·.2)) }
   rw [em]
   exact z
 · have hn:2≤vs.length:=by simp at h2; omega
   rw [if_neg h2,if_neg h2]
   refine wpAny_bind (wpAny_mono (ask hn _ k6) (fun κ s0 hk=>?_) fun _ _ x=>x.elim)
   obtain ⟨rfl,hk⟩:=hk
   refine wpAny_bind (wpAny_mono (kat_run (Q:=fun st' s2=>∃ p:Array Nat,arrOf st'=p.map (kas_item (vs.toArray.zip vs.toArray))∧failedOf st'=none∧p.size=vs.length∧s2={ s with heap:=((s.heap.update a (Obj.mapSeq fun _=>#[])).push (seqObj "tuple" vs.toArray 0)).push (seqObj "list" #[] 0) }∧good p.toList)
    rfl hn h64 (fun p st' s2 a1 a2 a3 a4=>⟨p,a2,a3,a1,a4.1,a4.2⟩) hk) ?_ fun _ _ e=>e)
   rintro ⟨⟨⟩,st'⟩ s2 ⟨p,har,hf,hp,rfl,gp⟩
   dsimp only
   rw [kat_snds rfl har]
   refine wpAny_bind (seqEpoch_at o6 rfl (wpAny_bind (listUpdate_at o6 rfl ?_ (Nat.zero_le _) (by rw [List.size_toArray,List.length_map,Array.length_toList,hp,sizeLine_eq]; omega))))
   rw [hf]
   simp only [bne_self_eq_false,Bool.false_eq_true,if_false]
   exact wpAny_pure (h p.toList gp)
theorem sorted_by {l:Addr} {vs:List Value} {Q:Value→Shared→Prop} (good:List Nat→Prop) (g1:vs.length < 2→good (List.range vs.length)) (hl:s.heap.IsList l vs.toArray) (h64:vs.length < 64)
 (ask:2≤vs.length→∀ h1,(∀ b u,s.heap.get? b=some u→h1.get? b=some u)→wpAny (model prog w) A.in1.in1 (keyKind' vs.toArray) (fun κ s1=>s1={ s with heap:=h1 }∧(kas_sort vs.length).kasWp (kas_ask prog w A.in1.in1 κ vs) (fun p s2=>s2={ s with heap:=h1 }∧good p.toList) s1) (fun _ _=>False) { s with heap:=h1 })
 (h:∀ p:List Nat,good p→Q (.ref (s.heap.objs.size+1)) { s with heap:=sortedAll s.heap vs (p.map fun i=>vs.getD i Value.none).toArray }) :
 wpAny (model prog w) A (call (.builtin "sorted") [.ref l]) Q E s:=by
 refine Calls.call_function_entry kind_sorted plain_sorted entry_sorted (args_sorted1 _) ?_
 unfold Builtin.«sorted»
 refine wpAny_bind (m:=checkCount "sorted" 1 1 _) (wpAny_pure (wpAny_bind (collect_list hl (wpAny_bind (wpAny_newList ?_ (by rw [sizeLine_eq]; omega))) (by rw [sizeLine_eq]; omega))))
 have n1:((s.heap.push (seqObj "list" #[] 0)).update s.heap.objs.size (Obj.mapSeq (·++vs.toArray))).objs.size=s.heap.objs.size+1:=by rw [Heap.size_update,size_push']
 have oL:(((s.heap.push (seqObj "list" #[] 0)).update s.heap.objs.size (Obj.mapSeq (·++vs.toArray))).push (seqObj "list" vs.toArray 0)).get? (s.heap.objs.size+1)=some (seqObj "list" vs.toArray 0):=by rw [← n1]; exact Heap.get?_push_size _ rfl
 have kL:∀ b u,s.heap.get? b=some u→(((s.heap.push (seqObj "list" #[] 0)).update s.heap.objs.size (Obj.mapSeq (·++vs.toArray))).push (seqObj "list" vs.toArray 0)).get? b=some u:=fun b u e=>by
  have lt:b < s.heap.objs.size:=Heap.lt_size e
  refine Heap.get?_push_of_some _ ?_
  rw [Heap.get?_update_ne _ _ _ _ (Nat.ne_of_lt lt)]
  exact Heap.get?_push_of_some _ e
 show wpAny _ _ _ _ _ { s with heap:=((s.heap.push (seqObj "list" #[] 0)).update s.heap.objs.size (Obj.mapSeq (·++vs.toArray))).push (seqObj "list" vs.toArray 0) }
 rw [n1]
 refine wpAny_bind (wpAny_holding (wpAny_call_entry slot_list_sort ⟨_,oL,rfl⟩ entry_list_sort (sort_by (s:={ s with heap:=((s.heap.push (seqObj "list" #[] 0)).update s.heap.objs.size (Obj.mapSeq (·++vs.toArray))).push (seqObj "list" vs.toArray 0) }) good g1 oL h64 (fun h2 h1 k1=>ask h2 h1 fun b u e=>k1 b u (Nat.ne_of_lt (Nat.lt_succ_of_lt (Heap.lt_size e))) (kL b u e)) fun p gp=>⟨_,rfl,?_⟩) (args_list_sort _)))
 exact wpAny_pure ⟨_,rfl,h p gp⟩
end
end L2
namespace L2
open PySem PySem.Spec PyProof.Rows PySem.W
section
variable {prog:Program} {w:World} {A:Around} {E:Value→Shared→Prop} {s:Shared}
theorem one_lt {b:Bool} {x y:Int} {t u:Tok} {Q:Bool→Shared→Prop} (h:Q (decide (x < y)) s):wpAny (model prog w) A (oneLt' b (.int x t) (.int y u)) Q E s:=by
 cases b
 · refine kat_one _ _ (lt_int ?_)
   exact h
 · exact kat_lt_int h
theorem lex_ints {b:Bool} {Q:Bool→Shared→Prop}:∀ {ns ms:List Int} {us ws:List Value} (i:Nat),IntsAre us ns→IntsAre ws ms→ns.length=ms.length→Q (HT.lexLt ns ms) s→KatLex prog w A b false Q (us.zip ws) i s
 | [],[],_,_,i,.nil,.nil,_,h=>kat_nil h
 | [],_ :: _,_,_,i,_,_,hl,_=>by simp at hl
 | _ :: _,[],_,_,i,_,_,hl,_=>by simp at hl
 | x :: ns,y :: ms,_,_,i,.cons _ t hu,.cons _ u hw,hl,h=>by
   refine kat_cons (wpAny_eqBool_int ?_)
   rw [HT.lexLt_cons] at h
   by_cases e:x=y
   · subst e
     rw [if_pos rfl] at h
     rw [beq_self_eq_true]
     exact kat_yes (lex_ints (i+1) hu hw (by simpa using hl) h)
   · rw [if_neg e] at h
     rw [show (x == y)=false by simpa using e]
     exact kat_no (one_lt h)
end
theorem lex_irr:∀ (a:List Int),HT.lexLt a a=false
 | []=>rfl
 | x :: a=>by rw [HT.lexLt_cons,if_pos rfl]; exact lex_irr a
theorem lex_ant:∀ (a b:List Int),a.length=b.length→a≠b→HT.lexLt b a = !HT.lexLt a b
 | [],[],_,h=>absurd rfl h
 | [],_ :: _,h,_=>by simp at h
 | _ :: _,[],h,_=>by simp at h
 | x :: a,y :: b,hl,hn=>by
   rw [HT.lexLt_cons,HT.lexLt_cons]
   by_cases e:x=y
   · subst e
     rw [if_pos rfl,if_pos rfl]
     exact lex_ant a b (by simpa using hl) (fun z=>hn (by rw [z]))
   · rw [if_neg e,if_neg (Ne.symm e)]
     by_cases h:x < y
     · rw [decide_eq_true h,decide_eq_false (by omega)]; rfl
     · rw [decide_eq_false h,decide_eq_true (by omega)]; rfl
theorem lex_tr:∀ (a b c:List Int),a.length=b.length→b.length=c.length→HT.lexLt a b=true→HT.lexLt b c=true→HT.lexLt a c=true
 | [],[],_,_,_,h,_=>by cases h
 | [],_ :: _,_,h,_,_,_=>by simp at h
 | _ :: _,[],_,h,_,_,_=>by simp at h
 | _ :: _,_ :: _,[],_,h,_,_=>by simp at h
 | x :: a,y :: b,z :: c,h1,h2,h3,h4=>by
   rw [HT.lexLt_cons] at h3 h4 ⊢
   by_cases e1:x=y
   · subst e1
     rw [if_pos rfl] at h3
     by_cases e2:x=z
     · subst e2
       rw [if_pos rfl] at h4 ⊢
       exact lex_tr a b c (by simpa using h1) (by simpa using h2) h3 h4
     · rw [if_neg e2] at h4 ⊢; exact h4
   · rw [if_neg e1] at h3
     have l1:x < y:=of_decide_eq_true h3
     by_cases e2:y=z
     · subst e2
       rw [if_neg e1]; exact h3
     · rw [if_neg e2] at h4
       have l2:y < z:=of_decide_eq_true h4
       rw [if_neg (by omega)]
       exact decide_eq_true (by omega)
theorem srt_pair {n:Nat} {f:Nat→Nat→Bool} (o:Ord n f):∀ (l:List Nat),(∀ i∈l,i < n)→srt f l=true→l.Pairwise (fun i j=>f i j=true)
 | [],_,_=>.nil
 | [i],_,_=>.cons (by simp) .nil
 | i :: j :: r,hl,h=>by
   have h':(f i j && srt f (j :: r))=true:=h
   rw [Bool.and_eq_true] at h'
   have ih:=srt_pair o (j :: r) (fun k hk=>hl k (List.mem_cons_of_mem _ hk)) h'.2
   refine .cons (fun k hk=>?_) ih
   rcases List.mem_cons.mp hk with rfl | hk'
   · exact h'.1
   · exact o.tr i j k (hl i (by simp)) (hl j (by simp)) (hl k (List.mem_cons_of_mem _ hk)) h'.1 ((List.pairwise_cons.mp ih).1 k hk')
section
variable {X:Cx}
theorem tups_firsts {h:Heap}:∀ {vs:List Value} {kl:List (List Int)},Paired (fun v k=>∃ b o its n,v=Value.ref b∧h.get? b=some o∧o.cls=.type "tuple" ∧ o.data=.seq its n∧IntsAre its.toList k∧0 < k.length) vs kl→∃ fs:List Value,KatTups h vs fs∧fs.length=vs.length∧∀ v∈fs,∃ x t,v=Value.int x t
 | [],[],.nil=>⟨[],.nil,rfl,fun v hv=>by simp at hv⟩
 | v :: vs,k :: kl,.cons r rs=>by
   obtain ⟨fs,h1,h2,h3⟩:=tups_firsts rs
   obtain ⟨b,o,its,n,rfl,g,c,d,hi,hk⟩:=r
   cases k with
   | nil=>simp at hk
   | cons x k =>
     have:∃ t,its[0]? = some (Value.int x t):=by
      cases hi':its.toList with
      | nil=>rw [hi'] at hi; cases hi
      | cons u us =>
        rw [hi'] at hi
        cases hi with
        | cons _ t _=>exact ⟨t,by rw [← Array.getElem?_toList,hi']; rfl⟩
     obtain ⟨t,e⟩:=this
     refine ⟨_ :: fs,.cons g c d e h1,by rw [List.length_cons,List.length_cons,h2],fun v hv=>?_⟩
     rcases List.mem_cons.mp hv with rfl | hv
     · exact ⟨_,_,rfl⟩
     · exact h3 v hv
end
end L2
namespace L2
open PySem PySem.Spec PyProof.Rows PySem.W
abbrev lexF (kl:List (List Int)) (i j:Nat):Bool:=HT.lexLt (kl.getD i []) (kl.getD j [])
theorem lex_ord {kl:List (List Int)} {m:Nat} (nd:kl.Nodup) (hm:∀ k∈kl,k.length=m):Ord kl.length (lexF kl) where
 irr:=fun i _=>lex_irr _
 ant:=fun i j hi hj ne=>by
  have e1:kl.getD i []=kl[i]:=by simp [List.getD_eq_getElem?_getD,hi]
  have e2:kl.getD j []=kl[j]:=by simp [List.getD_eq_getElem?_getD,hj]
  show HT.lexLt _ _ = !HT.lexLt _ _
  rw [e1,e2]
  exact lex_ant _ _ (by rw [hm _ (List.getElem_mem hi),hm _ (List.getElem_mem hj)]) fun z=>ne ((List.getElem_inj nd).mp z)
 tr:=fun i j k hi hj hk h1 h2=>by
  have e:∀ i (h:i < kl.length),(kl.getD i []).length=m:=fun i h=>by
   have:kl.getD i []=kl[i]:=by simp [List.getD_eq_getElem?_getD,h]
   rw [this]; exact hm _ (List.getElem_mem h)
  exact lex_tr _ _ _ (by rw [e i hi,e j hj]) (by rw [e j hj,e k hk]) h1 h2
theorem vals_map {vs:List V} {us:List Value} (r:Vals vs us):∀ (p:List Nat),(∀ i∈p,i < vs.length)→Vals (p.map fun i=>vs.getD i .non) (p.map fun i=>us.getD i Value.none)
 | [],_=>.nil
 | i :: p,h=>by
   have hi:i < vs.length:=h i (by simp)
   obtain ⟨u,e,ru⟩:=r.get (List.getElem?_eq_getElem hi)
   refine .cons ?_ (vals_map r p fun j hj=>h j (List.mem_cons_of_mem _ hj))
   show RelV (vs.getD i .non) (us.getD i Value.none)
   rw [show vs.getD i .non=vs[i] by simp [List.getD_eq_getElem?_getD,hi],show us.getD i Value.none=u by simp [List.getD_eq_getElem?_getD,e]]
   exact ru
section
variable {X:Cx}
theorem call_sortedT:CallR X (.builtin "sorted") (fun xs H Q=>∃ (p:Addr) (vs:List V) (kl:List (List Int)) (m:Nat),xs=[.ref p]∧SqL X.K H p vs∧vs.length=kl.length∧(∀ (i:Nat) (v:V),vs[i]? = some v→∃ (b:Addr) (k:List Int),v=.ref b∧kl[i]? = some k∧SqT X.K H b (k.map V.int))∧kl.Nodup∧kl.length≤4∧(∀ k∈kl,k.length=m)∧0 < m ∧
 ∀ (l:Addr) (q:List Nat),H l=none→q.Perm (List.range kl.length)→(q.map fun i=>kl.getD i []).Pairwise (fun a b=>HT.lexLt a b=true)→Q (.ref l) (upd H l (.lst (q.map fun i=>vs.getD i .non)))):=by
 intro pins s σ H xs us Q I r h
 obtain ⟨p,vs,kl,m,rfl,hq,hl,hk,nd,h4,hm,m0,q⟩:=h
 cases r with
 | cons rx r =>
   cases r
   cases (show _=Value.ref p from rx)
   obtain ⟨its,rv,pl,hz⟩:=I.list hq
   have hlen:=rv.length
   have o:=lex_ord nd hm
   have tup:∀ i,i < kl.length→∃ b ob jt n,its.getD i Value.none=.ref b∧s.heap.get? b=some ob∧ob.cls=.type "tuple" ∧ ob.data=.seq jt n∧IntsAre jt.toList (kl.getD i [])∧(kl.getD i []).length=m:=fun i hi=>by
    have hv:i < vs.length:=by omega
    obtain ⟨b,k,e1,e2,hb⟩:=hk i vs[i] (List.getElem?_eq_getElem hv)
    obtain ⟨u,eu,ru⟩:=rv.get (List.getElem?_eq_getElem hv)
    rw [e1] at ru
    cases ru
    obtain ⟨jt,rj,⟨ob,g,c,n,d⟩,_⟩:=I.tuple hb
    have ek:kl.getD i []=k:=by simp [List.getD_eq_getElem?_getD,e2]
    refine ⟨b,ob,jt.toArray,n,by simp [List.getD_eq_getElem?_getD,eu],g,c,d,by rw [ek]; simpa using intsAre_of rj,?_⟩
    rw [ek]; exact hm k (List.mem_of_getElem? e2)
   refine sorted_by (fun q=>q.Perm (List.range kl.length)∧(q.map fun i=>kl.getD i []).Pairwise (fun a b=>HT.lexLt a b=true)) (fun h2=>?_) pl.isList (by omega) (fun h2 h1 k1=>?_) fun p' gp=>?_
   · have:its.length=kl.length:=by omega
     rw [this]
     refine ⟨.refl _,?_⟩
     have:kl.length=0∨kl.length=1:=by omega
     rcases this with e | e <;> rw [e]
     · exact .nil
     · exact .cons (by simp) .nil
   · have en:its.length=kl.length:=by omega
     have keep:∀ i,i < kl.length→∃ b ob jt n,its.getD i Value.none=.ref b∧h1.get? b=some ob∧ob.cls=.type "tuple" ∧ ob.data=.seq jt n∧IntsAre jt.toList (kl.getD i [])∧(kl.getD i []).length=m:=fun i hi=>by
      obtain ⟨b,ob,jt,n,e1,e2,e3⟩:=tup i hi
      exact ⟨b,ob,jt,n,e1,k1 b ob e2,e3⟩
     have prd:∀ (us:List Value) (ks:List (List Int)),us.length=ks.length→(∀ i,i < ks.length→∃ b ob jt n,us.getD i Value.none=.ref b∧h1.get? b=some ob∧ob.cls=.type "tuple" ∧ ob.data=.seq jt n∧IntsAre jt.toList (ks.getD i [])∧(ks.getD i []).length=m)→Paired (fun v k=>∃ b o its n,v=Value.ref b∧h1.get? b=some o∧o.cls=.type "tuple" ∧ o.data=.seq its n∧IntsAre its.toList k∧0 < k.length) us ks:=by
      intro us
      induction us with
      | nil=>intro ks e _; cases ks with
        | nil=>exact .nil
        | cons _ _=>simp at e
      | cons u us ih =>
        intro ks e hh
        cases ks with
        | nil=>simp at e
        | cons k ks =>
          refine .cons ?_ (ih ks (by simpa using e) fun i hi=>by simpa using hh (i+1) (by simpa using hi))
          obtain ⟨b,ob,jt,n,e1,e2,e3,e4,e5,e6⟩:=hh 0 (by simp)
          exact ⟨b,ob,jt,n,by simpa using e1,e2,e3,e4,by simpa using e5,(by have e7:k.length=m:=(by simpa using e6); omega)⟩
     obtain ⟨fs,f1,f2,f3⟩:=tups_firsts (prd its kl en keep)
     refine kat_kind (T:=.type "int") f1 (by omega) (fun v hv=>?_) rfl ⟨rfl,?_⟩
     · obtain ⟨x,t,rfl⟩:=f3 v hv
       exact Looks.of_pure rfl
     · obtain ⟨r1,r2,r3⟩:=sort_few o (by omega) h4
       rw [en]
       refine krun_wp (n:=kl.length) (f:=lexF kl) (fun i j C hi hj hC=>?_) _ r1 ⟨rfl,r2,?_⟩
       · obtain ⟨b,ob,jt,n,e1,e2,e3,e4,e5,e6⟩:=keep i hi
         obtain ⟨b',ob',jt',n',e1',e2',e3',e4',e5',e6'⟩:=keep j hj
         unfold kas_ask
         rw [e1,e1']
         have z:jt.size=jt'.size:=by
          have a1:=IntsAre.length e5
          have a2:=IntsAre.length e5'
          rw [Array.length_toList] at a1 a2
          omega
         refine kat_lt e2 e4 e2' e4' ?_
         rw [decide_eq_false (by omega)]
         exact lex_ints 0 e5 e5' (by rw [e6,e6']) hC
       · have pw:=srt_pair o _ (fun i hi=>List.mem_range.mp (r2.mem_iff.mp hi)) r3
         exact List.pairwise_map.mpr pw
   · obtain ⟨e,he⟩:=sortedAll_at s.heap its (p'.map fun i=>its.getD i Value.none).toArray
     have fr:H (s.heap.objs.size+1)=none:=I.hok.fresh (Nat.le_succ _)
     have lt:∀ i∈p',i < vs.length:=fun i hi=>by rw [hl]; exact List.mem_range.mp (gp.1.mem_iff.mp hi)
     refine ⟨.ref (s.heap.objs.size+1),_,I.laid (o:=.lst (p'.map fun i=>vs.getD i .non)) (t':=s.toks) (fun b u e=>sortedAll_old e) (Nat.le_succ _) ⟨?_,p'.map fun i=>its.getD i Value.none,e,vals_map rv p' lt,he⟩,rfl,q _ p' fr gp.1 gp.2⟩
     rw [List.length_map,gp.1.length_eq,List.length_range,sizeLine_eq]; omega
end
end L2
namespace L2
open PySem PySem.Spec PyProof.Rows
abbrev ZR (h:Heap) (z t o:Addr) (f0:Value) (f1:Bool):Prop:=h.get? z=some { cls:=.type "zip",dict:=none,data:=.fields #[f0,.bool f1,.bool false,.ref t,.ref o],slots:=#[] }
def ZSt (h:Heap) (z t o:Addr):Prop:=∃ f0 f1,ZR h z t o f0 f1∧(f0=.none∨∃ T,f0=rawInt T)
section
variable {prog:Program} {w:World} {A:Around} {E:Value→Shared→Prop} {s:Shared} {k l:SK}
theorem wpAny_alive {M:Model} {a:Addr} {Q:Option Obj→Shared→Prop} (h:Q (s.heap.get? a) s):wpAny M A (loadIfAlive a) Q E s:=fun _ _ _=>h
theorem free_any {z t o:Addr} {Q:Bool→Shared→Prop} (hz:ZSt s.heap z t o) (q:∀ (b:Bool) (h1:Heap),ZSt h1 z t o→Heap.SameBut z s.heap h1→Q b { s with heap:=h1 }):wpAny (model prog w) A (Builtin.SmallTypes.ownedTupleIsFree (.ref z)) Q E s:=by
 obtain ⟨f0,f1,hz,hf⟩:=hz
 unfold Builtin.SmallTypes.ownedTupleIsFree
 refine wpAny_bind (wpAny_field hz rfl (x:=f0) rfl ?_)
 rcases hf with rfl | ⟨T,rfl⟩
 · exact wpAny_pure (q true s.heap ⟨_,_,hz,.inl rfl⟩ (Heap.SameBut.refl ..))
 · show wpAny _ _ (loadIfAlive _ >>= _) _ _ s
   refine wpAny_bind (wpAny_alive ?_)
   split
   · exact wpAny_pure (q true s.heap ⟨_,_,hz,.inr ⟨T,rfl⟩⟩ (Heap.SameBut.refl ..))
   · refine wpAny_bind (wpAny_field hz rfl (x:=.bool f1) rfl ?_)
     split
     · refine wpAny_bind (wpAny_setField_rec hz (by simp) fun h1 z1 s1=>wpAny_pure (q false h1 ⟨_,true,z1,.inr ⟨T,rfl⟩⟩ s1))
     · exact wpAny_pure (q false s.heap ⟨_,_,hz,.inr ⟨T,rfl⟩⟩ (Heap.SameBut.refl ..))
theorem zipN_item {z t o i j a b:Addr} {m n:Nat} {xs ys:Array Value} {x y c d:Value} {Q:Value→Shared→Prop} (D:ZP z t o i j a b)
 (hz:ZSt s.heap z t o) (ht:IsPair s.heap t (.ref i) (.ref j)) (ho:IsPair s.heap o c d)
 (hi:k.It s.heap i a m) (hj:l.It s.heap j b n) (ha:k.Is s.heap a xs) (hb:l.Is s.heap b ys) (hx:xs[m]? = some x) (hy:ys[n]? = some y)
 (q:∀ h1,ZSt h1 z t o→(∃ c d,IsPair h1 o c d)→k.It h1 i a (m+1)→l.It h1 j b (n+1)→IsPair h1 s.heap.objs.size x y→h1.objs.size=s.heap.objs.size+1 →
   (∀ e u,e≠z→e≠o→e≠i→e≠j→s.heap.get? e=some u→h1.get? e=some u)→Q (.ref s.heap.objs.size) { s with heap:=h1 }) :
 wpAny (model prog w) A (Builtin.«zip.__next__» ⟨[.ref z],[]⟩) (fun fin s'=>∃ v,fin=.done (.ret v)∧Q v s') E s:=by
 obtain ⟨f0,f1,hz0,hf⟩:=id hz
 refine wpAny_bind (m:=field (.ref z) 2) (wpAny_field hz0 rfl (x:=.bool false) rfl ?_)
 refine wpAny_bind (m:=field (.ref z) 3) (wpAny_field hz0 rfl (x:=.ref t) rfl (wpAny_bind (wpAny_seqItems ht rfl ?_)))
 refine wpAny_bind (m:=Builtin.SmallTypes.ownedTupleIsFree (.ref z)) (free_any hz fun fr h0 hz' s0=>?_)
 have ho0:IsPair h0 o c d:=s0.extBut _ _ D.oz ho
 have hi0:k.It h0 i a m:=hi.at fun u e=>s0.extBut _ _ D.iz e
 have hj0:l.It h0 j b n:=hj.at fun u e=>s0.extBut _ _ D.jz e
 have ha0:k.Is h0 a xs:=ha.at fun u e=>s0.extBut _ _ D.az e
 have hb0:l.Is h0 b ys:=hb.at fun u e=>s0.extBut _ _ D.bz e
 have n0:h0.objs.size=s.heap.objs.size:=s0.1
 obtain ⟨g0,g1,hz0,hg⟩:=hz'
 cases fr with
 | true =>
   simp only [if_true]
   refine wpAny_bind (wpAny_rule (wpAny_bind (wpAny_field hz0 rfl (x:=.ref o) rfl (wpAny_bind (wpAny_setField_rec hz0 (by simp) fun h1 z1 s1=>?_)))))
   replace z1:ZR h1 z t o .ellipsis g1:=z1
   refine wpAny_bind ?_
   simp only [List.zipIdx_cons,List.zipIdx_nil,List.forIn_cons,List.forIn_nil]
   refine wpAny_bind (wpAny_bind (wpAny_onRaise (wpAny_bind (m:=Builtin.SmallTypes.nextOf (.ref i)) ?_)))
   refine SK.draw (hi0.at fun u e=>s1.extBut _ _ D.iz e) (ha0.at fun u e=>s1.extBut _ _ D.az e) hx fun h2 i2 s2=>wpAny_pure ?_
   have o2:IsPair h2 o c d:=s2.extBut _ _ D.oi (s1.extBut _ _ D.oz ho0)
   refine wpAny_bind (wpAny_seqItems o2 rfl (wpAny_bind (wpAny_updateSeq_pair o2 fun h3 o3 s3=>?_)))
   replace o3:IsPair h3 o x d:=o3
   refine wpAny_bind (wpAny_letGo (wpAny_pure (wpAny_bind (wpAny_bind (wpAny_onRaise (wpAny_bind (m:=Builtin.SmallTypes.nextOf (.ref j)) ?_))))))
   refine SK.draw (hj0.at fun u e=>s3.extBut _ _ D.oj.symm (s2.extBut _ _ D.ij.symm (s1.extBut _ _ D.jz e))) (hb0.at fun u e=>s3.extBut _ _ D.bo (s2.extBut _ _ D.bi (s1.extBut _ _ D.bz e))) hy fun h4 j4 s4=>wpAny_pure ?_
   have o4:IsPair h4 o x d:=s4.extBut _ _ D.oj o3
   refine wpAny_bind (wpAny_seqItems o4 rfl (wpAny_bind (wpAny_updateSeq_pair o4 fun h5 o5 s5=>?_)))
   replace o5:IsPair h5 o x y:=o5
   refine wpAny_bind (wpAny_letGo (wpAny_pure (wpAny_pure (wpAny_bind (wpAny_seqItems o5 rfl (wpAny_bind (wpAny_newTuple ?_)))))))
   have sz:h5.objs.size=s.heap.objs.size:=by rw [s5.1,s4.1,s3.1,s2.1,s1.1,n0]
   have z5:ZR h5 z t o .ellipsis g1:=s5.extBut _ _ D.oz.symm (s4.extBut _ _ D.jz.symm (s3.extBut _ _ D.oz.symm (s2.extBut _ _ D.iz.symm z1)))
   have k5:∀ e u,e≠z→e≠o→e≠i→e≠j→s.heap.get? e=some u→h5.get? e=some u:=fun e u e1 e2 e3 e4 g=>s5.extBut _ _ e2 (s4.extBut _ _ e4 (s3.extBut _ _ e2 (s2.extBut _ _ e3 (s1.extBut _ _ e1 (s0.extBut _ _ e1 g)))))
   have i5:k.It h5 i a (m+1):=i2.at fun u e=>s5.extBut _ _ D.oi.symm (s4.extBut _ _ D.ij (s3.extBut _ _ D.oi.symm e))
   have j5:l.It h5 j b (n+1):=j4.at fun u e=>s5.extBut _ _ D.oj.symm e
   have zl:z < h5.objs.size:=Heap.lt_size z5
   refine wpAny_bind (m:=Builtin.SmallTypes.ownedTupleHandOut (.ref z) (.ref h5.objs.size)) ?_
   unfold Builtin.SmallTypes.ownedTupleHandOut
   have z6:ZR (h5.push { cls:=.type "tuple",data:=.seq #[x,y] }) z t o .ellipsis g1:=Heap.get?_push_of_some _ z5
   refine wpAny_bind (wpAny_setField_rec z6 (by simp) fun h7 z7 s7=>?_)
   replace z7:ZR h7 z t o (rawInt h5.objs.size) g1:=z7
   refine wpAny_setField_rec z7 (by simp) fun h8 z8 s8=>?_
   replace z8:ZR h8 z t o (rawInt h5.objs.size) false:=z8
   have up:∀ e u,e≠z→h5.get? e=some u→h8.get? e=some u:=fun e u e1 g=>s8.extBut _ _ e1 (s7.extBut _ _ e1 (Heap.get?_push_of_some _ g))
   have T8:IsPair h8 h5.objs.size x y:=s8.extBut _ _ (Nat.ne_of_gt zl) (s7.extBut _ _ (Nat.ne_of_gt zl) (Heap.get?_push_size _ rfl))
   have l8:h8.objs.size=h5.objs.size+1:=by rw [s8.1,s7.1,Heap.size_push]
   rw [sz] at T8 l8
   refine wpAny_pure ⟨_,rfl,?_⟩
   show Q (.ref h5.objs.size) _
   rw [sz]
   exact q h8 ⟨_,_,z8,.inr ⟨_,rfl⟩⟩ ⟨x,y,up _ _ D.oz o5⟩ (i5.at fun u e=>up _ u D.iz e) (j5.at fun u e=>up _ u D.jz e) T8 l8 fun e u e1 e2 e3 e4 g=>up e u e1 (k5 e u e1 e2 e3 e4 g)
 | false =>
   simp only [Bool.false_eq_true,if_false]
   refine wpAny_bind ?_
   rw [← Array.forIn_toList]
   simp only [List.forIn_cons,List.forIn_nil]
   refine wpAny_bind (wpAny_bind (wpAny_holding (wpAny_bind (m:=Builtin.SmallTypes.nextOf (.ref i)) (SK.draw hi0 ha0 hx fun h2 i2 s2=>wpAny_pure (wpAny_pure ?_)))))
   refine wpAny_bind (wpAny_bind (wpAny_holding (wpAny_bind (m:=Builtin.SmallTypes.nextOf (.ref j)) (SK.draw (hj0.at fun u e=>s2.extBut _ _ D.ij.symm e) (hb0.at fun u e=>s2.extBut _ _ D.bi e) hy fun h4 j4 s4=>wpAny_pure (wpAny_pure ?_)))))
   refine wpAny_pure ?_
   have sz:h4.objs.size=s.heap.objs.size:=by rw [s4.1,s2.1,n0]
   have z4:ZR h4 z t o g0 g1:=s4.extBut _ _ D.jz.symm (s2.extBut _ _ D.iz.symm hz0)
   refine wpAny_bind (wpAny_newTuple (wpAny_pure ⟨_,rfl,?_⟩) (by show 2≤sizeLine; decide))
   show Q (.ref h4.objs.size) _
   have up:∀ e u,h4.get? e=some u→(h4.push { cls:=.type "tuple",data:=.seq #[x,y] }).get? e=some u:=fun e u g=>Heap.get?_push_of_some _ g
   have T4:IsPair (h4.push { cls:=.type "tuple",data:=.seq #[x,y] }) h4.objs.size x y:=Heap.get?_push_size _ rfl
   rw [sz] at T4 ⊢
   refine q _ ⟨_,_,up _ _ z4,hg⟩ ⟨c,d,up _ _ (s4.extBut _ _ D.oj (s2.extBut _ _ D.oi ho0))⟩ (i2.at fun u e=>up _ u (s4.extBut _ _ D.ij e)) (j4.at fun u e=>up _ u e) T4 (by rw [Heap.size_push,sz]) fun e u e1 e2 e3 e4 g=>up e u (s4.extBut _ _ e4 (s2.extBut _ _ e3 (s0.extBut _ _ e1 g)))
theorem zipN_end {z t o i j a b:Addr} {m n:Nat} {xs ys:Array Value} {c d:Value} {Q:Fin→Shared→Prop} (hh:A.handled=none) (D:ZP z t o i j a b)
 (hz:ZSt s.heap z t o) (ht:IsPair s.heap t (.ref i) (.ref j)) (ho:IsPair s.heap o c d)
 (hi:k.It s.heap i a m) (hj:l.It s.heap j b n) (ha:k.Is s.heap a xs) (hb:l.Is s.heap b ys) (hx:xs[m]? = none∨ys[n]? = none)
 (q:∀ h1 e,(∀ e u,e≠z→e≠o→e≠i→e≠j→s.heap.get? e=some u→h1.get? e=some u)→(∃ u,h1.get? e=some u∧u.cls=.type "StopIteration")→E (.ref e) { s with heap:=h1 }) :
 wpAny (model prog w) A (Builtin.«zip.__next__» ⟨[.ref z],[]⟩) Q E s:=by
 obtain ⟨f0,f1,hz0,hf⟩:=id hz
 refine wpAny_bind (m:=field (.ref z) 2) (wpAny_field hz0 rfl (x:=.bool false) rfl ?_)
 refine wpAny_bind (m:=field (.ref z) 3) (wpAny_field hz0 rfl (x:=.ref t) rfl (wpAny_bind (wpAny_seqItems ht rfl ?_)))
 refine wpAny_bind (m:=Builtin.SmallTypes.ownedTupleIsFree (.ref z)) (free_any hz fun fr h0 hz' s0=>?_)
 have ho0:IsPair h0 o c d:=s0.extBut _ _ D.oz ho
 have hi0:k.It h0 i a m:=hi.at fun u e=>s0.extBut _ _ D.iz e
 have hj0:l.It h0 j b n:=hj.at fun u e=>s0.extBut _ _ D.jz e
 have ha0:k.Is h0 a xs:=ha.at fun u e=>s0.extBut _ _ D.az e
 have hb0:l.Is h0 b ys:=hb.at fun u e=>s0.extBut _ _ D.bz e
 obtain ⟨g0,g1,hz0,hg⟩:=hz'
 cases fr with
 | true =>
   simp only [if_true]
   refine wpAny_bind (wpAny_rule (wpAny_bind (wpAny_field hz0 rfl (x:=.ref o) rfl (wpAny_bind (wpAny_setField_rec hz0 (by simp) fun h1 z1 s1=>?_)))))
   replace z1:ZR h1 z t o .ellipsis g1:=z1
   refine wpAny_bind ?_
   simp only [List.zipIdx_cons,List.zipIdx_nil,List.forIn_cons,List.forIn_nil]
   refine wpAny_bind (wpAny_bind (wpAny_onRaise (wpAny_bind (m:=Builtin.SmallTypes.nextOf (.ref i)) ?_)))
   cases hm:xs[m]? with
   | none =>
     refine SK.dry hh (hi0.at fun u e=>s1.extBut _ _ D.iz e) (ha0.at fun u e=>s1.extBut _ _ D.az e) hm fun h2 e s2 ⟨u,g,cu⟩=>?_
     have z2:ZR h2 z t o .ellipsis g1:=s2 _ _ D.iz.symm z1
     have ez:e≠z:=fun r=>by subst r; rw [z2] at g; cases g; simp at cu
     exact wpAny_setField_rec z2 (by simp) fun h3 _ s3=>q h3 e (fun e' u' e1 _ e3 _ r=>s3.extBut _ _ e1 (s2 _ _ e3 (s1.extBut _ _ e1 (s0.extBut _ _ e1 r)))) ⟨u,s3.extBut _ _ ez g,cu⟩
   | some x =>
     have hn:ys[n]? = none:=by rcases hx with r | r; (rw [hm] at r; cases r); exact r
     refine SK.draw (hi0.at fun u e=>s1.extBut _ _ D.iz e) (ha0.at fun u e=>s1.extBut _ _ D.az e) hm fun h2 i2 s2=>wpAny_pure ?_
     have o2:IsPair h2 o c d:=s2.extBut _ _ D.oi (s1.extBut _ _ D.oz ho0)
     refine wpAny_bind (wpAny_seqItems o2 rfl (wpAny_bind (wpAny_updateSeq_pair o2 fun h3 o3 s3=>?_)))
     refine wpAny_bind (wpAny_letGo (wpAny_pure (wpAny_bind (wpAny_bind (wpAny_onRaise (wpAny_bind (m:=Builtin.SmallTypes.nextOf (.ref j)) ?_))))))
     refine SK.dry hh (hj0.at fun u e=>s3.extBut _ _ D.oj.symm (s2.extBut _ _ D.ij.symm (s1.extBut _ _ D.jz e))) (hb0.at fun u e=>s3.extBut _ _ D.bo (s2.extBut _ _ D.bi (s1.extBut _ _ D.bz e))) hn fun h4 e s4 ⟨u,g,cu⟩=>?_
     have z4:ZR h4 z t o .ellipsis g1:=s4 _ _ D.jz.symm (s3.extBut _ _ D.oz.symm (s2.extBut _ _ D.iz.symm z1))
     have ez:e≠z:=fun r=>by subst r; rw [z4] at g; cases g; simp at cu
     exact wpAny_setField_rec z4 (by simp) fun h5 _ s5=>q h5 e (fun e' u' e1 e2 e3 e4 r=>s5.extBut _ _ e1 (s4 _ _ e4 (s3.extBut _ _ e2 (s2.extBut _ _ e3 (s1.extBut _ _ e1 (s0.extBut _ _ e1 r)))))) ⟨u,s5.extBut _ _ ez g,cu⟩
 | false =>
   simp only [Bool.false_eq_true,if_false]
   refine wpAny_bind ?_
   rw [← Array.forIn_toList]
   simp only [List.forIn_cons,List.forIn_nil]
   refine wpAny_bind (wpAny_bind (wpAny_holding (wpAny_bind (m:=Builtin.SmallTypes.nextOf (.ref i)) ?_)))
   cases hm:xs[m]? with
   | none=>exact SK.dry hh hi0 ha0 hm fun h2 e s2 hu=>q h2 e (fun e' u' e1 _ e3 _ r=>s2 _ _ e3 (s0.extBut _ _ e1 r)) hu
   | some x =>
     have hn:ys[n]? = none:=by rcases hx with r | r; (rw [hm] at r; cases r); exact r
     refine SK.draw hi0 ha0 hm fun h2 i2 s2=>wpAny_pure (wpAny_pure ?_)
     refine wpAny_bind (wpAny_bind (wpAny_holding (wpAny_bind (m:=Builtin.SmallTypes.nextOf (.ref j)) ?_)))
     exact SK.dry hh (hj0.at fun u e=>s2.extBut _ _ D.ij.symm e) (hb0.at fun u e=>s2.extBut _ _ D.bi e) hn fun h4 e s4 hu=>q h4 e (fun e' u' e1 _ e3 e4 r=>s4 _ _ e4 (s2.extBut _ _ e3 (s0.extBut _ _ e1 r))) hu
theorem enumN_item {e z t o i j a b:Addr} {n:Nat} {xs ys:Array Value} {x y c d old:Value} {Q:Option Value→Shared→Prop} (D:ZP z t o i j a b) (ne:e≠z∧e≠t∧e≠o∧e≠i∧e≠j∧a≠e∧b≠e)
 (he:IsEnum s.heap e z n old) (hz:ZSt s.heap z t o) (ht:IsPair s.heap t (.ref i) (.ref j)) (ho:IsPair s.heap o c d)
 (hi:k.It s.heap i a n) (hj:l.It s.heap j b n) (ha:k.Is s.heap a xs) (hb:l.Is s.heap b ys) (hx:xs[n]? = some x) (hy:ys[n]? = some y)
 (q:∀ h1 tk,IsEnumOut h1 e z ((n:Int)+1) (.ref s.heap.objs.size) (s.heap.objs.size+1)→ZSt h1 z t o→IsPair h1 t (.ref i) (.ref j)→(∃ c d,IsPair h1 o c d)→k.It h1 i a (n+1)→l.It h1 j b (n+1)→IsPair h1 s.heap.objs.size x y→IsPair h1 (s.heap.objs.size+1) (.int n tk) (.ref s.heap.objs.size) →
   (∀ f u,f≠e→f≠z→f≠o→f≠i→f≠j→s.heap.get? f=some u→h1.get? f=some u)→Q (some (.ref (s.heap.objs.size+1))) { s with heap:=h1,toks:=tk+1 }) :
 wpAny (model prog w) A (pyNext (.ref e)) Q E s:=by
 have hT:s.TypeIs (.ref e) "enumerate" := ⟨_,he,rfl⟩
 obtain ⟨n1,n2,n3,n4,n5,n6,n7⟩:=ne
 unfold pyNext
 refine wpAny_bind (wpAny_attempt (wpAny_callSpecial?_slot (name:=Str.ofString "__next__") hT F.slot_enumerate_next (wpAny_call_entry F.slot_enumerate_next hT F.entry_enumerate_next ?_ (F.args_enumerate_next_1 _))))
 refine wpAny_bind (m:=field (.ref e) 2) (wpAny_field he rfl (x:=.ref z) rfl ?_)
 obtain ⟨f0,f1,hz0,hf⟩:=id hz
 have hTz:s.TypeIs (.ref z) "zip" := ⟨_,hz0,rfl⟩
 refine wpAny_bind (m:=Builtin.SmallTypes.nextOf (.ref z)) ?_
 unfold Builtin.SmallTypes.nextOf
 refine wpAny_bind (wpAny_callSpecial?_slot (name:=Str.ofString "__next__") hTz F.slot_zip_next (wpAny_call_entry F.slot_zip_next hTz F.entry_zip_next (zipN_item D hz ht ho hi hj ha hb hx hy fun h1 r1 r2 r3 r4 r5 r6 r7=>wpAny_pure ?_) (F.args_zip_next_1 _)))
 have he1:IsEnum h1 e z n old:=r7 _ _ n1 n3 n4 n5 he
 have el:e < s.heap.objs.size:=Heap.lt_size he
 refine wpAny_bind (m:=field (.ref e) 3) (wpAny_field he1 rfl (x:=rawInt n) rfl ?_)
 refine wpAny_bind (m:=field (.ref e) 4) (wpAny_field he1 rfl (x:=.none) rfl ?_)
 refine wpAny_bind (m:=mkInt n) (wpAny_mkInt ?_)
 refine wpAny_bind (m:=setField (.ref e) 3 (rawInt ((n:Int)+1))) (wpAny_setField_rec he1 (by simp) fun h2 e2 s2=>?_)
 replace e2:IsEnum h2 e z ((n:Int)+1) old:=e2
 refine wpAny_bind (m:=setField (.ref e) 4 .none) (wpAny_setField_rec e2 (by simp) fun h3 e3 s3=>?_)
 replace e3:IsEnum h3 e z ((n:Int)+1) old:=e3
 refine wpAny_bind (m:=newTuple _) (wpAny_newTuple ?_)
 have sz:h3.objs.size=s.heap.objs.size+1:=by rw [s3.1,s2.1]; exact r6
 have e4:IsEnum (h3.push { cls:=.type "tuple",data:=.seq #[.int n s.toks,.ref s.heap.objs.size] }) e z ((n:Int)+1) old:=Heap.get?_push_of_some _ e3
 have T4:(h3.push { cls:=.type "tuple",data:=.seq #[.int n s.toks,.ref s.heap.objs.size] }).get? (s.heap.objs.size+1)=some { cls:=.type "tuple",data:=.seq #[.int n s.toks,.ref s.heap.objs.size] }:=by rw [← sz]; exact Heap.get?_push_size _ rfl
 have k4:∀ f u,f≠e→h1.get? f=some u→(h3.push { cls:=.type "tuple",data:=.seq #[.int n s.toks,.ref s.heap.objs.size] }).get? f=some u:=fun f u fe g=>Heap.get?_push_of_some _ (s3.extBut _ _ fe (s2.extBut _ _ fe g))
 generalize h3.push { cls:=.type "tuple",data:=.seq #[.int n s.toks,.ref s.heap.objs.size] }=h4 at e4 T4 k4
 refine wpAny_bind (m:=Builtin.SmallTypes.ownedTupleIsFree (.ref e)) ?_
 unfold Builtin.SmallTypes.ownedTupleIsFree
 refine wpAny_bind (wpAny_field e4 rfl (x:=.none) rfl (wpAny_pure ?_))
 simp only [if_true]
 refine wpAny_bind (wpAny_rule (wpAny_bind (wpAny_field e4 rfl (x:=old) rfl (wpAny_bind (wpAny_setField_rec e4 (by simp) fun h5 e5 s5=>?_)))))
 replace e5:IsEnum h5 e z ((n:Int)+1) (.ref s.heap.objs.size):=e5
 refine wpAny_bind ?_
 unfold Builtin.SmallTypes.ownedTupleHandOut
 refine wpAny_bind (wpAny_setField_rec e5 (by simp) fun h6 e6 s6=>?_)
 refine wpAny_setField_rec e6 (by simp) fun h7 e7 s7=>?_
 rw [sz] at e7
 replace e7:IsEnumOut h7 e z ((n:Int)+1) (.ref s.heap.objs.size) (s.heap.objs.size+1):=e7
 refine wpAny_bind (wpAny_letGo (wpAny_pure ⟨_,rfl,wpAny_pure ?_⟩))
 rw [sz]
 have up:∀ f u,f≠e→h1.get? f=some u→h7.get? f=some u:=fun f u fe g=>s7.extBut _ _ fe (s6.extBut _ _ fe (s5.extBut _ _ fe (k4 f u fe g)))
 obtain ⟨g0,g1,z1,hg⟩:=r1
 obtain ⟨c',d',o1⟩:=r2
 refine q h7 s.toks e7 ⟨g0,g1,up _ _ n1.symm z1,hg⟩ (up _ _ n2.symm (r7 _ _ D.tz D.to D.ti D.tj ht)) ⟨c',d',up _ _ n3.symm o1⟩ (r3.at fun u g=>up _ u n4.symm g) (r4.at fun u g=>up _ u n5.symm g) (up _ _ (Nat.ne_of_gt el) r5) ?_ fun f u f1 f2 f3 f4 f5 g=>up f u f1 (r7 f u f2 f3 f4 f5 g)
 have ne:s.heap.objs.size+1≠e:=Nat.ne_of_gt (Nat.lt_succ_of_lt el)
 exact s7.extBut _ _ ne (s6.extBut _ _ ne (s5.extBut _ _ ne T4))
theorem enumN_end {e z t o i j a b:Addr} {n:Nat} {xs ys:Array Value} {c d old:Value} {Q:Option Value→Shared→Prop} (hh:A.handled=none) (D:ZP z t o i j a b) (ne:e≠z∧e≠t∧e≠o∧e≠i∧e≠j∧a≠e∧b≠e)
 (he:IsEnum s.heap e z n old) (hz:ZSt s.heap z t o) (ht:IsPair s.heap t (.ref i) (.ref j)) (ho:IsPair s.heap o c d)
 (hi:k.It s.heap i a n) (hj:l.It s.heap j b n) (ha:k.Is s.heap a xs) (hb:l.Is s.heap b ys) (hx:xs[n]? = none∨ys[n]? = none)
 (q:∀ h1,(∀ f u,f≠e→f≠z→f≠o→f≠i→f≠j→s.heap.get? f=some u→h1.get? f=some u)→Q none { s with heap:=h1 }) :
 wpAny (model prog w) A (pyNext (.ref e)) Q E s:=by
 have hT:s.TypeIs (.ref e) "enumerate" := ⟨_,he,rfl⟩
 unfold pyNext
 refine wpAny_bind (wpAny_attempt (wpAny_callSpecial?_slot (name:=Str.ofString "__next__") hT F.slot_enumerate_next (wpAny_call_entry F.slot_enumerate_next hT F.entry_enumerate_next ?_ (F.args_enumerate_next_1 _))))
 refine wpAny_bind (m:=field (.ref e) 2) (wpAny_field he rfl (x:=.ref z) rfl ?_)
 obtain ⟨f0,f1,hz0,hf⟩:=id hz
 have hTz:s.TypeIs (.ref z) "zip" := ⟨_,hz0,rfl⟩
 refine wpAny_bind (m:=Builtin.SmallTypes.nextOf (.ref z)) ?_
 unfold Builtin.SmallTypes.nextOf
 refine wpAny_bind (wpAny_callSpecial?_slot (name:=Str.ofString "__next__") hTz F.slot_zip_next (wpAny_call_entry F.slot_zip_next hTz F.entry_zip_next (zipN_end hh D hz ht ho hi hj ha hb hx fun h1 x r1 ⟨u,g,cu⟩=>?_) (F.args_zip_next_1 _)))
 exact wpAny_bind (wpAny_isInstance (T := "StopIteration") (b:=true) ⟨u,g,cu⟩ isSubtype_stop (wpAny_pure (q _ fun f u _ f2 f3 f4 f5 r=>r1 f u f2 f3 f4 f5 r)))
end
end L2
namespace L2
open PySem PySem.Spec PyProof.Rows
open AutoSeq1 (wpAny_loadPart')
section
variable {X:Cx} {pins:List (Addr×Obj)} {σ:List (Option V)} {H H':Hp} {s:Shared} {h':Heap}
theorem Inv.turnGen {t':Nat} {ch:List Addr} (I:Inv X pins σ H s) (k:∀ b u,b∉ch→s.heap.get? b=some u→h'.get? b=some u) (hf:∀ b∈ch,FpOk X pins H b)
 (old:∀ b u,H b=some u→H' b=some u) (non:∀ b u,s.heap.get? b=some u→H b=none→H' b=none) (new:∀ b u,H b=none→H' b=some u→ObjOk X.prog X.w H' h' b u):Inv X pins σ H' { s with heap:=h',toks:=t' }:=by
 have nc:∀ b u,H b=some u→b∉ch:=fun b u e z=>by rw [(hf b z).1] at e; cases e
 refine I.step (g':=s.gens) (d':=s.drawn) (ch:=ch) (fun b hb=>?_) (fun b u _ _ hc e _=>k b u hc e) (fun b u _ _ hc e _=>⟨u.slots,k b u hc e⟩) (fun b u _ e n=>non b u e n)
  (fun b u hc e=>⟨u,k b u hc e⟩) (fun b xs e=>old b _ e) (fun b u v e=>old b _ e) (fun b ps e=>⟨#[],by rw [old b _ e]; simp⟩) (fun m hm=>?_) (fun b u e=>?_) I.bare
 · obtain ⟨f0,f1,f2,f3,f4,f5⟩:=hf b hb
   exact ⟨f3,f1,f4,f5⟩
 · obtain ⟨u,es,ep,hu,r⟩:=hm
   exact ⟨u,es,ep,k _ u (fun z=>(hf _ z).2.1 rfl) hu,r⟩
 · cases hb:H b with
   | none=>exact new b u hb e
   | some v =>
     rw [old b v hb] at e
     cases e
     refine (I.hok b _ hb).stay (fun c w hc q=>k c w ?_ q) (fun c q=>old c _ q) fun c xs q=>old c _ q
     rcases hc with z | z
     · rw [z]; exact nc b _ hb
     · exact nc c _ z
end
def Itez (k l:SK) (K:PySem.W.Frag) (a b:Addr):It :=
 ⟨fun i H=>∃ xs ys x y,k.Sq K H a xs∧l.Sq K H b ys∧xs[i]? = some x∧ys[i]? = some y,
  fun i H v H'=>∃ p p' x y,v=.ref p'∧H p=none∧H p'=none∧p≠p'∧H'=upd (upd H p (.tup [x,y])) p' (.tup [.int i,.ref p])∧(∀ xs,k.Sq K H a xs→xs[i]? = some x)∧∀ ys,l.Sq K H b ys→ys[i]? = some y,
  fun i H=>∃ xs ys,k.Sq K H a xs∧l.Sq K H b ys∧(xs.length≤i∨ys.length≤i)⟩
theorem turn_enumzip {P:Program} {w:World} {K:PySem.W.Frag} {es:List Expr} {x1:Nat} {tp:Pos} {k l:SK} {e z t o i j a b:Addr} (D:ZP z t o i j a b) (ne:e≠z∧e≠t∧e≠o∧e≠i∧e≠j∧a≠e∧b≠e) :
 Turn P w K (.Tuple es x1 tp) (Itez k l K a b) [e,z,t,o,i,j] e (fun n h=>(∃ old,IsEnum h e z n old)∧ZSt h z t o∧IsPair h t (.ref i) (.ref j)∧(∃ c d,IsPair h o c d)∧k.It h i a n∧l.It h j b n) where
 mem:=by simp
 obj:=fun n h st f hf=>by
  obtain ⟨⟨old,h0⟩,⟨f0,f1,h1,_⟩,h2,⟨c,d,h3⟩,h4,h5⟩:=st
  simp only [List.mem_cons,List.not_mem_nil,or_false] at hf
  rcases hf with rfl | rfl | rfl | rfl | rfl | rfl
  · exact ⟨_,h0,fun v q=>by cases (show Data.fields _=Data.cell v from q)⟩
  · exact ⟨_,h1,fun v q=>by cases (show Data.fields _=Data.cell v from q)⟩
  · exact ⟨_,h2,fun v q=>by cases (show Data.seq _ _=Data.cell v from q)⟩
  · exact ⟨_,h3,fun v q=>by cases (show Data.seq _ _=Data.cell v from q)⟩
  · obtain ⟨u,e,_,q⟩:=h4.ex; exact ⟨u,e,fun v r=>by rw [q] at r; cases r⟩
  · obtain ⟨u,e,_,q⟩:=h5.ex; exact ⟨u,e,fun v r=>by rw [q] at r; cases r⟩
 keep:=fun n h h' st f=>by
  obtain ⟨⟨old,h0⟩,⟨f0,f1,h1,hf⟩,h2,⟨c,d,h3⟩,h4,h5⟩:=st
  exact ⟨⟨old,f e (by simp) _ h0⟩,⟨f0,f1,f z (by simp) _ h1,hf⟩,f t (by simp) _ h2,⟨c,d,f o (by simp) _ h3⟩,h4.at fun u q=>f i (by simp) u q,h5.at fun u q=>f j (by simp) u q⟩
 item:=by
  intro X hP hw hK hc n pins s σ H E I hf st hg
  subst hP hw hK
  obtain ⟨⟨old,h0⟩,hz,h2,⟨c,d,h3⟩,h4,h5⟩:=st
  obtain ⟨xs,ys,x,y,q1,q2,hx,hy⟩:=hg
  obtain ⟨us,ru,pu⟩:=q1.is I
  obtain ⟨vs,rv,pv⟩:=q2.is I
  obtain ⟨u,hu,ux⟩:=ru.get hx
  obtain ⟨v,hv,vy⟩:=rv.get hy
  have lt:∀ {b o'},s.heap.get? b=some o'→b≠s.heap.objs.size∧b≠s.heap.objs.size+1:=fun q=>⟨Nat.ne_of_lt (Heap.lt_size q),Nat.ne_of_lt (Nat.lt_succ_of_lt (Heap.lt_size q))⟩
  refine enumN_item D ne h0 hz h2 h3 h4 h5 pu pv (x:=u) (y:=v) (by simpa using hu) (by simpa using hv) fun g tk r0 r1 r2 r3 r4 r5 r6 r7 r8=>?_
  refine ⟨_,rfl,wpAny_letOwnedTupleGo_enum r0 fun g2 z2 s2=>?_⟩
  have hp:H s.heap.objs.size=none:=I.hok.fresh (Nat.le_refl _)
  have hp':H (s.heap.objs.size+1)=none:=I.hok.fresh (Nat.le_succ _)
  have pp:s.heap.objs.size≠s.heap.objs.size+1:=Nat.ne_of_lt (Nat.lt_succ_self _)
  have T1:IsPair g2 s.heap.objs.size u v:=s2.extBut _ _ (Ne.symm (lt h0).1) r6
  have T2:IsPair g2 (s.heap.objs.size+1) (.int n tk) (.ref s.heap.objs.size):=s2.extBut _ _ (Ne.symm (lt h0).2) r7
  have I2:Inv X pins σ (upd (upd H s.heap.objs.size (.tup [x,y])) (s.heap.objs.size+1) (.tup [.int n,.ref s.heap.objs.size])) { s with heap:=g2,toks:=tk+1 }:=by
   refine I.turnGen (ch:=[e,z,o,i,j]) (fun f o' nf q=>?_) (fun f hf'=>hf f ?_) (fun b u' q=>?_) (fun b u' q n'=>?_) (fun b u' q r=>?_)
   · simp only [List.mem_cons,List.not_mem_nil,or_false,not_or] at nf
     exact s2.extBut _ _ nf.1 (r8 f o' nf.1 nf.2.1 nf.2.2.1 nf.2.2.2.1 nf.2.2.2.2 q)
   · simp only [List.mem_cons,List.not_mem_nil,or_false] at hf' ⊢
     rcases hf' with q | q | q | q | q <;> simp [q]
   · rw [upd_ne (ne_of_none q hp'),upd_ne (ne_of_none q hp)]; exact q
   · rw [upd_ne (lt q).2,upd_ne (lt q).1]; exact n'
   · by_cases e1:b=s.heap.objs.size+1
     · subst e1
       rw [upd_same] at r; cases r
       exact ⟨by show 2≤sizeLine; decide,[.int n tk,.ref s.heap.objs.size],.cons ⟨tk,rfl⟩ (.cons rfl .nil),⟨_,T2,rfl,_,rfl⟩⟩
     · rw [upd_ne e1] at r
       by_cases e2:b=s.heap.objs.size
       · subst e2
         rw [upd_same] at r; cases r
         exact ⟨by show 2≤sizeLine; decide,[u,v],.cons ux (.cons vy .nil),⟨_,T1,rfl,_,rfl⟩⟩
       · rw [upd_ne e2,q] at r; cases r
  obtain ⟨n1,n2,n3,n4,n5,n6,n7⟩:=ne
  obtain ⟨g0,g1,z1,hg1⟩:=r1
  obtain ⟨c',d',o1⟩:=r3
  refine ⟨.ref (s.heap.objs.size+1),_,I2,rfl,⟨_,_,x,y,rfl,hp,hp',pp,rfl,fun xs' q=>by rw [q.inj q1 I]; exact hx,fun ys' q=>by rw [q.inj q2 I]; exact hy⟩,⟨⟨_,by simpa using z2⟩,⟨g0,g1,s2.extBut _ _ n1.symm z1,hg1⟩,s2.extBut _ _ n2.symm r2,⟨c',d',s2.extBut _ _ n3.symm o1⟩,r4.at fun u' q=>s2.extBut _ _ n4.symm q,r5.at fun u' q=>s2.extBut _ _ n5.symm q⟩,fun f hf'=>?_⟩
  have nf:f≠s.heap.objs.size∧f≠s.heap.objs.size+1:=by
   obtain ⟨f0,f1,hz1,_⟩:=hz
   simp only [List.mem_cons,List.not_mem_nil,or_false] at hf'
   rcases hf' with rfl | rfl | rfl | rfl | rfl | rfl
   · exact lt h0
   · exact lt hz1
   · exact lt h2
   · exact lt h3
   · obtain ⟨_,q,_⟩:=h4.ex; exact lt q
   · obtain ⟨_,q,_⟩:=h5.ex; exact lt q
  rw [upd_ne nf.2,upd_ne nf.1]
  exact (hf f hf').1
 done:=by
  intro X hP hw hK hc n pins s σ H E I hf st hg
  subst hP hw hK
  obtain ⟨⟨old,h0⟩,hz,h2,⟨c,d,h3⟩,h4,h5⟩:=st
  obtain ⟨xs,ys,q1,q2,hl⟩:=hg
  obtain ⟨us,ru,pu⟩:=q1.is I
  obtain ⟨vs,rv,pv⟩:=q2.is I
  have e1:=ru.length
  have e2:=rv.length
  refine enumN_end (I.ok.hd hc) D ne h0 hz h2 h3 h4 h5 pu pv ?_ fun g r=>⟨rfl,?_⟩
  · rcases hl with q | q
    · left; simp; omega
    · right; simp; omega
  · refine I.turnOnly (t':=s.toks) (ch:=[e,z,o,i,j]) (fun f o' nf q=>?_) (fun f hf'=>hf f ?_)
    · simp only [List.mem_cons,List.not_mem_nil,or_false,not_or] at nf
      exact r f o' nf.1 nf.2.1 nf.2.2.1 nf.2.2.2.1 nf.2.2.2.2 q
    · simp only [List.mem_cons,List.not_mem_nil,or_false] at hf' ⊢
      rcases hf' with q | q | q | q | q <;> simp [q]
 self:=fun _ _ _ _ _ st h=>by obtain ⟨⟨old,h1⟩,_⟩:=st; exact wpAny_pyIter_enum h1 h
theorem meets_enumZ (z:Addr) (t o:Addr):Meets (Builtin.«enumerate.__new__» ⟨[.type "enumerate",.ref z],[]⟩) (fun _ R s=>IsZip s.heap z t o .none ∧
 R (.ok (.ret (.ref s.heap.objs.size))) { s with heap:=s.heap.push (enumObj z) }) :=
 .of_wp fun prog w A R s h=>by
  obtain ⟨hp,g,d,tk,os⟩:=s; obtain ⟨hz,h⟩:=h
  have hsub:=sub_enumerate
  have r1:IsZip (Shared.heap ⟨hp,g,d,tk,os⟩) z t o .none:=hz
  wp_walk using wpAny_loadPart' hz
  refine wpAny_stack_any fun st=>wpAny_pure ?_
  split
  · rename_i c _ _ _ _ _
    cases (c == Value.type "enumerate")
    · (wp_walk using wpAny_loadPart' hz,wpAny_pyIter_zip r1); exact ⟨_,rfl,h⟩
    · (wp_walk using wpAny_loadPart' hz,wpAny_pyIter_zip r1); exact ⟨_,rfl,h⟩
  · (wp_walk using wpAny_loadPart' hz,wpAny_pyIter_zip r1); exact ⟨_,rfl,h⟩
section
variable {X:Cx} {es:List Expr} {x1:Nat} {tp:Pos}
def iEnumZip (k l:SK) (K:PySem.W.Frag) (ta:TA):TI:=fun σ H R=>ta σ H fun vs H1=>∃ a b,vs=[.ref a,.ref b]∧(∃ xs,k.Sq K H1 a xs)∧(∃ ys,l.Sq K H1 b ys)∧R (Itez k l K a b) H1
theorem pi_enumzip (k l:SK) {a b:Expr} {ta:TA} {p p2 pos pos2:Pos} (hg:Gl X "enumerate") (hm:X.mg "enumerate" = none) (hg2:Gl X "zip") (hm2:X.mg "zip" = none) (ha:PA X [a,b] ta)
 (hs:starEach [a,b] X.env=[(false,eval a X.env),(false,eval b X.env)]:=by rfl) (hs2:starEach [b] X.env=[(false,eval b X.env)]:=by rfl)
 (he:starEach [Expr.Call (.Name "zip" p2) [a,b] [] pos2] X.env=[(false,eval (.Call (.Name "zip" p2) [a,b] [] pos2) X.env)]:=by rfl) :
 PI X (.Tuple es x1 tp) (.Call (.Name "enumerate" p) [.Call (.Name "zip" p2) [a,b] [] pos2] [] pos) (iEnumZip k l X.K ta):=by
 intro pins s σ H R I h
 refine Call_ (ld_blt I hg hm boot_enum' (PyProof.Rows.callWith_type1 ?_ he rfl))
 rw [he]
 refine Calls.spliced_cons ?_
 refine Call_ (ld_blt I hg2 hm2 boot_zip' (PyProof.Rows.callWith_type1 (thn (ha pos2 pins s σ H _ I h) fun us s1 ⟨vs,H1,I1,r1,q1⟩=>?_) (by rw [hs,hs2]) (by rw [hs2]; rfl)))
 obtain ⟨a,b,e,⟨xs,hx⟩,⟨ys,hy⟩,q⟩:=q1
 subst e
 cases r1 with
 | cons r rr =>
   cases rr with
   | cons r' rr =>
     cases rr
     cases r
     cases r'
     obtain ⟨us,ru,pu⟩:=hx.is I1
     obtain ⟨ws,rw',pw⟩:=hy.is I1
     have la:a < s1.heap.objs.size:=by obtain ⟨_,_,e,_⟩:=pu.ex; exact Heap.lt_size e
     have lb:b < s1.heap.objs.size:=by obtain ⟨_,_,e,_⟩:=pw.ex; exact Heap.lt_size e
     refine call_zip pu pw fun h1 m1 m2 m3 m4 m5 m6 m7=>Calls.spliced_nil ?_
     refine callType_new F.called_enumerate (by decide) (F.typeCall_enumerate_1 _) (F.newCall_enumerate_1 _) (fun obj=>F.args_object_init_2 obj _) F.entry_enumerate_new (meets_enumZ _ _ _) ⟨m1,?_⟩
     have m8:(h1.push (enumObj (s1.heap.objs.size+4))).get? h1.objs.size=some (enumObj (s1.heap.objs.size+4)):=Heap.get?_push_size _ rfl
     have up:∀ c o,h1.get? c=some o→(h1.push (enumObj (s1.heap.objs.size+4))).get? c=some o:=fun c o e=>Heap.get?_push_of_some _ e
     rw [m6] at m8
     show _∧_
     rw [m6]
     refine ⟨⟨_,m8,rfl⟩,wpAny_pyIter_enum m8 ?_⟩
     have I2:Inv X pins σ H1 { s1 with heap:=h1.push (enumObj (s1.heap.objs.size+4)),toks:=s1.toks }:=I1.kept fun c o e=>up c o (m7 c o e)
     refine ⟨_,_,_,_,H1,rfl,I2,turn_enumzip (e:=s1.heap.objs.size+5) (z:=s1.heap.objs.size+4) (t:=s1.heap.objs.size+2) (o:=s1.heap.objs.size+3) (i:=s1.heap.objs.size) (j:=s1.heap.objs.size+1) (k:=k) (l:=l) (a:=a) (b:=b) (zp_new la lb) ?_,⟨⟨_,m8⟩,⟨_,_,up _ _ m1,.inl rfl⟩,up _ _ m2,⟨_,_,up _ _ m3⟩,m4.at fun u e=>up _ u e,m5.at fun u e=>up _ u e⟩,?_,q⟩
     · have la':@LT.lt Nat _ a s1.heap.objs.size:=la
       have lb':@LT.lt Nat _ b s1.heap.objs.size:=lb
       refine ⟨?_,?_,?_,?_,?_,?_,?_⟩ <;> (intro h; have h':@Eq Nat _ _:=h; clear h; omega)
     · exact I1.fps (fp:=[s1.heap.objs.size+5,s1.heap.objs.size+4,s1.heap.objs.size+2,s1.heap.objs.size+3,s1.heap.objs.size,s1.heap.objs.size+1]) (by
        intro e he
        simp only [List.mem_cons,List.not_mem_nil,or_false] at he
        rcases he with rfl | rfl | rfl | rfl | rfl | rfl <;> omega)
end
end L2
namespace L2
open PySem PySem.Spec PyProof.Rows
def Tk (H H':Hp):Prop:=∀ a xs,H a=some (.tup xs)→H' a=some (.tup xs)
theorem Tk.trans {H H1 H2:Hp} (a:Tk H H1) (b:Tk H1 H2):Tk H H2:=fun p xs e=>b p xs (a p xs e)
theorem Same.tk {H H':Hp} (s:Same H H'):Tk H H':=fun a xs e=>s a _ e
theorem Tk.of_keep {H H':Hp} {l:Addr} {ys:List V} (k:Keep l H H') (e:H l=some (.lst ys)):Tk H H':=fun a xs q=>k a _ (ne_of q e (by intro z; cases z)) q
theorem Tk.upd_lst {H:Hp} {D:Addr} {ys zs:List V} (e:H D=some (.lst ys)):Tk H (upd H D (.lst zs)):=fun a xs q=>by rw [upd_ne (ne_of q e (by intro z; cases z))]; exact q
def Al {α:Type} (R:V→α→Prop) (vs:List V) (xs:List α):Prop:=vs.length=xs.length∧∀ (i:Nat) (v:V) (x:α),vs[i]? = some v→xs[i]? = some x→R v x
theorem Al.nil {α:Type} {R:V→α→Prop}:Al R [] []:=⟨rfl,fun i v x e=>by simp at e⟩
theorem Al.snoc {α:Type} {R:V→α→Prop} {vs:List V} {xs:List α} {v:V} {x:α} (h:Al R vs xs) (r:R v x):Al R (vs++[v]) (xs++[x]):=by
 refine ⟨by simp [h.1],fun i w y e1 e2=>?_⟩
 by_cases hi:i < vs.length
 · rw [List.getElem?_append_left hi] at e1
   rw [List.getElem?_append_left (by rw [← h.1]; exact hi)] at e2
   exact h.2 i w y e1 e2
 · have:i=vs.length:=by
    have:=(List.getElem?_eq_some_iff.mp e1).1
    simp at this; omega
   subst this
   rw [List.getElem?_append_right (Nat.le_refl _)] at e1
   rw [h.1,List.getElem?_append_right (Nat.le_refl _)] at e2
   simp at e1 e2
   subst e1; subst e2
   exact r
theorem Al.imp {α:Type} {R S:V→α→Prop} {vs:List V} {xs:List α} (h:Al R vs xs) (f:∀ v x,R v x→S v x):Al S vs xs:=⟨h.1,fun i v x e1 e2=>f v x (h.2 i v x e1 e2)⟩
theorem Al.get {α:Type} {R:V→α→Prop} {vs:List V} {xs:List α} {i:Nat} {v:V} (h:Al R vs xs) (e:vs[i]? = some v):∃ x,xs[i]? = some x∧R v x:=by
 have hi:i < xs.length:=by rw [← h.1]; exact (List.getElem?_eq_some_iff.mp e).1
 exact ⟨xs[i],List.getElem?_eq_getElem hi,h.2 i v _ e (List.getElem?_eq_getElem hi)⟩
theorem Al.got {α:Type} {R:V→α→Prop} {vs:List V} {xs:List α} {i:Nat} {x:α} (h:Al R vs xs) (e:xs[i]? = some x):∃ v,vs[i]? = some v∧R v x:=by
 have hi:i < vs.length:=by rw [h.1]; exact (List.getElem?_eq_some_iff.mp e).1
 exact ⟨vs[i],List.getElem?_eq_getElem hi,h.2 i _ x (List.getElem?_eq_getElem hi) e⟩
theorem Al.cons {α:Type} {R:V→α→Prop} {v:V} {vs:List V} {x:α} {xs:List α} (r:R v x) (h:Al R vs xs):Al R (v :: vs) (x :: xs):=by
 refine ⟨by simp [h.1],fun i w y e1 e2=>?_⟩
 cases i with
 | zero=>simp at e1 e2; subst e1; subst e2; exact r
 | succ i=>exact h.2 i w y (by simpa using e1) (by simpa using e2)
theorem Al.bls {vs:List V} {bs:List Bool} (h:Al (fun v b=>v=V.bl b) vs bs):vs=bs.map V.bl:=by
 refine List.ext_getElem? fun i=>?_
 rw [List.getElem?_map]
 cases e:bs[i]? with
 | none =>
   have:=List.getElem?_eq_none_iff.mp e
   rw [List.getElem?_eq_none (by rw [h.1]; exact this)]; rfl
 | some b =>
   obtain ⟨v,ev,rfl⟩:=h.got e
   rw [ev]; rfl
theorem Al.ints {vs:List V} {ns:List Int} (h:Al (fun v n=>v=V.int n) vs ns):vs=ns.map V.int:=by
 refine List.ext_getElem? fun i=>?_
 rw [List.getElem?_map]
 cases e:ns[i]? with
 | none =>
   have:=List.getElem?_eq_none_iff.mp e
   rw [List.getElem?_eq_none (by rw [h.1]; exact this)]; rfl
 | some b =>
   obtain ⟨v,ev,rfl⟩:=h.got e
   rw [ev]; rfl
theorem Al.of_ints (ns:List Int):Al (fun v n=>v=V.int n) (ns.map V.int) ns:=⟨by simp,fun i v n e1 e2=>by rw [List.getElem?_map,e2] at e1; exact (Option.some.inj e1).symm⟩
theorem lc_map {J:It} {n:Nat} {D:Addr} {g:TG} {te:TE} {σ0:St} {H:Hp} {Q:VK} {α:Type} (R:Hp→V→α→Prop) (hR:∀ H1 H2 v x,Tk H1 H2→R H1 v x→R H2 v x) (ys_:List α) (hn:ys_.length=n) (hz:n≤1000) (ok:St→Prop) (h0:ok σ0) (hD:H D=none)
 (hgo:∀ i H2,Same H H2→i < n→J.go i H2) (hstop:∀ H2,Same H H2→J.stop n H2)
 (hs:∀ i x σ2 H2 H3 (C:St→V→Hp→Prop),i < n→Same H H2→J.yld i H2 x H3→ok σ2→(∀ σ4 y H5 z,ok σ4→Same H2 H5→ys_[i]? = some z→R H5 y z→C σ4 y H5)→g x σ2 H3 fun σ4 H4=>te σ4 H4 (C σ4))
 (hd:∀ H2 vs,Same H H2→H2 D=some (.lst vs)→Al (R H2) vs ys_→Q (.ref D) H2):LcGo J g tYes te σ0 H D Q:=by
 refine lc_gen (n:=n) (fun i σ H2=>Same H H2∧ok σ∧∃ vs,H2 D=some (.lst vs)∧Al (R H2) vs (ys_.take i)) ⟨Same.new hD,h0,[],upd_same,by rw [List.take_zero]; exact .nil⟩ (fun i σ H2 hi p=>hgo i H2 p.1 hi) (fun σ H2 p=>hstop H2 p.1) (fun i x σ2 H2 H3 hi y p=>?_) (fun σ2 H2 p=>?_)
 · obtain ⟨s2,o2,vs,e2,a2⟩:=p
   have:=hs i x σ2 H2 H3 (fun σ4 y H6=>∃ ys,H6 D=some (.lst ys)∧ys.length < sizeLine∧∃ m',m' < n - i∧LcN n (fun i σ H2=>Same H H2∧ok σ∧∃ vs,H2 D=some (.lst vs)∧Al (R H2) vs (ys_.take i)) (i+1) m' σ4 (upd H6 D (.lst (ys++[y])))) hi s2 y o2 ?_
   · exact this
   · intro σ4 v H5 z o4 s5 ez rz
     have e5:H5 D=some (.lst vs):=s5 _ _ e2
     refine ⟨vs,e5,?_,n - (i+1),by omega,by omega,rfl,fun b o e=>?_,o4,vs++[v],upd_same,?_⟩
     · rw [a2.1,List.length_take,sizeLine_eq]; omega
     · rw [upd_ne (ne_of_none e hD)]; exact s5 _ _ (s2 _ _ e)
     · have tk:Tk H5 (upd H5 D (.lst (vs++[v]))):=Tk.upd_lst e5
       have hi':i < ys_.length:=by omega
       rw [List.take_succ_eq_append_getElem hi']
       rw [List.getElem?_eq_getElem hi'] at ez
       cases ez
       exact (a2.imp fun v x r=>hR _ _ v x tk (hR _ _ v x s5.tk r)).snoc (hR _ _ _ _ tk rz)
 · obtain ⟨s2,_,vs,e2,a2⟩:=p
   rw [List.take_of_length_le (by omega)] at a2
   exact hd H2 vs s2 e2 a2
end L2
namespace L2
open PySem PySem.Spec PyProof.Rows
def SK.At (H:Hp) (a:Addr) (vs:List V):SK→Prop
 | .l=>H a=some (.lst vs)
 | .t=>H a=some (.tup vs)
theorem SK.At.sq {k:SK} {K:PySem.W.Frag} {H:Hp} {a:Addr} {vs:List V} (h:k.At H a vs):k.Sq K H a vs:=by
 cases k with
 | l=>exact SqL.of h
 | t=>exact SqT.of h
theorem SK.At.same {k:SK} {H H':Hp} {a:Addr} {vs:List V} (h:k.At H a vs) (s:Same H H'):k.At H' a vs:=by
 cases k with
 | l=>exact s _ _ h
 | t=>exact s _ _ h
def SK.Itk (K:PySem.W.Frag) (a:Addr):SK→L2.It
 | .l=>Itl K a
 | .t=>Itt K a
theorem itk_go {k:SK} {K:PySem.W.Frag} {a:Addr} {H:Hp} {vs:List V} {i:Nat} (h:k.At H a vs) (hi:i < vs.length):(k.Itk K a).go i H:=by
 cases k with
 | l=>exact ⟨vs,vs[i],SqL.of h,List.getElem?_eq_getElem hi⟩
 | t=>exact ⟨vs,vs[i],SqT.of h,List.getElem?_eq_getElem hi⟩
theorem itk_stop {k:SK} {K:PySem.W.Frag} {a:Addr} {H:Hp} {vs:List V} {i:Nat} (h:k.At H a vs) (hi:vs.length≤i):(k.Itk K a).stop i H:=by
 cases k with
 | l=>exact ⟨vs,SqL.of h,hi⟩
 | t=>exact ⟨vs,SqT.of h,hi⟩
theorem itk_yld {k:SK} {K:PySem.W.Frag} {a:Addr} {H H':Hp} {vs:List V} {i:Nat} {x:V} (h:k.At H a vs) (y:(k.Itk K a).yld i H x H'):H'=H∧vs[i]? = some x:=by
 cases k with
 | l=>exact ⟨y.1,y.2 vs (SqL.of h)⟩
 | t=>exact ⟨y.1,y.2 vs (SqT.of h)⟩
theorem lc_T {k:SK} {K:PySem.W.Frag} {a D:Addr} {vs:List V} {te:TE} {u0:Option V} {rest:St} {H:Hp} {Q:VK} {α:Type} (R:Hp→V→α→Prop) (hR:∀ H1 H2 v x,Tk H1 H2→R H1 v x→R H2 v x) (ys:List α) (hn:ys.length=vs.length) (hz:vs.length≤1000) (hD:H D=none) (ha:k.At H a vs)
 (hs:∀ (i:Nat) (w:V) (H2:Hp) (C:V→Hp→Prop),vs[i]? = some w→Same H H2→(∀ y H5 z,Same H2 H5→ys[i]? = some z→R H5 y z→C y H5)→te (some w :: rest) H2 C)
 (hd:∀ H2 us,Same H H2→H2 D=some (.lst us)→Al (R H2) us ys→Q (.ref D) H2):LcGo (k.Itk K a) (gName 0) tYes te (u0 :: rest) H D Q:=by
 refine lc_map R hR ys hn hz (fun σ=>∃ u,σ=u :: rest) ⟨_,rfl⟩ hD (fun i H2 s hi=>itk_go (ha.same s) hi) (fun H2 s=>itk_stop (ha.same s) (Nat.le_refl _)) (fun i x σ2 H2 H3 C hi s y o c=>?_) hd
 obtain ⟨u,rfl⟩:=o
 obtain ⟨rfl,e⟩:=itk_yld (ha.same s) y
 exact hs i x H3 (C (some x :: rest)) e s fun y H5 z s5 ez rz=>c _ y H5 z ⟨_,rfl⟩ s5 ez rz
theorem lc_Z {k l:SK} {K:PySem.W.Frag} {a b D:Addr} {vs ws:List V} {te:TE} {u0 u1:Option V} {rest:St} {H:Hp} {Q:VK} {α:Type} (R:Hp→V→α→Prop) (hR:∀ H1 H2 v x,Tk H1 H2→R H1 v x→R H2 v x) (ys:List α) (hn:ys.length=min vs.length ws.length) (hz:min vs.length ws.length≤1000) (hD:H D=none) (ha:k.At H a vs) (hb:l.At H b ws)
 (hs:∀ (i:Nat) (v w:V) (H2:Hp) (C:V→Hp→Prop),vs[i]? = some v→ws[i]? = some w→Same H H2→(∀ y H5 z,Same H2 H5→ys[i]? = some z→R H5 y z→C y H5)→te (some v :: some w :: rest) H2 C)
 (hd:∀ H2 us,Same H H2→H2 D=some (.lst us)→Al (R H2) us ys→Q (.ref D) H2):LcGo (Itz k l K a b) (gTup K 2 (gCons (gName 0) (gCons (gName 1) gNil))) tYes te (u0 :: u1 :: rest) H D Q:=by
 refine lc_map R hR ys hn hz (fun σ=>∃ u u',σ=u :: u' :: rest) ⟨_,_,rfl⟩ hD (fun i H2 s hi=>?_) (fun H2 s=>?_) (fun i x σ2 H2 H3 C hi s y o c=>?_) hd
 · have h1:i < vs.length:=by omega
   have h2:i < ws.length:=by omega
   exact ⟨vs,ws,vs[i],ws[i],(ha.same s).sq,(hb.same s).sq,List.getElem?_eq_getElem h1,List.getElem?_eq_getElem h2⟩
 · exact ⟨vs,ws,(ha.same s).sq,(hb.same s).sq,by omega⟩
 · obtain ⟨u,u',rfl⟩:=o
   obtain ⟨p,v,w,rfl,hp,rfl,y1,y2⟩:=y
   have s3:Same H2 (upd H2 p (.tup [v,w])):=Same.new hp
   refine ⟨p,[v,w],rfl,SqT.of upd_same,rfl,v,[w],rfl,w,[],rfl,rfl,?_⟩
   exact hs i v w _ (C (some v :: some w :: rest)) (y1 vs (ha.same s).sq) (y2 ws (hb.same s).sq) (s.trans s3) fun y H5 z s5 ez rz=>c _ y H5 z ⟨_,_,rfl⟩ (s3.trans s5) ez rz
theorem lc_E {k:SK} {K:PySem.W.Frag} {a D:Addr} {vs:List V} {tt:TT} {te:TE} {u0 u1:Option V} {rest:St} {H:Hp} {Q:VK} {α:Type} (R:Hp→V→α→Prop) (hR:∀ H1 H2 v x,Tk H1 H2→R H1 v x→R H2 v x) (f:Nat→Option α) (hz:vs.length≤1000) (hD:H D=none) (ha:k.At H a vs)
 (hs:∀ (i:Nat) (w:V) (H2:Hp) (C:V→Hp→Prop) (N:Hp→Prop),vs[i]? = some w→Same H H2→(∀ y H5 z,Same H2 H5→f i=some z→R H5 y z→C y H5)→(∀ H5,Same H2 H5→f i=none→N H5)→tt (some (.int i) :: some w :: rest) H2 fun b H5=>if b=true then te (some (.int i) :: some w :: rest) H5 C else N H5)
 (hd:∀ H2 us,Same H H2→H2 D=some (.lst us)→Al (R H2) us ((List.range vs.length).filterMap f)→Q (.ref D) H2):LcGo (Ite k K a) (gTup K 2 (gCons (gName 0) (gCons (gName 1) gNil))) tt te (u0 :: u1 :: rest) H D Q:=by
 refine lc_gen (n:=vs.length) (fun i σ H2=>Same H H2∧(∃ u u',σ=u :: u' :: rest)∧∃ us,H2 D=some (.lst us)∧us.length≤i∧Al (R H2) us ((List.range i).filterMap f)) ⟨Same.new hD,⟨_,_,rfl⟩,[],upd_same,Nat.le_refl _,.nil⟩ (fun i σ H2 hi p=>⟨vs,vs[i],(ha.same p.1).sq,List.getElem?_eq_getElem hi⟩) (fun σ H2 p=>⟨vs,(ha.same p.1).sq,rfl⟩) (fun i x σ2 H2 H3 hi y p=>?_) (fun σ2 H2 p=>?_)
 · obtain ⟨s2,⟨u,u',rfl⟩,us,e2,l2,a2⟩:=p
   obtain ⟨q,w,rfl,hq,rfl,y1⟩:=y
   have s3:Same H2 (upd H2 q (.tup [.int i,w])):=Same.new hq
   have rg:(List.range (i+1)).filterMap f=(List.range i).filterMap f++(f i).toList:=by
    rw [List.range_succ,List.filterMap_append]
    cases e:f i <;> simp [e]
   refine ⟨q,[.int i,w],rfl,SqT.of upd_same,rfl,_,_,rfl,_,_,rfl,rfl,?_⟩
   refine hs i w _ _ _ (y1 vs (ha.same s2).sq) (s2.trans s3) (fun v H5 z s5 ez rz=>?_) (fun H5 s5 ez=>?_)
   · have e5:H5 D=some (.lst us):=s5 _ _ (s3 _ _ e2)
     refine ⟨us,e5,by rw [sizeLine_eq]; omega,vs.length - (i+1),by omega,by omega,rfl,fun b o e=>?_,⟨_,_,rfl⟩,us++[v],upd_same,by simp; omega,?_⟩
     · rw [upd_ne (ne_of_none e hD)]; exact s5 _ _ (s3 _ _ (s2 _ _ e))
     · have tk:Tk H5 (upd H5 D (.lst (us++[v]))):=Tk.upd_lst e5
       rw [rg,ez]
       exact (a2.imp fun v x r=>hR _ _ v x tk (hR _ _ v x (s3.trans s5).tk r)).snoc (hR _ _ _ _ tk rz)
   · refine ⟨vs.length - (i+1),by omega,by omega,rfl,s2.trans (s3.trans s5),⟨_,_,rfl⟩,us,s5 _ _ (s3 _ _ e2),by omega,?_⟩
     rw [rg,ez]
     simp only [Option.toList_none,List.append_nil]
     exact a2.imp fun v x r=>hR _ _ v x (s3.trans s5).tk r
 · obtain ⟨s2,_,us,e2,_,a2⟩:=p
   exact hd H2 us s2 e2 a2
abbrev Pnt:=Int×Int
def IsI (H:Hp) (v:V) (ns:List Int):Prop:=∃ a,v=.ref a∧H a=some (.tup (ns.map V.int))
def IsP (H:Hp) (v:V) (p:Pnt):Prop:=IsI H v [p.1,p.2]
theorem IsI.tk {H H':Hp} {v:V} {ns:List Int} (t:Tk H H') (h:IsI H v ns):IsI H' v ns:=let ⟨a,e,q⟩:=h; ⟨a,e,t _ _ q⟩
theorem IsP.tk {H H':Hp} {v:V} {p:Pnt} (t:Tk H H') (h:IsP H v p):IsP H' v p:=IsI.tk t h
def IsTup' {α:Type} (R:Hp→V→α→Prop) (H:Hp) (v:V) (xs:List α):Prop:=∃ a vs,v=.ref a∧H a=some (.tup vs)∧Al (R H) vs xs
theorem IsTup'.tk {α:Type} {R:Hp→V→α→Prop} (hR:∀ H1 H2 v x,Tk H1 H2→R H1 v x→R H2 v x) {H H':Hp} {v:V} {xs:List α} (t:Tk H H') (h:IsTup' R H v xs):IsTup' R H' v xs:=let ⟨a,vs,e,q,r⟩:=h; ⟨a,vs,e,t _ _ q,r.imp fun v x=>hR _ _ v x t⟩
structure Pl where
 cs:List Pnt
 ps:List (List Int)
 ts:List Int
 l:Int
 m:Int
def IsCs (H:Hp) (v:V) (cs:List Pnt):Prop:=IsTup' IsP H v cs
def IsPs (H:Hp) (v:V) (ps:List (List Int)):Prop:=IsTup' IsI H v ps
theorem IsCs.tk {H H':Hp} {v:V} {cs:List Pnt} (t:Tk H H') (h:IsCs H v cs):IsCs H' v cs:=IsTup'.tk (R:=IsP) (fun _ _ _ _ t r=>IsP.tk t r) t h
theorem IsPs.tk {H H':Hp} {v:V} {ps:List (List Int)} (t:Tk H H') (h:IsPs H v ps):IsPs H' v ps:=IsTup'.tk (R:=IsI) (fun _ _ _ _ t r=>IsI.tk t r) t h
def IsPl (H:Hp) (v:V) (P:Pl):Prop:=∃ a c p t s,v=.ref a∧H a=some (.tup [c,p,t,s])∧IsCs H c P.cs∧IsPs H p P.ps∧IsI H t P.ts∧IsI H s [P.l,P.m]
theorem IsPl.tk {H H':Hp} {v:V} {P:Pl} (t:Tk H H') (h:IsPl H v P):IsPl H' v P:=let ⟨a,c,p,q,s,e,h1,h2,h3,h4,h5⟩:=h; ⟨a,c,p,q,s,e,t _ _ h1,h2.tk t,h3.tk t,h4.tk t,h5.tk t⟩
def tn (a b c:Pnt):Int:=(b.1 - a.1) * (c.2 - a.2) - (c.1 - a.1) * (b.2 - a.2)
structure Tri where
 a:Pnt
 b:Pnt
 c:Pnt
def tri (a b c:Pnt):Tri:=if tn a b c < 0 then ⟨a,c,b⟩ else ⟨a,b,c⟩
def Tri.pts (t:Tri):List Pnt:=[t.a,t.b,t.c]
def Tri.edges (t:Tri):List (Pnt×Pnt):=[(t.a,t.b),(t.b,t.c),(t.c,t.a)]
def liesIn (p:Pnt) (t:Tri):Bool:=(t.edges.map fun e=>decide (0≤tn e.1 e.2 p)).all id
def beyond (e:Pnt×Pnt) (u:Tri):Bool:=(u.pts.map fun q=>decide (tn e.1 e.2 q≤0)).all id
def partsFrom (t u:Tri):Bool:=t.edges.any fun e=>beyond e u
def apart (t u:Tri):Bool:=partsFrom t u || partsFrom u t
def IsT (H:Hp) (v:V) (t:Tri):Prop:=∃ a x y z,v=.ref a∧H a=some (.tup [x,y,z])∧IsP H x t.a∧IsP H y t.b∧IsP H z t.c
theorem IsT.tk {H H':Hp} {v:V} {u:Tri} (t:Tk H H') (h:IsT H v u):IsT H' v u:=let ⟨a,x,y,z,e,h1,h2,h3,h4⟩:=h; ⟨a,x,y,z,e,t _ _ h1,h2.tk t,h3.tk t,h4.tk t⟩
def near (p:Pnt):Prop:=(-100≤p.1∧p.1≤100)∧(-100≤p.2∧p.2≤100)
def Tri.near (t:Tri):Prop:=L2.near t.a∧L2.near t.b∧L2.near t.c
def cAt (cs:List Pnt) (i:Int):Pnt:=cs.getD i.toNat (0,0)
def trOf (cs:List Pnt) (p:List Int):Tri:=tri (cAt cs (p.getD 0 0)) (cAt cs (p.getD 1 0)) (cAt cs (p.getD 2 0))
def dOf (cs:List Pnt) (p:List Int):Int:=tn (cAt cs (p.getD 0 0)) (cAt cs (p.getD 1 0)) (cAt cs (p.getD 2 0))
def stepS (q:(Int→Bool)×Nat) (k:Int):(Int→Bool)×Nat:=(fun k'=>q.1 k' || decide (k'=k),if q.1 k then q.2 else q.2+1)
def cntS (l:List Int):Nat:=(l.foldl stepS (fun _=>false,0)).2
structure PieceOk (cs:List Pnt) (p:List Int):Prop where
 len:p.length=3
 bd:∀ i∈p,0≤i∧i≤(cs.length:Int) - 1
 rise:p.getD 0 0 < p.getD 1 0∧p.getD 1 0 < p.getD 2 0
 d:dOf cs p≠0
structure PlOk (P:Pl):Prop where
 c3:3≤P.cs.length
 c30:P.cs.length≤30
 nr:∀ p∈P.cs,near p
 nd:P.cs.Nodup
 p1:1≤P.ps.length
 p40:P.ps.length≤40
 pc:∀ p∈P.ps,PieceOk P.cs p
 rise:∀ i:Nat,i+1 < P.ps.length→HT.lexLt (P.ps.getD i []) (P.ps.getD (i+1) [])=true
 t1:P.ts.length=P.ps.length
 t9:∀ t∈P.ts,1≤t∧t≤9
 l9:0≤P.l∧P.l≤9
 m9:1≤P.m∧P.m≤9
 used:cntS P.ps.flatten=P.cs.length
 strange:∀ p∈P.ps,∀ j:Nat,j < P.cs.length→(j:Int)∉p→liesIn (P.cs.getD j (0,0)) (trOf P.cs p)=false
 apart:∀ i j:Nat,i < j→j < P.ps.length→L2.apart (trOf P.cs (P.ps.getD j [])) (trOf P.cs (P.ps.getD i []))=true
end L2
namespace L2
open PySem PySem.Spec PyProof.Rows
abbrev Nms:=List (Str×NameKind)
def relN (sc:Nms) (dn:Nms):Nms:=sc.map fun y=>if y.2 == .free && dn.lookup y.1 == some .cell then (y.1,.cell) else y
def chk (sc dn:Nms) (N XN:List Str) (fr:List (Option Nat)):Bool :=
 sc.all (fun y=>y.2 != .free || dn.lookup y.1 == some .cell) && sc.all (fun y=>y.2 != .local || sc.lookup y.1 == some .local) && sc.all (fun y=>y.2 != .cell || sc.lookup y.1 == some .cell) && (fr.length == N.length) &&
  (List.range fr.length).all fun i=>match fr[i]? with
    | some (some j)=>match N[i]? with
      | some x=>XN[j]? == some x && dn.lookup x == some .cell && (relN sc dn).lookup x == some .cell && sc.all (fun y=>y.1 != x || y.2 != .cell) && sc.any (fun y=>y.1 == x && y.2 == .free)
      | none=>false
    | _=>true
theorem lcCells_has {cells:List (Str×Addr)} {sc:Nms} {x:Str} (key:(x,NameKind.free)∈sc):∃ c,(lcCells cells sc).lookup x=some c:=by
 have hm:(x,(cells.lookup x).getD 0)∈lcCells cells sc:=by
  unfold lcCells
  exact List.mem_reverse.mpr (List.mem_map.mpr ⟨(x,.free),List.mem_filter.mpr ⟨key,rfl⟩,rfl⟩)
 cases q:(lcCells cells sc).lookup x with
 | some c'=>exact ⟨c',rfl⟩
 | none =>
   have z:=(List.lookup_eq_none_iff.mp q) _ hm
   simp at z
theorem relN_mem {sc dn:Nms} {x:Str} {k:NameKind} (hk:k=.cell∨k=.free) (h:(relN sc dn).lookup x=some k):(x,NameKind.free)∈sc∨(x,NameKind.cell)∈sc:=by
 have m:=PySem.mem_of_lookup h
 obtain ⟨⟨n,k'⟩,hm,e⟩:=List.mem_map.mp m
 by_cases hf:k'=.free
 · subst hf
   have:n=x:=by
    dsimp only at e
    split at e <;> (injection e)
   subst this
   exact .inl hm
 · have b:(k' == NameKind.free)=false:=by simpa using hf
   simp only [b,Bool.false_and,Bool.false_eq_true,if_false] at e
   injection e with e1 e2
   subst e1 e2
   rcases hk with rfl | rfl
   · exact .inr hm
   · exact absurd rfl hf
theorem relabel_names {scope:Scope} {env:Env} {dn:Nms} (hn:env.scope.names=dn) (hk:env.scope.kind=.function):(relabel scope env).names=relN scope.names dn:=by
 unfold relabel relN
 show scope.names.map _=scope.names.map _
 refine List.map_congr_left fun y _=>?_
 obtain ⟨n,k⟩:=y
 have e:(env.scope.kind == ScopeKind.function)=true:=by rw [hk]; rfl
 have e2:env.kindOf n=dn.lookup n:=by rw [← hn]; rfl
 simp only [e,e2,Bool.and_true]
theorem lcs_gen {X:Cx} {scope:Scope} {N XN:List Str} {fr:List (Option Nat)} (dn:Nms) (hn:X.env.scope.names=dn) (hk:X.env.scope.kind=.function) (hX:X.N=XN) (hc:∀ x,dn.lookup x=some .cell→∃ c,X.env.cells.lookup x=some c)
 (h:chk scope.names dn N XN fr=true) (hs:scope.kind=.function):LcO X scope (lcCells X.env.cells scope.names) N fr:=by
 unfold chk at h
 simp only [Bool.and_eq_true] at h
 obtain ⟨⟨⟨⟨h1,h2⟩,h3⟩,h4⟩,h5⟩:=h
 have hf:∀ y∈scope.names,y.2=.free→∃ c,X.env.cells.lookup y.1=some c:=fun y hy e=>by
  have:=List.all_eq_true.mp h1 y hy
  rw [e] at this
  exact hc _ (by simpa using this)
 refine ⟨closureFor_cells hf,fun x c e=>?_,fun x e=>?_,hs,fun y hy e=>?_,by simpa using h4,fun i j e=>?_⟩
 · have m:=PySem.mem_of_lookup e
   unfold lcCells at m
   obtain ⟨⟨n,k⟩,hm,e2⟩:=List.mem_map.mp (List.mem_reverse.mp m)
   obtain ⟨h1',h2'⟩:=List.mem_filter.mp hm
   obtain ⟨c',hc'⟩:=hf _ h1' (by simpa using h2')
   injection e2 with e3 e4
   subst e3
   rw [hc'] at e4
   rw [hc',← e4]
   rfl
 · rw [relabel_names hn hk] at e
   have:(x,NameKind.free)∈scope.names∨(x,NameKind.cell)∈scope.names:=e.elim (relN_mem (.inl rfl)) (relN_mem (.inr rfl))
   rcases this with m | m
   · exact .inr (lcCells_has m)
   · have:=List.all_eq_true.mp h3 _ m
     exact .inl (by simpa using this)
 · have:=List.all_eq_true.mp h2 y hy
   rw [e] at this
   simpa using this
 · have hi:i < fr.length:=(List.getElem?_eq_some_iff.mp e).1
   have:=List.all_eq_true.mp h5 i (List.mem_range.mpr hi)
   rw [e] at this
   cases hx:N[i]? with
   | none=>rw [hx] at this; cases this
   | some x =>
     rw [hx] at this
     simp only [Bool.and_eq_true,beq_iff_eq] at this
     obtain ⟨⟨⟨⟨t1,t2⟩,t3⟩,t4⟩,t5⟩:=this
     obtain ⟨⟨z1,z2⟩,m1,m2⟩:=List.any_eq_true.mp t5
     simp only [Bool.and_eq_true,beq_iff_eq] at m2
     obtain ⟨rfl,rfl⟩:=m2
     refine ⟨z1,rfl,by rw [hX]; exact t1,.inl (by rw [hn]; exact t2),.inl (by rw [relabel_names hn hk]; exact t3),lcCells_has m1,fun m=>?_⟩
     have:=List.all_eq_true.mp t4 _ m
     simp at this
theorem cells_has {cells:List (Str×Addr)} {sc dn:Nms} {x:Str} {n:Nat} (hc:sc.all (fun y=>y.2 != .cell || sc.lookup y.1 == some .cell)=true) (h:(relN sc dn).lookup x=some .cell):∃ c,(cellsFrom n sc (lcCells cells sc)).lookup x=some c:=by
 refine Option.isSome_iff_exists.mp (PySem.W.cellsFrom_some sc n _ ?_)
 rcases relN_mem (.inl rfl) h with m | m
 · obtain ⟨c,e⟩:=lcCells_has (cells:=cells) m
   exact .inr (by rw [e]; rfl)
 · have:=List.all_eq_true.mp hc _ m
   exact .inl (by simpa using this)
theorem lcs_plain {X:Cx} {scope:Scope} {N:List Str} {fr:List (Option Nat)} (h:scope.names.all (fun y=>y.2 != .cell && y.2 != .free)=true) (hk:scope.kind=.function)
 (hn:∀ y∈scope.names,y.2=.local→scope.names.lookup y.1=some .local) (hl:fr.length=N.length) (hf:fr.all (·.isNone)=true):LcO X scope [] N fr:=by
 have no:∀ y∈scope.names,y.2≠.cell∧y.2≠.free:=fun y hy=>by
  have:=List.all_eq_true.mp h y hy
  rw [Bool.and_eq_true] at this
  simpa using this
 refine ⟨closureFor_none fun x hx=>(no x hx).2,fun x c e=>by simp at e,fun x e=>?_,hk,hn,hl,fun i j e=>?_⟩
 · exfalso
   have key:∀ k,(relabel scope X.env).names.lookup x=some k→k≠.cell∧k≠.free:=fun k e=>by
    obtain ⟨⟨n,k'⟩,hm,e2⟩:=List.mem_map.mp (PySem.mem_of_lookup e)
    have b:(k' == NameKind.free)=false:=by simpa using (no _ hm).2
    simp only [b,Bool.false_and,Bool.false_eq_true,if_false] at e2
    cases e2
    exact no _ hm
   rcases e with e | e
   · exact (key _ e).1 rfl
   · exact (key _ e).2 rfl
 · have:=List.all_eq_true.mp hf _ (List.mem_of_getElem? e)
   cases this
theorem pe_cal0 {X:Cx} {x:Str} {k j:Nat} {sp:Sp} {p pos:Pos} (C:Cal X.prog X.w X.K X.mg X.base x k [] sp) (hr:Room j X.A) (hj:k≤j) (hg:Gl X x) (hdb:(x == ("__debug__" : Str))=false:=by decide) :
 PE X (.Call (.Name x p) [] [] pos) (fun _ H Q=>sp [] H Q E0):=by
 obtain ⟨f,fd,F,hm,hk,hb⟩:=C.ex
 have h:=pe_call0 (dvs:=[]) (E:=E0) (p:=p) (pos:=pos) F (hr.mono hj) hg hm hk hb .nil pass0 hdb
 exact h
def rNeL (K:PySem.W.Frag):R2:=fun x y H Q=>∃ a b xs,x=.ref a∧y=.ref b∧SqL K H a xs∧SqL K H b []∧Q (.bl (!decide (xs=[]))) H
theorem op_neL {X:Cx} (hu:X.A.units < cLine):OpR X (compareOp .NotEq) (rNeL X.K):=by
 intro pins s σ H x y v u Q I rx ry h
 obtain ⟨a,b,xs,rfl,rfl,h1,h2,q⟩:=h
 cases rx; cases ry
 obtain ⟨us,r1,p1,_⟩:=I.list h1
 obtain ⟨ws,r2,p2,_⟩:=I.list h2
 have l1:=r1.length
 have e:ws=[]:=r2.nil_iff.mpr rfl
 subst e
 cases hx:xs with
 | nil =>
   subst hx
   have e:us=[]:=r1.nil_iff.mpr rfl
   subst e
   exact SeqAt.RcNeAt.lists (e:=fun j=>true) p1.isList p2.isList rfl hu (fun j h1 h2=>absurd h2 (by simp)) _ _ _ _ ⟨.bl _,H,I,rfl,q⟩
 | cons y ys =>
   subst hx
   exact SeqAt.RcNeAt.lists_lengths p1.isList p2.isList (by simp at l1; simp [← l1]) hu _ _ _ _ ⟨.bl _,H,I,rfl,q⟩
end L2
namespace L2
open PySem PySem.Spec PyProof.Rows
theorem ix_listK (K:PySem.W.Frag) {X:Cx} (h:X.K=K):IxR X (rIxL K):=h ▸ ix_list
theorem ix_tupK (K:PySem.W.Frag) {X:Cx} (h:X.K=K):IxR X (rIxT K):=h ▸ ix_tup
theorem op_notIn_seqK (K:PySem.W.Frag) {X:Cx} (h:X.K=K):OpR X (compareOp .NotIn) (rIn K true):=h ▸ op_notIn_seq
theorem call_len_seqK (K:PySem.W.Frag) {X:Cx} (h:X.K=K):CallR X (.builtin "len") (fun xs H Q=>∃ p ys,xs=[.ref p]∧(SqL K H p ys∨SqT K H p ys)∧Q (.int ys.length) H):=h ▸ call_len_seq
theorem call_tuple_ofK (K:PySem.W.Frag) {X:Cx} (h:X.K=K):CallR X (.type "tuple") (fun xs H Q=>∃ p ys,xs=[.ref p]∧((SqL K H p ys∧∀ l,H l=none→Q (.ref l) (upd H l (.tup ys)))∨(SqT K H p ys∧Q (.ref p) H))):=h ▸ call_tuple_of
theorem call_sortedIK (K:PySem.W.Frag) {X:Cx} (h:X.K=K):CallR X (.builtin "sorted") (fun xs H Q=>∃ (p:Addr) (ns:List Int),xs=[.ref p]∧SqL K H p (ns.map V.int)∧ns.length < 64∧∀ (l:Addr) (ns':List Int),H l=none→ns'.Perm ns→ns'.Pairwise (·≤·)→Q (.ref l) (upd H l (.lst (ns'.map V.int)))):=h ▸ call_sortedI
theorem pi_tupK (K:PySem.W.Frag) {X:Cx} {tg l:Expr} {tl:TE} (h:X.K=K) (hl:PE X l tl):PI X tg l (iTup K tl):=h ▸ pi_tup hl
theorem lc_T2 {k:SK} {K:PySem.W.Frag} {a D:Addr} {vs:List V} {te:TE} {u0 u1:Option V} {rest:St} {H:Hp} {Q:VK} {α:Type} (R:Hp→V→α→Prop) (hR:∀ H1 H2 v x,Tk H1 H2→R H1 v x→R H2 v x) (ys:List α) (hn:ys.length=vs.length) (hz:vs.length≤1000) (hD:H D=none) (ha:k.At H a vs)
 (hp:∀ (i:Nat) (w:V),vs[i]? = some w→∃ p x y,w=.ref p∧H p=some (.tup [x,y]))
 (hs:∀ (i:Nat) (p:Addr) (x y:V) (H2:Hp) (C:V→Hp→Prop),vs[i]? = some (.ref p)→H p=some (.tup [x,y])→Same H H2→(∀ y H5 z,Same H2 H5→ys[i]? = some z→R H5 y z→C y H5)→te (some x :: some y :: rest) H2 C)
 (hd:∀ H2 us,Same H H2→H2 D=some (.lst us)→Al (R H2) us ys→Q (.ref D) H2):LcGo (k.Itk K a) (gTup K 2 (gCons (gName 0) (gCons (gName 1) gNil))) tYes te (u0 :: u1 :: rest) H D Q:=by
 refine lc_map R hR ys hn hz (fun σ=>∃ u u',σ=u :: u' :: rest) ⟨_,_,rfl⟩ hD (fun i H2 s hi=>itk_go (ha.same s) hi) (fun H2 s=>itk_stop (ha.same s) (Nat.le_refl _)) (fun i x σ2 H2 H3 C hi s y o c=>?_) hd
 obtain ⟨u,u',rfl⟩:=o
 obtain ⟨rfl,e⟩:=itk_yld (ha.same s) y
 obtain ⟨p,x1,y1,rfl,e2⟩:=hp i x e
 exact ⟨p,[x1,y1],rfl,SqT.of (s _ _ e2),rfl,x1,[y1],rfl,y1,[],rfl,rfl,hs i p x1 y1 H3 (C (some x1 :: some y1 :: rest)) e e2 s fun y H5 z s5 ez rz=>c _ y H5 z ⟨_,_,rfl⟩ s5 ez rz⟩
theorem sc_ints {K:PySem.W.Frag} {a D:Addr} {vs:List V} {ps:List (List Int)} {u0 u1:Option V} {rest:St} {H:Hp} {Q:VK} (ha:H a=some (.tup vs)) (al:Al (IsI H) vs ps) (hl:ps.flatten.length < 1000) (hD:H D=none)
 (hd:∀ S,Q (.ref D) (upd H D (.set S (cntS ps.flatten)))) :
 ScGo (Itt K a) (gName 0) (iTup K (tVar 0)) (gName 1) (tVar 1) (u0 :: u1 :: rest) H D Q:=by
 have hsz:∀ l:List Int,(l.foldl stepS (fun _=>false,0)).2≤l.length:=by
  intro l
  have:∀ (l:List Int) q,(l.foldl stepS q).2≤q.2+l.length:=by
   intro l
   induction l with
   | nil=>intro q; simp
   | cons x l ih =>
     intro q
     have:=ih (stepS q x)
     rw [List.foldl_cons,List.length_cons]
     have h2:(stepS q x).2≤q.2+1:=by unfold stepS; dsimp only; split <;> omega
     omega
  have:=this l (fun _=>false,0)
  simpa using this
 have sb:∀ n,n < 1001→n+1 < scanBound:=fun n h=>Nat.lt_trans (show n+1 < 1002 by omega) (by decide)
 let f:List Int→(Int→Bool)×Nat:=fun l=>l.foldl stepS (fun _=>false,0)
 refine ⟨fun i m σ H2=>m=vs.length - i∧i≤vs.length∧(∃ u u',σ=u :: u' :: rest)∧H2=upd H D (.set (f (ps.take i).flatten).1 (f (ps.take i).flatten).2),⟨_,rfl,Nat.zero_le _,⟨_,_,rfl⟩,by simp [f]⟩,?_⟩
 rintro i m σ2 H2 ⟨rfl,hi,⟨u,u',rfl⟩,rfl⟩
 have e0:upd H D (.set (f (ps.take i).flatten).1 (f (ps.take i).flatten).2) a=some (.tup vs):=by rw [upd_ne (ne_of_none ha hD)]; exact ha
 by_cases hlt:i < vs.length
 · refine .inr ⟨⟨vs,vs[i],SqT.of e0,List.getElem?_eq_getElem hlt⟩,fun x H3 y=>?_⟩
   obtain ⟨rfl,y2⟩:=y
   have ex:=y2 vs (SqT.of e0)
   obtain ⟨p,ep,b,rfl,hb⟩:=al.get ex
   have hip:i < ps.length:=(List.getElem?_eq_some_iff.mp ep).1
   have tk:ps.take (i+1)=ps.take i++[p]:=by rw [List.take_succ,ep]; rfl
   have fl:(ps.take (i+1)).flatten=(ps.take i).flatten++p:=by rw [tk]; simp
   have le1:(ps.take (i+1)).flatten.length≤ps.flatten.length:=by
    have:=congrArg (fun l:List (List Int)=>l.flatten.length) (List.take_append_drop (i+1) ps)
    rw [List.flatten_append,List.length_append] at this
    omega
   have eb:∀ o,upd H D o b=some (.tup (p.map V.int)):=fun o=>by rw [upd_ne (ne_of_none hb hD)]; exact hb
   refine ⟨.ref b,rfl,b,rfl,⟨_,SqT.of (eb _)⟩,?_⟩
   refine ⟨fun i1 m1 σ6 H6=>m1=p.length - i1∧i1≤p.length∧(∃ u',σ6=some (.ref b) :: u' :: rest)∧H6=upd H D (.set (f ((ps.take i).flatten++p.take i1)).1 (f ((ps.take i).flatten++p.take i1)).2),⟨_,rfl,Nat.zero_le _,⟨_,rfl⟩,by simp⟩,?_⟩
   rintro i1 m1 σ6 H6 ⟨rfl,hi1,⟨u2,rfl⟩,rfl⟩
   by_cases hl1:i1 < p.length
   · refine .inr ⟨⟨p.map V.int,V.int p[i1],SqT.of (eb _),by simp [hl1]⟩,fun y H7 yy=>?_⟩
     obtain ⟨rfl,y3⟩:=yy
     have ey:=y3 _ (SqT.of (eb _))
     rw [List.getElem?_map,List.getElem?_eq_getElem hl1] at ey
     cases ey
     have len:(ps.take i).flatten.length+p.length≤ps.flatten.length:=by rw [fl,List.length_append] at le1; exact le1
     refine ⟨_,rfl,p[i1],_,_,rfl,upd_same,sb _ ?_,_,(by omega:p.length - (i1+1) < _),rfl,by omega,⟨_,rfl⟩,?_⟩
     · have:=hsz ((ps.take i).flatten++p.take i1)
       simp only [f]
       rw [List.length_append,List.length_take] at this
       omega
     · have e5:p.take (i1+1)=p.take i1++[p[i1]]:=List.take_succ_eq_append_getElem hl1
       rw [upd_upd,e5,← List.append_assoc]
       simp only [f,List.foldl_append,List.foldl_cons,List.foldl_nil]
       rfl
   · refine .inl ⟨⟨_,SqT.of (eb _),by simp; omega⟩,_,(by omega:vs.length - (i+1) < _),rfl,by omega,⟨_,_,rfl⟩,?_⟩
     rw [fl,show p.take i1=p from List.take_of_length_le (by omega)]
 · have e:i=vs.length:=by omega
   subst e
   refine .inl ⟨⟨vs,SqT.of e0,Nat.le_refl _⟩,?_⟩
   rw [List.take_of_length_le (by rw [al.1]; exact Nat.le_refl _)]
   exact hd _
theorem call_lenS {X:Cx}:CallR X (.builtin "len") (fun xs H Q=>∃ D S n,xs=[.ref D]∧H D=some (.set S n)∧Q (.int n) H):=by
 intro pins s σ H xs us Q I r h
 obtain ⟨D,S,n,rfl,hS,q⟩:=h
 cases r with
 | cons rx r =>
   cases r
   cases (show _=Value.ref D from rx)
   obtain ⟨o,es,ep,t,e,ex,d,_,_,sz,f,en⟩:=(show ObjOk X.prog X.w H s.heap D (.set S n) from I.hok D _ hS)
   have hl:=line63
   have:(4096:Nat)=scanBound:=rfl
   refine call_len_set e ex d f (by omega) ⟨.int n,H,I.tok _,⟨_,by rw [en]⟩,q⟩
end L2
namespace L2
open PySem PySem.Spec PyProof.Rows
theorem ps_lcS {X:Cx} {x:Str} {pos' spos:Pos} {tg elt iter:Expr} {ifs:List Expr} {scope:Scope} {cl:List (Str×Addr)} {N:List Str} {fr:List (Option Nat)} {pos:Pos} {wi:TI} {g g':TG} {tt:TT} {te:TE}
 (hw:swapsWith (.ListComp elt [⟨tg,iter,ifs,0⟩] scope pos) (some (.Name x pos')) spos.line X.env=pure true)
 (hc:X.calm=true) (hg':PG X (.Name x pos') g') (L:LcO X scope cl N fr) (hi:PI X tg iter wi) (hg:∀ C s3 H3 fp,PG (blk X scope cl C N s3 H3 fp) tg g)
 (ht:∀ C s3 H3 fp,PIfs (blk X scope cl C N s3 H3 fp) ifs tt) (he:∀ C s3 H3 fp,PE (blk X scope cl C N s3 H3 fp) elt te)
 (hs:∀ x,foldedSetIterable iter X.env x=pure x:=by intro _; rfl):PS X (.Assign [.Name x pos'] (.ListComp elt [⟨tg,iter,ifs,0⟩] scope pos) spos) (tAsg (tLC wi g tt te fr) g'):=by
 intro pins s σ H D I h
 rw [exec_Assign_Name_used _ _ _ _ hw]
 refine wpAny_bind (wpAny_standAt (wpAny_bind ?_))
 rw [arm_evalThenUse_ListComp]
 refine wpAny_bind (wpAny_comprehension_free (Q:=fun _ s'=>wpAny (model X.prog X.w) X.A (pure ()) (fun _ s''=>wpAny (model X.prog X.w) X.A (pure Flow.next) (SP X pins D) X.xe s'') X.xe s') (use:=some (assign (.Name x pos') X.env)) rfl hs L.clos L.kind L.names (thn (hi pins s σ H _ I h) fun v s1 h1=>thn h1 fun itv s2 h2=>?_))
 obtain ⟨it,fp,tn,J,H2,e,I2,T,st2,f2,h⟩:=h2
 subst e
 obtain ⟨W,⟨m0,w0⟩,turn⟩:=h s2.heap.objs.size (I2.hok.fresh (Nat.le_refl _))
 refine wpAny_newObj_type ?_
 generalize hs3:({ s2 with heap:=s2.heap.push { cls:=.type "list",dict:=none,data:=.seq ([]:List Value).toArray } }:Shared)=s3
 refine cmp_core (ac:=.lst []) hs3.symm hc L hg I2 T st2 f2 ⟨Nat.zero_le _,[],_,.nil,Heap.get?_push_size _ rfl⟩ w0 turn (fun _ _ a b=>codeAny_compStart_list a (b _)) (fun LI s4 t n h=>compLoop_any LI t n h) (fun H6 s7 qn I3 fr7 c=>?_) (lc_body ht he)
 obtain ⟨m7,hn7,c7⟩:=c
 have I8:Inv X pins σ H6 s7:=c7 s7.heap (Heap.SameBut.refl ..)
 have fpC:∀ {H6:Hp},H6 s3.heap.objs.size=none→∀ b∈[s3.heap.objs.size],FpOk X pins H6 b:=fun fr b hb=>by
  rw [List.mem_singleton] at hb
  subst hb
  exact I3.fpOk (Nat.le_refl _) fr
 obtain ⟨oC,esC,epC,geC,dC,skC,nfC⟩:=hn7
 have I9:=I8.pinned (fpC fr7) (fun b hb=>by
  rw [List.mem_singleton] at hb
  subst hb
  exact ⟨oC,geC,fun v z=>by rw [dC] at z; cases z⟩)
 refine thn (hg' _ s7 σ H6 (.ref s2.heap.objs.size) (.ref s2.heap.objs.size) _ I9 rfl qn) fun _ s9 ⟨σ9,H9,I10,q9⟩=>?_
 have pC:=I10.pin (s3.heap.objs.size,oC) (List.mem_append_right _ (List.mem_append_right _ (mem_pinsAt (List.mem_singleton.mpr rfl) geC)))
 refine ⟨m7,⟨oC,esC,epC,pC.1,dC,skC,nfC⟩,fun h' sb=>?_⟩
 refine wpAny_pure (wpAny_pure ?_)
 exact ⟨σ9,H9,I10.unpinned.turnGen (t':=s9.toks) (ch:=[s3.heap.objs.size]) (fun b u nb e=>(sb.2 b (fun z=>nb (by rw [z]; exact List.mem_singleton.mpr rfl))).trans e) (fpC pC.2.1) (fun _ _ e=>e) (fun _ _ _ e=>e) (fun b u e1 e2=>by rw [e1] at e2; cases e2),q9⟩
end L2
namespace L2
open PySem PySem.Spec PyProof.Rows
def tD (a b c x y q:Pnt):Int:=tn a b c * tn x y q
def inS (a b c q:Pnt):Prop:=0≤tD a b c a b q∧0≤tD a b c b c q∧0≤tD a b c c a q
def bey (a b c x y u v w:Pnt):Prop:=tD a b c x y u≤0∧tD a b c x y v≤0∧tD a b c x y w≤0
def sepS (a b c u v w:Pnt):Prop:=bey a b c a b u v w∨bey a b c b c u v w∨bey a b c c a u v w
instance {a b c q:Pnt}:Decidable (inS a b c q):=by unfold inS; infer_instance
instance {a b c x y u v w:Pnt}:Decidable (bey a b c x y u v w):=by unfold bey; infer_instance
instance {a b c u v w:Pnt}:Decidable (sepS a b c u v w):=by unfold sepS; infer_instance
theorem tn_swap (a b q:Pnt):tn b a q = - tn a b q:=by unfold tn; grind
theorem tn_rot (a b c:Pnt):tn b c a=tn a b c:=by unfold tn; grind
theorem tD_sw12 (a b c x y q:Pnt):tD b a c x y q=tD a b c y x q:=by
 unfold tD; rw [tn_swap a b c,tn_swap x y q]; grind
theorem tD_rot (a b c x y q:Pnt):tD b c a x y q=tD a b c x y q:=by unfold tD; rw [tn_rot]
theorem tD_self (a b c x y q:Pnt):tD b a c y x q=tD a b c x y q:=tD_sw12 a b c y x q
theorem inS_rot {a b c q:Pnt} (h:inS a b c q):inS b c a q:=by
 unfold inS at *; simp only [tD_rot]; exact ⟨h.2.1,h.2.2,h.1⟩
theorem inS_sw {a b c q:Pnt} (h:inS a b c q):inS b a c q:=by
 unfold inS at *; simp only [tD_self]; exact ⟨h.1,h.2.2,h.2.1⟩
theorem bey_rot {a b c x y u v w:Pnt}:bey b c a x y u v w=bey a b c x y u v w:=by unfold bey; simp only [tD_rot]
theorem bey_sw {a b c x y u v w:Pnt}:bey b a c y x u v w=bey a b c x y u v w:=by unfold bey; simp only [tD_self]
theorem sep_rot {a b c u v w:Pnt} (h:sepS a b c u v w):sepS b c a u v w:=by
 unfold sepS at *; simp only [bey_rot]; rcases h with h | h | h
 · exact .inr (.inr h)
 · exact .inl h
 · exact .inr (.inl h)
theorem sep_sw {a b c u v w:Pnt} (h:sepS a b c u v w):sepS b a c u v w:=by
 unfold sepS at *; simp only [bey_sw]; rcases h with h | h | h
 · exact .inl h
 · exact .inr (.inr h)
 · exact .inr (.inl h)
theorem sep_rot2 {a b c u v w:Pnt} (h:sepS a b c u v w):sepS a b c v w u:=by
 unfold sepS bey at *; rcases h with ⟨h1,h2,h3⟩ | ⟨h1,h2,h3⟩ | ⟨h1,h2,h3⟩
 · exact .inl ⟨h2,h3,h1⟩
 · exact .inr (.inl ⟨h2,h3,h1⟩)
 · exact .inr (.inr ⟨h2,h3,h1⟩)
theorem sep_sw2 {a b c u v w:Pnt} (h:sepS a b c u v w):sepS a b c v u w:=by
 unfold sepS bey at *; rcases h with ⟨h1,h2,h3⟩ | ⟨h1,h2,h3⟩ | ⟨h1,h2,h3⟩
 · exact .inl ⟨h2,h1,h3⟩
 · exact .inr (.inl ⟨h2,h1,h3⟩)
 · exact .inr (.inr ⟨h2,h1,h3⟩)
theorem perm3 {α:Type} [DecidableEq α] {x y z a b c:α} (h:[x,y,z].Perm [a,b,c]) (P:α→α→α→Prop) (rot:∀ a b c,P a b c→P b c a) (sw:∀ a b c,P a b c→P b a c) (p:P a b c):P x y z:=by
 have hx:x∈[a,b,c]:=h.mem_iff.mp (by simp)
 simp only [List.mem_cons,List.not_mem_nil,or_false] at hx
 have two:∀ {y z b c:α},[y,z].Perm [b,c]→(y=b∧z=c)∨(y=c∧z=b):=by
  intro y z b c h
  have hy:y∈[b,c]:=h.mem_iff.mp (by simp)
  simp only [List.mem_cons,List.not_mem_nil,or_false] at hy
  rcases hy with rfl | rfl
  · have:=List.perm_cons y |>.mp h
    exact .inl ⟨rfl,by simpa using this⟩
  · have:=List.perm_cons y |>.mp (h.trans (List.Perm.swap y b []))
    exact .inr ⟨rfl,by simpa using this⟩
 rcases hx with rfl | rfl | rfl
 · rcases two ((List.perm_cons x).mp h) with ⟨rfl,rfl⟩ | ⟨rfl,rfl⟩
   · exact p
   · exact sw _ _ _ (rot _ _ _ (rot _ _ _ p))
 · rcases two ((List.perm_cons x).mp (h.trans (List.Perm.swap x a [c]))) with ⟨rfl,rfl⟩ | ⟨rfl,rfl⟩
   · exact sw _ _ _ p
   · exact rot _ _ _ p
 · have h2:[x,y,z].Perm [x,a,b]:=h.trans (((List.Perm.swap x b []).cons a).trans (List.Perm.swap x a [b]))
   rcases two ((List.perm_cons x).mp h2) with ⟨rfl,rfl⟩ | ⟨rfl,rfl⟩
   · exact rot _ _ _ (rot _ _ _ p)
   · exact sw _ _ _ (rot _ _ _ p)
theorem liesIn_iff {a b c q:Pnt} (hd:tn a b c≠0):liesIn q (tri a b c)=true↔inS a b c q:=by
 unfold liesIn tri inS tD
 by_cases h:tn a b c < 0
 · rw [if_pos h]
   have e1:tn a c q = - tn c a q:=tn_swap c a q
   have e2:tn c b q = - tn b c q:=tn_swap b c q
   have e3:tn b a q = - tn a b q:=tn_swap a b q
   simp only [Tri.edges,List.map_cons,List.map_nil,List.all_cons,List.all_nil,id,Bool.and_true,Bool.and_eq_true,decide_eq_true_eq,e1,e2,e3]
   have k:∀ t:Int,(0≤tn a b c * t↔0≤-t):=fun t=>by
    constructor
    · intro g
      by_cases ht:0 < t
      · have:=Int.mul_neg_of_neg_of_pos h ht
        omega
      · omega
    · intro g
      exact Int.mul_nonneg_of_nonpos_of_nonpos (by omega) (by omega)
   rw [k,k,k]
   constructor
   · rintro ⟨h1,h2,h3⟩; exact ⟨h3,h2,h1⟩
   · rintro ⟨h1,h2,h3⟩; exact ⟨h3,h2,h1⟩
 · rw [if_neg h]
   have hp:0 < tn a b c:=by omega
   simp only [Tri.edges,List.map_cons,List.map_nil,List.all_cons,List.all_nil,id,Bool.and_true,Bool.and_eq_true,decide_eq_true_eq]
   have k:∀ t:Int,(0≤tn a b c * t↔0≤t):=fun t=>by
    constructor
    · intro g
      by_cases ht:t < 0
      · have:=Int.mul_neg_of_pos_of_neg hp ht
        omega
      · omega
    · intro g
      exact Int.mul_nonneg (by omega) g
   rw [k,k,k]
theorem beyond_pts {e:Pnt×Pnt} {u v w:Pnt} {t:Tri} (ht:t=tri u v w):beyond e t=true↔tn e.1 e.2 u≤0∧tn e.1 e.2 v≤0∧tn e.1 e.2 w≤0:=by
 subst ht
 unfold beyond tri
 split
 · simp only [Tri.pts,List.map_cons,List.map_nil,List.all_cons,List.all_nil,id,Bool.and_true,Bool.and_eq_true,decide_eq_true_eq]
   constructor
   · rintro ⟨h1,h2,h3⟩; exact ⟨h1,h3,h2⟩
   · rintro ⟨h1,h2,h3⟩; exact ⟨h1,h3,h2⟩
 · simp only [Tri.pts,List.map_cons,List.map_nil,List.all_cons,List.all_nil,id,Bool.and_true,Bool.and_eq_true,decide_eq_true_eq]
theorem partsFrom_of {a b c u v w:Pnt} (hd:tn a b c≠0) (h:sepS a b c u v w):partsFrom (tri a b c) (tri u v w)=true:=by
 unfold partsFrom
 have k:∀ x y:Pnt,bey a b c x y u v w→(tn a b c < 0→beyond (y,x) (tri u v w)=true)∧(¬ tn a b c < 0→beyond (x,y) (tri u v w)=true):=by
  intro x y g
  unfold bey tD at g
  refine ⟨fun hn=>(beyond_pts rfl).mpr ?_,fun hn=>(beyond_pts rfl).mpr ?_⟩
  · have kk:∀ q:Pnt,tn a b c * tn x y q≤0→tn y x q≤0:=fun q hq=>by
     rw [tn_swap x y q]
     by_cases ht:tn x y q < 0
     · have:=Int.mul_pos_of_neg_of_neg hn ht
       omega
     · omega
    exact ⟨kk _ g.1,kk _ g.2.1,kk _ g.2.2⟩
  · have hp:0 < tn a b c:=by omega
    have kk:∀ q:Pnt,tn a b c * tn x y q≤0→tn x y q≤0:=fun q hq=>by
     by_cases ht:0 < tn x y q
     · have:=Int.mul_pos hp ht
       omega
     · omega
    exact ⟨kk _ g.1,kk _ g.2.1,kk _ g.2.2⟩
 rw [List.any_eq_true]
 generalize tri u v w=T at k ⊢
 unfold tri
 by_cases hn:tn a b c < 0
 · rw [if_pos hn]
   rcases h with h | h | h
   · exact ⟨(b,a),by simp [Tri.edges],(k _ _ h).1 hn⟩
   · exact ⟨(c,b),by simp [Tri.edges],(k _ _ h).1 hn⟩
   · exact ⟨(a,c),by simp [Tri.edges],(k _ _ h).1 hn⟩
 · rw [if_neg hn]
   rcases h with h | h | h
   · exact ⟨(a,b),by simp [Tri.edges],(k _ _ h).2 hn⟩
   · exact ⟨(b,c),by simp [Tri.edges],(k _ _ h).2 hn⟩
   · exact ⟨(c,a),by simp [Tri.edges],(k _ _ h).2 hn⟩
structure Aff where
 a:Int
 b:Int
 c:Int
 d:Int
 s:Int
 t:Int
def Aff.at (A:Aff) (p:Pnt):Pnt:=(A.a * p.1+A.b * p.2+A.s,A.c * p.1+A.d * p.2+A.t)
def Aff.det (A:Aff):Int:=A.a * A.d - A.b * A.c
theorem Aff.tn (A:Aff) (p q r:Pnt):L2.tn (A.at p) (A.at q) (A.at r)=A.det * L2.tn p q r:=by
 unfold L2.tn Aff.at Aff.det
 dsimp only
 grind
theorem Aff.tD (A:Aff) (a b c x y q:Pnt):L2.tD (A.at a) (A.at b) (A.at c) (A.at x) (A.at y) (A.at q)=A.det * A.det * L2.tD a b c x y q:=by
 unfold L2.tD
 rw [A.tn,A.tn]
 grind
theorem Aff.sq {A:Aff} (h:A.det≠0):0 < A.det * A.det:=by
 by_cases g:0 < A.det
 · exact Int.mul_pos g g
 · exact Int.mul_pos_of_neg_of_neg (by omega) (by omega)
theorem Aff.nn {A:Aff} (h:A.det≠0) (t:Int):0≤A.det * A.det * t↔0≤t:=by
 have hp:=A.sq h
 constructor
 · intro g
   by_cases ht:t < 0
   · have:=Int.mul_neg_of_pos_of_neg hp ht
     omega
   · omega
 · intro g
   exact Int.mul_nonneg (by omega) g
theorem Aff.np {A:Aff} (h:A.det≠0) (t:Int):A.det * A.det * t≤0↔t≤0:=by
 have hp:=A.sq h
 constructor
 · intro g
   by_cases ht:0 < t
   · have:=Int.mul_pos hp ht
     omega
   · omega
 · intro g
   have:=Int.mul_nonneg (a:=A.det * A.det) (b:=-t) (by omega) (by omega)
   rw [Int.mul_neg] at this
   omega
theorem Aff.inS {A:Aff} (h:A.det≠0) {a b c q:Pnt}:L2.inS (A.at a) (A.at b) (A.at c) (A.at q)↔L2.inS a b c q:=by
 unfold L2.inS
 rw [A.tD,A.tD,A.tD,A.nn h,A.nn h,A.nn h]
theorem Aff.bey {A:Aff} (h:A.det≠0) {a b c x y u v w:Pnt}:L2.bey (A.at a) (A.at b) (A.at c) (A.at x) (A.at y) (A.at u) (A.at v) (A.at w)↔L2.bey a b c x y u v w:=by
 unfold L2.bey
 rw [A.tD,A.tD,A.tD,A.np h,A.np h,A.np h]
theorem Aff.sep {A:Aff} (h:A.det≠0) {a b c u v w:Pnt}:L2.sepS (A.at a) (A.at b) (A.at c) (A.at u) (A.at v) (A.at w)↔L2.sepS a b c u v w:=by
 unfold L2.sepS
 rw [A.bey h,A.bey h,A.bey h]
theorem Aff.inj {A:Aff} (h:A.det≠0) {p q:Pnt} (e:A.at p=A.at q):p=q:=by
 unfold Aff.at at e
 have e1:=congrArg Prod.fst e
 have e2:=congrArg Prod.snd e
 dsimp only at e1 e2
 unfold Aff.det at h
 have f1:(A.a * A.d - A.b * A.c) * (p.1 - q.1)=0:=by grind
 have f2:(A.a * A.d - A.b * A.c) * (p.2 - q.2)=0:=by grind
 have g1:=(Int.mul_eq_zero.mp f1).resolve_left h
 have g2:=(Int.mul_eq_zero.mp f2).resolve_left h
 exact Prod.ext (by omega) (by omega)
end L2
namespace L2
open PySem PySem.Spec PyProof.Rows
def pieceB (pts:List Pnt):List Int→Bool
 | [i,j,k]=>decide (0≤i∧i < (pts.length:Int)) && decide (0≤j∧j < (pts.length:Int)) && decide (0≤k∧k < (pts.length:Int)) && decide (i≠j∧i≠k∧j≠k) && decide (tn (cAt pts i) (cAt pts j) (cAt pts k)≠0) &&
    (List.range pts.length).all fun x=>decide ((x:Int)=i∨(x:Int)=j∨(x:Int)=k) || !decide (inS (cAt pts i) (cAt pts j) (cAt pts k) (cAt pts x))
 | _=>false
def sepB (pts:List Pnt):List Int→List Int→Bool
 | [i,j,k],[u,v,w]=>decide (sepS (cAt pts i) (cAt pts j) (cAt pts k) (cAt pts u) (cAt pts v) (cAt pts w)) || decide (sepS (cAt pts u) (cAt pts v) (cAt pts w) (cAt pts i) (cAt pts j) (cAt pts k))
 | _,_=>false
def baseB (pts:List Pnt) (pcs:List (List Int)):Bool :=
 decide (3≤pts.length∧pts.length≤6) && decide (1≤pcs.length∧pcs.length≤4) && pts.all (fun p=>decide (p.1.natAbs≤6∧p.2.natAbs≤6)) && decide pts.Nodup && pcs.all (pieceB pts) &&
  ((List.range pts.length).all fun k=>pcs.any fun p=>decide ((k:Int)∈p)) &&
  (List.range pcs.length).all fun i=>(List.range pcs.length).all fun j=>decide (i=j) || (sepB pts (pcs.getD i []) (pcs.getD j []) && (pcs.getD i []).any fun x=>decide (x∉pcs.getD j []))
structure Base (pts:List Pnt) (pcs:List (List Int)):Prop where
 n3:3≤pts.length
 n6:pts.length≤6
 p1:1≤pcs.length
 p4:pcs.length≤4
 bd:∀ p∈pts,p.1.natAbs≤6∧p.2.natAbs≤6
 nd:pts.Nodup
 pc:∀ p∈pcs,pieceB pts p=true
 us:∀ k:Nat,k < pts.length→∃ p∈pcs,(k:Int)∈p
 sep:∀ i j:Nat,i < pcs.length→j < pcs.length→i≠j→sepB pts (pcs.getD i []) (pcs.getD j [])=true∧∃ x∈pcs.getD i [],x∉pcs.getD j []
theorem base_of {pts:List Pnt} {pcs:List (List Int)} (h:baseB pts pcs=true):Base pts pcs:=by
 unfold baseB at h
 simp only [Bool.and_eq_true,decide_eq_true_eq,List.all_eq_true,List.any_eq_true,List.mem_range,Bool.or_eq_true] at h
 obtain ⟨⟨⟨⟨⟨⟨⟨h1,h2⟩,h3,h4⟩,h5⟩,h6⟩,h7⟩,h8⟩,h9⟩:=h
 exact ⟨h1,h2,h3,h4,h5,h6,h7,h8,fun i j hi hj ne=>(h9 i hi j hj).resolve_left ne⟩
structure CoOrd (n:Nat) (o:List Int):Prop where
 len:o.length=n
 bd:∀ j:Nat,j < n→0≤o.getD j 0∧o.getD j 0 < n
 inj:∀ i j:Nat,i < n→j < n→o.getD i 0=o.getD j 0→i=j
 sur:∀ k:Nat,k < n→∃ j:Nat,j < n∧o.getD j 0=k
theorem ord_of {n:Nat} {o:List Int} (h:o.Perm ((List.range n).map fun i:Nat=>(i:Int))):CoOrd n o:=by
 have hl:o.length=n:=by rw [h.length_eq]; simp
 have nd:o.Nodup:=h.symm.nodup (List.Pairwise.map _ (fun a b ne e=>ne (Int.ofNat.inj e)) List.nodup_range)
 have g:∀ j:Nat,(hj:j < n)→o.getD j 0=o[j]'(by omega):=fun j hj=>by rw [List.getD_eq_getElem?_getD,List.getElem?_eq_getElem (by omega)]; rfl
 refine ⟨hl,fun j hj=>?_,fun i j hi hj e=>?_,fun k hk=>?_⟩
 · rw [g j hj]
   have:o[j]'(by omega)∈(List.range n).map fun i:Nat=>(i:Int):=h.mem_iff.mp (List.getElem_mem _)
   obtain ⟨k,hk,e⟩:=List.mem_map.mp this
   have:=List.mem_range.mp hk
   omega
 · rw [g i hi,g j hj] at e
   exact (List.getElem_inj nd).mp e
 · have:(k:Int)∈o:=h.mem_iff.mpr (List.mem_map.mpr ⟨k,List.mem_range.mpr hk,rfl⟩)
   obtain ⟨j,hj,e⟩:=List.getElem_of_mem this
   exact ⟨j,by omega,by rw [g j (by omega)]; exact e⟩
def oAt (o:List Int) (i:Int):Int:=o.getD i.toNat 0
theorem piece3 {pts:List Pnt} {p:List Int} (h:pieceB pts p=true):∃ i j k,p=[i,j,k]∧(0≤i∧i < (pts.length:Int))∧(0≤j∧j < (pts.length:Int))∧(0≤k∧k < (pts.length:Int))∧(i≠j∧i≠k∧j≠k)∧tn (cAt pts i) (cAt pts j) (cAt pts k)≠0 ∧
 ∀ x:Nat,x < pts.length→(x:Int)∉p→¬ inS (cAt pts i) (cAt pts j) (cAt pts k) (cAt pts x):=by
 unfold pieceB at h
 split at h
 · rename_i i j k
   simp only [Bool.and_eq_true,decide_eq_true_eq,List.all_eq_true,List.mem_range,Bool.or_eq_true,Bool.not_eq_true',decide_eq_false_iff_not] at h
   obtain ⟨⟨⟨⟨⟨h1,h2⟩,h3⟩,h4⟩,h5⟩,h6⟩:=h
   refine ⟨i,j,k,rfl,h1,h2,h3,h4,h5,fun x hx nm=>(h6 x hx).resolve_left fun z=>nm ?_⟩
   simpa using z
 · cases h
theorem cnt_count {n:Nat} (l:List Int) (hb:∀ x∈l,0≤x∧x < n) (hs:∀ k:Nat,k < n→(k:Int)∈l):cntS l=n:=by
 have key:∀ (l:List Int),(∀ x∈l,0≤x∧x < n)→∀ q:(Int→Bool)×Nat,q.2=(List.range n).countP (fun k:Nat=>q.1 k)→(l.foldl stepS q).2=(List.range n).countP (fun k:Nat=>(l.foldl stepS q).1 k)∧∀ x,(l.foldl stepS q).1 x=(q.1 x || decide (x∈l)):=by
  intro l
  induction l with
  | nil=>intro _ q h; exact ⟨h,fun x=>by simp⟩
  | cons y l ih =>
    intro hb q h
    rw [List.foldl_cons]
    have hy:=hb y List.mem_cons_self
    have step:(stepS q y).2=(List.range n).countP (fun k:Nat=>(stepS q y).1 k):=by
     unfold stepS
     dsimp only
     by_cases g:q.1 y=true
     · rw [if_pos g,h]
       refine congrArg (fun f=>List.countP f (List.range n)) (funext fun k=>?_)
       by_cases e:(k:Int)=y
       · rw [e,g]; rfl
       · simp [e]
     · rw [if_neg g,h]
       have g':q.1 y=false:=by simpa using g
       obtain ⟨m,rfl⟩:∃ m:Nat,y=m:=⟨y.toNat,by omega⟩
       have hm:m < n:=by omega
       have:∀ r:Nat,(List.range r).countP (fun k:Nat=>q.1 k || decide ((k:Int)=(m:Int)))=(List.range r).countP (fun k:Nat=>q.1 k)+(if m < r then 1 else 0):=by
        intro r
        induction r with
        | zero=>rfl
        | succ r ihr =>
          rw [List.range_succ,List.countP_append,List.countP_append,ihr]
          simp only [List.countP_singleton]
          by_cases e:r=m
          · subst e
            rw [g']
            simp
          · have e2:¬ (r:Int)=(m:Int):=by omega
            simp only [e2,decide_false,Bool.or_false]
            have e3:(m < r+1)↔(m < r):=by omega
            simp only [e3]
            omega
       rw [this n,if_pos hm]
    obtain ⟨i1,i2⟩:=ih (fun x hx=>hb x (List.mem_cons_of_mem _ hx)) (stepS q y) step
    refine ⟨i1,fun x=>?_⟩
    rw [i2]
    unfold stepS
    dsimp only
    by_cases e:x=y
    · subst e; simp
    · simp [e]
 obtain ⟨k1,k2⟩:=key l hb (fun _=>false,0) (by simp)
 unfold cntS
 rw [k1]
 have:(List.range n).countP (fun k:Nat=>(l.foldl stepS (fun _=>false,0)).1 k)=(List.range n).length:=by
  rw [List.countP_eq_length]
  intro k hk
  rw [k2]
  simp [hs k (List.mem_range.mp hk)]
 rw [this,List.length_range]
structure Small (A:Aff):Prop where
 a:A.a.natAbs≤3
 b:A.b.natAbs≤3
 c:A.c.natAbs≤3
 d:A.d.natAbs≤3
 s:A.s.natAbs≤20
 t:A.t.natAbs≤20
theorem near_at {A:Aff} (S:Small A) {p:Pnt} (h:p.1.natAbs≤6∧p.2.natAbs≤6):near (A.at p):=by
 have h1:(A.a * p.1).natAbs≤3 * 6:=by rw [Int.natAbs_mul]; exact Nat.mul_le_mul S.a h.1
 have h2:(A.b * p.2).natAbs≤3 * 6:=by rw [Int.natAbs_mul]; exact Nat.mul_le_mul S.b h.2
 have h3:(A.c * p.1).natAbs≤3 * 6:=by rw [Int.natAbs_mul]; exact Nat.mul_le_mul S.c h.1
 have h4:(A.d * p.2).natAbs≤3 * 6:=by rw [Int.natAbs_mul]; exact Nat.mul_le_mul S.d h.2
 have h5:=S.s
 have h6:=S.t
 unfold near Aff.at
 dsimp only
 omega
structure Drawn (pts:List Pnt) (pcs:List (List Int)) (A:Aff) (o:List Int) (cs:List Pnt) (kl:List (List Int)) (q:List Nat):Prop where
 base:Base pts pcs
 det:A.det≠0
 small:Small A
 ord:CoOrd pts.length o
 len:cs.length=pts.length
 at_:∀ j:Nat,j < pts.length→cs[(o.getD j 0).toNat]? = some (A.at (pts.getD j (0,0)))
 klen:kl.length=pcs.length
 key:∀ i:Nat,i < pcs.length→(kl.getD i []).Perm ((pcs.getD i []).map (oAt o))∧(kl.getD i []).Pairwise (·≤·)
 perm:q.Perm (List.range pcs.length)
section
variable {pts:List Pnt} {pcs:List (List Int)} {A:Aff} {o:List Int} {cs:List Pnt} {kl:List (List Int)} {q:List Nat}
theorem Drawn.corner (D:Drawn pts pcs A o cs kl q) {i:Int} (h:0≤i∧i < pts.length):cAt cs (oAt o i)=A.at (cAt pts i):=by
 obtain ⟨n,rfl⟩:∃ n:Nat,i=n:=⟨i.toNat,by omega⟩
 have:=D.at_ n (by omega)
 unfold cAt oAt
 rw [show ((n:Int)).toNat=n from rfl,List.getD_eq_getElem?_getD (i:=(o.getD n 0).toNat),this]
 rfl
theorem Drawn.piece (D:Drawn pts pcs A o cs kl q) {n:Nat} (hn:n < pcs.length):∃ i j k x y z,pcs.getD n []=[i,j,k]∧kl.getD n []=[x,y,z]∧[x,y,z].Perm [oAt o i,oAt o j,oAt o k]∧(x < y∧y < z)∧(0≤i∧i < (pts.length:Int))∧(0≤j∧j < (pts.length:Int))∧(0≤k∧k < (pts.length:Int))∧tn (cAt pts i) (cAt pts j) (cAt pts k)≠0 ∧
 ∀ x:Nat,x < pts.length→(x:Int)∉[i,j,k]→¬ inS (cAt pts i) (cAt pts j) (cAt pts k) (cAt pts x):=by
 have hm:pcs.getD n []∈pcs:=by rw [List.getD_eq_getElem?_getD,List.getElem?_eq_getElem hn]; exact List.getElem_mem hn
 obtain ⟨i,j,k,e,hi,hj,hk,⟨n1,n2,n3⟩,hd,hs⟩:=piece3 (D.base.pc _ hm)
 obtain ⟨pm,so⟩:=D.key n hn
 rw [e] at pm hs
 have l3:(kl.getD n []).length=3:=by rw [pm.length_eq]; rfl
 generalize hr:kl.getD n []=r at *
 match r,l3 with
 | [x,y,z],_ =>
   have io:∀ {a b:Int},(0≤a∧a < (pts.length:Int))→(0≤b∧b < (pts.length:Int))→a≠b→oAt o a≠oAt o b:=fun {a b} ha hb ne z=>ne (by
    have:=D.ord.inj a.toNat b.toNat (by omega) (by omega) z
    omega)
   have nd:[x,y,z].Nodup:=pm.symm.nodup (by simp [io hi hj n1,io hi hk n2,io hj hk n3])
   simp only [List.nodup_cons,List.mem_cons,List.not_mem_nil,or_false,not_or,List.pairwise_cons] at nd so
   have s1:=so.1 y (by simp)
   have s2:=so.2.1 z (by simp)
   exact ⟨i,j,k,x,y,z,e,rfl,pm,⟨by omega,by omega⟩,hi,hj,hk,hd,hs⟩
theorem Drawn.knd (D:Drawn pts pcs A o cs kl q):kl.Nodup:=by
 rw [List.nodup_iff_pairwise_ne,List.pairwise_iff_getElem]
 intro i j hi hj lt e
 rw [D.klen] at hi hj
 obtain ⟨_,x,hx,nx⟩:=D.base.sep i j hi hj (by omega)
 have g:∀ n,(h:n < pcs.length)→kl.getD n []=kl[n]'(by rw [D.klen]; exact h):=fun n h=>by rw [List.getD_eq_getElem?_getD,List.getElem?_eq_getElem (by rw [D.klen]; exact h)]; rfl
 have m1:oAt o x∈kl.getD i []:=(D.key i hi).1.mem_iff.mpr (List.mem_map.mpr ⟨x,hx,rfl⟩)
 rw [g i hi,e,← g j hj] at m1
 obtain ⟨y,hy,ey⟩:=List.mem_map.mp ((D.key j hj).1.mem_iff.mp m1)
 have bdm:∀ n,n < pcs.length→∀ x∈pcs.getD n [],0≤x∧x < (pts.length:Int):=fun n hn x hx=>by
  obtain ⟨i,j,k,_,_,_,e,_,_,_,hi,hj,hk,_⟩:=D.piece hn
  rw [e] at hx
  simp only [List.mem_cons,List.not_mem_nil,or_false] at hx
  rcases hx with rfl | rfl | rfl <;> assumption
 have b1:=bdm i hi x hx
 have b2:=bdm j hj y hy
 have:=D.ord.inj y.toNat x.toNat (by omega) (by omega) ey
 have:x=y:=by omega
 exact nx (this ▸ hy)
theorem Drawn.ok (D:Drawn pts pcs A o cs kl q) {ts:List Int} {l m:Int} (rise:(q.map fun i=>kl.getD i []).Pairwise fun a b=>HT.lexLt a b=true) (tl:ts.length=pcs.length) (t9:∀ t∈ts,1≤t∧t≤9) (l9:0≤l∧l≤9) (m9:1≤m∧m≤9) :
 PlOk ⟨cs,q.map fun i=>kl.getD i [],ts,l,m⟩:=by
 have n3:=D.base.n3
 have n6:=D.base.n6
 have p1:=D.base.p1
 have p4:=D.base.p4
 have hl:=D.len
 have qlen:q.length=pcs.length:=by rw [D.perm.length_eq,List.length_range]
 have qlt:∀ i∈q,i < pcs.length:=fun i hi=>List.mem_range.mp (D.perm.mem_iff.mp hi)
 have qnd:q.Nodup:=D.perm.symm.nodup List.nodup_range
 have whence:∀ k:Nat,k < cs.length→∃ j:Nat,j < pts.length∧o.getD j 0=k∧cs[k]? = some (A.at (pts.getD j (0,0))):=fun k hk=>by
  obtain ⟨j,hj,e⟩:=D.ord.sur k (by omega)
  have:=D.at_ j hj
  rw [e] at this
  exact ⟨j,hj,e,this⟩
 have ptm:∀ j:Nat,j < pts.length→pts.getD j (0,0)∈pts:=fun j hj=>by rw [List.getD_eq_getElem?_getD,List.getElem?_eq_getElem hj]; exact List.getElem_mem hj
 have pieceOk:∀ n,n < pcs.length→PieceOk cs (kl.getD n []):=fun n hn=>by
  obtain ⟨i,j,k,x,y,z,e,e2,pm,lt,hi,hj,hk,hd,hs⟩:=D.piece hn
  rw [e2]
  have bo:∀ a∈[oAt o i,oAt o j,oAt o k],0≤a∧a≤(cs.length:Int) - 1:=fun a ha=>by
   simp only [List.mem_cons,List.not_mem_nil,or_false] at ha
   have b1:=D.ord.bd i.toNat (by omega)
   have b2:=D.ord.bd j.toNat (by omega)
   have b3:=D.ord.bd k.toNat (by omega)
   unfold oAt at ha
   rcases ha with rfl | rfl | rfl <;> omega
  refine ⟨rfl,fun a ha=>bo a (pm.mem_iff.mp ha),lt,?_⟩
  refine perm3 pm (fun x y z=>tn (cAt cs x) (cAt cs y) (cAt cs z)≠0) (fun a b c h=>by rw [tn_rot]; exact h) (fun a b c h=>by rw [tn_swap]; omega) ?_
  rw [D.corner hi,D.corner hj,D.corner hk,A.tn]
  exact Int.mul_ne_zero D.det hd
 have strange:∀ n,n < pcs.length→∀ j:Nat,j < cs.length→(j:Int)∉kl.getD n []→liesIn (cs.getD j (0,0)) (trOf cs (kl.getD n []))=false:=fun n hn jj hjj nm=>by
  have ok:=pieceOk n hn
  obtain ⟨i,j,k,x,y,z,e,e2,pm,lt,hi,hj,hk,hd,hs⟩:=D.piece hn
  rw [e2] at nm ok ⊢
  have hne:=ok.d
  refine Bool.eq_false_iff.mpr fun h=>?_
  have h2:inS (cAt cs x) (cAt cs y) (cAt cs z) (cs.getD jj (0,0)):=(liesIn_iff hne).mp h
  have h3:inS (cAt cs (oAt o i)) (cAt cs (oAt o j)) (cAt cs (oAt o k)) (cs.getD jj (0,0)):=perm3 pm.symm (fun x y z=>inS (cAt cs x) (cAt cs y) (cAt cs z) (cs.getD jj (0,0))) (fun a b c h=>inS_rot h) (fun a b c h=>inS_sw h) h2
  obtain ⟨j0,hj0,ej,ec⟩:=whence jj hjj
  rw [D.corner hi,D.corner hj,D.corner hk,List.getD_eq_getElem?_getD,ec] at h3
  have h4:=(A.inS D.det).mp h3
  refine hs j0 hj0 (fun z=>nm (pm.mem_iff.mpr ?_)) (by unfold cAt at h4 ⊢; exact h4)
  have:oAt o (j0:Int)=jj:=ej
  rw [← this]
  have m2:oAt o (j0:Int)∈[i,j,k].map (oAt o):=List.mem_map.mpr ⟨_,z,rfl⟩
  exact m2
 refine ⟨by show 3≤cs.length; omega,by show cs.length≤30; omega,fun p hp=>?_,?_,by simp; omega,by simp; omega,fun p hp=>?_,fun i hi=>?_,by simp [tl,qlen],t9,l9,m9,?_,fun p hp=>?_,fun i j hij hj=>?_⟩
 · obtain ⟨k,hk,e⟩:=List.getElem_of_mem (show p∈cs from hp)
   obtain ⟨j,hj,_,ec⟩:=whence k hk
   rw [List.getElem?_eq_getElem hk,e] at ec
   cases ec
   exact near_at D.small (D.base.bd _ (ptm j hj))
 · show cs.Nodup
   rw [List.nodup_iff_pairwise_ne,List.pairwise_iff_getElem]
   intro k1 k2 h1 h2 lt e
   obtain ⟨j1,hj1,e1,c1⟩:=whence k1 h1
   obtain ⟨j2,hj2,e2,c2⟩:=whence k2 h2
   rw [List.getElem?_eq_getElem h1,e] at c1
   rw [List.getElem?_eq_getElem h2] at c2
   rw [c1] at c2
   have:=A.inj D.det (Option.some.inj c2)
   have gd:∀ j,(h:j < pts.length)→pts.getD j (0,0)=pts[j]:=fun j h=>by rw [List.getD_eq_getElem?_getD,List.getElem?_eq_getElem h]; rfl
   rw [gd j1 hj1,gd j2 hj2] at this
   have e3:=(List.getElem_inj D.base.nd).mp this
   subst e3
   omega
 · obtain ⟨n,hn,rfl⟩:=List.mem_map.mp (show p∈q.map _ from hp)
   exact pieceOk n (qlt n hn)
 · have hi':i+1 < (q.map fun i=>kl.getD i []).length:=hi
   have:=List.pairwise_iff_getElem.mp rise i (i+1) (by omega) hi' (by omega)
   show HT.lexLt ((q.map fun i=>kl.getD i []).getD i []) ((q.map fun i=>kl.getD i []).getD (i+1) [])=true
   rw [List.getD_eq_getElem?_getD,List.getD_eq_getElem?_getD,List.getElem?_eq_getElem (by omega),List.getElem?_eq_getElem hi']
   exact this
 · show cntS (q.map fun i=>kl.getD i []).flatten=cs.length
   refine cnt_count _ (fun x hx=>?_) (fun k hk=>?_)
   · obtain ⟨r,hr,hxr⟩:=List.mem_flatten.mp hx
     obtain ⟨n,hn,rfl⟩:=List.mem_map.mp hr
     have:=(pieceOk n (qlt n hn)).bd x hxr
     omega
   · obtain ⟨j,hj,e⟩:=D.ord.sur k (by omega)
     obtain ⟨p,hp,hjp⟩:=D.base.us j hj
     obtain ⟨n,hn,rfl⟩:=List.getElem_of_mem hp
     have g:pcs.getD n []=pcs[n]:=by rw [List.getD_eq_getElem?_getD,List.getElem?_eq_getElem hn]; rfl
     refine List.mem_flatten.mpr ⟨kl.getD n [],List.mem_map.mpr ⟨n,D.perm.mem_iff.mpr (List.mem_range.mpr hn),rfl⟩,(D.key n hn).1.mem_iff.mpr ?_⟩
     rw [g,← e]
     exact List.mem_map.mpr ⟨_,hjp,rfl⟩
 · obtain ⟨n,hn,rfl⟩:=List.mem_map.mp (show p∈q.map _ from hp)
   exact strange n (qlt n hn)
 · have hj':j < (q.map fun i=>kl.getD i []).length:=hj
   have hjq:j < q.length:=by simpa using hj'
   have hiq:i < q.length:=by omega
   show apart (trOf cs ((q.map fun i=>kl.getD i []).getD j [])) (trOf cs ((q.map fun i=>kl.getD i []).getD i []))=true
   have gq:∀ i,(h:i < q.length)→(q.map fun i=>kl.getD i []).getD i []=kl.getD q[i] []:=fun i h=>by
    rw [List.getD_eq_getElem?_getD,List.getElem?_map,List.getElem?_eq_getElem h]; rfl
   rw [gq j hjq,gq i hiq]
   have h1:=qlt q[j] (List.getElem_mem _)
   have h2:=qlt q[i] (List.getElem_mem _)
   have ne:q[j]≠q[i]:=fun z=>by have:=(List.getElem_inj qnd).mp z; omega
   generalize q[j]=n1 at *
   generalize q[i]=n2 at *
   have sb:=(D.base.sep n1 n2 h1 h2 ne).1
   have ok1:=pieceOk n1 h1
   have ok2:=pieceOk n2 h2
   obtain ⟨i1,j1,k1,x1,y1,z1,e1,f1,pm1,lt1,hi1,hj1,hk1,hd1,hs1⟩:=D.piece h1
   obtain ⟨i2,j2,k2,x2,y2,z2,e2,f2,pm2,lt2,hi2,hj2,hk2,hd2,hs2⟩:=D.piece h2
   rw [f1] at ok1 ⊢
   rw [f2] at ok2 ⊢
   rw [e1,e2] at sb
   unfold sepB at sb
   simp only [Bool.or_eq_true,decide_eq_true_eq] at sb
   have tr:∀ {i1 j1 k1 x1 y1 z1 i2 j2 k2 x2 y2 z2:Int},[x1,y1,z1].Perm [oAt o i1,oAt o j1,oAt o k1]→[x2,y2,z2].Perm [oAt o i2,oAt o j2,oAt o k2]→(0≤i1∧i1 < (pts.length:Int))→(0≤j1∧j1 < (pts.length:Int))→(0≤k1∧k1 < (pts.length:Int))→(0≤i2∧i2 < (pts.length:Int))→(0≤j2∧j2 < (pts.length:Int))→(0≤k2∧k2 < (pts.length:Int)) →
    sepS (cAt pts i1) (cAt pts j1) (cAt pts k1) (cAt pts i2) (cAt pts j2) (cAt pts k2)→sepS (cAt cs x1) (cAt cs y1) (cAt cs z1) (cAt cs x2) (cAt cs y2) (cAt cs z2):=by
    intro i1 j1 k1 x1 y1 z1 i2 j2 k2 x2 y2 z2 pm1 pm2 a1 a2 a3 b1 b2 b3 h
    refine perm3 pm1 (fun x y z=>sepS (cAt cs x) (cAt cs y) (cAt cs z) (cAt cs x2) (cAt cs y2) (cAt cs z2)) (fun a b c h=>sep_rot h) (fun a b c h=>sep_sw h) ?_
    refine perm3 pm2 (fun x y z=>sepS (cAt cs (oAt o i1)) (cAt cs (oAt o j1)) (cAt cs (oAt o k1)) (cAt cs x) (cAt cs y) (cAt cs z)) (fun a b c h=>sep_rot2 h) (fun a b c h=>sep_sw2 h) ?_
    rw [D.corner a1,D.corner a2,D.corner a3,D.corner b1,D.corner b2,D.corner b3]
    exact (A.sep D.det).mpr h
   unfold apart
   rw [Bool.or_eq_true]
   rcases sb with sb | sb
   · exact .inl (partsFrom_of ok1.d (tr pm1 pm2 hi1 hj1 hk1 hi2 hj2 hk2 sb))
   · exact .inr (partsFrom_of ok2.d (tr pm2 pm1 hi2 hj2 hk2 hi1 hj1 hk1 sb))
end
def shapes:List (List Pnt×List (List Int)) :=
 [([(0,0),(2,0),(0,3)],[[0,1,2]]),
  ([(0,0),(3,0),(3,2),(0,2)],[[0,1,2],[0,2,3]]),
  ([(0,0),(2,1),(2,-1),(-2,1),(-3,-1)],[[0,1,2],[0,3,4]]),
  ([(0,0),(2,0),(0,2),(4,0),(6,1),(4,3)],[[0,1,2],[3,4,5]]),
  ([(0,0),(6,0),(0,6),(2,1)],[[0,1,3],[0,2,3],[1,2,3]]),
  ([(0,0),(0,2),(2,0),(3,2),(5,0)],[[0,1,2],[1,2,3],[2,3,4]]),
  ([(0,0),(1,2),(2,0),(3,2),(4,0),(5,3)],[[0,1,2],[2,3,4],[3,4,5]]),
  ([(0,0),(2,0),(0,3),(-2,0),(0,-1)],[[0,1,2],[0,2,3],[0,3,4],[0,1,4]])]
theorem shapes_ok:shapes.all (fun s=>baseB s.1 s.2)=true:=by decide +kernel
theorem shape_base {s:List Pnt×List (List Int)} (h:s∈shapes):Base s.1 s.2:=base_of (List.all_eq_true.mp shapes_ok s h)
end L2
namespace L2
open PySem PySem.Spec PyProof.Rows
theorem PE.weak {X:Cx} {e:Expr} {t t':TE} (h:PE X e t) (w:∀ σ H Q,t' σ H Q→t σ H Q):PE X e t':=fun pins s σ H Q I q=>h pins s σ H Q I (w σ H Q q)
theorem PA.weak {X:Cx} {es:List Expr} {t t':TA} (h:PA X es t) (w:∀ σ H Q,t' σ H Q→t σ H Q):PA X es t':=fun pos pins s σ H Q I q=>h pos pins s σ H Q I (w σ H Q q)
def intOf:Expr→Option Int
 | .Constant (.int i) _ _=>some i
 | .UnaryOp .USub (.Constant (.int i) _ _) _=>some (-i)
 | _=>none
theorem lit_int {X:Cx} {e:Expr} {i:Int} (h:intOf e=some i):PE X e (fun _ H Q=>Q (.int i) H)∧∀ es env,starEach (e :: es) env=(false,eval e env) :: starEach es env:=by
 unfold intOf at h
 split at h
 · cases h; exact ⟨pe_int,fun _ _=>rfl⟩
 · cases h
   exact ⟨PE.weak (pe_un un_neg pe_int) fun σ H Q q=>⟨_,rfl,q⟩,fun _ _=>rfl⟩
 · cases h
def intsOf:List Expr→Option (List Int)
 | []=>some []
 | e :: es=>match intOf e,intsOf es with
   | some i,some is=>some (i :: is)
   | _,_=>none
theorem lit_ints {X:Cx}:∀ (es:List Expr) (is:List Int),intsOf es=some is→PA X es (fun _ H Q=>Q (is.map V.int) H)
 | [],is,h=>by
   cases h
   exact PA.weak pa_nil fun σ H Q q=>q
 | e :: es,is,h=>by
   unfold intsOf at h
   split at h
   · rename_i i js h1 h2
     cases h
     obtain ⟨p1,p2⟩:=lit_int (X:=X) h1
     exact PA.weak (pa_cons p1 (lit_ints es js h2) (p2 _ _)) fun σ H Q q=>q
   · cases h
def rowOf:Expr→Option (List Int)
 | .Tuple es _ _=>intsOf es
 | _=>none
theorem lit_row {X:Cx} {e:Expr} {is:List Int} (h:rowOf e=some is) (hz:is.length≤1000):PE X e (fun _ H Q=>∀ H' v,Same H H'→IsI H' v is→Q v H')∧∀ es env,starEach (e :: es) env=(false,eval e env) :: starEach es env:=by
 unfold rowOf at h
 split at h
 · exact ⟨PE.weak (pe_tup (lit_ints _ _ h)) fun σ H Q q=>⟨by rw [List.length_map,sizeLine_eq]; omega,fun p np=>q _ _ (Same.new np) ⟨p,rfl,upd_same⟩⟩,fun _ _=>rfl⟩
 · cases h
def rowsOf:List Expr→Option (List (List Int))
 | []=>some []
 | e :: es=>match rowOf e,rowsOf es with
   | some i,some is=>if i.length≤1000 then some (i :: is) else none
   | _,_=>none
theorem lit_rows {X:Cx}:∀ (es:List Expr) (is:List (List Int)),rowsOf es=some is→PA X es (fun _ H Q=>∀ H' vs,Same H H'→Al (IsI H') vs is→Q vs H')
 | [],is,h=>by
   cases h
   exact PA.weak pa_nil fun σ H Q q=>q _ _ (Same.refl _) .nil
 | e :: es,is,h=>by
   unfold rowsOf at h
   split at h
   · rename_i i js h1 h2
     split at h
     · rename_i hz
       cases h
       obtain ⟨p1,p2⟩:=lit_row (X:=X) h1 hz
       exact PA.weak (pa_cons p1 (lit_rows es js h2) (p2 _ _)) fun σ H Q q H1 v s1 i1 H2 vs s2 i2=>q _ _ (s1.trans s2) (.cons (i1.tk s2.tk) i2)
     · cases h
   · cases h
def tabOf:Expr→Option (List (List Int))
 | .Tuple es _ _=>match rowsOf es with
   | some is=>if is.length≤1000 then some is else none
   | none=>none
 | _=>none
theorem lit_tab {X:Cx} {e:Expr} {is:List (List Int)} (h:tabOf e=some is):PE X e (fun _ H Q=>∀ H' v,Same H H'→IsPs H' v is→Q v H')∧∀ es env,starEach (e :: es) env=(false,eval e env) :: starEach es env:=by
 unfold tabOf at h
 split at h
 · split at h
   · rename_i js h1
     split at h
     · rename_i hz
       cases h
       refine ⟨PE.weak (pe_tup (lit_rows _ _ h1)) fun σ H Q q H1 vs s1 a1=>⟨by rw [a1.1,sizeLine_eq]; omega,fun p np=>?_⟩,fun _ _=>rfl⟩
       have s2:Same H1 (upd H1 p (.tup vs)):=Same.new np
       exact q _ _ (s1.trans s2) ⟨p,vs,rfl,upd_same,a1.imp fun v x r=>r.tk s2.tk⟩
     · cases h
   · cases h
 · cases h
def IsSh (H:Hp) (v:V) (s:List Pnt×List (List Int)):Prop:=∃ a c p,v=.ref a∧H a=some (.tup [c,p])∧IsCs H c s.1∧IsPs H p s.2
theorem IsSh.tk {H H':Hp} {v:V} {s:List Pnt×List (List Int)} (t:Tk H H') (h:IsSh H v s):IsSh H' v s:=let ⟨a,c,p,e,h1,h2,h3⟩:=h; ⟨a,c,p,e,t _ _ h1,h2.tk t,h3.tk t⟩
def shOf:Expr→Option (List (List Int)×List (List Int))
 | .Tuple [c,p] _ _=>match tabOf c,tabOf p with
   | some a,some b=>some (a,b)
   | _,_=>none
 | _=>none
theorem cs_of_ps {H:Hp} {v:V} {cs:List Pnt} (h:IsPs H v (cs.map fun p=>[p.1,p.2])):IsCs H v cs:=by
 obtain ⟨a,vs,e,q,al⟩:=h
 refine ⟨a,vs,e,q,by rw [al.1,List.length_map],fun i w p e1 e2=>?_⟩
 exact al.2 i w _ e1 (by rw [List.getElem?_map,e2]; rfl)
theorem pe_shape {X:Cx} {e:Expr} {s:List Pnt×List (List Int)} (h:shOf e=some (s.1.map (fun p=>[p.1,p.2]),s.2)):PE X e (fun _ H Q=>∀ H' v,Same H H'→IsSh H' v s→Q v H'):=by
 unfold shOf at h
 split at h
 · split at h
   · rename_i h1 h2
     cases h
     obtain ⟨p1,s1⟩:=lit_tab (X:=X) h1
     obtain ⟨p2,s2⟩:=lit_tab (X:=X) h2
     refine PE.weak (pe_tup (pa_cons p1 (pa_cons p2 pa_nil (s2 _ _)) (s1 _ _))) fun σ H Q q H1 v s1 i1 H2 w s2 i2=>⟨by show 2≤sizeLine; decide,fun p np=>?_⟩
     have s3:Same H2 (upd H2 p (.tup [v,w])):=Same.new np
     exact q _ _ (s1.trans (s2.trans s3)) ⟨p,v,w,rfl,upd_same,cs_of_ps (i1.tk (s2.trans s3).tk),i2.tk s3.tk⟩
   · cases h
 · cases h
theorem if_seq {c:TT} {ta tb rest:TS} {D:Ends} {σ:St} {H:Hp} (R:St→Hp→Prop) (h:c σ H fun k H1=>if k=true then ta { D with nx:=R } σ H1 else tb { D with nx:=R } σ H1)
 (mc:∀ Q Q':Bool→Hp→Prop,(∀ b H1,Q b H1→Q' b H1)→c σ H Q→c σ H Q') (ma:(∀ σ H,R σ H→rest D σ H)→∀ H1,ta { D with nx:=R } σ H1→ta { D with nx:=rest D } σ H1) (mb:(∀ σ H,R σ H→rest D σ H)→∀ H1,tb { D with nx:=R } σ H1→tb { D with nx:=rest D } σ H1)
 (key:∀ σ H,R σ H→rest D σ H):tSeq (tIfS c ta tb) rest D σ H:=mc _ _ (fun b H1 q=>by
 cases b with
 | true=>exact ma key H1 q
 | false=>exact mb key H1 q) h
end L2
namespace L2
open PySem PySem.Spec PyProof.Rows
theorem lc_R {n:Nat} {D:Addr} {te:TE} {u0:Option V} {rest:St} {H:Hp} {Q:VK} {α:Type} (R:Hp→V→α→Prop) (hR:∀ H1 H2 v x,Tk H1 H2→R H1 v x→R H2 v x) (ys:List α) (hn:ys.length=n) (hz:n≤1000) (hD:H D=none)
 (hs:∀ (i:Nat) (H2:Hp) (C:V→Hp→Prop),i < n→Same H H2→(∀ y H5 z,Same H2 H5→ys[i]? = some z→R H5 y z→C y H5)→te (some (.int (0+i)) :: rest) H2 C)
 (hd:∀ H2 us,Same H H2→H2 D=some (.lst us)→Al (R H2) us ys→Q (.ref D) H2):LcGo (Itr 0 n) (gName 0) tYes te (u0 :: rest) H D Q:=by
 refine lc_map R hR ys hn hz (fun σ=>∃ u,σ=u :: rest) ⟨_,rfl⟩ hD (fun i H2 s hi=>hi) (fun H2 s=>Nat.le_refl _) (fun i x σ2 H2 H3 C hi s y o c=>?_) hd
 obtain ⟨u,rfl⟩:=o
 obtain ⟨rfl,rfl⟩:=y
 exact hs i H3 (C _) hi s fun y H5 z s5 ez rz=>c _ y H5 z ⟨_,rfl⟩ s5 ez rz
end L2
namespace L2
open PySem PySem.Spec PyProof.Rows
section
variable {κ:Type} [DecidableEq κ]
def valV (kvs:List (κ×V)) (k:κ):Option V:=(kvs.find? fun kv=>decide (kv.1=k)).map (·.2)
def putK (kvs:List (κ×V)) (k:κ) (v:V):List (κ×V) :=
 if (kvs.any fun kv=>decide (kv.1=k))=true then kvs.map (fun kv=>if kv.1=k then (kv.1,v) else kv) else kvs++[(k,v)]
theorem valV_pos {p:κ×V} {r:List (κ×V)} {k:κ} (e:p.1=k):valV (p :: r) k=some p.2:=by simp [valV,List.find?_cons,e]
theorem valV_neg {p:κ×V} {r:List (κ×V)} {k:κ} (e:¬ p.1=k):valV (p :: r) k=valV r k:=by simp [valV,List.find?_cons,e]
theorem length_putK (kvs:List (κ×V)) (k:κ) (v:V):(putK kvs k v).length≤kvs.length+1:=by
 unfold putK
 split
 · rw [List.length_map]; omega
 · rw [List.length_append,List.length_cons,List.length_nil]; omega
theorem KV.val {kvs:List (κ×V)} {vs:List (κ×Value)} (r:KV kvs vs) (k:κ):RelO (valV kvs k) (valueAt vs k):=by
 unfold KV at r
 induction r with
 | nil=>exact True.intro
 | @cons p q ps qs h t ih =>
   obtain ⟨h1,h2⟩:=h
   by_cases e:p.1=k
   · have e':q.1=k:=h1.symm.trans e
     have b:valueAt (q :: qs) k=some q.2:=by simp [valueAt,List.find?_cons,e']
     rw [valV_pos e,b]; exact h2
   · have e':¬ q.1=k:=fun z=>e (h1.trans z)
     have b:valueAt (q :: qs) k=valueAt qs k:=by simp [valueAt,List.find?_cons,e']
     rw [valV_neg e,b]; exact ih
theorem KV.any {kvs:List (κ×V)} {vs:List (κ×Value)} (r:KV kvs vs) (k:κ):(kvs.any fun kv=>decide (kv.1=k))=vs.any fun kv=>decide (kv.1=k):=by
 unfold KV at r
 induction r with
 | nil=>rfl
 | cons h t ih=>rw [List.any_cons,List.any_cons,ih,h.1]
theorem KV.repl {kvs:List (κ×V)} {vs:List (κ×Value)} (r:KV kvs vs) (k:κ) {y:V} {u:Value} (ry:RelV y u) :
 KV (kvs.map fun kv=>if kv.1=k then (kv.1,y) else kv) (vs.map fun kv=>if kv.1=k then (kv.1,u) else kv):=by
 unfold KV at r ⊢
 induction r with
 | nil=>exact .nil
 | @cons p q ps qs h t ih =>
   rw [List.map_cons,List.map_cons]
   refine .cons ?_ ih
   obtain ⟨h1,h2⟩:=h
   by_cases e:p.1=k
   · rw [if_pos e,if_pos (h1.symm.trans e)]; exact ⟨h1,ry⟩
   · rw [if_neg e,if_neg (fun z=>e (h1.trans z))]; exact ⟨h1,h2⟩
theorem KV.put {kvs:List (κ×V)} {vs:List (κ×Value)} (r:KV kvs vs) (k:κ) {y:V} {u:Value} (ry:RelV y u):KV (putK kvs k y) (stored vs k u):=by
 unfold putK stored
 rw [r.any k]
 by_cases e:(vs.any fun kv=>decide (kv.1=k))=true
 · rw [if_pos e,if_pos e]; exact r.repl k ry
 · rw [if_neg e,if_neg e]; exact Paired.snoc r ⟨rfl,ry⟩
end
theorem kV_is {P:Program} {w:World} {k:Key} {u:Value} (r:RelV (kV k) u):(mixKind P w).is k u=true:=by
 cases k with
 | inl i=>obtain ⟨t,e⟩:=(show ∃ t,u=Value.int i t from r); subst e; exact mixKind_int P w i t
 | inr x=>obtain ⟨t,e⟩:=(show ∃ t,u=Value.str x t from r); subst e; exact mixKind_str P w x t
theorem items_are {P:Program} {w:World}:∀ {ks:List Key} {us:List Value},Vals (ks.map kV) us→ItemsAre (mixKind P w) ks us
 | [],_,r=>by rw [List.map_nil] at r; cases r; exact .nil
 | k :: ks,_,r=>by
   rw [List.map_cons] at r
   cases r with
   | cons h t=>exact .cons (kV_is h) (items_are t)
abbrev KT (H:Hp):List (List Key×V)→List (List Key×Addr×Value)→Prop:=Paired fun p q=>p.1=q.1∧H q.2.1=some (.tup (p.1.map kV))∧RelV p.2 q.2.2
theorem KT.val {H:Hp} {kvs:List (List Key×V)} {xs:List (List Key×Addr×Value)} (r:KT H kvs xs) (k:List Key):RelO (valV kvs k) ((atKey xs k).map (·.2)):=by
 induction r with
 | nil=>exact True.intro
 | @cons p q ps qs h t ih =>
   obtain ⟨h1,_,h2⟩:=h
   by_cases e:p.1=k
   · have e':q.1=k:=h1.symm.trans e
     have b:atKey (q :: qs) k=some q.2:=by simp [atKey,List.find?_cons,e']
     rw [valV_pos e,b]; exact h2
   · have e':¬ q.1=k:=fun z=>e (h1.trans z)
     have b:atKey (q :: qs) k=atKey qs k:=by simp [atKey,List.find?_cons,e']
     rw [valV_neg e,b]; exact ih
section
variable {P:Program} {w:World} {H:Hp} {h:Heap} {a:Addr}
theorem rd_of {u:HO} (ok:HOk P w H h) (e:Rd H a u):ObjOk P w H h a u:=e.ok ok
theorem dk_rd {kvs:List (Key×V)} (ok:HOk P w H h) (e:Rd H a (.dK kvs)):kvs.length≤sizeLine∧(a == sysModules)=false∧∃ vs,KV kvs vs∧h.DictOf (mixKind P w) a vs :=
 show ObjOk P w H h a (.dK kvs) from rd_of ok e
theorem dk_of {kvs:List (Key×V)} (ok:HOk P w H h) (e:H a=some (.dK kvs)):kvs.length≤sizeLine∧(a == sysModules)=false∧∃ vs,KV kvs vs∧h.DictOf (mixKind P w) a vs:=dk_rd ok (.inl e)
theorem key_of {ks:List Key} (ok:HOk P w H h) (e:H a=some (.tup (ks.map kV))):(tupleKind (mixKind P w)).is h ks a:=by
 obtain ⟨_,its,r,o,h1,h2,n,h3⟩:=(show ObjOk P w H h a (.tup (ks.map kV)) from ok a _ e)
 exact ⟨o,its.toArray,n,h1,h2,h3,by simpa using items_are r⟩
theorem dt_rd {kvs:List (List Key×V)} (ok:HOk P w H h) (e:Rd H a (.dT kvs)):kvs.length≤sizeLine∧(a == sysModules)=false ∧
 ∃ xs,KT H kvs xs∧h.DictOfH (tupleKind (mixKind P w)) a xs:=by
 obtain ⟨z,y,xs,r,o,es,ep,h1,h2,h3,h4,h5⟩:=(show ObjOk P w H h a (.dT kvs) from rd_of ok e)
 refine ⟨z,y,xs,r,o,es,ep,h1,h2,h3,h4,fun x hx=>?_,h5⟩
 have all:∀ {l:List (List Key×V)} {m:List (List Key×Addr×Value)},KT H l m→∀ x∈m,(tupleKind (mixKind P w)).is h x.1 x.2.1:=by
  intro l m q
  induction q with
  | nil=>intro x hx; exact nomatch hx
  | @cons p q ps qs hq t ih =>
    intro x hx
    rcases List.mem_cons.mp hx with e | hx
    · subst e
      exact key_of ok (by rw [← hq.1]; exact hq.2.1)
    · exact ih x hx
 exact all r x hx
end
def DGet (H:Hp) (a:Addr) (y:V) (r:Option V):Prop :=
 (∃ kvs k,Rd H a (.dK kvs)∧y=kV k∧r=valV kvs k)∨∃ kvs k b,Rd H a (.dT kvs)∧y=.ref b∧H b=some (.tup (k.map kV))∧r=valV kvs k
section
variable {X:Cx} {pins:List (Addr×Obj)} {σ:St} {H:Hp} {s:Shared} {a:Addr} {y v:V} {u r:Value} {o:Option V} {A:Around} {E:Value→Shared→Prop}
theorem Inv.big (I:Inv X pins σ H s):sysModules < s.heap.objs.size:=by
 have h:mainGlobals < s.heap.objs.size:=(I.mod.glob.keeps I.bk).lt
 exact Nat.lt_trans (by decide) h
theorem d_getItem {Q:Value→Shared→Prop} (hu:A.units+1 < cLine) (I:Inv X pins σ H s) (g:DGet H a y (some v)) (ry:RelV y u) (h:∀ w' s',Inv X pins σ H s'→RelV v w'→Q w' s') :
 wpAny (model X.prog X.w) A (getItem (.ref a) u) Q E s:=by
 rcases g with ⟨kvs,k,e,ey,l⟩ | ⟨kvs,k,b,e,ey,eb,l⟩
 · subst ey
   obtain ⟨z,hd,vs,rel,dd⟩:=dk_rd I.hok e
   obtain ⟨w',hw,rw'⟩:=RelO.some_of (v:=v) (o:=valueAt vs k) (by rw [l]; exact rel.val k)
   exact wpAny_getItem_of (kV_is ry) dd.mapOf hw (h w' _ (I.tok _) rw')
 · subst ey
   cases (show u=Value.ref b from ry)
   obtain ⟨z,hd,xs,rel,dd⟩:=dt_rd I.hok e
   obtain ⟨w',hw,rw'⟩:=RelO.some_of (v:=v) (o:=(atKey xs k).map (·.2)) (by rw [l]; exact rel.val k)
   obtain ⟨p,hp,hp2⟩:=Option.map_eq_some_iff.mp hw
   refine wpAny_getItem_heap (tupleKind_room_in1 hu) (key_of I.hok eb) dd hp ?_
   rw [hp2]
   exact h w' _ (I.tok _) rw'
theorem d_write {h':Heap} {t':Nat} {ob:HO} (I:Inv X pins σ H s) (mu:Mut (H a)) (hs:Heap.SameBut a s.heap h') (he:∃ q,h'.get? a=some q) (new:ObjOk X.prog X.w (upd H a ob) h' a ob) :
 Inv X pins σ (upd H a ob) { s with heap:=h',toks:=t' } :=
 I.write (x:=a) (e:=a) mu (.inl rfl) (fun b q hb z=>(hs.2 b hb).trans z) he new
theorem dk_new {P:Program} {w:World} {H':Hp} {h':Heap} {kvs:List (Key×V)} {vs:List (Key×Value)} (z:kvs.length≤sizeLine) (hd:(a == sysModules)=false) (rel:KV kvs vs) (dd:h'.DictOf (mixKind P w) a vs) :
 ObjOk P w H' h' a (.dK kvs):=⟨z,hd,vs,rel,dd⟩
end
section
variable {X:Cx} {pins:List (Addr×Obj)} {σ:St} {H:Hp} {s:Shared} {a:Addr} {kvs:List (Key×V)} {k:Key} {u:Value} {A:Around} {E:Value→Shared→Prop}
end
def NoSl (i:Expr):Prop:=∀ ov iv,subscripted i false ov iv=operate [ov,iv] (getItem ov iv)
theorem subD_of {prog:Program} {w:World} {A:Around} {E:Value→Shared→Prop} {s:Shared} {env:Env} {value slice:Expr} {pos:Pos} {T id:String} {Q:Value→Shared→Prop}
 (hl:typeLookup (.type T) "__getitem__" = pure (some (.builtin id))) (hs:NoSl slice)
 (h:wpAny (model prog w) A (eval value env) (fun o s₁=>wpAny (model prog w) A (eval slice env) (fun i s₂=>s₂.TypeIs o T∧wpAny (model prog w) A (getItem o i) Q E s₂) E s₁) E s) :
 wpAny (model prog w) A (eval (.Subscript value slice pos) env) Q E s:=by
 refine Subscript_ (wpAny_mono h (fun o s₁ h₁=>wpAny_mono h₁ (fun i s₂ h₂=>?_) fun _ _ x=>x) fun _ _ x=>x)
 obtain ⟨hT,h₂⟩:=h₂
 unfold subscriptTail
 refine wpAny_bind ?_
 rw [getitemInPython_of_ne hT.not_modules]
 refine wpAny_bind (wpAny_specialOf hT hl ?_)
 have fin:wpAny (model prog w) A (subscripted slice false o i) (fun r s₃=>wpAny (model prog w) A (letTemporaryGo value o r >>= fun _=>pure r) Q E s₃) E s₂:=by
  rw [hs o i]
  exact wpAny_operating (wpAny_mono h₂ (fun r s₃ h₃=>wpAny_bind (wpAny_letTemporaryGo (wpAny_pure h₃))) fun _ _ x=>x)
 first
  | exact wpAny_pure (wpAny_bind fin)
  | exact wpAny_bind (wpAny_pure (wpAny_bind fin))
  | exact wpAny_bind fin
theorem dict_typeIs {X:Cx} {pins:List (Addr×Obj)} {σ:St} {H:Hp} {s:Shared} {a:Addr} {y:V} {o:Option V} (I:Inv X pins σ H s) (g:DGet H a y o):s.TypeIs (.ref a) "dict" := by
 rcases g with ⟨kvs,k,e,_,_⟩ | ⟨kvs,k,b,e,_,_,_⟩
 · obtain ⟨_,_,vs,_,dd⟩:=dk_rd I.hok e
   exact dd.typeIs
 · obtain ⟨_,_,xs,_,dd⟩:=dt_rd I.hok e
   exact dd.typeIs
def tDGet (td ty:TE):TE:=fun σ H Q=>td σ H fun x H1=>ty σ H1 fun y H2=>∃ a v,x=.ref a∧DGet H2 a y (some v)∧Q v H2
section
variable {X:Cx} {o i e value:Expr} {pos pos' tpos:Pos} {td ty tv:TE}
theorem pe_dget (hu:X.A.units+1 < cLine) (ho:PE X o td) (hi:PE X i ty) (hs:NoSl i):PE X (.Subscript o i pos) (tDGet td ty):=by
 intro pins s σ H Q I h
 refine subD_of PySem.F.slot_dict_getitem.lookup hs (thn (ho pins s σ H _ I h) fun u s1 ⟨x,H1,I1,rx,q1⟩=>thn (hi pins s1 σ H1 _ I1 q1) fun iv s2 ⟨y,H2,I2,ry,a,v,ex,g,q2⟩=>?_)
 subst ex
 obtain rfl:u=Value.ref a:=rx
 exact ⟨dict_typeIs I2 g,d_getItem hu I2 g ry fun w' s3 I3 rw'=>⟨v,H2,I3,rw',q2⟩⟩
end
theorem dk_empty {P:Program} {w:World} {H:Hp} (h:Heap) (hb:sysModules < h.objs.size):ObjOk P w H (h.push { cls:=.type "dict",data:=.dict #[] }) h.objs.size (.dK []) :=
 ⟨Nat.zero_le _,beq_eq_false_iff_ne.mpr (Ne.symm (Nat.ne_of_lt hb)),[],.nil,Heap.DictOf.new h⟩
section
variable {X:Cx} {pos:Pos}
end
def tPairs:List (TE×TE)→St→Hp→(List (V×V)→Hp→Prop)→Prop
 | [],_,H,Q=>Q [] H
 | (tk,tv) :: r,σ,H,Q=>tk σ H fun x H1=>tv σ H1 fun y H2=>tPairs r σ H2 fun ps H3=>Q ((x,y) :: ps) H3
abbrev VV:List (V×V)→List (Value×Value)→Prop:=Paired fun p q=>RelV p.1 q.1∧RelV p.2 q.2
def PPs (X:Cx) (pos:Pos) (keys:List (Option Expr)) (values:List Expr) (trs:List (TE×TE)):Prop :=
 ∀ (pins:List (Addr×Obj)) (s:Shared) (σ:St) (H:Hp) (Q:List (V×V)→Hp→Prop),Inv X pins σ H s→tPairs trs σ H Q →
   wpAny (model X.prog X.w) X.A (evalPairs (pairTrees keys values X.env pos)) (fun vs s'=>∃ ps H',Inv X pins σ H' s'∧VV ps vs∧Q ps H') X.xe s
theorem pps_nil {X:Cx} {pos:Pos}:PPs X pos [] [] []:=fun pins s σ H Q I h=>pairTrees_nil_walk ⟨[],H,I,.nil,h⟩
theorem pps_cons {X:Cx} {pos:Pos} {k v:Expr} {ks:List (Option Expr)} {vs:List Expr} {tk tv:TE} {trs:List (TE×TE)} (hk:PE X k tk) (hv:PE X v tv) (hr:PPs X pos ks vs trs) :
 PPs X pos (some k :: ks) (v :: vs) ((tk,tv) :: trs):=fun pins s σ H Q I h =>
 pairTrees_cons_walk (thn (hk pins s σ H _ I h) fun u s1 ⟨x,H1,I1,rx,q1⟩=>thn (hv pins s1 σ H1 _ I1 q1) fun w2 s2 ⟨y,H2,I2,ry,q2⟩ =>
  thn (hr pins s2 σ H2 _ I2 q2) fun ws s3 ⟨ps,H3,I3,rel,q3⟩=>⟨(x,y) :: ps,H3,I3,.cons ⟨rx,ry⟩ rel,q3⟩)
def mergeK (kvs more:List (Key×V)):List (Key×V):=more.foldl (fun acc kv=>putK acc kv.1 kv.2) kvs
theorem KV.merge:∀ {more:List (Key×V)} {rs:List (Key×Value)} {kvs:List (Key×V)} {vs:List (Key×Value)},KV more rs→KV kvs vs→KV (mergeK kvs more) (merged vs rs):=by
 intro more rs kvs vs r
 unfold KV at r
 induction r generalizing kvs vs with
 | nil=>intro q; exact q
 | @cons p q ps qs h t ih =>
   intro r0
   have e:KV (putK kvs p.1 p.2) (stored vs q.1 q.2):=by
    have:=r0.put p.1 h.2
    rw [← h.1]; exact this
   exact ih e
theorem length_mergeK:∀ (more kvs:List (Key×V)),(mergeK kvs more).length≤kvs.length+more.length
 | [],kvs=>by show kvs.length≤kvs.length+0; omega
 | p :: r,kvs=>by
   have h1:=length_mergeK r (putK kvs p.1 p.2)
   have h2:=length_putK kvs p.1 p.2
   show (mergeK (putK kvs p.1 p.2) r).length≤_
   rw [List.length_cons]; omega
theorem carries_of {P:Program} {w:World}:∀ {kvs:List (Key×V)} {ws:List (Value×Value)},VV (kvs.map fun kv=>(kV kv.1,kv.2)) ws→∃ rs,Carries (mixKind P w) ws rs∧KV kvs rs
 | [],_,r=>by rw [List.map_nil] at r; cases r; exact ⟨[],True.intro,.nil⟩
 | p :: kvs,_,r=>by
   rw [List.map_cons] at r
   cases r with
   | @cons a b as bs h t =>
     obtain ⟨rs,c,q⟩:=carries_of (P:=P) (w:=w) t
     obtain ⟨b1,b2⟩:=b
     exact ⟨(p.1,b2) :: rs,⟨kV_is h.1,rfl,c⟩,.cons ⟨rfl,h.2⟩ q⟩
def tDisp (trs:List (TE×TE)):TE:=fun σ H Q=>∀ p,H p=none→tPairs trs σ (upd H p (.dK [])) fun ps H2=>H2 p=some (.dK [])∧∃ kvs:List (Key×V),ps=kvs.map (fun kv=>(kV kv.1,kv.2))∧kvs.length≤15∧Q (.ref p) (upd H2 p (.dK (mergeK [] kvs)))
theorem pe_disp {X:Cx} {pos:Pos} {keys:List (Option Expr)} {values:List Expr} {trs:List (TE×TE)} (h:PPs X pos keys values trs) (hall:keys.all (·.isSome)=true) (hl:keys.length=values.length) (h0:keys≠[])
 (h15:keys.length≤15):PE X (.Dict keys values pos) (tDisp trs):=by
 intro pins s σ H Q I q
 have hn:=I.hok.fresh (Nat.le_refl s.heap.objs.size)
 have I1:=I.laid (a:=s.heap.objs.size) (o:=.dK []) (h':=s.heap.push { cls:=.type "dict",data:=.dict #[] }) (t':=s.toks) (fun _ _ q=>Heap.get?_push_of_some _ q) (Nat.le_refl _) (dk_empty s.heap I.big)
 refine wpAny_Dict_walk (knd:=mixKind X.prog X.w) hall hl h0 h15 (thn (h pins _ σ _ _ I1 (q _ hn)) fun ws s2 ⟨ps,H2,I2,rel,e,kvs,ep,lk,q2⟩=>?_)
 subst ep
 obtain ⟨rs,c,rk⟩:=carries_of (P:=X.prog) (w:=X.w) rel
 obtain ⟨z,hd,vs0,r0,dd⟩:=dk_of I2.hok e
 cases r0
 refine ⟨rs,c,dd,fun h' dd' hs=>⟨.ref s.heap.objs.size,_,?_,rfl,q2⟩⟩
 have hz:(mergeK [] kvs).length≤sizeLine:=by
  have h1:=length_mergeK kvs []
  rw [List.length_nil] at h1
  rw [sizeLine_eq]; omega
 have he:∃ q,h'.get? s.heap.objs.size=some q:=let ⟨q,_,_,hq,_⟩:=dd'; ⟨q,hq⟩
 exact d_write I2 (by rw [e]; exact True.intro) hs he (dk_new hz hd (rk.merge .nil) dd')
section
variable {X:Cx} {pins:List (Addr×Obj)} {σ:St} {H:Hp} {s:Shared} {a:Addr} {y d:V} {u r:Value} {o:Option V} {A:Around} {E:Value→Shared→Prop}
end
section
variable {X:Cx} {o e f:Expr} {apos cpos:Pos} {td ty tx:TE}
end
section
variable {X:Cx} {pins:List (Addr×Obj)} {σ:St} {H:Hp} {s:Shared} {a:Addr} {kvs:List (Key×V)} {A:Around} {E:Value→Shared→Prop}
end
section
variable {X:Cx} {pins:List (Addr×Obj)} {σ:St} {H:Hp} {s:Shared} {a:Addr} {y:V} {u:Value} {A:Around} {E:Value→Shared→Prop}
end
end L2
namespace L2
open PySem PySem.Spec PyProof.Rows PySem.W
def kok {α:Type} (n:Nat) (f:Nat→Nat→Bool) (P:α→Prop):KasT α→Prop
 | .ret a=>P a
 | .ask i j k=>i < n∧j < n∧kok n f P (k (f i j))
theorem kok_bind {α β:Type} {n:Nat} {f:Nat→Nat→Bool} {P:β→Prop} {g:α→KasT β}:∀ (t:KasT α),kok n f (fun a=>kok n f P (g a)) t→kok n f P (t.bind g)
 | .ret a,h=>h
 | .ask i j k,h=>⟨h.1,h.2.1,kok_bind (k (f i j)) h.2.2⟩
theorem kok_out {α:Type} {n:Nat} {f:Nat→Nat→Bool} {P:α→Prop}:∀ (t:KasT α),kok n f P t→kin n f t=true∧P (krun f t)
 | .ret a,h=>⟨rfl,h⟩
 | .ask i j k,h=>by
   obtain ⟨a,b⟩:=kok_out (k (f i j)) h.2.2
   refine ⟨?_,b⟩
   unfold kin
   rw [decide_eq_true h.1,decide_eq_true h.2.1,a]; rfl
section
variable {n:Nat} {f:Nat→Nat→Bool}
def Pm (n:Nat) (p:Array Nat):Prop:=p.toList.Perm (List.range n)
theorem Pm.size {p:Array Nat} (h:Pm n p):p.size=n:=by have:=h.length_eq; simpa using this
theorem Pm.lt {p:Array Nat} (h:Pm n p) {i:Nat} (hi:i < n):p.getD i 0 < n:=by
 have hs:=h.size
 have:p.getD i 0∈p.toList:=by
  rw [Array.getD_eq_getD_getElem?,Array.getElem?_eq_getElem (show i < p.size by omega)]; simp
 exact List.mem_range.mp (h.mem_iff.mp this)
theorem Pm.ne {p:Array Nat} (h:Pm n p) {i j:Nat} (hi:i < n) (hj:j < n) (ne:i≠j):p.getD i 0≠p.getD j 0:=fun z=>by
 have hs:=h.size
 have nd:p.toList.Nodup:=h.nodup_iff.mpr List.nodup_range
 rw [Array.getD_eq_getD_getElem?,Array.getElem?_eq_getElem (show i < p.size by omega),Array.getD_eq_getD_getElem?,Array.getElem?_eq_getElem (show j < p.size by omega)] at z
 exact ne ((List.getElem_inj (xs:=p.toList) (h₀:=by simpa using (show i < p.size by omega)) (h₁:=by simpa using (show j < p.size by omega)) nd).mp (by simpa using z))
theorem Pm.perm {p q:Array Nat} (h:Pm n p) (e:q.Perm p):Pm n q:=(Array.perm_iff_toList_perm.mp e).trans h
abbrev at' (p:Array Nat) (i:Nat):Nat:=p.getD i 0
theorem at_congr {p q:Array Nat} {i j:Nat} (h:p[i]? = q[j]?):at' p i=at' q j:=by simp only [at',Array.getD_eq_getD_getElem?,h]
def Asc (f:Nat→Nat→Bool) (p:Array Nat) (k:Nat):Prop:=∀ i j,i < j→j < k→f (at' p i) (at' p j)=true
def Dsc (f:Nat→Nat→Bool) (p:Array Nat) (k:Nat):Prop:=∀ i j,i < j→j < k→f (at' p j) (at' p i)=true
theorem Ord.flip (o:Ord n f) {p:Array Nat} (h:Pm n p) {i j:Nat} (hi:i < n) (hj:j < n) (ne:i≠j) (z:f (at' p i) (at' p j)=false):f (at' p j) (at' p i)=true:=by
 have:=o.ant _ _ (h.lt hi) (h.lt hj) (h.ne hi hj ne)
 rw [this,show f (p.getD i 0) (p.getD j 0)=false from z]; rfl
theorem asc_more (o:Ord n f) {p:Array Nat} (h:Pm n p) {k:Nat} (k1:1≤k) (hk:k < n) (a:Asc f p k) (z:f (at' p (k - 1)) (at' p k)=true):Asc f p (k+1):=fun i j hij hj=>by
 by_cases e:j=k
 · subst e
   by_cases e2:i=j - 1
   · rw [e2]; exact z
   · exact o.tr _ _ _ (h.lt (by omega)) (h.lt (by omega)) (h.lt hk) (a i (j - 1) (by omega) (by omega)) z
 · exact a i j hij (by omega)
theorem dsc_more (o:Ord n f) {p:Array Nat} (h:Pm n p) {k:Nat} (k1:1≤k) (hk:k < n) (a:Dsc f p k) (z:f (at' p k) (at' p (k - 1))=true):Dsc f p (k+1):=fun i j hij hj=>by
 by_cases e:j=k
 · subst e
   by_cases e2:i=j - 1
   · rw [e2]; exact z
   · exact o.tr _ _ _ (h.lt hk) (h.lt (by omega)) (h.lt (by omega)) z (a i (j - 1) (by omega) (by omega))
 · exact a i j hij (by omega)
theorem kok_asc (o:Ord n f) {p:Array Nat} (h:Pm n p) {P:Nat→Prop}:∀ (u k:Nat),1≤k→k+u≤n→Asc f p k→(∀ m,k≤m→m≤k+u→Asc f p m→(m < k+u→f (at' p m) (at' p (m - 1))=true)→P m)→kok n f P (kas_asc p u k)
 | 0,k,k1,hu,a,q=>q k (Nat.le_refl _) (Nat.le_refl _) a (by omega)
 | u+1,k,k1,hu,a,q=>by
   refine ⟨h.lt (by omega),h.lt (by omega),?_⟩
   cases c:f (p.getD k 0) (p.getD (k - 1) 0) with
   | true=>dsimp only; rw [if_pos rfl]; exact q k (Nat.le_refl _) (by omega) a fun _=>c
   | false =>
     dsimp only
     rw [if_neg (by simp)]
     exact kok_asc o h u (k+1) (by omega) (by omega) (asc_more o h k1 (by omega) a (o.flip h (by omega) (by omega) (by omega) c)) fun m m1 m2 am z=>q m (by omega) (by omega) am fun hm=>z (by omega)
theorem kok_desc (o:Ord n f) {p:Array Nat} (h:Pm n p) {P:Array Nat×Nat×Nat→Prop}:∀ (u k:Nat),1≤k→k+u≤n→Dsc f p k→(∀ m,k≤m→m≤k+u→Dsc f p m→P (p,m,0))→kok n f P (kas_desc u p k 0)
 | 0,k,k1,hu,a,q=>q k (Nat.le_refl _) (Nat.le_refl _) a
 | u+1,k,k1,hu,a,q=>by
   refine ⟨h.lt (by omega),h.lt (by omega),?_⟩
   cases c:f (p.getD k 0) (p.getD (k - 1) 0) with
   | true =>
     dsimp only
     rw [if_pos rfl,if_neg (by omega)]
     exact kok_desc o h u (k+1) (by omega) (by omega) (dsc_more o h k1 (by omega) a c) fun m m1 m2 am=>q m (by omega) (by omega) am
   | false =>
     dsimp only
     rw [if_neg (by simp)]
     refine ⟨h.lt (by omega),h.lt (by omega),?_⟩
     dsimp only
     rw [show f (p.getD (k - 1) 0) (p.getD k 0)=true from o.flip h (by omega) (by omega) (by omega) c,if_pos rfl]
     exact q k (Nat.le_refl _) (by omega) a
theorem at_rev {p:Array Nat} {m:Nat} (hm:m≤p.size) (k:Nat) (hk:k < m):at' (kas_rev p 0 m) k=at' p (m - 1 - k):=by
 have e:=getElem?_mirror_all (xs:=p) (i:=0) hm k
 rw [if_pos ⟨Nat.zero_le _,hk⟩] at e
 exact at_congr (e.trans (by rw [Nat.zero_add]))
theorem kok_count (o:Ord n f) {p:Array Nat} (h:Pm n p) (h2:2≤n) {P:Nat×Array Nat→Prop} (q:∀ m p',1≤m→m≤n→Pm n p'→Asc f p' m→P (m,p')):kok n f P (kas_count n p):=by
 unfold kas_count
 refine kok_bind _ (kok_asc o h (n - 1) 1 (Nat.le_refl _) (by omega) (fun i j _ _=>by omega) fun m m1 m2 am z=>?_)
 by_cases e:m=n
 · rw [if_pos (by simp [e])]; exact q m p m1 (by omega) h am
 rw [if_neg (by simp [e])]
 by_cases g:m > 1
 · rw [if_pos g]
   refine ⟨h.lt (by omega),h.lt (by omega),?_⟩
   dsimp only
   rw [show f (p.getD 0 0) (p.getD (m - 1) 0)=true from am 0 (m - 1) (by omega) (by omega),if_pos rfl]
   exact q m p m1 (by omega) h am
 rw [if_neg g]
 have em:m=1:=by omega
 subst em
 unfold kas_descPart
 refine kok_bind _ (kok_desc o h (n - 2) 2 (by omega) (by omega) (dsc_more o h (Nat.le_refl _) (by omega) (fun i j _ _=>by omega) (z (by omega))) fun m m1 m2 dm=>?_)
 show kok n f P (if 0 > 0 then _ else kas_tail3 m n p)
 rw [if_neg (by omega)]
 unfold kas_tail3
 have hs:=h.size
 have hr:Pm n (kas_rev p 0 m):=h.perm (mirror_perm _ _ _ _)
 refine kok_bind _ (kok_asc o hr (n - m) m (by omega) (by omega) (fun i j hij hj=>?_) fun m' m1' m2' am' _=>q m' _ (by omega) (by omega) hr am')
 rw [at_rev (by omega) i (by omega),at_rev (by omega) j hj]
 exact dm (m - 1 - j) (m - 1 - i) (by omega) (by omega)
theorem kok_place (o:Ord n f) {p:Array Nat} (h:Pm n p) {k:Nat} (hk:k < n) (a:Asc f p k) {P:Nat→Prop} (q:∀ l,l≤k→(∀ i,i < l→f (at' p i) (at' p k)=true)→(∀ i,l≤i→i < k→f (at' p k) (at' p i)=true)→P l) :
 ∀ (u l r:Nat),l≤r→r≤k→r - l≤u→(∀ i,i < l→f (at' p i) (at' p k)=true)→(∀ i,r≤i→i < k→f (at' p k) (at' p i)=true)→kok n f P (kas_place p k u l r)
 | 0,l,r,lr,rk,hu,b1,b2=>q l (by omega) b1 fun i h1 h2=>b2 i (by omega) h2
 | u+1,l,r,lr,rk,hu,b1,b2=>by
   unfold kas_place
   by_cases g:l ≥ r
   · rw [if_pos g]; exact q l (by omega) b1 fun i h1 h2=>b2 i (by omega) h2
   rw [if_neg g]
   refine ⟨h.lt hk,h.lt (by omega),?_⟩
   cases c:f (p.getD k 0) (p.getD ((l+r) / 2) 0) with
   | true =>
     dsimp only
     rw [if_pos rfl]
     refine kok_place o h hk a q u l ((l+r) / 2) (by omega) (by omega) (by omega) b1 fun i h1 h2=>?_
     by_cases e:i=(l+r) / 2
     · rw [e]; exact c
     · exact o.tr _ _ _ (h.lt hk) (h.lt (show (l+r) / 2 < n by omega)) (h.lt (by omega)) c (a _ i (by omega) h2)
   | false =>
     dsimp only
     rw [if_neg (by simp)]
     have c':=o.flip h hk (show (l+r) / 2 < n by omega) (by omega) c
     refine kok_place o h hk a q u ((l+r) / 2+1) r (by omega) rk (by omega) (fun i h1=>?_) b2
     by_cases e:i=(l+r) / 2
     · rw [e]; exact c'
     · exact o.tr _ _ _ (h.lt (by omega)) (h.lt (show (l+r) / 2 < n by omega)) (h.lt hk) (a i _ (by omega) (by omega)) c'
theorem at_bub {p:Array Nat} {k d:Nat} (hk:k < p.size) (hd:d≤k) (j:Nat):at' (bubble p k d) j=if j=k - d then at' p k else if k - d < j∧j≤k then at' p (j - 1) else at' p j:=by
 have e:=getElem?_bubble hk d hd j
 by_cases h1:j=k - d
 · rw [if_pos h1] at e ⊢; exact at_congr e
 · rw [if_neg h1] at e ⊢
   by_cases h2:k - d < j∧j≤k
   · rw [if_pos h2] at e ⊢; exact at_congr e
   · rw [if_neg h2] at e ⊢; exact at_congr e
theorem kok_bin (o:Ord n f) {P:Array Nat→Prop} (q:∀ p,Pm n p→Asc f p n→P p):∀ (u:Nat) (p:Array Nat) (k:Nat),k+u=n→Pm n p→Asc f p k→kok n f P (kas_bin u p k)
 | 0,p,k,e,h,a=>q p h (by rw [← e]; exact a)
 | u+1,p,k,e,h,a=>by
   have hk:k < n:=by omega
   have hs:=h.size
   unfold kas_bin
   refine kok_bind _ (kok_place o h hk a (fun l lk b1 b2=>?_) k 0 k (Nat.zero_le _) (Nat.le_refl _) (by omega) (fun i hi=>by omega) (fun i h1 h2=>by omega))
   refine kok_bin o q u _ (k+1) (by omega) (h.perm (bubble_perm _ _ _)) fun i j hij hj=>?_
   rw [at_bub (by omega) (by omega) i,at_bub (by omega) (by omega) j]
   have el:k - (k - l)=l:=by omega
   rw [el]
   by_cases i1:i=l
   · rw [if_pos i1,if_neg (by omega),if_pos (by omega)]
     exact b2 (j - 1) (by omega) (by omega)
   rw [if_neg i1]
   by_cases i2:l < i∧i≤k
   · rw [if_pos i2,if_neg (by omega),if_pos (by omega)]
     exact a (i - 1) (j - 1) (by omega) (by omega)
   rw [if_neg i2]
   by_cases j1:j=l
   · rw [if_pos j1]; exact b1 i (by omega)
   rw [if_neg j1]
   by_cases j2:l < j∧j≤k
   · rw [if_pos j2]
     by_cases e3:i=j - 1
     · omega
     · exact a i (j - 1) (by omega) (by omega)
   · rw [if_neg j2]
     exact a i j hij (by omega)
theorem sort_many (o:Ord n f) (h2:2≤n):kin n f (kas_sort n)=true∧(krun f (kas_sort n)).toList.Perm (List.range n)∧(krun f (kas_sort n)).toList.Pairwise (fun i j=>f i j=true):=by
 have fin:∀ p:Array Nat,Pm n p→Asc f p n→p.toList.Perm (List.range n)∧p.toList.Pairwise (fun i j=>f i j=true):=fun p h a=>by
  refine ⟨h,List.pairwise_iff_getElem.mpr fun i j hi hj hij=>?_⟩
  have hs:=h.size
  have hj':j < p.size:=by simpa using hj
  have:=a i j hij (by omega)
  simp only [at',Array.getD_eq_getD_getElem?] at this
  rw [Array.getElem?_eq_getElem (show i < p.size by omega),Array.getElem?_eq_getElem hj'] at this
  simpa using this
 refine kok_out (P:=fun p:Array Nat=>p.toList.Perm (List.range n)∧p.toList.Pairwise (fun i j=>f i j=true)) (kas_sort n) ?_
 unfold kas_sort
 have h0:Pm n (List.toArray (List.range n)):=by unfold Pm; simp
 refine kok_bind _ (kok_count o h0 h2 fun m p' m1 m2 h a=>?_)
 by_cases g:m < n
 · rw [if_pos g]
   refine kok_bin o fin _ p' _ (by simp only []; omega) h ?_
   rw [show max (m,p').1 1=m by simp only []; omega]
   exact a
 · rw [if_neg g]
   have:m=n:=by omega
   subst this
   exact fin p' h a
end
end L2
namespace L2
open PySem PySem.Spec PyProof.Rows PySem.W
section
variable {prog:Program} {w:World} {A:Around} {E:Value→Shared→Prop} {s:Shared}
end
section
variable {X:Cx}
theorem call_sortedM:CallR X (.builtin "sorted") (fun xs H Q=>∃ (p:Addr) (vs:List V) (kl:List (List Int)) (m:Nat),xs=[.ref p]∧SqL X.K H p vs∧vs.length=kl.length∧(∀ (i:Nat) (v:V),vs[i]? = some v→∃ (b:Addr) (k:List Int),v=.ref b∧kl[i]? = some k∧SqT X.K H b (k.map V.int))∧kl.Nodup∧kl.length < 64∧(∀ k∈kl,k.length=m)∧0 < m ∧
 ∀ (l:Addr) (q:List Nat),H l=none→q.Perm (List.range kl.length)→(q.map fun i=>kl.getD i []).Pairwise (fun a b=>HT.lexLt a b=true)→Q (.ref l) (upd H l (.lst (q.map fun i=>vs.getD i .non)))):=by
 intro pins s σ H xs us Q I r h
 obtain ⟨p,vs,kl,m,rfl,hq,hl,hk,nd,h4,hm,m0,q⟩:=h
 cases r with
 | cons rx r =>
   cases r
   cases (show _=Value.ref p from rx)
   obtain ⟨its,rv,pl,hz⟩:=I.list hq
   have hlen:=rv.length
   have o:=lex_ord nd hm
   have tup:∀ i,i < kl.length→∃ b ob jt n,its.getD i Value.none=.ref b∧s.heap.get? b=some ob∧ob.cls=.type "tuple" ∧ ob.data=.seq jt n∧IntsAre jt.toList (kl.getD i [])∧(kl.getD i []).length=m:=fun i hi=>by
    have hv:i < vs.length:=by omega
    obtain ⟨b,k,e1,e2,hb⟩:=hk i vs[i] (List.getElem?_eq_getElem hv)
    obtain ⟨u,eu,ru⟩:=rv.get (List.getElem?_eq_getElem hv)
    rw [e1] at ru
    cases ru
    obtain ⟨jt,rj,⟨ob,g,c,n,d⟩,_⟩:=I.tuple hb
    have ek:kl.getD i []=k:=by simp [List.getD_eq_getElem?_getD,e2]
    refine ⟨b,ob,jt.toArray,n,by simp [List.getD_eq_getElem?_getD,eu],g,c,d,by rw [ek]; simpa using intsAre_of rj,?_⟩
    rw [ek]; exact hm k (List.mem_of_getElem? e2)
   refine sorted_by (fun q=>q.Perm (List.range kl.length)∧(q.map fun i=>kl.getD i []).Pairwise (fun a b=>HT.lexLt a b=true)) (fun h2=>?_) pl.isList (by omega) (fun h2 h1 k1=>?_) fun p' gp=>?_
   · have:its.length=kl.length:=by omega
     rw [this]
     refine ⟨.refl _,?_⟩
     have:kl.length=0∨kl.length=1:=by omega
     rcases this with e | e <;> rw [e]
     · exact .nil
     · exact .cons (by simp) .nil
   · have en:its.length=kl.length:=by omega
     have keep:∀ i,i < kl.length→∃ b ob jt n,its.getD i Value.none=.ref b∧h1.get? b=some ob∧ob.cls=.type "tuple" ∧ ob.data=.seq jt n∧IntsAre jt.toList (kl.getD i [])∧(kl.getD i []).length=m:=fun i hi=>by
      obtain ⟨b,ob,jt,n,e1,e2,e3⟩:=tup i hi
      exact ⟨b,ob,jt,n,e1,k1 b ob e2,e3⟩
     have prd:∀ (us:List Value) (ks:List (List Int)),us.length=ks.length→(∀ i,i < ks.length→∃ b ob jt n,us.getD i Value.none=.ref b∧h1.get? b=some ob∧ob.cls=.type "tuple" ∧ ob.data=.seq jt n∧IntsAre jt.toList (ks.getD i [])∧(ks.getD i []).length=m)→Paired (fun v k=>∃ b o its n,v=Value.ref b∧h1.get? b=some o∧o.cls=.type "tuple" ∧ o.data=.seq its n∧IntsAre its.toList k∧0 < k.length) us ks:=by
      intro us
      induction us with
      | nil=>intro ks e _; cases ks with
        | nil=>exact .nil
        | cons _ _=>simp at e
      | cons u us ih =>
        intro ks e hh
        cases ks with
        | nil=>simp at e
        | cons k ks =>
          refine .cons ?_ (ih ks (by simpa using e) fun i hi=>by simpa using hh (i+1) (by simpa using hi))
          obtain ⟨b,ob,jt,n,e1,e2,e3,e4,e5,e6⟩:=hh 0 (by simp)
          exact ⟨b,ob,jt,n,by simpa using e1,e2,e3,e4,by simpa using e5,(by have e7:k.length=m:=(by simpa using e6); omega)⟩
     obtain ⟨fs,f1,f2,f3⟩:=tups_firsts (prd its kl en keep)
     refine kat_kind (T:=.type "int") f1 (by omega) (fun v hv=>?_) rfl ⟨rfl,?_⟩
     · obtain ⟨x,t,rfl⟩:=f3 v hv
       exact Looks.of_pure rfl
     · obtain ⟨r1,r2,r3⟩:=sort_many o (by omega)
       rw [en]
       refine krun_wp (n:=kl.length) (f:=lexF kl) (fun i j C hi hj hC=>?_) _ r1 ⟨rfl,r2,?_⟩
       · obtain ⟨b,ob,jt,n,e1,e2,e3,e4,e5,e6⟩:=keep i hi
         obtain ⟨b',ob',jt',n',e1',e2',e3',e4',e5',e6'⟩:=keep j hj
         unfold kas_ask
         rw [e1,e1']
         have z:jt.size=jt'.size:=by
          have a1:=IntsAre.length e5
          have a2:=IntsAre.length e5'
          rw [Array.length_toList] at a1 a2
          omega
         refine kat_lt e2 e4 e2' e4' ?_
         rw [decide_eq_false (by omega)]
         exact lex_ints 0 e5 e5' (by rw [e6,e6']) hC
       · exact List.pairwise_map.mpr r3
   · obtain ⟨e,he⟩:=sortedAll_at s.heap its (p'.map fun i=>its.getD i Value.none).toArray
     have fr:H (s.heap.objs.size+1)=none:=I.hok.fresh (Nat.le_succ _)
     have lt:∀ i∈p',i < vs.length:=fun i hi=>by rw [hl]; exact List.mem_range.mp (gp.1.mem_iff.mp hi)
     refine ⟨.ref (s.heap.objs.size+1),_,I.laid (o:=.lst (p'.map fun i=>vs.getD i .non)) (t':=s.toks) (fun b u e=>sortedAll_old e) (Nat.le_succ _) ⟨?_,p'.map fun i=>its.getD i Value.none,e,vals_map rv p' lt,he⟩,rfl,q _ p' fr gp.1 gp.2⟩
     rw [List.length_map,gp.1.length_eq,List.length_range,sizeLine_eq]; omega
end
end L2
namespace L2
open PySem PySem.Spec PyProof.Rows PySem.W
variable {k:Nat}
section
variable {X:Cx} {pins:List (Addr×Obj)} {σ:St} {H:Hp} {s:Shared}
end
section
variable {X:Cx}
end
structure Cal1 (P:Program) (w:World) (K:PySem.W.Frag) (mg:Str→Option Value) (base:Heap) (x:Str) (k:Nat) (p1:Str) (sp:Sp):Prop where
 ex:∃ (f:Addr) (fd:FuncData),FnOk P w K mg base CX0 k f fd [p1] sp∧mg x=some (.ref f)∧PySem.W.keepIn K (.ref f)=true ∧
  ∀ (s:Shared) (u:Value),K.In s.heap→BindsTo s fd ⟨[],[(p1,u)]⟩ [(p1,u)]
theorem pe_cal1 {X:Cx} {x p1:Str} {k j:Nat} {sp:Sp} {p pos:Pos} {kws:List Keyword} {tk:TA} (C:Cal1 X.prog X.w X.K X.mg X.base x k p1 sp) (hr:Room j X.A) (hj:k≤j) (hg:Gl X x) (hkw:PK X kws tk)
 (hks:(backToKw pos (keywordEach kws X.env)).filterMap (·.1)=[p1]:=by rfl) (hall:(backToKw pos (keywordEach kws X.env)).all (·.1.isSome)=true:=by rfl)
 (hdb:(x == ("__debug__" : Str))=false:=by decide) (hpl:((backTo pos (starEach [] X.env)).any (·.1) || (backToKw pos (keywordEach kws X.env)).any (·.1.isNone))=false:=by rfl) :
 PE X (.Call (.Name x p) [] kws pos) (fun σ H Q=>tk σ H fun zs H1=>∃ v,zs=[v]∧sp [v] H1 Q E0):=by
 intro pins s σ H Q I h
 obtain ⟨f,fd,F,hm,hk,hb⟩:=C.ex
 refine wpAny_Call_Name_kw (ld_glob I hg hm ?_ hdb)
 refine PySem.W.callWith_KW0 (h₀:=X.base) I.ok.mod.kin hk hall (thn (hkw pos pins s σ H _ I h) fun ws s2 ⟨zs,H2,I2,rz,v,e,q2⟩=>⟨I2.kIn,?_⟩) hpl
 subst e
 obtain ⟨wv,rfl,rv⟩:=rz.one
 rw [hks]
 refine wpAny_call (codeAny_mono (F.run X.A X.stack s2 H2 ⟨[],[(p1,wv)]⟩ [wv] [v] Q E0 (hr.mono hj) I2.env0 (hb s2 wv I2.kIn) (.cons rv .nil) q2) fun r s' hq=>?_)
 cases r with
 | error e=>exact (show False from hq).elim
 | ok fl =>
   cases fl with
   | ret u=>exact I2.after hq
   | next=>exact False.elim hq
   | brk=>exact False.elim hq
   | cont=>exact False.elim hq
section
variable {N:Addr→Prop} {H:Hp}
end
end L2
namespace L2
open PySem PySem.Spec PyProof.Rows PySem.W
theorem fsc {N P:List Str} {sc:Scope} (h:sc.kind=.function∧sc.isCoroutine=false∧sc.isGenerator=false∧N.Nodup∧N.take P.length=P∧(∀ x∈P,sc.names.lookup x=some .local∨sc.names.lookup x=some .cell)∧∀ y∈sc.names,y.2≠.free):FnScope N P sc:=let ⟨a,b,c,d,e,f,g⟩:=h; ⟨a,b,c,d,e,f,g⟩
end L2
namespace L2
open PySem PySem.Spec PyProof.Rows
def gPt (w i:Nat):Pnt:=(7 * ((i % (w+1):Nat):Int),9 * ((i / (w+1):Nat):Int))
def gCs (w h:Nat):List Pnt:=(List.range ((h+1) * (w+1))).map (gPt w)
def gPc (w k way half:Nat):List Int :=
 let a:=k / w * (w+1)+k % w
 let r:Nat×Nat×Nat:=if way=0 then (if half=0 then (a,a+1,a+w+1) else (a+1,a+w+1,a+w+2)) else (if half=0 then (a,a+1,a+w+2) else (a,a+w+1,a+w+2))
 [(r.1:Int),(r.2.1:Int),(r.2.2:Int)]
def gOne (w h k way half:Nat):Bool :=
 let cs:=gCs w h; let p:=gPc w k way half
 p.all (fun i=>decide (0≤i) && decide (i≤(cs.length:Int) - 1)) && decide (p.getD 0 0 < p.getD 1 0) && decide (p.getD 1 0 < p.getD 2 0) && decide (dOf cs p≠0) &&
  (List.range cs.length).all fun j=>decide ((j:Int)∈p) || !liesIn (cs.getD j (0,0)) (trOf cs p)
def gTwo (w h k way half k' way' half':Nat):Bool :=
 let cs:=gCs w h; let p:=gPc w k way half; let q:=gPc w k' way' half'
 if k=k'∧way≠way' then true else if k=k'∧half=half' then true else decide (p≠q) && apart (trOf cs p) (trOf cs q)
def gAll (w h:Nat):Bool :=
 (List.range (w * h)).all fun k=>[0,1].all fun way=>[0,1].all fun half=>gOne w h k way half && (List.range (w * h)).all fun k'=>[0,1].all fun way'=>[0,1].all fun half'=>gTwo w h k way half k' way' half'
def gUse (w h:Nat):Bool:=(List.range ((h+1) * (w+1))).all fun c=>(List.range (w * h)).any fun k=>[0,1].all fun way=>decide ((c:Int)∈gPc w k way 0) || decide ((c:Int)∈gPc w k way 1)
theorem g_all:([1,2,3,4].all fun w=>[1,2,3].all fun h=>gAll w h && gUse w h)=true:=by decide +kernel
theorem g_nd:([1,2,3,4].all fun w=>[1,2,3].all fun h=>decide (gCs w h).Nodup)=true:=by decide +kernel
section
variable {w h:Nat} (hw:1≤w∧w≤4) (hh:1≤h∧h≤3)
include hw hh
theorem g_wh:gAll w h=true∧gUse w h=true∧(gCs w h).Nodup:=by
 have h1:w∈[1,2,3,4]:=by simp; omega
 have h2:h∈[1,2,3]:=by simp; omega
 have a:=List.all_eq_true.mp (List.all_eq_true.mp g_all w h1) h h2
 have b:=List.all_eq_true.mp (List.all_eq_true.mp g_nd w h1) h h2
 rw [Bool.and_eq_true] at a
 exact ⟨a.1,a.2,of_decide_eq_true b⟩
theorem g_sizes:4≤(h+1) * (w+1)∧(h+1) * (w+1)≤20∧1≤w * h∧w * h≤12:=by
 have h1:w=1∨w=2∨w=3∨w=4:=by omega
 have h2:h=1∨h=2∨h=3:=by omega
 rcases h1 with rfl | rfl | rfl | rfl <;> rcases h2 with rfl | rfl | rfl <;> decide
end
theorem gCs_len (w h:Nat):(gCs w h).length=(h+1) * (w+1):=by simp [gCs]
def gG (w:Nat) (f:Nat→Nat) (i:Nat):List Int:=gPc w (i / 2) (f (i / 2)) (i % 2)
def gKl (w h:Nat) (f:Nat→Nat):List (List Int):=(List.range (2 * (w * h))).map (gG w f)
theorem bit {n:Nat} (h:n=0∨n=1):n∈[0,1]:=by rcases h with rfl | rfl <;> simp
section
variable {w h:Nat} {f:Nat→Nat} (hw:1≤w∧w≤4) (hh:1≤h∧h≤3) (hf:∀ k,f k=0∨f k=1)
include hw hh hf
theorem g_one {i:Nat} (hi:i < 2 * (w * h)):gOne w h (i / 2) (f (i / 2)) (i % 2)=true:=by
 have a:=List.all_eq_true.mp (List.all_eq_true.mp (List.all_eq_true.mp (g_wh hw hh).1 (i / 2) (List.mem_range.mpr (by omega))) _ (bit (hf (i / 2)))) (i % 2) (bit (by omega))
 rw [Bool.and_eq_true] at a
 exact a.1
theorem g_two {i j:Nat} (hi:i < 2 * (w * h)) (hj:j < 2 * (w * h)) (hij:i≠j):gG w f i≠gG w f j∧apart (trOf (gCs w h) (gG w f i)) (trOf (gCs w h) (gG w f j))=true:=by
 have a:=List.all_eq_true.mp (List.all_eq_true.mp (List.all_eq_true.mp (g_wh hw hh).1 (i / 2) (List.mem_range.mpr (by omega))) _ (bit (hf (i / 2)))) (i % 2) (bit (by omega))
 rw [Bool.and_eq_true] at a
 have b:=List.all_eq_true.mp (List.all_eq_true.mp (List.all_eq_true.mp a.2 (j / 2) (List.mem_range.mpr (by omega))) _ (bit (hf (j / 2)))) (j % 2) (bit (by omega))
 unfold gTwo at b
 dsimp only at b
 rw [if_neg (fun z=>z.2 (by rw [z.1])),if_neg (fun z=>hij (by omega)),Bool.and_eq_true] at b
 exact ⟨of_decide_eq_true b.1,b.2⟩
theorem g_pc {i:Nat} (hi:i < 2 * (w * h)):PieceOk (gCs w h) (gG w f i)∧∀ j:Nat,j < (gCs w h).length→(j:Int)∉gG w f i→liesIn ((gCs w h).getD j (0,0)) (trOf (gCs w h) (gG w f i))=false:=by
 have a:=g_one hw hh hf hi
 unfold gOne at a
 simp only [Bool.and_eq_true] at a
 obtain ⟨⟨⟨⟨a1,a2⟩,a3⟩,a4⟩,a5⟩:=a
 refine ⟨⟨rfl,fun x hx=>?_,⟨of_decide_eq_true a2,of_decide_eq_true a3⟩,of_decide_eq_true a4⟩,fun j hj nm=>?_⟩
 · have:=List.all_eq_true.mp a1 x hx
   rw [Bool.and_eq_true] at this
   exact ⟨of_decide_eq_true this.1,of_decide_eq_true this.2⟩
 · have:=List.all_eq_true.mp a5 j (List.mem_range.mpr hj)
   rw [Bool.or_eq_true] at this
   rcases this with z | z
   · exact absurd (of_decide_eq_true z) nm
   · rw [Bool.not_eq_true'] at z; exact z
theorem gKl_nd:(gKl w h f).Nodup:=by
 unfold gKl List.Nodup
 rw [List.pairwise_map]
 refine List.Pairwise.imp_of_mem (fun {a b} ha hb hab=>?_) List.pairwise_lt_range
 exact (g_two hw hh hf (List.mem_range.mp ha) (List.mem_range.mp hb) (by omega)).1
theorem grid_ok {q:List Nat} {ts:List Int} {l m:Int} (hq:q.Perm (List.range (gKl w h f).length)) (pw:(q.map fun i=>(gKl w h f).getD i []).Pairwise (fun a b=>HT.lexLt a b=true))
 (tl:ts.length=q.length) (t9:∀ t∈ts,1≤t∧t≤9) (l9:0≤l∧l≤9) (m9:1≤m∧m≤9):PlOk ⟨gCs w h,q.map fun i=>(gKl w h f).getD i [],ts,l,m⟩:=by
 obtain ⟨s1,s2,s3,s4⟩:=g_sizes hw hh
 have kl:(gKl w h f).length=2 * (w * h):=by simp [gKl]
 rw [kl] at hq
 have ql:q.length=2 * (w * h):=by rw [hq.length_eq,List.length_range]
 have qm:∀ i∈q,i < 2 * (w * h):=fun i hi=>List.mem_range.mp (hq.mem_iff.mp hi)
 have at':∀ i,i < 2 * (w * h)→(gKl w h f).getD i []=gG w f i:=fun i hi=>by
  unfold gKl
  rw [List.getD_eq_getElem?_getD,List.getElem?_map,List.getElem?_range hi]
  rfl
 have pm:∀ p∈q.map (fun i=>(gKl w h f).getD i []),∃ i,i < 2 * (w * h)∧p=gG w f i:=fun p hp=>by
  obtain ⟨i,hi,rfl⟩:=List.mem_map.mp hp
  exact ⟨i,qm i hi,at' i (qm i hi)⟩
 have qn:q.Nodup:=hq.nodup_iff.mpr List.nodup_range
 refine ⟨by show 3≤(gCs w h).length; rw [gCs_len]; omega,by show (gCs w h).length≤30; rw [gCs_len]; omega,fun p hp=>?_,(g_wh hw hh).2.2,by show 1≤(q.map _).length; rw [List.length_map]; omega,by show (q.map _).length≤40; rw [List.length_map]; omega,fun p hp=>?_,fun i hi=>?_,by show ts.length=(q.map _).length; rw [List.length_map]; exact tl,t9,l9,m9,?_,fun p hp=>?_,fun i j hij hj=>?_⟩
 · obtain ⟨i,hi,rfl⟩:=List.mem_map.mp (show p∈(List.range ((h+1) * (w+1))).map (gPt w) from hp)
   have hi':=List.mem_range.mp hi
   have h1:i % (w+1) < w+1:=Nat.mod_lt _ (by omega)
   have h2:i / (w+1) < h+1:=Nat.div_lt_of_lt_mul (by rw [Nat.mul_comm]; exact hi')
   unfold near gPt
   dsimp only
   generalize i % (w+1)=A at h1 ⊢
   generalize i / (w+1)=B at h2 ⊢
   omega
 · obtain ⟨i,hi,rfl⟩:=pm p hp
   exact (g_pc hw hh hf hi).1
 · have hi':i+1 < (q.map fun i=>(gKl w h f).getD i []).length:=hi
   show HT.lexLt ((q.map fun i=>(gKl w h f).getD i []).getD i []) ((q.map fun i=>(gKl w h f).getD i []).getD (i+1) [])=true
   have:=List.pairwise_iff_getElem.mp pw i (i+1) (by omega) hi' (by omega)
   rw [List.getD_eq_getElem?_getD,List.getD_eq_getElem?_getD,List.getElem?_eq_getElem (show i < (q.map fun i=>(gKl w h f).getD i []).length by omega),List.getElem?_eq_getElem hi']
   exact this
 · show cntS (q.map fun i=>(gKl w h f).getD i []).flatten=(gCs w h).length
   rw [gCs_len]
   refine cnt_count _ (fun x hx=>?_) (fun c hc=>?_)
   · obtain ⟨p,hp,hx⟩:=List.mem_flatten.mp hx
     obtain ⟨i,hi,rfl⟩:=pm p hp
     have:=(g_pc hw hh hf hi).1.bd x hx
     rw [gCs_len] at this
     omega
   · have u:=List.all_eq_true.mp (g_wh hw hh).2.1 c (List.mem_range.mpr hc)
     obtain ⟨k,hk,u⟩:=List.any_eq_true.mp u
     have hk':=List.mem_range.mp hk
     have u:=List.all_eq_true.mp u _ (bit (hf k))
     rw [Bool.or_eq_true] at u
     have key:∀ j,j < 2→(c:Int)∈gPc w k (f k) j→(c:Int)∈(q.map fun i=>(gKl w h f).getD i []).flatten:=fun j hj hm=>by
      refine List.mem_flatten.mpr ⟨gG w f (2 * k+j),List.mem_map.mpr ⟨2 * k+j,hq.mem_iff.mpr (List.mem_range.mpr (by omega)),at' _ (by omega)⟩,?_⟩
      unfold gG
      rw [show (2 * k+j) / 2=k by omega,show (2 * k+j) % 2=j by omega]
      exact hm
     rcases u with u | u
     · exact key 0 (by decide) (of_decide_eq_true u)
     · exact key 1 (by decide) (of_decide_eq_true u)
 · obtain ⟨i,hi,rfl⟩:=pm p hp
   exact (g_pc hw hh hf hi).2
 · have hj':j < q.length:=by simpa using hj
   show apart (trOf (gCs w h) ((q.map fun i=>(gKl w h f).getD i []).getD j [])) (trOf (gCs w h) ((q.map fun i=>(gKl w h f).getD i []).getD i []))=true
   rw [List.getD_eq_getElem?_getD,List.getD_eq_getElem?_getD,List.getElem?_map,List.getElem?_map,List.getElem?_eq_getElem hj',List.getElem?_eq_getElem (show i < q.length by omega)]
   show apart (trOf (gCs w h) ((gKl w h f).getD q[j] [])) (trOf (gCs w h) ((gKl w h f).getD q[i] []))=true
   rw [at' _ (qm _ (List.getElem_mem hj')),at' _ (qm _ (List.getElem_mem (show i < q.length by omega)))]
   refine (g_two hw hh hf (qm _ (List.getElem_mem hj')) (qm _ (List.getElem_mem (show i < q.length by omega))) fun z=>?_).2
   have:=(List.getElem_inj (h₀:=hj') (h₁:=show i < q.length by omega) qn).mp z
   omega
end
end L2
namespace L2
open PySem PySem.Spec PyProof.Rows
open Builtin.Str (occurrences)
section
variable {X:Cx} {e:Expr} {es:List Expr} {t:TE} {pos:Pos}
def tFv (t:TE):TE:=fun σ H Q=>t σ H fun x H1=>(∃ i,x=.int i∧i.natAbs.log2 < 1920∧Q (.str (toString i)) H1)∨∃ z,x=.str z∧z.length≤sizeLine∧Q (.str z) H1
theorem pe_fv (h:PE X e t):PE X (.FormattedValue e (-1) none pos) (tFv t):=by
 intro pins s σ H Q I hq
 refine wpAny_FormattedValue_plain (thn (h pins s σ H _ I hq) fun v s1 ⟨x,H1,I1,r1,q1⟩=>?_)
 rcases q1 with ⟨i,rfl,hl,q⟩ | ⟨z,rfl,hz,q⟩
 · obtain ⟨t,rfl⟩:=r1
   exact wpAny_formatField_int hl ⟨.str _,H1,I1.tok _,⟨_,rfl⟩,q⟩
 · obtain ⟨t,rfl⟩:=r1
   exact wpAny_formatField_str ⟨.str _,H1,I1,⟨_,rfl⟩,q⟩ ⟨.str _,H1,I1.tok _,⟨_,rfl⟩,q⟩ hz
abbrev TJ:=St→Str→Hp→(Str→Hp→Prop)→Prop
def PJ (X:Cx) (es:List Expr) (t:TJ):Prop:=∀ (pins:List (Addr×Obj)) (s:Shared) (σ:St) (H:Hp) (acc:Str) (Q:Str→Hp→Prop) (R:Str→Shared→Prop),Inv X pins σ H s→t σ acc H Q→(∀ out s1 H1,Inv X pins σ H1 s1→Q out H1→R out s1) →
 Joins (model X.prog X.w) X.A X.xe (evalEach es X.env) acc R s
theorem pj_nil:PJ X [] (fun _ acc H Q=>Q acc H):=fun pins s σ H acc Q R I h hR=>hR _ _ _ I h
def tJcons (t:TE) (ts:TJ):TJ:=fun σ acc H Q=>t σ H fun x H1=>∃ z,x=.str z∧(acc++z).length≤sizeLine∧ts σ (acc++z) H1 Q
theorem pj_cons {ts:TJ} (h:PE X e t) (hs:PJ X es ts):PJ X (e :: es) (tJcons t ts):=by
 intro pins s σ H acc Q R I hq hR
 show wpAny _ _ (eval e X.env) _ _ _
 refine thn (h pins s σ H _ I hq) fun v s1 ⟨x,H1,I1,r1,z,ez,hz,q⟩=>?_
 subst ez
 obtain ⟨t,rfl⟩:=r1
 exact ⟨z,t,rfl,hz,hs pins s1 σ H1 _ Q R I1 q hR⟩
def tFs (ts:TJ):TE:=fun σ H Q=>ts σ Str.empty H fun out H1=>out.length≤sizeLine∧Q (.str out) H1
theorem pe_fstr {v1 v2:Expr} {ts:TJ} (h:PJ X (v1 :: v2 :: es) ts):PE X (.JoinedStr (v1 :: v2 :: es) pos) (tFs ts):=by
 intro pins s σ H Q I hq
 exact wpAny_JoinedStr (h pins s σ H _ _ _ I hq fun out s1 H1 I1 ⟨hz,q⟩=>⟨hz,.str out,H1,I1.tok _,⟨_,rfl⟩,q⟩)
theorem mt_isdigit:MtR X "str.isdigit" (fun x vs H Q=>∃ z,x=.str z∧vs=[]∧Q (.bl (Txt.isdigit z)) H):=by
 intro pins s σ H x vs v us Q I rx rv ⟨z,e1,e2,q⟩
 subst e1; subst e2
 obtain ⟨t,rfl⟩:=rx
 cases rv
 exact SC.isdigit ⟨.bl _,H,I,rfl,q⟩
theorem mt_isascii:MtR X "str.isascii" (fun x vs H Q=>∃ z,x=.str z∧vs=[]∧Q (.bl (Txt.isascii z)) H):=by
 intro pins s σ H x vs v us Q I rx rv ⟨z,e1,e2,q⟩
 subst e1; subst e2
 obtain ⟨t,rfl⟩:=rx
 cases rv
 exact SC.isascii ⟨.bl _,H,I,rfl,q⟩
theorem mt_starts:MtR X "str.startswith" (fun x vs H Q=>∃ z y,x=.str z∧vs=[.str y]∧Q (.bl (Txt.startswith z y)) H):=by
 intro pins s σ H x vs v us Q I rx rv ⟨z,y,e1,e2,q⟩
 subst e1; subst e2
 obtain ⟨t,rfl⟩:=rx
 obtain ⟨u,rfl,ru⟩:=rv.one
 obtain ⟨t',rfl⟩:=ru
 exact SC.startswith ⟨.bl _,H,I,rfl,q⟩
theorem mt_rmpre:MtR X "str.removeprefix" (fun x vs H Q=>∃ z y,x=.str z∧vs=[.str y]∧z.length≤sizeLine∧Q (.str (Txt.removeprefix z y)) H):=by
 intro pins s σ H x vs v us Q I rx rv ⟨z,y,e1,e2,hz,q⟩
 subst e1; subst e2
 obtain ⟨t,rfl⟩:=rx
 obtain ⟨u,rfl,ru⟩:=rv.one
 obtain ⟨t',rfl⟩:=ru
 exact SC.removeprefix (fun t' k=>⟨.str _,H,I.tok _,⟨_,rfl⟩,q⟩) hz
theorem vals_strs:∀ {ys:List Str} {us:List Value},Vals (ys.map V.str) us→∃ l:List (Str×Tok),us=strValues l∧l.map (·.1)=ys
 | [],_,.nil=>⟨[],rfl,rfl⟩
 | y :: ys,_,.cons r rs=>by
   obtain ⟨l,e1,e2⟩:=vals_strs rs
   obtain ⟨t,rfl⟩:=r
   exact ⟨(y,t) :: l,by rw [e1]; rfl,by rw [← e2]; rfl⟩
theorem mt_join:MtR X "str.join" (fun x vs H Q=>∃ z p ys,x=.str z∧vs=[.ref p]∧SqL X.K H p (ys.map V.str)∧JoinOk z ys=true∧Q (.str (Txt.join z ys)) H):=by
 intro pins s σ H x vs v us Q I rx rv ⟨z,p,ys,e1,e2,hp,hok,q⟩
 subst e1; subst e2
 obtain ⟨t,rfl⟩:=rx
 obtain ⟨u,rfl,ru⟩:=rv.one
 cases ru
 obtain ⟨its,r,pl,_⟩:=I.list hp
 obtain ⟨l,e1,e2⟩:=vals_strs r
 subst e1
 exact SC.join pl.isList e2 hok fun t' k=>⟨.str _,H,I.tok _,⟨_,rfl⟩,q⟩
theorem strs_vals:∀ (ys:List Str) (k:Tok),Vals (ys.map V.str) (strsFrom k ys)
 | [],_=>.nil
 | y :: ys,k=>.cons ⟨k,rfl⟩ (strs_vals ys (k+1))
def rSplit:V→List V→Hp→VK→Prop:=fun x vs H Q=>∃ z y,x=.str z∧vs=[.str y]∧(y.length == 0)=false∧z.length≤sizeLine∧(Txt.split z y).length≤sizeLine∧∀ p,H p=none→Q (.ref p) (upd H p (.lst ((Txt.split z y).map V.str)))
theorem mt_split:MtR X "str.split" rSplit:=by
 intro pins s σ H x vs v us Q I rx rv h
 obtain ⟨z,y,e1,e2,hy,hz,hn,q⟩:=h
 subst e1; subst e2
 obtain ⟨t,rfl⟩:=rx
 obtain ⟨u,rfl,ru⟩:=rv.one
 obtain ⟨t',rfl⟩:=ru
 cases h1:(decide (z.length < y.length) || decide (Builtin.Str.strKind z < Builtin.Str.strKind y)) with
 | true =>
   have e:Txt.split z y=[z]:=by unfold Txt.split; rw [if_pos h1]
   rw [e] at q
   refine call_meets PySem.F.slot_str_split (typeIs_str _ _ _) PySem.F.entry_str_split (PySem.F.args_str_split_2 _ _) (meets_str_split_cannot_occur z y t t' h1) ?_
   exact ⟨.ref _,_,I.lnew (t':=s.toks) (ys:=[.str z]) (.cons ⟨t,rfl⟩ .nil) (by show 1≤sizeLine; decide),rfl,q _ I.fresh⟩
 | false =>
   cases h2:(occurrences z y 0 z.length (z.length+1)).isEmpty with
   | true =>
     have e:Txt.split z y=[z]:=by unfold Txt.split; rw [if_neg (by rw [h1]; decide),if_pos h2]
     rw [e] at q
     refine call_meets PySem.F.slot_str_split (typeIs_str _ _ _) PySem.F.entry_str_split (PySem.F.args_str_split_2 _ _) (meets_str_split_not_found z y t t' h1 hy h2) ?_
     exact ⟨.ref _,_,I.lnew (t':=s.toks) (ys:=[.str z]) (.cons ⟨t,rfl⟩ .nil) (by show 1≤sizeLine; decide),rfl,q _ I.fresh⟩
   | false =>
     have e:Txt.split z y=Builtin.Str.partsBetween z (occurrences z y 0 z.length (z.length+1)) y.length:=by unfold Txt.split; rw [if_neg (by rw [h1]; decide),if_neg (by rw [h2]; decide)]
     rw [e] at q hn
     refine call_meets PySem.F.slot_str_split (typeIs_str _ _ _) PySem.F.entry_str_split (PySem.F.args_str_split_2 _ _) (meets_str_split_sep z y t t' h1 hy h2 hz hn) ?_
     exact ⟨.ref _,_,I.lnew (t':=_) (strs_vals _ _) (by rw [List.length_map]; exact hn),rfl,q _ I.fresh⟩
theorem call_intS:CallR X (.type "int") (fun xs H Q=>∃ z n,xs=[.str z]∧intText? z=some n∧z.length≤640∧Q (.int n) H):=by
 intro pins s σ H xs us Q I rv ⟨z,n,e,hn,hl,q⟩
 subst e
 obtain ⟨u,rfl,ru⟩:=rv.one
 obtain ⟨t,rfl⟩:=ru
 exact PySem.W.KIN.call_text hn hl ⟨.int n,H,I.tok _,⟨_,rfl⟩,q⟩
end
end L2
namespace L2
open PySem PySem.Spec PyProof.Rows
section
variable {X:Cx}
theorem isPart_of {v:Value} {o:Option Int} (p:IsPart v o):∃ l:Option (Int×Tok),v=partValue l∧l.map (·.1)=o:=by
 cases p with
 | none=>exact ⟨none,rfl,rfl⟩
 | int i t=>exact ⟨some (i,t),rfl,rfl⟩
theorem sl_str:SlR X (fun x lo hi H Q=>∃ z,x=.str z∧z.length≤sizeLine∧Q (.str (Txt.slice z lo hi)) H):=by
 intro pins s σ H x v vl vu lo hi sl Q I rx hs pl pu h
 obtain ⟨z,rfl,hz,q⟩:=h
 obtain ⟨t,rfl⟩:=rx
 obtain ⟨l,rfl,rfl⟩:=isPart_of pl
 obtain ⟨u,rfl,rfl⟩:=isPart_of pu
 refine ⟨"str",_,PySem.F.slot_str_getitem.lookup,typeIs_str _ _ _,wpAny_getItem_str_slice (l:=l) (u:=u) (st:=none) hs rfl ?_⟩
 exact post_val_or_str ⟨Nat.le_trans (Txt.slice_le z _ _) hz,fun t' k=>⟨.str _,H,I.tok _,⟨_,rfl⟩,q⟩⟩
theorem turn_rangeE {P:Program} {w:World} {K:PySem.W.Frag} {tg:Expr} (it:Addr) (lo c:Int):Turn P w K tg (Itr lo 0) [it] it (fun _ h=>IsRangeIter h it lo 0 c) where
 mem:=by simp
 obj:=fun i h st b hb=>by
  have e:b=it:=by simpa using hb
  subst e
  exact ⟨_,st,fun v z=>by
   have z':Data.fields _=Data.cell v:=z
   cases z'⟩
 keep:=fun i h h' st k=>k it (by simp) _ st
 item:=by
  intro X hP hw hK hc i pins s σ H E I hf st hg
  exact absurd (show i < 0 from hg) (Nat.not_lt_zero _)
 done:=by
  intro X hP hw hK hc i pins s σ H E I hf st hg
  subst hP hw hK
  obtain ⟨f0,f1,f2,f3,f4,f5⟩:=hf it (by simp)
  exact wpAny_pyNext_range_end (I.ok.hd hc) st (by omega) fun h' eb=>⟨rfl,I.turned (t':=s.toks) (fun b o hb e=>eb b o hb e) f0 f1 f3 f4 f5⟩
 self:=fun _ _ _ _ _ st h=>wpAny_pyIter_rangeiter st h
def iRng0 (ta:TA):TI:=fun σ H R=>ta σ H fun vs H1=>∃ i:Int,vs=[.int i,.int i,.int 60]∧0≤i∧i < 2 ^ 60∧R (Itr i 0) H1
theorem pi_range3E {tg a b c:Expr} {ta:TA} {p pos:Pos} (hg:Gl X "range") (hm:X.mg "range" = none) (ha:PA X [a,b,c] ta) (hs:starEach [a,b,c] X.env=[(false,eval a X.env),(false,eval b X.env),(false,eval c X.env)]:=by rfl)
 (hs2:starEach [b,c] X.env=[(false,eval b X.env),(false,eval c X.env)]:=by rfl) :
 PI X tg (.Call (.Name "range" p) [a,b,c] [] pos) (iRng0 ta):=by
 intro pins s σ H R I h
 refine Call_ (ld_blt I hg hm boot_range (PyProof.Rows.callWith_type1 (thn (ha pos pins s σ H _ I h) fun us s1 ⟨vs,H1,I1,r1,q1⟩=>?_) (by rw [hs,hs2]) (by rw [hs2]; rfl)))
 obtain ⟨i,e,h0,h1,q⟩:=q1
 subst e
 cases r1 with
 | cons r rr =>
   cases rr with
   | cons r' rr =>
     cases rr with
     | cons r'' rr =>
       cases rr
       obtain ⟨t,rfl⟩:=r
       obtain ⟨t',rfl⟩:=r'
       obtain ⟨t'',rfl⟩:=r''
       have sm:Builtin.Range.rangeSize i i 60=0:=by
        unfold Builtin.Range.rangeSize
        simp
       refine call_range_3 (by decide) ?_ (Or.inl (PyProof.noPylong_small (by omega)))
       refine wpAny_pyIter_range (IsRange.new ..) ?_ ?_
       · unfold Builtin.Range.small
         rw [sm]
         have e62:(2:Int) ^ 60=1152921504606846976:=by decide
         rw [e62] at h1
         simp only [Builtin.Range.rangeFitsLong,Bool.and_eq_true,Bool.or_eq_true,decide_eq_true_eq,beq_iff_eq,show (60:Int) > 0 by decide,if_true]
         refine ⟨⟨⟨⟨by omega,by omega⟩,by omega⟩,by decide⟩,?_⟩
         omega
       · rw [sm]
         have I2:Inv X pins σ H1 { s1 with heap:=s1.heap.push { cls:=.type "range",data:=.fields #[.int i t,.int i t',.int 60 t''] },toks:=s1.toks }:=I1.kept fun b o e=>Heap.get?_push_of_some _ e
         refine ⟨(s1.heap.push { cls:=.type "range",data:=.fields #[.int i t,.int i t',.int 60 t''] }).objs.size,[(s1.heap.push { cls:=.type "range",data:=.fields #[.int i t,.int i t',.int 60 t''] }).objs.size],_,_,H1,rfl,
          I2.kept (t':=s1.toks) fun b o e=>Heap.get?_push_of_some _ e,turn_rangeE _ i 60,Heap.get?_push_size _ rfl,fun b hb=>?_,q⟩
         have e:b=(s1.heap.push { cls:=.type "range",data:=.fields #[.int i t,.int i t',.int 60 t''] }).objs.size:=by simpa using hb
         subst e
         exact I2.fpOk (Nat.le_refl _) (I2.hok.fresh (Nat.le_refl _))
theorem seq_list_iadd:seqSlot? (.type "list") (dunderI "add")=pure (some (.builtin "list.__iadd__")):=PySem.seqSlot_of PySem.F.slot_list_iadd.lookup (by decide +kernel)
theorem iop_cat:OpR X (inplaceOp .Add) (fun x y H Q=>∃ l b xs zs,x=.ref l∧y=.ref b∧H l=some (.lst xs)∧H b=some (.lst zs)∧xs.length+zs.length≤sizeLine∧Q (.ref l) (upd H l (.lst (xs++zs)))):=by
 intro pins s σ H x y v u Q I rx ry h
 obtain ⟨l,b,xs,zs,rfl,rfl,hH,hB,hz,q⟩:=h
 cases rx
 cases ry
 obtain ⟨z,its,n,r,hl,e⟩:=I.lstM hH
 obtain ⟨z2,its2,n2,r2,hl2,e2⟩:=I.lstM hB
 have hsz:its.toArray.size+its2.toArray.size≤sizeLine:=by rw [List.size_toArray,List.size_toArray]; omega
 have hlong:¬ (!its.toArray.isEmpty && Builtin.List.listTooLong (its.toArray.size+its2.toArray.size))=true:=by
  rw [notLongL hsz,Bool.and_false]
  exact Bool.false_ne_true
 have ha:s.TypeIs (.ref l) "list" := ⟨_,e,rfl⟩
 have hb:s.TypeIs (.ref b) "list" := ⟨_,e2,rfl⟩
 unfold inplaceOp
 refine wpAny_holding ?_
 have hfi:fillsInplaceSlot (.type "list") "add" (Operator.Add == .Add)=pure false:=by
  unfold fillsInplaceSlot
  show (typeLookup (.type "list") (dunderI "add") >>= fun fi=>pure (fi.isSome && !isSeqSlot fi))=pure false
  rw [PySem.F.slot_list_iadd.lookup]
  show (pure (true && !isSeqSlot (some (.builtin "list.__iadd__"))):Sem Bool)=pure false
  rw [show isSeqSlot (some (.builtin "list.__iadd__"))=true by decide +kernel]
  rfl
 refine wpAny_bind (wpAny_typeOf ha (wpAny_bind (wpAny_of_eq hfi ?_)))
 show wpAny _ _ (if false=true then _ else _) _ _ s
 rw [if_neg Bool.false_ne_true]
 refine wpAny_bind (wpAny_binaryOp1_none (nm := "add") ha hb noFill_list_add ?_)
 refine wpAny_bind (wpAny_of_eq seq_list_iadd ?_)
 refine wpAny_bind (wpAny_rule (call_meets PySem.F.slot_list_iadd ha PySem.F.entry_list_iadd (PySem.F.args_list_iadd_2 _ _) (AutoSeq1.list___iadd___list_list_0 l its.toArray n b its2.toArray n2 hlong (by rw [List.size_toArray]; omega) (by omega)) ⟨e,e2,?_⟩))
 refine ⟨.ref l,_,I.lset (its':=its++its2) hH e (by simp) (r.append r2) ?_,rfl,q⟩
 rw [List.length_append]
 omega
theorem Walks.tail' {prog:Program} {w:World} {A:Around} {I:Addr} {fp wr:List Addr} {n:Nat} {P:Nat→Value→Prop} {St:Nat→Heap→Prop} (W:Walks prog w A I fp wr (n+1) P St):Walks prog w A I fp wr n (fun i v=>P (i+1) v) (fun i h=>St (i+1) h) where
 sub:=W.sub
 frame:=fun i h h' st k=>W.frame (i+1) h h' st k
 item:=fun i s Q E hi st q=>W.item (i+1) s Q E (by omega) st q
 done:=fun s Q E st q=>W.done s Q E st q
 self:=fun i s Q E st q=>W.self (i+1) s Q E st q
theorem unpack_star {prog:Program} {w:World} {A:Around} {E:Value→Shared→Prop} {s:Shared} {a:Addr} {y:Value} {ys:List Value} {Q:List Value→Shared→Prop} (hh:A.handled=none) (hl:s.heap.IsList a (y :: ys).toArray) (hz:ys.length≤sizeLine)
 (hQ:∀ (h':Heap) (tk:Nat),(∀ b o,s.heap.get? b=some o→h'.get? b=some o)→Q [y,.ref h'.objs.size] { s with heap:=h'.push { cls:=.type "list",data:=.seq ys.toArray },toks:=tk }):wpAny (model prog w) A (unpackItems (.ref a) 2 (some 1)) Q E s:=by
 have hlt:a≠s.heap.objs.size:=by obtain ⟨o,ho,_⟩:=hl; exact Nat.ne_of_lt (Heap.lt_size ho)
 unfold unpackItems
 refine wpAny_bind ?_
 unfold notIterableAtAll
 refine wpAny_bind (wpAny_specialOf hl.typeIs PySem.F.slot_list_iter.lookup ?_)
 refine wpAny_pure ?_
 simp only [Bool.false_eq_true,if_false]
 refine wpAny_bind (wpAny_holding (wpAny_pyIter_list hl ?_))
 have hl1:=hl.push (o:={ cls:=.type "list_iterator",data:=.fields #[.ref a,.int 0 0] })
 have hit:(s.heap.push { cls:=.type "list_iterator",data:=.fields #[.ref a,.int 0 0] }).IsListIter s.heap.objs.size a 0:=⟨_,Heap.get?_push_size _ rfl,rfl,rfl⟩
 refine wpAny_bind (wpAny_holding ?_)
 show wpAny _ _ (pyNext (.ref s.heap.objs.size) >>= _) _ _ _
 refine wpAny_bind (wpAny_pyNext_list_item hit hl1 (x:=y) rfl fun h1 it1 sb1=>?_)
 refine wpAny_bind (wpAny_holding (wpAny_pure (wpAny_pure ?_)))
 rw [if_neg (by simp)]
 have hl2:h1.IsList a (y :: ys).toArray:=hl1.extBut sb1.extBut hlt
 have W:=Walks.tail' (n:=ys.length) (Walks.list (prog:=prog) (w:=w) (A:=A.in1) (show A.in1.handled=none from hh) s.heap.objs.size a hlt (y :: ys).toArray)
 refine wpAny_bind (wpAny_holding (wpAny_collect_iter (.inr (.inr (.inl rfl))) W.toS (fun i s' st=>?_) ⟨it1,hl2⟩ (fun b hb=>?_) (by simp) (fun s' acc mv it=>?_) hz))
 · obtain ⟨o,e,c,_⟩:=st.1
   exact ⟨o,e,c⟩
 · simp only [List.mem_cons,List.not_mem_nil,or_false] at hb
   rcases hb with rfl | rfl
   · obtain ⟨o,e,_⟩:=it1; exact Heap.lt_size e
   · obtain ⟨o,e,_⟩:=hl2; exact Heap.lt_size e
 have ea:acc.toList=ys:=by
  obtain ⟨h1',h2'⟩:=it
  apply List.ext_getElem?
  intro i
  by_cases hi:i < acc.size
  · have:=h2' i acc[i] (by simp [hi])
    have e2:ys[i]? = some acc[i]:=by simpa using this
    rw [e2]
    simp [hi]
  · rw [List.getElem?_eq_none (by simpa using hi),List.getElem?_eq_none (by omega)]
 rw [ea,if_neg (by omega)]
 have et:List.take (ys.length - (2 - 1 - 1)) ys=ys:=List.take_of_length_le (by omega)
 have ed:List.drop (ys.length - (2 - 1 - 1)) ys=[]:=List.drop_of_length_le (by omega)
 rw [et,ed]
 refine wpAny_bind (wpAny_newList (wpAny_pure ?_) hz)
 obtain ⟨hp',gn',dr',tk',os'⟩:=s'
 obtain ⟨m1,m2,m3,m4,m5⟩:=mv
 simp only at m2 m3 m4
 subst m2 m3 m4
 refine hQ hp' tk' fun b o e=>m1 b o (fun z=>?_) (sb1.extBut b o ?_ (Heap.get?_push_of_some _ e))
 · have:b=s.heap.objs.size:=by simpa using z
   exact absurd (Heap.lt_size e) (by rw [this]; exact Nat.lt_irrefl _)
 · intro z
   exact absurd (Heap.lt_size e) (by rw [z]; exact Nat.lt_irrefl _)
def gStar (K:PySem.W.Frag) (ts:TGs):TG:=fun v σ H Q=>∃ a y ys,v=.ref a∧SqL K H a (y :: ys)∧∀ D,H D=none→ts [y,.ref D] σ (upd H D (.lst ys)) Q
theorem pg_star {t1 t2:Expr} {ts:TGs} {x1:Nat} {sp pos:Pos} (hc:X.calm=true) (h:PGs X [t1,t2] ts) (he:assignEach [t1,.Starred t2 sp] X.env=[(false,assign t1 X.env),(true,assign t2 X.env)]:=by rfl) (h2:(assignEach [t1,t2] X.env).map (·.2)=[assign t1 X.env,assign t2 X.env]:=by rfl) :
 PG X (.Tuple [t1,.Starred t2 sp] x1 pos) (gStar X.K ts):=by
 intro pins s σ H v u Q I rx hq
 obtain ⟨a,y,ys,rfl,hl,q⟩:=hq
 cases rx
 obtain ⟨us,r,pl,hz⟩:=I.list hl
 cases r with
 | cons ry rys =>
   rename_i uy uys
   have hlen:=rys.length
   simp only [List.length_cons] at hz
   show wpAny _ _ (do standAt pos; unpack (.ref a) (assignEach [t1,.Starred t2 sp] X.env)) _ _ _
   rw [he]
   refine wpAny_bind (wpAny_standAt ?_)
   unfold unpack
   refine wpAny_bind (wpAny_holding ?_)
   show wpAny _ _ (unpackItems (.ref a) 2 (some 1)) _ _ _
   refine unpack_star (I.ok.hd hc) pl.isList (by omega) fun h' tk k=>?_
   have I1:Inv X pins σ H { s with heap:=h',toks:=tk }:=I.kept k
   have I2:=I1.lnew (t':=tk) rys (by omega)
   have:=h pins _ σ _ [y,.ref h'.objs.size] [uy,.ref h'.objs.size] Q I2 (.cons ry (.cons rfl .nil)) (q _ I1.fresh)
   rw [h2] at this
   exact this
end
end L2
namespace L2
open PySem PySem.Spec PyProof.Rows
open AutoSeq1 (wpAny_loadPart')
section
variable {M:Model} {A:Around} {E:Value→Shared→Prop} {s:Shared} {env:Env}
theorem cw_tyK {pos:Pos} {T:String} {xs:List (Bool×Sem Value)} {kw:List (Option Str×Sem Value)} {Q:Value→Shared→Prop} (h1:xs.any (·.1)=false) (h2:kw.any (·.1.isNone)=false)
 (h:wpAny M A (evalArgs (.type T) true xs kw) (fun z s₁=>wpAny M A (call (.type T) ([]++z.pos) z.kw) Q E s₁) E s):wpAny M A (callWith pos (.type T) [] xs kw) Q E s:=by
 unfold callWith
 refine wpAny_bind (wpAny_holding (thn h fun z s₁ q=>wpAny_bind (wpAny_standAt ?_)))
 simp only [h1,h2,Bool.or_false]
 refine wpAny_bind (wpAny_pure ?_)
 exact wpAny_bind (thn q fun r s₂ hr=>wpAny_bind (wpAny_holding (wpAny_point (wpAny_pure hr))))
end
section
variable {prog:Program} {w:World} {A:Around} {E:Value→Shared→Prop} {s:Shared}
theorem ct_kw {T nw:String} {Bn:Builtin} {xs:List Value} {kw:List (Str×Value)} {S:PySem.Spec} {Q:Value→Shared→Prop} (ft:TypeCalled T nw "object.__init__")
 (hne:(some nw != some "object.__new__")=true) (hct:checkTypeCall T ⟨xs,kw⟩=pure ()) (hcn:checkBuiltinCall nw ⟨.type T :: xs,kw⟩=pure ())
 (hok:∀ obj,argsOk "object.__init__" ⟨obj :: xs,kw⟩) (entryN:entryFor table nw=some Bn) (g:Meets (Bn ⟨.type T :: xs,kw⟩) S) (gi:∀ obj,Meets (Builtin.«object.__init__» ⟨obj :: xs,kw⟩) (fun _ R s=>s.TypeIs obj T∧R (.ok (.ret .none)) s))
 (h:S A.in1 (wants (fun obj s₁=>s₁.TypeIs obj T∧Q obj s₁) E) s):wpAny (model prog w) A (call (.type T) xs kw) Q E s:=by
 obtain ⟨c,tl,hmro⟩:=ft.mro
 have hmade:=ft.made
 have hsub:=ft.sub
 refine wpAny_call (codeAny_of_tree ?_)
 show wpAny _ _ (callAny (.type T) _) _ _ _
 refine wpAny_pure ⟨Code.quiet_builtin _ (by decide +kernel),codeAny_builtin F.entry_type_call ?_⟩
 rw [Around.under_plain (weight_type_call_type T xs kw) (units_type_call_type T xs kw)]
 have z1:=ft.notType
 have z2:=ft.canCreate
 repeat (any_goals (first | assumption | wp_step))
 refine codeAny_mono (codeAny_call_builtin ft.plain entryN (wpAny_of_eq hcn (g prog w A.in1 _ s h))) fun r s₁ hr=>?_
 cases r with
 | error e=>exact hr
 | ok fl =>
   cases fl with
   | ret obj =>
     obtain ⟨hT,hq⟩:=hr
     have hli:=ft.init.lookup
     have hbi:=ft.init.bind obj
     repeat (any_goals (first | assumption | wp_step))
     refine codeAny_mono (codeAny_call_builtin ft.init.plain F.entry_object_init (ft.init.check _ _ _ _ _ _ _ _ hT (hok obj) (gi obj prog w A.in1 (wants (fun r s₂=>r=.none∧Q obj s₂) E) s₁ ⟨hT,rfl,hq⟩))) fun r₂ s₂ hr₂=>?_
     cases r₂ with
     | error e=>exact hr₂
     | ok fl₂ =>
       cases fl₂ with
       | ret r =>
         obtain ⟨rfl,hq⟩:=hr₂
         repeat (any_goals (first | assumption | wp_step))
       | _=>exact hr₂.elim
   | _=>exact hr.elim
abbrev enumObj1 (it:Addr):Obj:={ cls:=.type "enumerate",data:=.fields #[.none,.bool false,.ref it,rawInt 1,.none,.none] }
theorem meets_enum1 (k:SK) (a:Addr) (vs:Array Value) (o:Obj) (tk:Tok):Meets (Builtin.«enumerate.__new__» ⟨[.type "enumerate",.ref a],[("start",.int 1 tk)]⟩) (fun _ R s=>s.heap.get? a=some o∧k.Is s.heap a vs ∧
 R (.ok (.ret (.ref (s.heap.push (k.obj a)).objs.size))) { s with heap:=(s.heap.push (k.obj a)).push (enumObj1 s.heap.objs.size) }) :=
 .of_wp fun prog w A R s h=>by
  obtain ⟨hp,g,d,tk,os⟩:=s; obtain ⟨ho,hk,h⟩:=h
  have hsub:=sub_enumerate
  have r1:k.Is (Shared.heap ⟨hp,g,d,tk,os⟩) a vs:=hk
  have f1:=AutoSeq1.idx_int
  wp_walk using wpAny_loadPart' ho
  refine wpAny_stack_any fun st=>wpAny_pure ?_
  split
  · rename_i c _ _ _ _ _
    cases (c == Value.type "enumerate")
    · (wp_walk using wpAny_loadPart' ho,SK.iter r1); exact ⟨_,rfl,h⟩
    · (wp_walk using wpAny_loadPart' ho,SK.iter r1); exact ⟨_,rfl,h⟩
  · (wp_walk using wpAny_loadPart' ho,SK.iter r1); exact ⟨_,rfl,h⟩
theorem ty_enum1 (a:Value) (t:Tok):checkTypeCall "enumerate" ⟨[a],[("start",.int 1 t)]⟩=pure ():=by kernel_rfl
theorem nw_enum1 (a:Value) (t:Tok):checkBuiltinCall "enumerate.__new__" ⟨[.type "enumerate",a],[("start",.int 1 t)]⟩=pure ():=by kernel_rfl
theorem ini_enum1 {obj a:Value} {t:Tok}:Meets (Builtin.«object.__init__» ⟨[obj,a],[("start",.int 1 t)]⟩) (fun _ R s=>s.TypeIs obj "enumerate" ∧ R (.ok (.ret .none)) s):=by
 refine Meets.of_wp fun prog w A R s hs=>?_
 obtain ⟨hT,hq⟩:=hs
 have hl:=F.called_enumerate.init.lookup
 have hm:=F.called_enumerate.made
 have hne:(some "enumerate.__new__" != some "object.__new__")=true:=by decide
 repeat (any_goals (first | assumption | wp_step))
 exact ⟨_,rfl,hq⟩
theorem ini_args1 {obj a:Value} {t:Tok}:argsOk "object.__init__" ⟨[obj,a],[("start",.int 1 t)]⟩:=by
 unfold argsOk
 rw [signature?_of (o:=['t','c','e','j','b','o']) (n:=['_','_','t','i','n','i','_','_']) (id := "object.__init__") (by kernel_rfl) F.owner_object]
 kernel_rfl
theorem call_enum1 {k:SK} {a:Addr} {vs:Array Value} {t:Tok} {Q:Value→Shared→Prop} (ha:k.Is s.heap a vs)
 (q:∀ h1,IsEnum h1 (s.heap.objs.size+1) s.heap.objs.size 1 .none→k.It h1 s.heap.objs.size a 0→(∀ b o,s.heap.get? b=some o→h1.get? b=some o)→Q (.ref (s.heap.objs.size+1)) { s with heap:=h1 }) :
 wpAny (model prog w) A (call (.type "enumerate") [.ref a] [("start",.int 1 t)]) Q E s:=by
 obtain ⟨o,n,e,d⟩:=ha.ex
 refine ct_kw F.called_enumerate (by decide) (ty_enum1 _ _) (nw_enum1 _ _) (fun obj=>?_) F.entry_enumerate_new (meets_enum1 k a vs o t) (fun _=>ini_enum1) ⟨e,ha,?_⟩
 · exact ini_args1
 have n1:(s.heap.push (k.obj a)).objs.size=s.heap.objs.size+1:=Heap.size_push ..
 have m2:((s.heap.push (k.obj a)).push (enumObj1 s.heap.objs.size)).get? (s.heap.push (k.obj a)).objs.size=some (enumObj1 s.heap.objs.size):=Heap.get?_push_size _ rfl
 have m1:((s.heap.push (k.obj a)).push (enumObj1 s.heap.objs.size)).get? s.heap.objs.size=some (k.obj a):=Heap.get?_push_of_some _ (Heap.get?_push_size _ rfl)
 show _∧_
 rw [n1] at m2
 rw [n1]
 exact ⟨⟨_,m2,rfl⟩,q _ m2 (.of ⟨_,m1,rfl,rfl⟩) fun b o' r=>Heap.get?_push_of_some _ (Heap.get?_push_of_some _ r)⟩
end
theorem Draws.up1 {prog:Program} {w:World} {A:Around} {it:Addr} {fp:List Addr} {n:Nat} {P:Nat→Value→Prop} {St:Nat→Heap→Prop} (D:Draws prog w A it fp n P St):Draws prog w A it fp (n+1) (fun i v=>P (i - 1) v) (fun i h=>1≤i∧St (i - 1) h) where
 live:=fun i h st=>D.live _ h st.2
 frame:=fun i h h' st k=>⟨st.1,D.frame _ h h' st.2 k⟩
 item:=fun i s Q E hi st q=>D.item (i - 1) s Q E (by have:=st.1; omega) st.2 fun x h' tk p s' b=>q x h' tk p ⟨by omega,by rw [show i+1 - 1=i - 1+1 by have:=st.1; omega]; exact s'⟩ b
 done:=fun s Q E st q=>D.done s Q E st.2 q
def Ite1 (k:SK) (K:PySem.W.Frag) (a:Addr):It :=
 ⟨fun i H=>∃ xs x,k.Sq K H a xs∧xs[i]? = some x,
  fun i H v H'=>∃ p x,v=.ref p∧H p=none∧H'=upd H p (.tup [.int ((i+1:Nat):Int),x])∧∀ xs,k.Sq K H a xs→xs[i]? = some x,
  fun i H=>∃ xs,k.Sq K H a xs∧xs.length=i⟩
theorem turn_enum1 {P:Program} {w:World} {K:PySem.W.Frag} {es:List Expr} {x1:Nat} {tp:Pos} {k:SK} {e it a:Addr} (n1:e≠it) (n2:a≠e) (n3:a≠it) :
 Turn P w K (.Tuple es x1 tp) (Ite1 k K a) [e,it] e (fun n h=>(∃ old,IsEnum h e it ((n+1:Nat):Int) old)∧k.It h it a n) where
 mem:=by simp
 obj:=fun n h st b hb=>by
  obtain ⟨⟨old,h1⟩,h2⟩:=st
  simp only [List.mem_cons,List.not_mem_nil,or_false] at hb
  rcases hb with rfl | rfl
  · exact ⟨_,h1,fun v q=>by cases (show Data.fields _=Data.cell v from q)⟩
  · obtain ⟨u,e,_,q⟩:=h2.ex; exact ⟨u,e,fun v r=>by rw [q] at r; cases r⟩
 keep:=fun n h h' st f=>by
  obtain ⟨⟨old,h1⟩,h2⟩:=st
  exact ⟨⟨old,f e (by simp) _ h1⟩,h2.at fun u q=>f it (by simp) u q⟩
 item:=by
  intro X hP hw hK hc n pins s σ H E I hf st hg
  subst hP hw hK
  obtain ⟨⟨old,h1⟩,h2⟩:=st
  obtain ⟨xs,x,q1,hx⟩:=hg
  obtain ⟨us,ru,pu⟩:=q1.is I
  obtain ⟨u,hu,ux⟩:=ru.get hx
  have lt:∀ {b o'},s.heap.get? b=some o'→b≠s.heap.objs.size:=fun e=>Nat.ne_of_lt (Heap.lt_size e)
  have hlen:n < us.toArray.size:=by have:=(List.getElem?_eq_some_iff.mp hu).1; simpa using this
  refine wpAny_pyNext_enum_itemD (i:=n+1) (Draws.up1 (SK.draws (k:=k) (show X.A.in1.handled=none from I.ok.hd hc) it a n3 us.toArray)) h1 ⟨by omega,h2,pu⟩ (by omega) n1 (by simp [n1,n2.symm]) fun v g tk hv r1 r2 r3 r4 r5=>?_
  have ev:v=u:=by
   have:us[n]? = some v:=by simpa using hv
   rw [hu] at this; exact (Option.some.inj this).symm
  subst ev
  refine ⟨_,rfl,wpAny_letOwnedTupleGo_enum r1 fun g2 z2 s2=>?_⟩
  have hp:H s.heap.objs.size=none:=I.hok.fresh (Nat.le_refl _)
  have T2:g2.get? s.heap.objs.size=some { cls:=.type "tuple",data:=.seq #[.int ((n+1:Nat):Int) tk,v] }:=s2.extBut _ _ (Ne.symm (lt h1)) r3
  have I2:Inv X pins σ (upd H s.heap.objs.size (.tup [.int ((n+1:Nat):Int),x])) { s with heap:=g2,toks:=tk+1 }:=by
   refine I.turnNew (ch:=[e,it]) (fun b o' ne q=>?_) (fun b hb=>hf b hb) (Nat.le_refl _) ⟨by show 2≤sizeLine; decide,[.int ((n+1:Nat):Int) tk,v],.cons ⟨tk,rfl⟩ (.cons ux .nil),⟨_,T2,rfl,_,rfl⟩⟩
   simp only [List.mem_cons,List.not_mem_nil,or_false,not_or] at ne
   exact s2.extBut _ _ ne.1 (r5 b o' ne.1 ne.2 q)
  refine ⟨.ref s.heap.objs.size,_,I2,rfl,⟨_,x,rfl,hp,rfl,fun xs' q=>by rw [q.inj q1 I]; exact hx⟩,⟨⟨v,by simpa using z2⟩,r2.2.1.at fun u' q=>s2.extBut _ _ n1.symm q⟩,fun b hb=>?_⟩
  have ne:b≠s.heap.objs.size:=by
   simp only [List.mem_cons,List.not_mem_nil,or_false] at hb
   rcases hb with rfl | rfl
   · exact lt h1
   · obtain ⟨_,q,_⟩:=h2.ex; exact lt q
  rw [upd_ne ne]
  exact (hf b hb).1
 done:=by
  intro X hP hw hK hc n pins s σ H E I hf st hg
  subst hP hw hK
  obtain ⟨⟨old,h1⟩,h2⟩:=st
  obtain ⟨xs,q1,hl⟩:=hg
  obtain ⟨us,ru,pu⟩:=q1.is I
  have e1:=ru.length
  have en:us.toArray.size=n:=by rw [List.size_toArray]; omega
  subst en
  have D:=SK.draws (prog:=X.prog) (w:=X.w) (k:=k) (show X.A.in1.handled=none from I.ok.hd hc) it a n3 us.toArray
  refine wpAny_pyNext_enum_endD D h1 ⟨h2,pu⟩ fun g r=>⟨rfl,?_⟩
  exact I.turnOnly (t':=s.toks) (ch:=[it]) (fun b o' ne q=>r b o' (by simpa using ne) q) (fun b hb=>hf b (by simp at hb; simp [hb]))
 self:=fun _ _ _ _ _ st h=>by obtain ⟨⟨old,h1⟩,_⟩:=st; exact wpAny_pyIter_enum h1 h
section
variable {X:Cx} {es:List Expr} {x1:Nat} {tp:Pos}
def iEnum1 (k:SK) (K:PySem.W.Frag) (ta:TA):TI:=fun σ H R=>ta σ H fun vs H1=>∃ a,vs=[.ref a]∧(∃ xs,k.Sq K H1 a xs)∧R (Ite1 k K a) H1
theorem pi_enum1 (k:SK) {a:Expr} {ta:TA} {p pos kp cp:Pos} {j:Nat} (hg:Gl X "enumerate") (hm:X.mg "enumerate" = none) (ha:PA X [a] ta) (hs:starEach [a] X.env=[(false,eval a X.env)]:=by rfl) :
 PI X (.Tuple es x1 tp) (.Call (.Name "enumerate" p) [a] [⟨some "start",.Constant (.int 1) j cp,kp⟩] pos) (iEnum1 k X.K ta):=by
 intro pins s σ H R I h
 refine wpAny_Call_Name_kw (ld_blt I hg hm boot_enum' ?_)
 refine cw_tyK (by rw [hs]; rfl) rfl ?_
 rw [hs]
 refine evalArgs_kwB rfl ?_
 have h2:=ha pos pins s σ H _ I h
 rw [hs] at h2
 refine thn h2 fun us s1 ⟨vs,H1,I1,r1,q1⟩=>?_
 obtain ⟨a',e,⟨xs,hx⟩,q⟩:=q1
 subst e
 cases r1 with
 | cons r rr =>
   cases rr
   cases r
   refine kws_cons (pe_int pins s1 σ H1 (fun v H'=>v=.int 1∧H'=H1) I1 ⟨rfl,rfl⟩ |> fun z=>thn z fun v s2 ⟨x,H2,I2,rx,ex,eH⟩=>?_)
   subst ex; subst eH
   obtain ⟨t,rfl⟩:=rx
   refine kws_nil ?_
   obtain ⟨us,ru,pu⟩:=hx.is I2
   have la:a' < s2.heap.objs.size:=by obtain ⟨_,_,e,_⟩:=pu.ex; exact Heap.lt_size e
   refine call_enum1 pu fun h1 m1 m4 m7=>wpAny_pyIter_enum m1 ?_
   have I3:Inv X pins σ H2 { s2 with heap:=h1,toks:=s2.toks }:=I2.kept m7
   obtain ⟨z1,z2,z3⟩:=ne3 la
   refine ⟨_,_,_,_,H2,rfl,I3,turn_enum1 (e:=s2.heap.objs.size+1) (it:=s2.heap.objs.size) (k:=k) (a:=a') z1 z2 z3,⟨⟨_,m1⟩,m4⟩,?_,q⟩
   exact I2.fps (fp:=[s2.heap.objs.size+1,s2.heap.objs.size]) (by
    intro e he
    simp only [List.mem_cons,List.not_mem_nil,or_false] at he
    rcases he with rfl | rfl
    · exact Nat.le_succ _
    · exact Nat.le_refl _)
end
end L2
namespace L2
open PySem PySem.Spec PyProof.Rows
def wd (i:Int):Str:=Str.ofString (toString i)
def dg (n:Nat):List Nat:=(Nat.toDigits 10 n).map Char.toNat
theorem wd_nat (n:Nat):(wd (n:Int)).cps.toList=dg n:=PySem.W.KIN.signs_num n
theorem wd_neg (n:Nat) (h:0 < n):(wd (-(n:Int))).cps.toList=45 :: dg n:=by
 obtain ⟨m,rfl⟩:∃ m,n=m+1:=⟨n - 1,by omega⟩
 unfold wd
 rw [signs_ofString]
 show (("-" ++ Nat.repr (m+1):String)).toList.map Char.toNat=_
 rw [String.toList_append,List.map_append,Nat.toList_repr]
 rfl
theorem dg_ok:∀ n:Nat,n≤100→dg n≠[]∧(dg n).length≤3∧(dg n).all (fun c=>decide (48≤c) && decide (c≤57))=true∧(n≠0→(dg n).head?≠some 48):=by decide +kernel
theorem dg_0:dg 0=[48]:=by decide +kernel
theorem str_eq {x y:Str} (h:x.cps.toList=y.cps.toList):x=y:=Str.ext' (Array.toList_inj.mp h)
theorem len_eq (x:Str):x.length=x.cps.toList.length:=by simp [Str.length]
theorem sw1 (x:Str) (c:Nat):Txt.startswith x ⟨#[c]⟩=decide (x.cps.toList.head? = some c):=by
 unfold Txt.startswith
 rw [StrLaws.subAt_eq,len_eq]
 show (decide (0+1≤x.cps.toList.length) && ((x.cps.toList.drop 0).take 1 == [c]))=_
 cases x.cps.toList with
 | nil=>simp
 | cons a l =>
   rw [Bool.eq_iff_iff]
   simp
theorem rp1 (x:Str) (c:Nat):Txt.removeprefix x ⟨#[c]⟩=if x.cps.toList.head? = some c then ⟨x.cps.toList.tail.toArray⟩ else x:=by
 rw [StrLaws.removeprefix_eq]
 have h:=sw1 x c
 unfold Txt.startswith at h
 rw [h]
 by_cases e:x.cps.toList.head? = some c
 · rw [decide_eq_true e,if_pos rfl,if_pos e]
   refine Str.ext' ?_
   show (((x.cps.toList.drop 1).take (x.length - 1)).toArray)=_
   rw [List.take_of_length_le (by rw [List.length_drop,len_eq]; exact Nat.le_refl _),List.drop_one]
 · rw [decide_eq_false e,if_neg (by decide),if_neg e]
theorem app_inj {c:Nat}:∀ {x y a b:List Nat},c∉x→c∉y→x++c :: a=y++c :: b→x=y∧a=b
 | [],[],_,_,_,_,h=>⟨rfl,(List.cons.inj h).2⟩
 | [],y :: ys,_,_,_,hy,h=>absurd (List.cons.inj h).1 (fun z=>hy (z ▸ List.mem_cons_self))
 | x :: xs,[],_,_,hx,_,h=>absurd (List.cons.inj h).1.symm (fun z=>hx (z ▸ List.mem_cons_self))
 | x :: xs,y :: ys,_,_,hx,hy,h=>by
   obtain ⟨e1,e2⟩:=List.cons.inj h
   obtain ⟨e3,e4⟩:=app_inj (fun z=>hx (List.mem_cons_of_mem _ z)) (fun z=>hy (List.mem_cons_of_mem _ z)) e2
   exact ⟨by rw [e1,e3],e4⟩
theorem join_cons {c:Nat} (x y:Str) (r:List Str):(Str.join ⟨#[c]⟩ (x :: y :: r)).cps.toList=x.cps.toList++c :: (Str.join ⟨#[c]⟩ (y :: r)).cps.toList:=by
 show ((x++⟨#[c]⟩++Str.join ⟨#[c]⟩ (y :: r)).cps).toList=_
 rw [Str.cps_append,Str.cps_append]
 simp
theorem join_inj {c:Nat}:∀ {xs ys:List Str},xs≠[]→ys≠[]→(∀ x∈xs,c∉x.cps.toList)→(∀ y∈ys,c∉y.cps.toList)→(Str.join ⟨#[c]⟩ xs).cps.toList=(Str.join ⟨#[c]⟩ ys).cps.toList→xs=ys
 | [],_,h,_,_,_,_=>absurd rfl h
 | _,[],_,h,_,_,_=>absurd rfl h
 | [x],[y],_,_,_,_,e=>by rw [str_eq (x:=x) (y:=y) e]
 | [x],y :: y' :: r,_,_,hx,_,e=>by
   rw [join_cons] at e
   exact absurd (show c∈x.cps.toList by rw [show x.cps.toList=_ from e]; simp) (hx x (by simp))
 | x :: x' :: r,[y],_,_,_,hy,e=>by
   rw [join_cons] at e
   exact absurd (show c∈y.cps.toList by rw [show y.cps.toList=_ from e.symm]; simp) (hy y (by simp))
 | x :: x' :: r,y :: y' :: r',_,_,hx,hy,e=>by
   rw [join_cons,join_cons] at e
   obtain ⟨e1,e2⟩:=app_inj (hx x (by simp)) (hy y (by simp)) e
   rw [str_eq e1,join_inj (xs:=x' :: r) (ys:=y' :: r') (by simp) (by simp) (fun z h=>hx z (List.mem_cons_of_mem _ h)) (fun z h=>hy z (List.mem_cons_of_mem _ h)) e2]
theorem split_ne (x:Str) (c:Nat):Txt.split x ⟨#[c]⟩≠[]:=by
 unfold Txt.split
 split
 · simp
 · split
   · simp
   · rw [StrLaws.partsBetween_eq]
     unfold StrLaws.partsFrom
     split <;> simp
theorem split_join {c:Nat} {xs:List Str} (h0:xs≠[]) (h:∀ x∈xs,c∉x.cps.toList):Txt.split (Str.join ⟨#[c]⟩ xs) ⟨#[c]⟩=xs :=
 join_inj (split_ne _ _) h0 (StrLaws.split_free _ _) h (by rw [StrLaws.join_split])
theorem s_dash:Str.ofString "-" = ⟨#[45]⟩:=by decide +kernel
theorem s_nought:Str.ofString "0" = ⟨#[48]⟩:=by decide +kernel
theorem s_nl:Str.ofString "\n" = ⟨#[10]⟩:=by decide +kernel
theorem s_sp:Str.ofString " " = ⟨#[32]⟩:=by decide +kernel
theorem dg_mem {n:Nat} (h:n≤100):∀ c∈dg n,48≤c∧c≤57:=fun c hc=>by
 have:=List.all_eq_true.mp (dg_ok n h).2.2.1 c hc
 simpa using this
theorem wd_cases {i:Int} (h:i.natAbs≤100):(∃ n:Nat,n≤100∧i=n∧(wd i).cps.toList=dg n)∨(∃ n:Nat,0 < n∧n≤100∧i = -(n:Int)∧(wd i).cps.toList=45 :: dg n):=by
 by_cases h0:0≤i
 · obtain ⟨n,rfl⟩:=Int.eq_ofNat_of_zero_le h0
   exact .inl ⟨n,by omega,rfl,wd_nat n⟩
 · refine .inr ⟨i.natAbs,by omega,h,by omega,?_⟩
   have:i = -((i.natAbs:Nat):Int):=by omega
   rw [this,wd_neg _ (by omega)]
   simp
theorem wd_free {i:Int} (h:i.natAbs≤100) {c:Nat} (hc:c < 45):c∉(wd i).cps.toList:=by
 intro hm
 rcases wd_cases h with ⟨n,hn,_,e⟩ | ⟨n,_,hn,_,e⟩
 · rw [e] at hm; have:=dg_mem hn c hm; omega
 · rw [e] at hm
   rcases List.mem_cons.mp hm with e | hm
   · omega
   · have:=dg_mem hn c hm; omega
theorem wd_len {i:Int} (h:i.natAbs≤100):(wd i).length≤4:=by
 rw [len_eq]
 rcases wd_cases h with ⟨n,hn,_,e⟩ | ⟨n,_,hn,_,e⟩
 · rw [e]; have:=(dg_ok n hn).2.1; omega
 · rw [e]; have:=(dg_ok n hn).2.1; simp only [List.length_cons]; omega
theorem wd_len1 {n:Nat} (h:n≤100):1≤(wd n).length∧(wd n).length≤3:=by
 rw [len_eq,wd_nat]
 have:=dg_ok n h
 refine ⟨?_,this.2.1⟩
 cases e:dg n with
 | nil=>exact absurd e this.1
 | cons _ _=>simp
theorem wd_rp {i:Int} (h:i.natAbs≤100):Txt.removeprefix (wd i) (Str.ofString "-")=wd (i.natAbs:Nat):=by
 rw [s_dash,rp1]
 rcases wd_cases h with ⟨n,hn,rfl,e⟩ | ⟨n,h0,hn,rfl,e⟩
 · rw [e,if_neg]
   · rfl
   · intro z
     have:=dg_mem hn 45 (List.mem_of_mem_head? z)
     omega
 · rw [e,if_pos (show (45 :: dg n).head? = some 45 from rfl)]
   refine str_eq ?_
   rw [show (((-(n:Int)).natAbs:Nat):Int)=(n:Int) by omega,wd_nat]
   simp
theorem wd_dash {i:Int} (h:i.natAbs≤100):Txt.startswith (wd i) (Str.ofString "-")=decide (i < 0):=by
 rw [s_dash,sw1]
 rcases wd_cases h with ⟨n,hn,rfl,e⟩ | ⟨n,h0,hn,rfl,e⟩
 · rw [e,decide_eq_false (show ¬ (n:Int) < 0 by omega)]
   refine decide_eq_false fun z=>?_
   have:=dg_mem hn 45 (List.mem_of_mem_head? z)
   omega
 · rw [e,decide_eq_true (show -(n:Int) < 0 by omega)]
   rfl
theorem wd_sw0 {n:Nat} (h:n≤100):Txt.startswith (wd n) (Str.ofString "0")=decide (n=0):=by
 rw [s_nought,sw1,wd_nat]
 by_cases e:n=0
 · subst e; rw [dg_0]; rfl
 · rw [decide_eq_false e]
   exact decide_eq_false ((dg_ok n h).2.2.2 e)
theorem wd_0:wd 0=Str.ofString "0" := by
 rw [s_nought]
 refine str_eq ?_
 rw [show (0:Int)=((0:Nat):Int) from rfl,wd_nat,dg_0]
theorem wd_ascii {n:Nat} (h:n≤100):Txt.isascii (wd n)=true:=by
 unfold Txt.isascii
 rw [← Array.all_toList,wd_nat,List.all_eq_true]
 intro c hc
 have:=dg_mem h c hc
 exact decide_eq_true (by omega)
theorem dig_all:∀ c:Nat,c≤57→48≤c→Unicode.isDigit c=true:=by decide +kernel
theorem wd_digit {n:Nat} (h:n≤100):Txt.isdigit (wd n)=true:=by
 unfold Txt.isdigit
 rw [decide_eq_true (show (wd n).length > 0 from (wd_len1 h).1),Bool.true_and,← Array.all_toList,wd_nat,List.all_eq_true]
 intro c hc
 have:=dg_mem h c hc
 exact dig_all c this.2 this.1
theorem wd_int {n:Nat} (h:n≤100):intText? (wd n)=some (n:Int):=PySem.W.KIN.num_reads (by omega) (by omega)
theorem slice_all (x:Str):Txt.slice x none (some (x.length:Int))=x:=by
 have:=slice_closes_to (x:=x) (j:=(x.length:Int)) ⟨by omega,by rw [len_eq]; omega⟩
 rw [beq_iff_eq.mp this]
 refine str_eq ?_
 rw [len_eq]
 simp
 exact List.take_of_length_le (by simp)
def rwd (w:Str) (ns:List Int):Str:=Str.join ⟨#[32]⟩ (w :: ns.map wd)
theorem join_nl_eq (sep:Str) (xs:List Str):Txt.join sep xs=Str.join sep xs:=StrLaws.glued_eq_join sep xs
theorem rwd_split {w:Str} {ns:List Int} (hw:32∉w.cps.toList) (h:∀ i∈ns,i.natAbs≤100):Txt.split (rwd w ns) (Str.ofString " ")=w :: ns.map wd:=by
 rw [s_sp]
 refine split_join (by simp) fun x hx=>?_
 rcases List.mem_cons.mp hx with rfl | hx
 · exact hw
 · obtain ⟨i,hi,rfl⟩:=List.mem_map.mp hx
   exact wd_free (h i hi) (by decide)
theorem join_free {c d:Nat} (hcd:c≠d):∀ {xs:List Str},(∀ x∈xs,c∉x.cps.toList)→c∉(Str.join ⟨#[d]⟩ xs).cps.toList
 | [],_=>by simp [Str.join,Str.empty]
 | [x],h=>h x (by simp)
 | x :: y :: r,h=>by
   rw [join_cons]
   intro z
   rcases List.mem_append.mp z with z | z
   · exact h x (by simp) z
   · rcases List.mem_cons.mp z with z | z
     · exact hcd z
     · exact join_free hcd (fun x hx=>h x (List.mem_cons_of_mem _ hx)) z
theorem rwd_free {w:Str} {ns:List Int} (hw:10∉w.cps.toList) (h:∀ i∈ns,i.natAbs≤100):10∉(rwd w ns).cps.toList:=by
 refine join_free (by decide) fun x hx=>?_
 rcases List.mem_cons.mp hx with rfl | hx
 · exact hw
 · obtain ⟨i,hi,rfl⟩:=List.mem_map.mp hx
   exact wd_free (h i hi) (by decide)
theorem join_len {c:Nat} {m:Nat}:∀ {xs:List Str},(∀ x∈xs,x.length≤m)→(Str.join ⟨#[c]⟩ xs).length≤xs.length * (m+1)
 | [],_=>by simp [Str.join,Str.empty,Str.length]
 | [x],h=>by have:=h x (by simp); show x.length≤_; simp; omega
 | x :: y :: r,h=>by
   have h1:=h x (by simp)
   have h2:=join_len (c:=c) (m:=m) (xs:=y :: r) fun z hz=>h z (List.mem_cons_of_mem _ hz)
   rw [len_eq,join_cons,List.length_append,List.length_cons,← len_eq,← len_eq]
   simp only [List.length_cons,Nat.add_mul,Nat.one_mul] at h2 ⊢
   omega
theorem rwd_len {w:Str} {ns:List Int} (hw:w.length≤6) (h:∀ i∈ns,i.natAbs≤100):(rwd w ns).length≤(ns.length+1) * 7:=by
 have:=join_len (c:=32) (m:=6) (xs:=w :: ns.map wd) fun x hx=>by
  rcases List.mem_cons.mp hx with rfl | hx
  · exact hw
  · obtain ⟨i,hi,rfl⟩:=List.mem_map.mp hx
    have:=wd_len (h i hi); omega
 simpa [rwd] using this
end L2
set_option maxHeartbeats 4000000
namespace My
open PySem PySem.Spec PyProof.Rows L2
def top (i:Nat):Stmt:=PySem.Challenge.pw_platerest_k76_plates_as_texts.main.body.getD i (.Pass ⟨0,0,0,0⟩)
theorem bb_all:bootBuiltins "all" = some (.builtin "all"):=by decide +kernel
theorem bb_any:bootBuiltins "any" = some (.builtin "any"):=by decide +kernel
theorem bb_bool:bootBuiltins "bool" = some (.type "bool"):=by decide +kernel
theorem bb_int:bootBuiltins "int" = some (.type "int"):=by decide +kernel
theorem bb_isinstance:bootBuiltins "isinstance" = some (.builtin "isinstance"):=by decide +kernel
theorem bb_len:bootBuiltins "len" = some (.builtin "len"):=by decide +kernel
theorem bb_list:bootBuiltins "list" = some (.type "list"):=by decide +kernel
theorem bb_max:bootBuiltins "max" = some (.builtin "max"):=by decide +kernel
theorem bb_min:bootBuiltins "min" = some (.builtin "min"):=by decide +kernel
theorem bb_repr:bootBuiltins "repr" = some (.builtin "repr"):=by decide +kernel
theorem bb_set:bootBuiltins "set" = some (.type "set"):=by decide +kernel
theorem bb_sorted:bootBuiltins "sorted" = some (.builtin "sorted"):=by decide +kernel
theorem bb_str:bootBuiltins "str" = some (.type "str"):=by decide +kernel
theorem bb_tuple:bootBuiltins "tuple" = some (.type "tuple"):=by decide +kernel
structure Bt (mg:Str→Option Value):Prop where
 b_all:mg "all" = none
 b_any:mg "any" = none
 b_bool:mg "bool" = none
 b_enumerate:mg "enumerate" = none
 b_int:mg "int" = none
 b_isinstance:mg "isinstance" = none
 b_len:mg "len" = none
 b_list:mg "list" = none
 b_max:mg "max" = none
 b_min:mg "min" = none
 b_range:mg "range" = none
 b_repr:mg "repr" = none
 b_set:mg "set" = none
 b_sorted:mg "sorted" = none
 b_str:mg "str" = none
 b_tuple:mg "tuple" = none
 b_zip:mg "zip" = none
 n_AT_ONCE:∃ t,mg "AT_ONCE" = some (.int 60 t)
 n_FARTHEST:∃ t,mg "FARTHEST" = some (.int 100 t)
 n_FEWEST_CORNERS:∃ t,mg "FEWEST_CORNERS" = some (.int 3 t)
 n_MOST_CORNERS:∃ t,mg "MOST_CORNERS" = some (.int 30 t)
 n_MOST_PIECES:∃ t,mg "MOST_PIECES" = some (.int 40 t)
 n_MOST_STUFF:∃ t,mg "MOST_STUFF" = some (.int 9 t)
 n_THICKEST:∃ t,mg "THICKEST" = some (.int 9 t)
theorem lt8999 {a n:Nat} (h:a < 2 ^ 64) (hn:64≤n:=by decide):a < 2 ^ n:=Nat.lt_of_lt_of_le h (Nat.pow_le_pow_right (by decide) hn)
def sp_is_whole:Sp:=fun vs H Q _=>∃ a:Int,vs=[.int a]∧Q (.bl true) H
def StAt (H:Hp) (l:Addr):Prop:=∃ s0 s1 s2:Int,H l=some (.lst [.int s0,.int s1,.int s2])∧0≤s1∧s1 < 4294967296
theorem StAt.same {H H':Hp} {l:Addr} (s:StAt H l) (k:Same H H'):StAt H' l:=by
 obtain ⟨a,b,c,h,r⟩:=s
 exact ⟨a,b,c,k _ _ h,r⟩
theorem StAt.new {H:Hp} {l p:Addr} {o:HO} (s:StAt H l) (h:H p=none):StAt (upd H p o) l:=by
 obtain ⟨a,b,c,e,r⟩:=s
 exact ⟨a,b,c,by rw [upd_ne (ne_of_none e h)]; exact e,r⟩
theorem StAt.ne {H:Hp} {l p:Addr} (s:StAt H l) (h:H p=none):l≠p:=by
 obtain ⟨a,b,c,e,r⟩:=s
 exact ne_of_none e h
def sp_cell (K:PySem.W.Frag):Sp:=fun vs H Q _=>∃ (a:Addr) (ns:List Int) (k:Nat),vs=[.ref a,.int k]∧SqL K H a (ns.map V.int)∧∀ c:Int,Q (.int c) H
def sp_state (K:PySem.W.Frag):Sp:=fun vs H Q _=>∃ (a:Addr) (ns:List Int) (k:Nat),vs=[.ref a,.int k]∧SqL K H a (ns.map V.int) ∧
 ∀ (p:Addr) (H':Hp),H p=none→Same H H'→StAt H' p→Q (.ref p) H'
def sp_choice:Sp:=fun vs H Q _=>∃ (l:Addr) (m:Int),vs=[.ref l,.int m]∧StAt H l∧0 < m∧m.natAbs < 2 ^ 8999∧∀ (r:Int) (H':Hp),0≤r→r < m→Keep l H H'→StAt H' l→Q (.int r) H'
theorem mulS {a b:Int} (ha:a.natAbs < 2 ^ 64) (hb:b.natAbs < 2 ^ 64):CMulB a b:=⟨Nat.lt_of_lt_of_le ha (Nat.pow_le_pow_right (by decide) (by decide)),Nat.lt_of_lt_of_le hb (Nat.pow_le_pow_right (by decide) (by decide))⟩
theorem p64:(2:Nat) ^ 64=18446744073709551616:=by decide
theorem blT {p:Prop} [Decidable p] (h:p):V.bl (decide p)=V.bl true:=by rw [decide_eq_true h]
theorem qT {p:Prop} [Decidable p] (h:p) {Q:VK} {H:Hp} (q:Q (.bl true) H):Q (.bl (decide p)) H:=by rw [blT h]; exact q
theorem mul3 {a b:Int} (ha:a.natAbs≤1000) (hb:b.natAbs≤1000):CMulB a b:=⟨Nat.lt_of_le_of_lt ha (Nat.lt_of_lt_of_le (by decide:(1000:Nat) < 2 ^ 10) (Nat.pow_le_pow_right (by decide) (by decide))),Nat.lt_of_le_of_lt hb (Nat.lt_of_lt_of_le (by decide:(1000:Nat) < 2 ^ 10) (Nat.pow_le_pow_right (by decide) (by decide)))⟩
def sp_between:Sp:=fun vs H Q _=>∃ i lo hi:Int,vs=[.int i,.int lo,.int hi]∧lo≤i∧i≤hi∧Q (.bl true) H
def sp_row:Sp:=fun vs H Q _=>∃ (a:Addr) (us:List V) (lo hi:Int),vs=[.ref a,.int lo,.int hi]∧H a=some (.tup us)∧lo≤us.length∧(us.length:Int)≤hi∧Q (.bl true) H
def sp_risingI:Sp:=fun vs H Q _=>∃ (a:Addr) (ns:List Int),vs=[.ref a]∧H a=some (.tup (ns.map V.int))∧ns.length≤1000∧(∀ (i:Nat) (x y:Int),ns[i]? = some x→ns[i+1]? = some y→x < y)∧∀ H',Same H H'→Q (.bl true) H'
def sp_risingT:Sp:=fun vs H Q _=>∃ (a:Addr) (us:List V) (ks:List (List Int)),vs=[.ref a]∧H a=some (.tup us)∧Al (IsI H) us ks∧us.length≤1000∧(∀ (i:Nat) (x y:List Int),ks[i]? = some x→ks[i+1]? = some y→HT.lexLt x y=true)∧∀ H',Same H H'→Q (.bl true) H'
def sp_corner:Sp:=fun vs H Q _=>∃ (v:V) (p:Pnt),vs=[v]∧IsP H v p∧near p∧∀ H',Same H H'→Q (.bl true) H'
def sp_corners:Sp:=fun vs H Q _=>∃ (v:V) (cs:List Pnt),vs=[v]∧IsCs H v cs∧3≤cs.length∧cs.length≤30∧(∀ p∈cs,near p)∧cs.Nodup∧∀ H',Same H H'→Q (.bl true) H'
def sp_turn:Sp:=fun vs H Q _=>∃ (u v w:V) (a b c:Pnt),vs=[u,v,w]∧IsP H u a∧IsP H v b∧IsP H w c∧near a∧near b∧near c∧Q (.int (tn a b c)) H
theorem cut1 (xs:List V):cutV xs (some 1) none=xs.drop 1:=by
 unfold cutV
 have e1:HT.sIx xs.length xs.length none=xs.length:=rfl
 have e2:HT.sIx xs.length 0 (some 1)=min 1 xs.length:=by
  unfold HT.sIx
  simp
  try omega
 rw [e1,e2]
 cases xs with
 | nil=>rfl
 | cons x xs=>simp
theorem rep_flat {α:Type} (x:α):∀ n:Nat,(List.replicate n [x]).flatten=List.replicate n x
 | 0=>rfl
 | n+1=>by rw [List.replicate_succ,List.flatten_cons,rep_flat x n]; rfl
theorem allT (n:Nat):(List.replicate n true).all id=true:=by rw [List.all_replicate]; split <;> rfl
theorem repT {n i:Nat} (h:i < n):(List.replicate n true)[i]? = some true:=by rw [List.getElem?_replicate,if_pos h]
theorem lt_of_get {α:Type} {l:List α} {i:Nat} {x:α} (h:l[i]? = some x):i < l.length:=(List.getElem?_eq_some_iff.mp h).1
abbrev RB:Hp→V→Bool→Prop:=fun _ v b=>v=V.bl b
theorem hRB:∀ H1 H2 v x,Tk H1 H2→RB H1 v x→RB H2 v x:=fun _ _ _ _ _ e=>e
abbrev RI:Hp→V→Int→Prop:=fun _ v b=>v=V.int b
theorem hRI:∀ H1 H2 v x,Tk H1 H2→RI H1 v x→RI H2 v x:=fun _ _ _ _ _ e=>e
theorem hRP:∀ H1 H2 v x,Tk H1 H2→IsP H1 v x→IsP H2 v x:=fun _ _ _ _ t h=>h.tk t
theorem hRT:∀ H1 H2 v x,Tk H1 H2→IsT H1 v x→IsT H2 v x:=fun _ _ _ _ t h=>h.tk t
def sp_turnOf:Sp:=fun vs H Q _=>∃ (u v:V) (cs:List Pnt) (p:List Int),vs=[u,v]∧IsCs H u cs∧IsI H v p∧p.length=3∧(∀ i∈p,0≤i∧i≤(cs.length:Int) - 1)∧(∀ p∈cs,near p)∧Q (.int (dOf cs p)) H
def sp_isPiece:Sp:=fun vs H Q _=>∃ (u v:V) (cs:List Pnt) (p:List Int),vs=[u,v]∧IsCs H u cs∧IsI H v p∧PieceOk cs p∧(∀ p∈cs,near p)∧∀ H',Same H H'→Q (.bl true) H'
def sp_pieces:Sp:=fun vs H Q _=>∃ (u v:V) (cs:List Pnt) (ps:List (List Int)),vs=[u,v]∧IsCs H u cs∧IsPs H v ps∧1≤ps.length∧ps.length≤40∧(∀ p∈ps,PieceOk cs p)∧(∀ i:Nat,i+1 < ps.length→HT.lexLt (ps.getD i []) (ps.getD (i+1) [])=true)∧(∀ p∈cs,near p)∧∀ H',Same H H'→Q (.bl true) H'
def sp_thicks:Sp:=fun vs H Q _=>∃ (u v:V) (ps:List (List Int)) (ts:List Int),vs=[u,v]∧IsPs H u ps∧IsI H v ts∧ts.length=ps.length∧ps.length≤40∧(∀ t∈ts,1≤t∧t≤9)∧∀ H',Same H H'→Q (.bl true) H'
def sp_stuff:Sp:=fun vs H Q _=>∃ (v:V) (l m:Int),vs=[v]∧IsI H v [l,m]∧(0≤l∧l≤9)∧(1≤m∧m≤9)∧Q (.bl true) H
theorem at_cs {H:Hp} {cs:List Pnt} {us:List V} (A:Al (IsP H) us cs) {i:Int} (h0:0≤i) (h1:i≤(cs.length:Int) - 1):∃ v,atI us i=some v∧IsP H v (cAt cs i):=by
 obtain ⟨n,rfl⟩:∃ n:Nat,i=n:=⟨i.toNat,by omega⟩
 have hn:n < cs.length:=by omega
 obtain ⟨v,ev,r⟩:=A.got (List.getElem?_eq_getElem hn)
 refine ⟨v,atI_nat ev,?_⟩
 have:cAt cs (n:Int)=cs[n]:=by unfold cAt; simp [List.getD_eq_getElem?_getD,hn]
 rw [this]; exact r
theorem cAt_mem {cs:List Pnt} {i:Int} (h0:0≤i) (h1:i≤(cs.length:Int) - 1):cAt cs i∈cs:=by
 have hn:i.toNat < cs.length:=by omega
 unfold cAt
 rw [List.getD_eq_getElem?_getD,List.getElem?_eq_getElem hn]
 exact List.getElem_mem hn
def IsE (H:Hp) (v:V) (e:Pnt×Pnt):Prop:=∃ a x y,v=.ref a∧H a=some (.tup [x,y])∧IsP H x e.1∧IsP H y e.2
def sp_tri:Sp:=fun vs H Q _=>∃ (u v:V) (cs:List Pnt) (p:List Int),vs=[u,v]∧IsCs H u cs∧IsI H v p∧p.length=3∧(∀ i∈p,0≤i∧i≤(cs.length:Int) - 1)∧(∀ p∈cs,near p)∧∀ H' w,Same H H'→IsT H' w (trOf cs p)→Q w H'
def sp_edges:Sp:=fun vs H Q _=>∃ (v:V) (t:Tri),vs=[v]∧IsT H v t∧∀ H' w,Same H H'→IsTup' IsE H' w t.edges→Q w H'
def sp_liesIn:Sp:=fun vs H Q _=>∃ (u v:V) (p:Pnt) (t:Tri),vs=[u,v]∧IsP H u p∧IsT H v t∧near p∧t.near∧∀ H',Same H H'→Q (.bl (liesIn p t)) H'
def sp_partsFrom:Sp:=fun vs H Q _=>∃ (u v:V) (t r:Tri),vs=[u,v]∧IsT H u t∧IsT H v r∧t.near∧r.near∧∀ H',Same H H'→Q (.bl (partsFrom t r)) H'
def sp_apart:Sp:=fun vs H Q _=>∃ (u v:V) (t r:Tri),vs=[u,v]∧IsT H u t∧IsT H v r∧t.near∧r.near∧∀ H',Same H H'→Q (.bl (L2.apart t r)) H'
def sp_used:Sp:=fun vs H Q _=>∃ (u v:V) (cs:List Pnt) (ps:List (List Int)),vs=[u,v]∧IsCs H u cs∧IsPs H v ps∧(∀ p∈ps,p.length=3)∧ps.length≤40∧cntS ps.flatten=cs.length∧cs.length≤30∧∀ H',Same H H'→Q (.bl true) H'
def sp_strange:Sp:=fun vs H Q _=>∃ (u v w:V) (cs:List Pnt) (p:List Int) (t:Tri),vs=[u,v,w]∧IsCs H u cs∧IsI H v p∧IsT H w t∧cs.length≤30∧(∀ p∈cs,near p)∧t.near∧(∀ j:Nat,j < cs.length→(j:Int)∉p→liesIn (cs.getD j (0,0)) t=false)∧∀ H',Same H H'→Q (.bl true) H'
structure FitOk (cs:List Pnt) (ps:List (List Int)):Prop where
 c30:cs.length≤30
 nr:∀ p∈cs,near p
 p40:ps.length≤40
 pc:∀ p∈ps,PieceOk cs p
 strange:∀ p∈ps,∀ j:Nat,j < cs.length→(j:Int)∉p→liesIn (cs.getD j (0,0)) (trOf cs p)=false
 apart:∀ i j:Nat,i < j→j < ps.length→L2.apart (trOf cs (ps.getD j [])) (trOf cs (ps.getD i []))=true
def sp_fit:Sp:=fun vs H Q _=>∃ (u v:V) (cs:List Pnt) (ps:List (List Int)),vs=[u,v]∧IsCs H u cs∧IsPs H v ps∧FitOk cs ps∧∀ H',Same H H'→Q (.bl true) H'
def sp_isPlate:Sp:=fun vs H Q _=>∃ (v:V) (P:Pl),vs=[v]∧IsPl H v P∧PlOk P∧∀ H',Same H H'→Q (.bl true) H'
def sp_lookPlate:Sp:=fun vs H Q _=>∃ (v:V) (P:Pl),vs=[v]∧IsPl H v P∧PlOk P∧∀ H',Same H H'→Q .non H'
theorem trOf_near {cs:List Pnt} {p:List Int} (hb:∀ i∈p,0≤i∧i≤(cs.length:Int) - 1) (hl:p.length=3) (nr:∀ p∈cs,near p):(trOf cs p).near:=by
 match p,hl with
 | [a,b,c],_ =>
   have ha:=nr _ (cAt_mem (hb a (by simp)).1 (hb a (by simp)).2)
   have hb':=nr _ (cAt_mem (hb b (by simp)).1 (hb b (by simp)).2)
   have hc:=nr _ (cAt_mem (hb c (by simp)).1 (hb c (by simp)).2)
   show (tri (cAt cs a) (cAt cs b) (cAt cs c)).near
   unfold tri
   split
   · exact ⟨ha,hc,hb'⟩
   · exact ⟨ha,hb',hc⟩
theorem edge_near {t:Tri} (n:t.near) {e:Pnt×Pnt} (h:e∈t.edges):near e.1∧near e.2:=by
 obtain ⟨a,b,c⟩:=n
 simp only [Tri.edges,List.mem_cons,List.not_mem_nil,or_false] at h
 rcases h with rfl | rfl | rfl
 · exact ⟨a,b⟩
 · exact ⟨b,c⟩
 · exact ⟨c,a⟩
theorem pt_near {t:Tri} (n:t.near) {e:Pnt} (h:e∈t.pts):near e:=by
 obtain ⟨a,b,c⟩:=n
 simp only [Tri.pts,List.mem_cons,List.not_mem_nil,or_false] at h
 rcases h with rfl | rfl | rfl
 · exact a
 · exact b
 · exact c
theorem isT_al {H:Hp} {v:V} {t:Tri} (h:IsT H v t):∃ a vs,v=.ref a∧H a=some (.tup vs)∧vs.length=3∧Al (IsP H) vs t.pts:=by
 obtain ⟨a,x,y,z,rfl,ha,hx,hy,hz⟩:=h
 exact ⟨a,_,rfl,ha,rfl,.cons hx (.cons hy (.cons hz .nil))⟩
theorem cs3 {H:Hp} {us:List V} {cs:List Pnt} (al:Al (IsP H) us cs) {p:List Int} (hl:p.length=3) (bd:∀ i∈p,0≤i∧i≤(cs.length:Int) - 1) {vs:List V} (a2:Al (IsP H) vs (p.map (cAt cs))):∃ x y z,vs=[x,y,z]∧IsP H x (cAt cs (p.getD 0 0))∧IsP H y (cAt cs (p.getD 1 0))∧IsP H z (cAt cs (p.getD 2 0)):=by
 match p,hl with
 | [i,j,k],_ =>
   have:=a2.1
   match vs,this with
   | [x,y,z],_=>exact ⟨x,y,z,rfl,a2.2 0 x _ rfl rfl,a2.2 1 y _ rfl rfl,a2.2 2 z _ rfl rfl⟩
theorem cutTo (xs:List V) (i:Nat) (h:i≤xs.length):cutV xs none (some (i:Int))=xs.take i:=by
 unfold cutV
 rw [HT.sIx_none,HT.sIx_nat]
 simp [Nat.min_eq_left h]
theorem anyM {α:Type} {l:List α} {f:α→Bool} (h:∀ x∈l,f x=false):(l.map f).any id=false:=by
 rw [List.any_map]; exact List.any_eq_false.mpr fun x hx=>by simp [h x hx]
theorem prs {H:Hp} {vs:List V} {es:List (Pnt×Pnt)} (al:Al (IsE H) vs es):∀ (i:Nat) (w:V),vs[i]? = some w→∃ p x y,w=.ref p∧H p=some (.tup [x,y]):=fun i w e=>by
 obtain ⟨_,_,p,x,y,rfl,h,_⟩:=al.get e
 exact ⟨p,x,y,rfl,h⟩
theorem pr1 {H:Hp} {vs:List V} {es:List (Pnt×Pnt)} (al:Al (IsE H) vs es) {i:Nat} {p:Addr} {x y:V} (e:vs[i]? = some (.ref p)) (hp:H p=some (.tup [x,y])):∃ q,es[i]? = some q∧IsP H x q.1∧IsP H y q.2:=by
 obtain ⟨q,eq,p',x',y',e1,h,h1,h2⟩:=al.get e
 cases e1
 rw [hp] at h
 cases h
 exact ⟨q,eq,h1,h2⟩
theorem inV_ints (n:Int) (p:List Int):inV (V.int n) (p.map V.int)=decide (n∈p):=by
 unfold inV
 rw [List.any_map]
 induction p with
 | nil=>rfl
 | cons x p ih =>
   rw [List.any_cons,ih]
   by_cases h:n=x
   · subst h
     have:eqV (V.int n) (V.int n)=true:=by simp [eqV]
     simp [Function.comp,this]
   · have:eqV (V.int x) (V.int n)=false:=by simp [eqV]; exact fun z=>h z.symm
     simp [Function.comp,this,h]
theorem map_erase {α β:Type} (f:α→β):∀ (l:List α) (i:Nat),(l.map f).eraseIdx i=(l.eraseIdx i).map f
 | [],i=>by cases i <;> rfl
 | x :: l,0=>rfl
 | x :: l,i+1=>by simp only [List.map_cons,List.eraseIdx_cons_succ,map_erase f l i]
theorem erase_perm {α:Type}:∀ (l:List α) (i:Nat) (h:i < l.length),(l[i] :: l.eraseIdx i).Perm l
 | [],i,h=>by simp at h
 | x :: l,0,h=>.refl _
 | x :: l,i+1,h=>by
   simp only [List.eraseIdx_cons_succ,List.getElem_cons_succ]
   exact (List.Perm.swap x _ _).trans ((erase_perm l i (by simpa using h)).cons x)
theorem alset {α:Type} {R:V→α→Prop} {vs:List V} {xs:List α} {v:V} {x:α} (h:Al R vs xs) (j:Nat) (r:R v x):Al R (vs.set j v) (xs.set j x):=by
 refine ⟨by simp [h.1],fun i w y e1 e2=>?_⟩
 rw [List.getElem?_set] at e1 e2
 by_cases hi:j=i
 · subst hi
   rw [if_pos rfl] at e1 e2
   split at e1
   · split at e2
     · cases e1; cases e2; exact r
     · cases e2
   · cases e1
 · rw [if_neg hi] at e1 e2
   exact h.2 i w y e1 e2
theorem al_pick {S:V→List Int→Prop} {T:List Int→List Int→Prop}:∀ {vs:List V} {ps:List (List Int)},Al (fun v p=>∃ r,S v r∧T r p) vs ps→∃ kl:List (List Int),kl.length=ps.length∧Al S vs kl∧∀ i:Nat,i < ps.length→T (kl.getD i []) (ps.getD i [])
 | [],[],_=>⟨[],rfl,.nil,fun i hi=>by simp at hi⟩
 | [],p :: ps,h=>by have:=h.1; simp at this
 | v :: vs,[],h=>by have:=h.1; simp at this
 | v :: vs,p :: ps,h=>by
   obtain ⟨r,s,t⟩:=h.2 0 v p rfl rfl
   obtain ⟨kl,l,a,k⟩:=al_pick (vs:=vs) (ps:=ps) ⟨by have:=h.1; simpa using this,fun i w x e1 e2=>h.2 (i+1) w x (by simpa using e1) (by simpa using e2)⟩
   refine ⟨r :: kl,by simp [l],.cons s a,fun i hi=>?_⟩
   cases i with
   | zero=>exact t
   | succ i=>simpa using k i (by simpa using hi)
theorem ixN_lt {n:Nat} {k:Int} (h0:0≤k) (h1:k < n):ixN n k=some k.toNat:=by
 unfold ixN
 rw [if_pos h0,if_pos (by omega)]
theorem seqI {n:Nat} {k:Int} (h0:0≤k) (h1:k < n):seqIndex? k n=some k.toNat:=(ixN_seq (ixN_lt h0 h1)).1
theorem tkS {H H':Hp} {l:Addr} (k:Keep l H H') (s:StAt H l):Tk H H':=by
 obtain ⟨a,b,c,e,_⟩:=s
 exact Tk.of_keep k e
theorem StAt.neN {H:Hp} {l p:Addr} (s:StAt H l) (h:H p=none):p≠l:=fun z=>s.ne h z.symm
theorem lc_draw {J:It} {n:Nat} {l D:Addr} {g:TG} {te:TE} {σ0:L2.St} {H:Hp} {Q:VK} {α:Type} (R:Hp→V→α→Prop) (hR:∀ H1 H2 v x,Tk H1 H2→R H1 v x→R H2 v x) (hz:n≤1000) (ok:L2.St→Prop) (h0:ok σ0) (hD:H D=none) (hl:StAt H l)
 (hgo:∀ i H2,Keep l H H2→i < n→J.go i H2) (hstop:∀ H2,Keep l H H2→J.stop n H2)
 (hs:∀ i x σ2 H2 H3 (C:L2.St→V→Hp→Prop),i < n→Keep l H H2→StAt H2 l→J.yld i H2 x H3→ok σ2→(∀ σ4 y H5 z,ok σ4→Keep l H2 H5→StAt H5 l→R H5 y z→C σ4 y H5)→g x σ2 H3 fun σ4 H4=>te σ4 H4 (C σ4))
 (hd:∀ H2 vs ys,Keep l H H2→StAt H2 l→H2 D=some (.lst vs)→ys.length=n→Al (R H2) vs ys→Q (.ref D) H2):LcGo J g tYes te σ0 H D Q:=by
 have neD:D≠l:=hl.neN hD
 refine lc_gen (n:=n) (fun i σ H2=>Keep l H H2∧StAt H2 l∧ok σ∧∃ vs ys,ys.length=i∧H2 D=some (.lst vs)∧Al (R H2) vs ys) ⟨Keep.new hD,hl.new hD,h0,[],[],rfl,upd_same,.nil⟩ (fun i σ H2 hi p=>hgo i H2 p.1 hi) (fun σ H2 p=>hstop H2 p.1) (fun i x σ2 H2 H3 hi y p=>?_) (fun σ2 H2 p=>?_)
 · obtain ⟨s2,l2,o2,vs,ys,hy,e2,a2⟩:=p
   refine hs i x σ2 H2 H3 (fun σ4 y H6=>∃ ys,H6 D=some (.lst ys)∧ys.length < sizeLine∧∃ m',m' < n - i∧LcN n (fun i σ H2=>Keep l H H2∧StAt H2 l∧ok σ∧∃ vs ys,ys.length=i∧H2 D=some (.lst vs)∧Al (R H2) vs ys) (i+1) m' σ4 (upd H6 D (.lst (ys++[y])))) hi s2 l2 y o2 ?_
   intro σ4 v H5 z o4 s5 l5 rz
   have e5:H5 D=some (.lst vs):=s5 _ _ neD e2
   have tk:Tk H5 (upd H5 D (.lst (vs++[v]))):=Tk.upd_lst e5
   refine ⟨vs,e5,?_,n - (i+1),by omega,by omega,rfl,fun b o nb e=>?_,?_,o4,vs++[v],ys++[z],by simp [hy],upd_same,?_⟩
   · rw [a2.1,sizeLine_eq]; omega
   · rw [upd_ne (ne_of_none e hD)]; exact s5 _ _ nb (s2 _ _ nb e)
   · obtain ⟨a,b,c,e,r⟩:=l5
     exact ⟨a,b,c,by rw [upd_ne neD.symm]; exact e,r⟩
   · exact (a2.imp fun v x r=>hR _ _ v x tk (hR _ _ v x (tkS s5 l2) r)).snoc (hR _ _ _ _ tk rz)
 · obtain ⟨s2,l2,_,vs,ys,hy,e2,a2⟩:=p
   exact hd H2 vs ys s2 l2 e2 hy a2
def sp_order:Sp:=fun vs H Q _=>∃ (l:Addr) (n:Nat),vs=[.ref l,.int n]∧StAt H l∧n≤60∧∀ (H':Hp) (r:Addr) (o:List Int),Keep l H H'→StAt H' l→H r=none→H' r=some (.lst (o.map V.int))→o.Perm ((List.range n).map fun i:Nat=>(i:Int))→Q (.ref r) H'
def sp_shapes:Sp:=fun vs H Q _=>vs=[]∧∀ (H':Hp) (r:Addr) (us:List V),Same H H'→H r=none→H' r=some (.lst us)→Al (IsSh H') us shapes→Q (.ref r) H'
def sp_plate:Sp:=fun vs H Q _=>∃ l:Addr,vs=[.ref l,.int 8]∧StAt H l∧∀ (H':Hp) (v:V) (P:Pl),Keep l H H'→StAt H' l→IsPl H' v P→PlOk P→P.ps.length≤4→Q v H'
theorem shape_at {H:Hp} {us:List V} (al:Al (IsSh H) us shapes) {r:Int} (h0:0≤r) (h1:r < 8):∃ (v:V) (s:List Pnt×List (List Int)),atI us r=some v∧IsSh H v s∧s∈shapes:=by
 obtain ⟨k,rfl⟩:∃ k:Nat,r=k:=⟨r.toNat,by omega⟩
 have hk:k < shapes.length:=by show k < 8; omega
 obtain ⟨v,ev,rv⟩:=al.got (List.getElem?_eq_getElem hk)
 exact ⟨v,_,atI_nat ev,rv,List.getElem_mem hk⟩
theorem al_rep {α:Type} {R:V→α→Prop} {v:V} {x:α} (r:R v x):∀ n:Nat,Al R (List.replicate n v) (List.replicate n x)
 | 0=>.nil
 | n+1=>by rw [List.replicate_succ,List.replicate_succ]; exact .cons r (al_rep r n)
theorem mul4 {a b:Int} (ha:a.natAbs≤1000) (hb:b.natAbs≤1000):CMulB a b:=mul3 ha hb
theorem o_at {o:List Int} {n:Nat} (O:CoOrd n o) {i:Int} (h0:0≤i) (h1:i < n):atI (o.map V.int) i=some (.int (oAt o i)):=by
 obtain ⟨k,rfl⟩:∃ k:Nat,i=k:=⟨i.toNat,by omega⟩
 have hk:k < o.length:=by rw [O.len]; omega
 refine atI_nat ?_
 rw [List.getElem?_map,List.getElem?_eq_getElem hk]
 unfold oAt
 simp [List.getD_eq_getElem?_getD,hk]
theorem nat_near {p:Pnt} (h:p.1.natAbs≤6∧p.2.natAbs≤6):p.1.natAbs≤1000∧p.2.natAbs≤1000:=⟨by omega,by omega⟩
theorem q_tup {H:Hp} {vs:List V} {kl:List (List Int)} (al:Al (IsI H) vs kl) {q:List Nat} (hq:∀ i∈q,i < kl.length):Al (IsI H) (q.map fun i=>vs.getD i .non) (q.map fun i=>kl.getD i []):=by
 refine ⟨by simp,fun n v r e1 e2=>?_⟩
 rw [List.getElem?_map] at e1 e2
 obtain ⟨i,ei,rfl⟩:=Option.map_eq_some_iff.mp e1
 rw [ei] at e2
 cases e2
 have hi:=hq i (List.mem_of_getElem? ei)
 have hv:i < vs.length:=by rw [al.1]; exact hi
 have:=al.2 i vs[i] kl[i] (List.getElem?_eq_getElem hv) (List.getElem?_eq_getElem hi)
 show IsI H (vs.getD i .non) (kl.getD i [])
 rw [List.getD_eq_getElem?_getD,List.getD_eq_getElem?_getD,List.getElem?_eq_getElem hv,List.getElem?_eq_getElem hi]
 exact this
def dI (ns:List Int):PyData:=.tuple (ns.map .int)
def dP (p:Pnt):PyData:=dI [p.1,p.2]
def dPl (P:Pl):PyData:=.tuple [.tuple (P.cs.map dP),.tuple (P.ps.map dI),dI P.ts,dI [P.l,P.m]]
theorem dts_of {α:Type} {N:Addr→Prop} {H:Hp} {k:Nat} {R:V→α→Prop} {f:α→PyData}:∀ {vs:List V} {xs:List α},Al R vs xs→(∀ v x,x∈xs→R v x→Dt N H k v (f x))→Dts N H k vs (xs.map f)
 | [],[],_,_=>.nil
 | [],x :: xs,h,_=>by have:=h.1; simp at this
 | v :: vs,[],h,_=>by have:=h.1; simp at this
 | v :: vs,x :: xs,h,g=>.cons (g v x List.mem_cons_self (h.2 0 v x rfl rfl)) (dts_of ⟨by have:=h.1; simpa using this,fun i w y e1 e2=>h.2 (i+1) w y (by simpa using e1) (by simpa using e2)⟩ fun v x hx=>g v x (List.mem_cons_of_mem _ hx))
theorem depth_map {α:Type} {f:α→PyData} {c:Nat}:∀ {xs:List α},(∀ x∈xs,(f x).depth≤c)→PyData.depthAll (xs.map f)≤c
 | [],_=>Nat.zero_le _
 | x :: xs,h=>by
   have h1:=h x List.mem_cons_self
   have h2:=depth_map (xs:=xs) fun y hy=>h y (List.mem_cons_of_mem _ hy)
   simp only [List.map_cons,PyData.depthAll]
   omega
theorem nz_map {α:Type} {f:α→PyData} {c:Nat}:∀ {xs:List α},(∀ x∈xs,nz (f x)≤c)→nzAll (xs.map f)≤xs.length * (c+1)
 | [],_=>Nat.zero_le _
 | x :: xs,h=>by
   have h1:=h x List.mem_cons_self
   have h2:=nz_map (xs:=xs) fun y hy=>h y (List.mem_cons_of_mem _ hy)
   simp only [List.map_cons,nzAll,List.length_cons,Nat.add_mul,Nat.one_mul]
   omega
theorem dtInts {N:Addr→Prop} {H:Hp} {k:Nat} {v:V} {ns:List Int} (h:IsI H v ns) (hb:∀ i∈ns,i.natAbs < 2 ^ k):Dt N H k v (dI ns):=by
 obtain ⟨a,rfl,q⟩:=h
 exact .tup q (dts_of (Al.of_ints ns) fun v x hx e=>by cases e; exact .int (hb x hx))
theorem depthI (ns:List Int):(dI ns).depth≤1:=by
 have:=depth_map (f:=PyData.int) (c:=0) (xs:=ns) fun x _=>Nat.le_refl _
 simp only [dI,PyData.depth]; omega
theorem nzI (ns:List Int):nz (dI ns)≤1+ns.length * 2:=by
 have:=nz_map (f:=PyData.int) (c:=1) (xs:=ns) fun x _=>Nat.le_refl _
 simp only [dI,nz]; omega
theorem dtPl {N:Addr→Prop} {H:Hp} {k:Nat} {v:V} {P:Pl} (h:IsPl H v P) (ok:PlOk P) (hk:10≤k):Dt N H k v (dPl P):=by
 have up':∀ {i:Int},i.natAbs≤1000→i.natAbs < 2 ^ k:=fun {i} hi=>Nat.lt_of_le_of_lt hi (Nat.lt_of_lt_of_le (show 1000 < 2 ^ 10 by decide) (Nat.pow_le_pow_right (by decide) hk))
 obtain ⟨a,c,p,t,s,rfl,ha,⟨c',cv,rfl,hc,cal⟩,⟨p',pv,rfl,hp,pal⟩,ht,hs⟩:=h
 have c30:=ok.c30
 refine .tup ha (.cons (.tup hc (dts_of cal fun v x hx r=>dtInts r fun i hi=>?_)) (.cons (.tup hp (dts_of pal fun v x hx r=>dtInts r fun i hi=>?_)) (.cons (dtInts ht fun i hi=>?_) (.cons (dtInts hs fun i hi=>?_) .nil))))
 · obtain ⟨⟨n1,n2⟩,n3,n4⟩:=ok.nr x hx
   simp only [List.mem_cons,List.not_mem_nil,or_false] at hi
   rcases hi with rfl | rfl <;> exact up' (by omega)
 · have:=(ok.pc x hx).bd i hi
   exact up' (by omega)
 · have:=ok.t9 i hi
   exact up' (by omega)
 · have:=ok.l9
   have:=ok.m9
   simp only [List.mem_cons,List.not_mem_nil,or_false] at hi
   rcases hi with rfl | rfl <;> exact up' (by omega)
theorem depthPl (P:Pl):(dPl P).depth≤3:=by
 have h1:=depth_map (f:=dP) (c:=1) (xs:=P.cs) fun x _=>depthI _
 have h2:=depth_map (f:=dI) (c:=1) (xs:=P.ps) fun x _=>depthI _
 have h3:=depthI P.ts
 have h4:=depthI [P.l,P.m]
 simp only [dPl,PyData.depth,PyData.depthAll]
 omega
theorem nzPl {P:Pl} (ok:PlOk P):nz (dPl P)≤1000:=by
 have h1:=nz_map (f:=dP) (c:=5) (xs:=P.cs) fun x _=>nzI _
 have h2:=nz_map (f:=dI) (c:=7) (xs:=P.ps) fun x hx=>by have:=nzI x; have:=(ok.pc x hx).len; omega
 have h3:=nzI P.ts
 have h4:=nzI [P.l,P.m]
 have:=ok.c30
 have:=ok.p40
 have:=ok.t1
 simp only [dPl,nz,nzAll]
 simp only [List.length_cons,List.length_nil] at h4
 omega
def sp_numOf:Sp:=fun vs H Q _=>∃ n:Nat,vs=[.str (wd n)]∧n≤100∧Q (.int (n:Int)) H
def sp_wholeIn:Sp:=fun vs H Q _=>∃ i:Int,vs=[.str (wd i)]∧i.natAbs≤100∧Q (.int i) H
def sp_lookTx:Sp:=fun vs H Q _=>∃ z,vs=[.str z]∧Q .non H
theorem sz_str {x:Str} {n:Nat} (h:x.length≤n) (hn:n≤100000):x.length≤sizeLine:=by have e:=sizeLine_eq; omega
theorem lc_Z31 {k l:SK} {K:PySem.W.Frag} {a b D:Addr} {vs ws:List V} {te:TE} {u0 u1 u2 u3:Option V} {rest:L2.St} {H:Hp} {Q:VK} {α:Type} (R:Hp→V→α→Prop) (hR:∀ H1 H2 v x,Tk H1 H2→R H1 v x→R H2 v x) (ys:List α) (hn:ys.length=min vs.length ws.length) (hz:min vs.length ws.length≤1000) (hD:H D=none) (ha:k.At H a vs) (hb:l.At H b ws)
 (hp:∀ (i:Nat) (w:V),vs[i]? = some w→∃ p x y z,w=.ref p∧H p=some (.tup [x,y,z]))
 (hs:∀ (i:Nat) (p:Addr) (x y z w:V) (H2:Hp) (C:V→Hp→Prop),vs[i]? = some (.ref p)→H p=some (.tup [x,y,z])→ws[i]? = some w→Same H H2→(∀ y H5 z,Same H2 H5→ys[i]? = some z→R H5 y z→C y H5)→te (some w :: some x :: some y :: some z :: rest) H2 C)
 (hd:∀ H2 us,Same H H2→H2 D=some (.lst us)→Al (R H2) us ys→Q (.ref D) H2):LcGo (Itz k l K a b) (gTup K 2 (gCons (gTup K 3 (gCons (gName 1) (gCons (gName 2) (gCons (gName 3) gNil)))) (gCons (gName 0) gNil))) tYes te (u0 :: u1 :: u2 :: u3 :: rest) H D Q:=by
 refine lc_map R hR ys hn hz (fun σ=>∃ u u' u2 u3,σ=u :: u' :: u2 :: u3 :: rest) ⟨_,_,_,_,rfl⟩ hD (fun i H2 s hi=>?_) (fun H2 s=>?_) (fun i x σ2 H2 H3 C hi s y o c=>?_) hd
 · have h1:i < vs.length:=by omega
   have h2:i < ws.length:=by omega
   exact ⟨vs,ws,vs[i],ws[i],(ha.same s).sq,(hb.same s).sq,List.getElem?_eq_getElem h1,List.getElem?_eq_getElem h2⟩
 · exact ⟨vs,ws,(ha.same s).sq,(hb.same s).sq,by omega⟩
 · obtain ⟨u,u',u2,u3,rfl⟩:=o
   obtain ⟨p,v,w,rfl,hp',rfl,y1,y2⟩:=y
   have s3:Same H2 (upd H2 p (.tup [v,w])):=Same.new hp'
   have e1:=y1 vs (ha.same s).sq
   obtain ⟨p2,x,y,z,rfl,e2⟩:=hp i v e1
   refine ⟨p,[.ref p2,w],rfl,SqT.of upd_same,rfl,.ref p2,[w],rfl,p2,[x,y,z],rfl,SqT.of (s3 _ _ (s _ _ e2)),rfl,x,[y,z],rfl,y,[z],rfl,z,[],rfl,rfl,w,[],rfl,rfl,?_⟩
   exact hs i p2 x y z w _ (C (some w :: some x :: some y :: some z :: rest)) e1 e2 (y2 ws (hb.same s).sq) (s.trans s3) fun y H5 z s5 ez rz=>c _ y H5 z ⟨_,_,_,_,rfl⟩ (s3.trans s5) ez rz
def allR (P:Pl):List (Str×List Int):=(Str.ofString "stuff",[P.l,P.m]) :: (P.cs.map (fun p=>(Str.ofString "corner",[p.1,p.2]))++(P.ps.zip P.ts).map fun x=>(Str.ofString "piece",x.1++[x.2]))
def rowT (r:Str×List Int):Str:=rwd r.1 r.2
def rowsOf (P:Pl):List Str:=(allR P).map rowT
def txtOf (P:Pl):Str:=Str.join ⟨#[10]⟩ (rowsOf P)
theorem f_stuff:Str.ofString "stuff " = Str.ofString "stuff" ++ ⟨#[32]⟩:=by decide +kernel
theorem f_corner:Str.ofString "corner " = Str.ofString "corner" ++ ⟨#[32]⟩:=by decide +kernel
theorem f_piece:Str.ofString "piece " = Str.ofString "piece" ++ ⟨#[32]⟩:=by decide +kernel
theorem fs2 (w:Str) (a b:Int):Str.empty++(w++⟨#[32]⟩)++wd a++Str.ofString " " ++ wd b=rwd w [a,b]:=by
 rw [s_sp]
 refine str_eq ?_
 show _=(Str.join ⟨#[32]⟩ [w,wd a,wd b]).cps.toList
 rw [join_cons,join_cons]
 show ((Str.empty++(w++⟨#[32]⟩)++wd a++⟨#[32]⟩++wd b).cps).toList=_
 simp only [Str.cps_append,Str.empty,Str.join]
 simp
theorem fs4 (w:Str) (a b c e:Int):Str.empty++(w++⟨#[32]⟩)++wd a++Str.ofString " " ++ wd b++Str.ofString " " ++ wd c++Str.ofString " " ++ wd e=rwd w [a,b,c,e]:=by
 rw [s_sp]
 refine str_eq ?_
 show _=(Str.join ⟨#[32]⟩ [w,wd a,wd b,wd c,wd e]).cps.toList
 rw [join_cons,join_cons,join_cons,join_cons]
 show ((Str.empty++(w++⟨#[32]⟩)++wd a++⟨#[32]⟩++wd b++⟨#[32]⟩++wd c++⟨#[32]⟩++wd e).cps).toList=_
 simp only [Str.cps_append,Str.empty,Str.join]
 simp
theorem szA {a b:Str} {m n:Nat} (ha:a.length≤m) (hb:b.length≤n):(a++b).length≤m+n:=by rw [Str.length_append]; omega
theorem lg100 {i:Int} (h:i.natAbs≤100):i.natAbs.log2 < 1920:=Nat.lt_of_le_of_lt (Nat.log2_le_self _) (by omega)
def sp_plRows:Sp:=fun vs H Q _=>∃ v P',vs=[v]∧IsPl H v P'∧PlOk P'∧∀ H' r,Same H H'→H' r=some (.lst ((rowsOf P').map V.str))→H r=none→Q (.ref r) H'
def sp_plText:Sp:=fun vs H Q _=>∃ v P',vs=[v]∧IsPl H v P'∧PlOk P'∧∀ H',Same H H'→Q (.str (txtOf P')) H'
abbrev IsS (_:Hp) (v:V) (x:Str):Prop:=v=.str x
theorem hIsS:∀ H1 H2 v x,Tk H1 H2→IsS H1 v x→IsS H2 v x:=fun _ _ _ _ _ h=>h
theorem al_strs {H:Hp}:∀ {vs:List V} {xs:List Str},Al (IsS H) vs xs→vs=xs.map V.str
 | [],[],_=>rfl
 | [],x :: xs,h=>by have:=h.1; simp at this
 | v :: vs,[],h=>by have:=h.1; simp at this
 | v :: vs,x :: xs,h=>by rw [show v=V.str x from h.2 0 v x rfl rfl,al_strs (vs:=vs) (xs:=xs) ⟨by have:=h.1; simpa using this,fun i w y e1 e2=>h.2 (i+1) w y (by simpa using e1) (by simpa using e2)⟩]; rfl
structure Bd (P:Pl):Prop where
 l:P.l.natAbs≤100
 m:P.m.natAbs≤100
 c:∀ p∈P.cs,p.1.natAbs≤100∧p.2.natAbs≤100
 p:∀ p∈P.ps,p.length=3∧∀ i∈p,i.natAbs≤100
 t:∀ t∈P.ts,t.natAbs≤100
theorem PlOk.bd {P:Pl} (ok:PlOk P):Bd P:=⟨by have:=ok.l9; omega,by have:=ok.m9; omega,fun p hp=>by obtain ⟨⟨a,b⟩,c,d⟩:=ok.nr p hp; exact ⟨by omega,by omega⟩,fun p hp=>⟨(ok.pc p hp).len,fun i hi=>by have:=(ok.pc p hp).bd i hi; have:=ok.c30; omega⟩,fun t ht=>by have:=ok.t9 t ht; omega⟩
theorem allR_bd {P:Pl} (b:Bd P):∀ r∈allR P,r.2.length≤4∧(∀ i∈r.2,i.natAbs≤100)∧(r.1=Str.ofString "stuff" ∨ r.1=Str.ofString "corner" ∨ r.1=Str.ofString "piece"):=by
 intro r hr
 rcases List.mem_cons.mp hr with rfl | hr
 · refine ⟨by simp,fun i hi=>?_,.inl rfl⟩
   simp only [List.mem_cons,List.not_mem_nil,or_false] at hi
   rcases hi with rfl | rfl
   · exact b.l
   · exact b.m
 · rcases List.mem_append.mp hr with hr | hr
   · obtain ⟨p,hp,rfl⟩:=List.mem_map.mp hr
     refine ⟨by simp,fun i hi=>?_,.inr (.inl rfl)⟩
     simp only [List.mem_cons,List.not_mem_nil,or_false] at hi
     rcases hi with rfl | rfl
     · exact (b.c p hp).1
     · exact (b.c p hp).2
   · obtain ⟨⟨p,t⟩,hp,rfl⟩:=List.mem_map.mp hr
     have h1:=List.of_mem_zip hp
     refine ⟨by simp [(b.p p h1.1).1],fun i hi=>?_,.inr (.inr rfl)⟩
     rcases List.mem_append.mp hi with hi | hi
     · exact (b.p p h1.1).2 i hi
     · rw [List.mem_singleton.mp hi]; exact b.t t h1.2
theorem w_ok {w:Str} (h:w=Str.ofString "stuff" ∨ w=Str.ofString "corner" ∨ w=Str.ofString "piece"):w.length≤6∧32∉w.cps.toList∧10∉w.cps.toList:=by
 rcases h with rfl | rfl | rfl <;> decide +kernel
theorem row_len {P:Pl} (b:Bd P):∀ x∈rowsOf P,x.length≤35:=by
 intro x hx
 obtain ⟨r,hr,rfl⟩:=List.mem_map.mp hx
 obtain ⟨h1,h2,h3⟩:=allR_bd b r hr
 have:=rwd_len (w:=r.1) (ns:=r.2) (w_ok h3).1 h2
 unfold rowT
 omega
theorem rows_len {P:Pl} (ok:PlOk P):(rowsOf P).length=1+P.cs.length+P.ps.length:=by
 have:=ok.t1
 simp [rowsOf,allR,this]; omega
abbrev kS:Str:=Str.ofString "stuff"
abbrev kC:Str:=Str.ofString "corner"
abbrev kP:Str:=Str.ofString "piece"
theorem nSC:kS≠kC:=by decide +kernel
theorem nSP:kS≠kP:=by decide +kernel
theorem nCP:kC≠kP:=by decide +kernel
def IsCsL (H:Hp) (v:V) (cs:List Pnt):Prop:=∃ a us,v=.ref a∧H a=some (.lst us)∧Al (IsP H) us cs
def sp_turnOfL:Sp:=fun vs H Q _=>∃ (u v:V) (cs:List Pnt) (p:List Int),vs=[u,v]∧IsCsL H u cs∧IsI H v p∧p.length=3∧(∀ i∈p,0≤i∧i≤(cs.length:Int) - 1)∧(∀ p∈cs,near p)∧Q (.int (dOf cs p)) H
def sp_isPieceL:Sp:=fun vs H Q _=>∃ (u v:V) (cs:List Pnt) (p:List Int),vs=[u,v]∧IsCsL H u cs∧IsI H v p∧PieceOk cs p∧(∀ p∈cs,near p)∧∀ H',Same H H'→Q (.bl true) H'
structure Fnd (H:Hp) (F a b c:Addr) (sv cv pv:List V):Prop where
 d:H F=some (.dK [(.inr kS,.ref a),(.inr kC,.ref b),(.inr kP,.ref c)])
 a:H a=some (.lst sv)
 b:H b=some (.lst cv)
 c:H c=some (.lst pv)
theorem Fnd.same {H H':Hp} {F a b c:Addr} {sv cv pv:List V} (h:Fnd H F a b c sv cv pv) (s:Same H H'):Fnd H' F a b c sv cv pv:=⟨s _ _ h.d,s _ _ h.a,s _ _ h.b,s _ _ h.c⟩
theorem gS {H:Hp} {F a b c:Addr} {sv cv pv:List V} (h:Fnd H F a b c sv cv pv):DGet H F (.str kS) (some (.ref a)):=.inl ⟨_,.inr kS,.inl h.d,rfl,by simp [valV]⟩
theorem gC {H:Hp} {F a b c:Addr} {sv cv pv:List V} (h:Fnd H F a b c sv cv pv):DGet H F (.str kC) (some (.ref b)):=.inl ⟨_,.inr kC,.inl h.d,rfl,by
 have e:decide ((Sum.inr kS:Key)=.inr kC)=false:=decide_eq_false fun z=>nSC (Sum.inr.inj z)
 simp [valV,List.find?,e,nSC]⟩
theorem gP {H:Hp} {F a b c:Addr} {sv cv pv:List V} (h:Fnd H F a b c sv cv pv):DGet H F (.str kP) (some (.ref c)):=.inl ⟨_,.inr kP,.inl h.d,rfl,by simp [valV,List.find?,nSP,nCP]⟩
def LessL (R:List (List Int)) (p:List Int):Prop:=∀ r,R[R.length - 1]? = some r→R≠[]→HT.lexLt (r.take 3) p=true
def sp_mayP:Sp:=fun vs H Q _=>∃ (F a b c:Addr) (sv cv pv:List V) (v:V) (cs:List Pnt) (R:List (List Int)) (p:List Int) (t:Int),vs=[.ref F,v]∧Fnd H F a b c sv cv pv∧Al (IsP H) cv cs∧Al (IsI H) pv R∧IsI H v (p++[t])∧(∀ r∈R,r.length=4)∧R.length < 40∧LessL R p∧PieceOk cs p∧(∀ p∈cs,near p)∧1≤t∧t≤9∧∀ H',Same H H'→Q (.bl true) H'
inductive May (H:Hp):Addr→Str→V→Prop
 | st {F a b c:Addr} {cv pv:List V} {v:V} {l m:Int} (h:Fnd H F a b c [] cv pv) (hv:IsI H v [l,m]) (h1:0≤l∧l≤9) (h2:1≤m∧m≤9):May H F kS v
 | co {F a b c:Addr} {s:V} {cv:List V} {v:V} {p:Pnt} (h:Fnd H F a b c [s] cv []) (hv:IsP H v p) (hn:near p) (hl:cv.length < 30):May H F kC v
 | pi {F a b c:Addr} {sv cv pv:List V} {v:V} {cs:List Pnt} {R:List (List Int)} {p:List Int} {t:Int} (h:Fnd H F a b c sv cv pv) (h1:Al (IsP H) cv cs) (h2:Al (IsI H) pv R) (hv:IsI H v (p++[t])) (r4:∀ r∈R,r.length=4) (r40:R.length < 40) (ll:LessL R p) (pk:PieceOk cs p) (nr:∀ p∈cs,near p) (t1:1≤t) (t9:t≤9):May H F kP v
def sp_follow:Sp:=fun vs H Q _=>∃ (F:Addr) (w:Str) (v:V),vs=[.ref F,.str w,v]∧May H F w v∧∀ H',Same H H'→Q (.bl true) H'
def sp_readPl:Sp:=fun vs H Q _=>∃ P',vs=[.str (txtOf P')]∧PlOk P'∧∀ H' r,Same H H'→IsPl H' r P'→Q r H'
def R4 (P:Pl):List (List Int):=(P.ps.zip P.ts).map fun x=>x.1++[x.2]
structure Got (P:Pl) (n:Nat) (H:Hp) (F a b c:Addr) (sv cv pv:List V):Prop where
 f:Fnd H F a b c sv cv pv
 s:Al (IsI H) sv ([[P.l,P.m]].take n)
 c:Al (IsP H) cv (P.cs.take (n - 1))
 p:Al (IsI H) pv ((R4 P).take (n - 1 - P.cs.length))
theorem R4_len {P:Pl} (ok:PlOk P):(R4 P).length=P.ps.length:=by have:=ok.t1; simp [R4]; omega
theorem R4_at {P:Pl} (ok:PlOk P) {k:Nat} (hk:k < P.ps.length):∃ p t,P.ps[k]? = some p∧P.ts[k]? = some t∧(R4 P)[k]? = some (p++[t]):=by
 have ht:=ok.t1
 refine ⟨P.ps[k],P.ts[k]'(by omega),List.getElem?_eq_getElem hk,List.getElem?_eq_getElem (by omega),?_⟩
 unfold R4
 rw [List.getElem?_map,(List.getElem?_zip_eq_some (z:=(P.ps[k],P.ts[k]'(by omega)))).mpr ⟨List.getElem?_eq_getElem hk,List.getElem?_eq_getElem (by omega)⟩]
 rfl
theorem allR_at {P:Pl} (ok:PlOk P) {n:Nat} {r:Str×List Int} (h:(allR P)[n]? = some r):(n=0∧r=(kS,[P.l,P.m]))∨(∃ k p,n=k+1∧P.cs[k]? = some p∧r=(kC,[p.1,p.2]))∨∃ k p t,n=1+P.cs.length+k∧k < P.ps.length∧P.ps[k]? = some p∧P.ts[k]? = some t∧r=(kP,p++[t]):=by
 cases n with
 | zero=>exact .inl ⟨rfl,(Option.some.inj h).symm⟩
 | succ k =>
   have h':((P.cs.map fun p=>(kC,[p.1,p.2]))++(P.ps.zip P.ts).map fun x=>(kP,x.1++[x.2]))[k]? = some r:=h
   by_cases hk:k < P.cs.length
   · rw [List.getElem?_append_left (by simpa using hk),List.getElem?_map] at h'
     obtain ⟨p,ep,e⟩:=Option.map_eq_some_iff.mp h'
     exact .inr (.inl ⟨k,p,rfl,ep,e.symm⟩)
   · rw [List.getElem?_append_right (by simpa using hk),List.getElem?_map,List.length_map] at h'
     obtain ⟨⟨p,t⟩,ep,e⟩:=Option.map_eq_some_iff.mp h'
     obtain ⟨e1,e2⟩:=List.getElem?_zip_eq_some.mp ep
     have:=(List.getElem?_eq_some_iff.mp e1).1
     exact .inr (.inr ⟨k - P.cs.length,p,t,by omega,this,e1,e2,e.symm⟩)
theorem al_snoc {α:Type} {R:V→α→Prop} {vs:List V} {xs:List α} {n:Nat} {v:V} {x:α} (h:Al R vs (xs.take n)) (ex:xs[n]? = some x) (r:R v x):Al R (vs++[v]) (xs.take (n+1)):=by
 have hn:=(List.getElem?_eq_some_iff.mp ex).1
 rw [List.take_succ_eq_append_getElem hn,(List.getElem?_eq_some_iff.mp ex).2]
 exact h.snoc r
theorem got_step {P:Pl} (ok:PlOk P) {n:Nat} {H:Hp} {F a b c:Addr} {sv cv pv:List V} (g:Got P n H F a b c sv cv pv) (ab:a≠b) (ac:a≠c) (bc:b≠c) {r:Str×List Int} (er:(allR P)[n]? = some r) {v:V} (hv:IsI H v r.2) :
 May H F r.1 v∧∃ l xs,DGet H F (.str r.1) (some (.ref l))∧H l=some (.lst xs)∧xs.length≤100∧(l=a∨l=b∨l=c)∧∃ sv' cv' pv',Got P (n+1) (upd H l (.lst (xs++[v]))) F a b c sv' cv' pv':=by
 have Fa:F≠a:=ne_of g.f.d g.f.a (by intro z; cases z)
 have Fb:F≠b:=ne_of g.f.d g.f.b (by intro z; cases z)
 have Fc:F≠c:=ne_of g.f.d g.f.c (by intro z; cases z)
 have c30:=ok.c30; have p40:=ok.p40; have r4l:=R4_len ok
 have sl:=g.s.1; have cl:=g.c.1; have pl:=g.p.1
 simp only [List.length_take] at sl cl pl
 rcases allR_at ok er with ⟨rfl,rfl⟩ | ⟨k,p,rfl,ep,rfl⟩ | ⟨k,p,t,rfl,hk,ep,et,rfl⟩
 · have e0:sv=[]:=List.eq_nil_of_length_eq_zero (by simpa using sl)
   subst e0
   refine ⟨.st g.f hv ok.l9 ok.m9,a,[],gS g.f,g.f.a,by simp,.inl rfl,[v],cv,pv,⟨by rw [upd_ne Fa]; exact g.f.d,upd_same,by rw [upd_ne ab.symm]; exact g.f.b,by rw [upd_ne ac.symm]; exact g.f.c⟩,?_,?_,?_⟩
   · exact .cons (hv.tk (Tk.upd_lst g.f.a)) .nil
   · exact g.c.imp fun v x r=>r.tk (Tk.upd_lst g.f.a)
   · have:=g.p; simp only [Nat.zero_sub,List.take_zero] at this
     rw [show (0+1 - 1 - P.cs.length)=0 by omega,List.take_zero]
     exact this.imp fun v x r=>r.tk (Tk.upd_lst g.f.a)
 · have hk:=(List.getElem?_eq_some_iff.mp ep).1
   have h1:sv.length=1:=by simpa using sl
   obtain ⟨s0,rfl⟩:∃ s0,sv=[s0]:=by
    match sv,h1 with
    | [s0],_=>exact ⟨s0,rfl⟩
   have e0:pv=[]:=List.eq_nil_of_length_eq_zero (by rw [pl]; omega)
   subst e0
   have tk:Tk H (upd H b (.lst (cv++[v]))):=Tk.upd_lst g.f.b
   refine ⟨.co (p:=p) g.f hv (ok.nr p (List.mem_of_getElem? ep)) (by rw [cl]; omega),b,cv,gC g.f,g.f.b,by rw [cl]; omega,.inr (.inl rfl),[s0],cv++[v],[],⟨by rw [upd_ne Fb]; exact g.f.d,by rw [upd_ne ab]; exact g.f.a,upd_same,by rw [upd_ne bc.symm]; exact g.f.c⟩,?_,?_,?_⟩
   · have:=g.s
     rw [List.take_of_length_le (by simp)] at this
     rw [List.take_of_length_le (by simp)]
     exact this.imp fun v x r=>r.tk tk
   · exact al_snoc (g.c.imp fun v x r=>r.tk tk) ep (IsI.tk tk hv)
   · rw [show k+1+1 - 1 - P.cs.length=0 by omega]; exact .nil
 · have tk:Tk H (upd H c (.lst (pv++[v]))):=Tk.upd_lst g.f.c
   have ek:1+P.cs.length+k - 1 - P.cs.length=k:=by omega
   have gp:=g.p
   have gc:=g.c
   rw [ek] at gp pl
   rw [List.take_of_length_le (by omega)] at gc
   obtain ⟨p',t',ep',et',e4⟩:=R4_at ok hk
   rw [ep] at ep'; rw [et] at et'
   cases ep'; cases et'
   have h9:=ok.t9 t (List.mem_of_getElem? et)
   refine ⟨.pi (p:=p) (t:=t) g.f gc gp hv (fun r hr=>?_) (by rw [List.length_take]; omega) ?_ (ok.pc p (List.mem_of_getElem? ep)) ok.nr h9.1 h9.2,c,pv,gP g.f,g.f.c,by rw [pl]; omega,.inr (.inr rfl),sv,cv,pv++[v],⟨by rw [upd_ne Fc]; exact g.f.d,by rw [upd_ne ac]; exact g.f.a,by rw [upd_ne bc]; exact g.f.b,upd_same⟩,?_,?_,?_⟩
   · obtain ⟨x,hx,rfl⟩:=List.mem_map.mp (List.mem_of_mem_take hr)
     have:=(ok.pc x.1 (List.of_mem_zip hx).1).len
     simp [this]
   · intro r er' _
     have hl:((R4 P).take k).length=k:=by rw [List.length_take]; omega
     rw [hl] at er'
     have k1:1≤k:=by
      cases k with
      | zero=>simp at er'
      | succ k=>omega
     rw [List.getElem?_take_of_lt (by omega)] at er'
     obtain ⟨p2,t2,ep2,_,e42⟩:=R4_at ok (show k - 1 < P.ps.length by omega)
     rw [e42] at er'
     cases er'
     have h3:=(ok.pc p2 (List.mem_of_getElem? ep2)).len
     rw [List.take_append_of_le_length (by omega),List.take_of_length_le (by omega)]
     have rs:=ok.rise (k - 1) (by omega)
     rw [show k - 1+1=k by omega,List.getD_eq_getElem?_getD,List.getD_eq_getElem?_getD,ep2,ep] at rs
     exact rs
   · have:=g.s
     rw [List.take_of_length_le (by show 1≤_; omega)] at this
     rw [List.take_of_length_le (by show 1≤_; omega)]
     exact this.imp fun v x r=>r.tk tk
   · rw [List.take_of_length_le (by omega)]
     exact gc.imp fun v x r=>r.tk tk
   · rw [show 1+P.cs.length+k+1 - 1 - P.cs.length=k+1 by omega]
     exact al_snoc (gp.imp fun v x r=>r.tk tk) e4 (hv.tk tk)
theorem merge3 (a b c:Addr):mergeK [] [((.inr kS:Key),V.ref a),(.inr kC,.ref b),(.inr kP,.ref c)]=[(.inr kS,.ref a),(.inr kC,.ref b),(.inr kP,.ref c)]:=by
 simp [mergeK,putK,nSC,nSP,nCP]
theorem rows_nl {P:Pl} (b:Bd P):Txt.split (txtOf P) (Str.ofString "\n")=rowsOf P:=by
 rw [s_nl]
 refine split_join (by simp [rowsOf,allR]) fun x hx=>?_
 obtain ⟨r,hr,rfl⟩:=List.mem_map.mp hx
 obtain ⟨h1,h2,h3⟩:=allR_bd b r hr
 exact rwd_free (w_ok h3).2.2 h2
theorem txt_len {P:Pl} (ok:PlOk P):(txtOf P).length≤3000:=by
 have h1:=join_len (c:=10) (m:=35) (xs:=rowsOf P) (row_len (PlOk.bd ok))
 rw [rows_len ok] at h1
 have c30:=ok.c30; have p40:=ok.p40
 have:(1+P.cs.length+P.ps.length) * (35+1)≤71 * 36:=Nat.mul_le_mul (by omega) (Nat.le_refl _)
 unfold txtOf
 omega
theorem al_app {α:Type} {R:V→α→Prop} {vs ws:List V} {xs ys:List α} (a:Al R vs xs) (b:Al R ws ys):Al R (vs++ws) (xs++ys):=⟨by rw [List.length_append,List.length_append,a.1,b.1],fun i v x e1 e2=>by
 by_cases h:i < vs.length
 · rw [List.getElem?_append_left h] at e1
   rw [List.getElem?_append_left (by rw [← a.1]; exact h)] at e2
   exact a.2 i v x e1 e2
 · rw [List.getElem?_append_right (by omega)] at e1
   rw [List.getElem?_append_right (by rw [← a.1]; omega),← a.1] at e2
   exact b.2 _ v x e1 e2⟩
theorem fs2' (w:Str) (a b:Int):(w++⟨#[32]⟩)++wd a++Str.ofString " " ++ wd b=rwd w [a,b]:=by
 rw [← fs2,Str.empty_append]
theorem sz2 {a b:Str} {m:Nat} (h:(a++b).length≤m) (hm:m≤1000):a.length+b.length≤sizeLine:=by
 rw [Str.length_append] at h
 have:=sizeLine_eq
 omega
theorem join_w {p:List Int}:Txt.join (Str.ofString " ") ((Str.ofString "piece") :: p.map wd)=rwd kP p:=by
 rw [join_nl_eq,s_sp]; rfl
def sp_grid:Sp:=fun vs H Q _=>∃ (l:Addr) (w h:Nat),vs=[.ref l,.int (w:Int),.int (h:Int)]∧StAt H l∧1≤w∧w≤4∧1≤h∧h≤3∧∀ H' v P',Keep l H H'→StAt H' l→IsPl H' v P'→PlOk P'→Q v H'
def gPs (w n:Nat):List Pnt:=(List.range (n * (w+1))).map (gPt w)
theorem gPs_succ (w n:Nat):gPs w (n+1)=gPs w n++(List.range (w+1)).map fun (x:Nat)=>((7 * (x:Int),9 * (n:Int)):Pnt):=by
 unfold gPs
 rw [Nat.add_mul,Nat.one_mul,List.range_add,List.map_append,List.map_map]
 congr 1
 refine List.map_congr_left fun x hx=>?_
 have hx':=List.mem_range.mp hx
 show gPt w (n * (w+1)+x)=_
 unfold gPt
 rw [Nat.mul_comm n (w+1),Nat.mul_add_mod,Nat.mod_eq_of_lt hx',Nat.mul_add_div (by omega),Nat.div_eq_of_lt hx',Nat.add_zero]
def gU (w:Nat) (f:Nat→Nat) (k:Nat):List (List Int):=(List.range (2 * k)).map (gG w f)
theorem gU_succ {w:Nat} {f f':Nat→Nat} {k:Nat} (e:∀ i,i < k→f' i=f i):gU w f' (k+1)=gU w f k++[gPc w k (f' k) 0,gPc w k (f' k) 1]:=by
 unfold gU
 rw [show 2 * (k+1)=2 * k+2 by omega,List.range_add,List.map_append,List.map_map]
 congr 1
 · refine List.map_congr_left fun i hi=>?_
   have:=List.mem_range.mp hi
   unfold gG
   rw [e _ (by omega)]
 · show [gG w f' (2 * k+0),gG w f' (2 * k+1)]=_
   unfold gG
   rw [show (2 * k+0) / 2=k by omega,show (2 * k+1) / 2=k by omega,show (2 * k+0) % 2=0 by omega,show (2 * k+1) % 2=1 by omega]
theorem gPc_at {w n m:Nat} (hm:m < w) (way half:Nat):gPc w (n * w+m) way half=(let a:Nat:=n * (w+1)+m
 if way=0 then (if half=0 then [(a:Int),(a:Int)+1,(a:Int)+w+1] else [(a:Int)+1,(a:Int)+w+1,(a:Int)+w+2]) else (if half=0 then [(a:Int),(a:Int)+1,(a:Int)+w+2] else [(a:Int),(a:Int)+w+1,(a:Int)+w+2])):=by
 unfold gPc
 have h1:(n * w+m) / w=n:=by rw [Nat.mul_comm n w,Nat.mul_add_div (by omega),Nat.div_eq_of_lt hm,Nat.add_zero]
 have h2:(n * w+m) % w=m:=by rw [Nat.mul_comm n w,Nat.mul_add_mod,Nat.mod_eq_of_lt hm]
 rw [h1,h2]
 dsimp only
 split <;> split <;> simp
def oneP:Pl:=⟨[(0,0),(2,0),(0,-3)],[[0,1,2]],[4],0,1⟩
theorem one_ok:PlOk oneP:=by
 refine ⟨by decide,by decide,fun p hp=>?_,by decide,by decide,by decide,fun p hp=>?_,fun i hi=>?_,by decide,by decide,by decide,by decide,by decide +kernel,fun p hp j hj nm=>?_,fun i j hij hj=>?_⟩
 · simp only [oneP,List.mem_cons,List.not_mem_nil,or_false] at hp
   rcases hp with rfl | rfl | rfl <;> exact ⟨⟨by decide,by decide⟩,by decide,by decide⟩
 · have:p=[0,1,2]:=by simpa [oneP] using hp
   subst this
   exact ⟨rfl,by decide,by decide,by decide⟩
 · exact absurd hi (by simp [oneP])
 · have:p=[0,1,2]:=by simpa [oneP] using hp
   subst this
   have hj3:j < 3:=hj
   match j,hj3,nm with
   | 0,_,nm=>exact absurd nm (by decide)
   | 1,_,nm=>exact absurd nm (by decide)
   | 2,_,nm=>exact absurd nm (by decide)
 · have:j < 1:=hj
   omega
theorem one_txt:txtOf oneP=Str.ofString "stuff 0 1\ncorner 0 0\ncorner 2 0\ncorner 0 -3\npiece 0 1 2 4" := by decide +kernel
abbrev NF:Addr→Prop:=fun _=>False
def sp_law (K:PySem.W.Frag):Sp:=fun vs H Q _=>∃ (a:Addr) (ns:List Int),vs=[.ref a]∧SqL K H a (ns.map V.int)∧ns.length≤63∧∀ H',Q (.bl true) H'
theorem joinOk_rows {P:Pl} (ok:PlOk P):JoinOk (Str.ofString "\n") (rowsOf P)=true:=by
 have hl:=rows_len ok
 have c30:=ok.c30; have p40:=ok.p40
 unfold JoinOk
 rw [Bool.not_eq_true']
 refine StrLaws.joinFits (row_len (PlOk.bd ok)) ?_
 rw [hl,show (Str.ofString "\n").length=1 by decide +kernel]
 omega
section
variable {P:Program} {w:World} {K:PySem.W.Frag} {mg:Str→Option Value} {base:Heap} {f:Addr} {fd:FuncData} (T:Bt mg)
include T
abbrev s_is_whole:Stmt:=top 5
theorem ok_is_whole (F:Fun K "is_whole" "is_whole" s_is_whole f fd):FnOk P w K mg base CX0 1 f fd ["thing"] sp_is_whole:=by
 have sc:FnScope ["thing"] ["thing"] (defScope s_is_whole):=fsc (by decide +kernel)
 refine F.ok sc (fun vs H Q E h=>?_) (fun cdv A outer s H vs Q E hr h=>?_)
 · obtain ⟨a,rfl,_⟩:=h
   rfl
 · obtain ⟨a,rfl,q⟩:=h
   have nd:=sc.nd
   have hu:=hu_of hr
   have hu1:=Nat.lt_of_succ_lt hu
   refine' ⟨_,?term,?read⟩
   case term =>
    refine' @L2.pss_one _ _ _ ?g1
    case g1 =>
     refine' @L2.ps_ret _ _ _ _ ?g2
     case g2 =>
      refine' @L2.pe_and _ _ _ _ _ _ _ (pe_callB call_isi rfl T.b_isinstance bb_isinstance (pa_cons (pv 0) (pa_cons (pe_bltn (v:=.ty "int") rfl T.b_int bb_int rfl) pa_nil rfl) rfl)) ?g3
      case g3 =>
       refine' @L2.pe_one _ _ _ _ _ ?g4
       case g4 =>
        refine' @L2.pe_not _ _ _ _ (pe_callB call_isi rfl T.b_isinstance bb_isinstance (pa_cons (pv 0) (pa_cons (pe_bltn (v:=.ty "bool") rfl T.b_bool bb_bool rfl) pa_nil rfl) rfl))
   case read =>
    refine ⟨_,rfl,_,_,_,_,rfl,TyOf.int a,rfl,true,rfl,iteT ?_⟩
    refine ⟨_,rfl,_,_,_,_,rfl,TyOf.int a,rfl,false,rfl,q⟩
abbrev s_is_between:Stmt:=top 13
theorem ok_is_between (F:Fun K "is_between" "is_between" s_is_between f fd) (C_is_whole:Cal P w K mg base "is_whole" 1 ["thing"] sp_is_whole):FnOk P w K mg base CX0 2 f fd ["thing","least","most"] sp_between:=by
 have sc:FnScope ["thing","least","most"] ["thing","least","most"] (defScope s_is_between):=fsc (by decide +kernel)
 refine F.ok sc (fun vs H Q E h=>?_) (fun cdv A outer s H vs Q E hr h=>?_)
 · obtain ⟨i,lo,hi,rfl,_⟩:=h
   rfl
 · obtain ⟨i,lo,hi,rfl,h1,h2,q⟩:=h
   have nd:=sc.nd
   have hu:=hu_of hr
   have hu1:=Nat.lt_of_succ_lt hu
   refine' ⟨_,?term,?read⟩
   case term =>
    refine' @L2.pss_one _ _ _ ?g1
    case g1 =>
     refine' @L2.ps_ret _ _ _ _ ?g2
     case g2 =>
      refine' @L2.pe_and _ _ _ _ _ _ _ (pe_cal C_is_whole hr (by decide) rfl (pa_cons (pv 0) pa_nil rfl)) ?g3
      case g3 =>
       refine' @L2.pe_one _ _ _ _ _ ?g4
       case g4 =>
        refine' @L2.pe_chain _ _ _ _ _ _ _ _ _ _ _ _ op_le op_le (pv 1) (pv 0) (pv 2) (by with_unfolding_all rfl)
   case read =>
    refine ⟨_,rfl,i,rfl,true,rfl,iteT ?_⟩
    refine ⟨_,rfl,_,rfl,_,_,rfl,rfl,true,blT h1,iteT ?_⟩
    exact ⟨_,rfl,_,_,rfl,rfl,qT h2 q⟩
abbrev s_is_row:Stmt:=top 14
theorem ok_is_row (F:Fun K "is_row" "is_row" s_is_row f fd):FnOk P w K mg base CX0 1 f fd ["thing","fewest","most"] sp_row:=by
 have sc:FnScope ["thing","fewest","most"] ["thing","fewest","most"] (defScope s_is_row):=fsc (by decide +kernel)
 refine F.ok sc (fun vs H Q E h=>?_) (fun cdv A outer s H vs Q E hr h=>?_)
 · obtain ⟨a,us,lo,hi,rfl,_⟩:=h
   rfl
 · obtain ⟨a,us,lo,hi,rfl,ha,h1,h2,q⟩:=h
   have nd:=sc.nd
   have hu:=hu_of hr
   have hu1:=Nat.lt_of_succ_lt hu
   refine' ⟨_,?term,?read⟩
   case term =>
    refine' @L2.pss_one _ _ _ ?g1
    case g1 =>
     refine' @L2.ps_ret _ _ _ _ ?g2
     case g2 =>
      refine' @L2.pe_and _ _ _ _ _ _ _ (pe_callB call_isi rfl T.b_isinstance bb_isinstance (pa_cons (pv 0) (pa_cons (pe_bltn (v:=.ty "tuple") rfl T.b_tuple bb_tuple rfl) pa_nil rfl) rfl)) ?g3
      case g3 =>
       refine' @L2.pe_one _ _ _ _ _ ?g4
       case g4 =>
        refine' @L2.pe_chain _ _ _ _ _ _ _ _ _ _ _ _ op_le op_le (pv 1) (pe_callB call_len_seq rfl T.b_len bb_len (pa_cons (pv 0) pa_nil rfl)) (pv 2) (by with_unfolding_all rfl)
   case read =>
    refine ⟨_,rfl,_,_,_,_,rfl,TyOf.tup ha,rfl,true,rfl,iteT ?_⟩
    refine ⟨_,rfl,_,rfl,a,_,rfl,.inr (SqT.of ha),_,_,rfl,rfl,true,blT h1,iteT ?_⟩
    exact ⟨_,rfl,_,_,rfl,rfl,qT h2 q⟩
abbrev s_are_risingI:Stmt:=top 15
theorem ok_are_risingI (F:Fun K "are_rising" "are_rising" s_are_risingI f fd):FnOk P w K mg base CX0 1 f fd ["things"] sp_risingI:=by
 have sc:FnScope ["things"] ["things"] (defScope s_are_risingI):=fsc (by decide +kernel)
 refine F.ok sc (fun vs H Q E h=>?_) (fun cdv A outer s H vs Q E hr h=>?_)
 · obtain ⟨a,ns,rfl,_⟩:=h
   rfl
 · obtain ⟨a,ns,rfl,ha,hz,hr',q⟩:=h
   have nd:=sc.nd
   have hu:=hu_of hr
   have hu1:=Nat.lt_of_succ_lt hu
   refine' ⟨_,?term,?read⟩
   case term =>
    refine' @L2.pss_one _ _ _ ?g1
    case g1 =>
     refine' @L2.ps_ret _ _ _ _ ?g2
     case g2 =>
      refine' @L2.pe_callB _ _ _ _ _ _ _ _ _ (call_allB rfl) rfl T.b_all bb_all ?g3 (by decide) (by decide) (by rfl) (by rfl)
      case g3 =>
       refine' @L2.pa_cons _ _ _ _ _ ?g4 pa_nil rfl
       case g4 =>
        refine' @L2.pe_lc _ _ _ _ _ _ _ (["one","other"]) ([none,none]) _ _ ((gTup K 2 (gCons (gName 0) (gCons (gName 1) gNil)))) _ _ rfl (lcs_plain (by decide) rfl (by decide) rfl rfl) ?g5 (fun _ _ _ _=>(pg_tup (n:=2) rfl (pgs_cons (pg_name (i:=0) (show List.Nodup (["one","other"]:List Str) by decide) rfl (Or.inl rfl) (Or.inr rfl)) (pgs_cons (pg_name (i:=1) (show List.Nodup (["one","other"]:List Str) by decide) rfl (Or.inl rfl) (Or.inr rfl)) pgs_nil)))) (fun _ _ _ _=>pifs_nil) (fun _ _ _ _=>(pe_cmpR op_lt (pv 0) (pv 1) (nomark _))) (by intro _ ; rfl)
        case g5 =>
         refine' @L2.pi_zip _ _ _ _ .t .t _ _ _ _ _ rfl T.b_zip ?g6 (by rfl) (by rfl)
         case g6 =>
          refine' @L2.pa_cons _ _ _ _ _ (pv 0) ?g7 rfl
          case g7 =>
           refine' @L2.pa_cons _ _ _ _ _ ?g8 pa_nil rfl
           case g8 =>
            refine' @L2.pe_slice _ _ _ _ _ _ _ _ _ _ sl_tupU (pv 0) (po_some pe_int) po_none
   case read =>
    refine ⟨_,rfl,_,rfl,_,rfl,a,_,rfl,ha,fun p H1 s1 h1=>?_⟩
    rw [cut1] at h1
    refine ⟨a,p,rfl,⟨_,SqT.of (s1 _ _ ha)⟩,⟨_,SqT.of h1⟩,fun D nD=>?_⟩
    refine lc_Z (k:=.t) (l:=.t) (vs:=ns.map V.int) (ws:=(ns.map V.int).drop 1) (fun _ v b=>v=V.bl b) (fun _ _ _ _ _ e=>e) (List.replicate (ns.length - 1) true) (by simp) (by simp; omega) nD (s1 _ _ ha) h1 (fun i v w H2 C hv hw s2 c=>?_) (fun H2 us s2 e2 a2=>?_)
    · rw [List.getElem?_drop,List.getElem?_map,Nat.add_comm] at hw
      rw [List.getElem?_map] at hv
      obtain ⟨x,ex,rfl⟩:=Option.map_eq_some_iff.mp hv
      obtain ⟨y,ey,rfl⟩:=Option.map_eq_some_iff.mp hw
      refine ⟨_,rfl,_,rfl,_,_,rfl,rfl,qT (hr' i x y ex ey) (c _ _ true (Same.refl _) ?_ rfl)⟩
      have:i+1 < ns.length:=(List.getElem?_eq_some_iff.mp ey).1
      rw [List.getElem?_replicate,if_pos (by omega)]
    · rw [a2.bls] at e2
      refine ⟨D,List.replicate (ns.length - 1) true,rfl,SqL.of e2,?_⟩
      rw [List.all_replicate]
      split <;> exact q _ (s1.trans s2)
abbrev s_are_risingT:Stmt:=top 15
theorem ok_are_risingT (F:Fun K "are_rising" "are_rising" s_are_risingT f fd):FnOk P w K mg base CX0 1 f fd ["things"] sp_risingT:=by
 have sc:FnScope ["things"] ["things"] (defScope s_are_risingT):=fsc (by decide +kernel)
 refine F.ok sc (fun vs H Q E h=>?_) (fun cdv A outer s H vs Q E hr h=>?_)
 · obtain ⟨a,us,ks,rfl,_⟩:=h
   rfl
 · obtain ⟨a,us,ks,rfl,ha,al,hz,hr',q⟩:=h
   have nd:=sc.nd
   have hu:=hu_of hr
   have hu1:=Nat.lt_of_succ_lt hu
   refine' ⟨_,?term,?read⟩
   case term =>
    refine' @L2.pss_one _ _ _ ?g1
    case g1 =>
     refine' @L2.ps_ret _ _ _ _ ?g2
     case g2 =>
      refine' @L2.pe_callB _ _ _ _ _ _ _ _ _ (call_allB rfl) rfl T.b_all bb_all ?g3 (by decide) (by decide) (by rfl) (by rfl)
      case g3 =>
       refine' @L2.pa_cons _ _ _ _ _ ?g4 pa_nil rfl
       case g4 =>
        refine' @L2.pe_lc _ _ _ _ _ _ _ (["one","other"]) ([none,none]) _ _ ((gTup K 2 (gCons (gName 0) (gCons (gName 1) gNil)))) _ _ rfl (lcs_plain (by decide) rfl (by decide) rfl rfl) ?g5 (fun _ _ _ _=>(pg_tup (n:=2) rfl (pgs_cons (pg_name (i:=0) (show List.Nodup (["one","other"]:List Str) by decide) rfl (Or.inl rfl) (Or.inr rfl)) (pgs_cons (pg_name (i:=1) (show List.Nodup (["one","other"]:List Str) by decide) rfl (Or.inl rfl) (Or.inr rfl)) pgs_nil)))) (fun _ _ _ _=>pifs_nil) (fun _ _ _ _=>(pe_cmpR (show OpR _ (compareOp .Lt) (rLtT K) from op_ltT hu1) (pv 0) (pv 1) (nomark _))) (by intro _ ; rfl)
        case g5 =>
         refine' @L2.pi_zip _ _ _ _ .t .t _ _ _ _ _ rfl T.b_zip ?g6 (by rfl) (by rfl)
         case g6 =>
          refine' @L2.pa_cons _ _ _ _ _ (pv 0) ?g7 rfl
          case g7 =>
           refine' @L2.pa_cons _ _ _ _ _ ?g8 pa_nil rfl
           case g8 =>
            refine' @L2.pe_slice _ _ _ _ _ _ _ _ _ _ sl_tupU (pv 0) (po_some pe_int) po_none
   case read =>
    refine ⟨_,rfl,_,rfl,_,rfl,a,_,rfl,ha,fun p H1 s1 h1=>?_⟩
    rw [cut1] at h1
    refine ⟨a,p,rfl,⟨_,SqT.of (s1 _ _ ha)⟩,⟨_,SqT.of h1⟩,fun D nD=>?_⟩
    refine lc_Z (k:=.t) (l:=.t) (vs:=us) (ws:=us.drop 1) RB hRB (List.replicate (us.length - 1) true) (by simp) (by simp; omega) nD (s1 _ _ ha) h1 (fun i v w H2 C hv hw s2 c=>?_) (fun H2 us' s2 e2 a2=>?_)
    · rw [List.getElem?_drop,Nat.add_comm] at hw
      obtain ⟨x,ex,a,rfl,qa⟩:=al.get hv
      obtain ⟨y,ey,b,rfl,qb⟩:=al.get hw
      refine ⟨_,rfl,_,rfl,a,b,x,y,rfl,rfl,SqT.of ((s1.trans s2) _ _ qa),SqT.of ((s1.trans s2) _ _ qb),?_⟩
      rw [hr' i x y ex ey]
      refine c _ _ true (Same.refl _) (repT ?_) rfl
      have:=lt_of_get hw
      omega
    · rw [a2.bls] at e2
      refine ⟨D,List.replicate (us.length - 1) true,rfl,SqL.of e2,?_⟩
      rw [allT]
      exact q _ (s1.trans s2)
abbrev s_is_corner:Stmt:=top 16
theorem ok_is_corner (F:Fun K "is_corner" "is_corner" s_is_corner f fd) (C_is_between:Cal P w K mg base "is_between" 2 ["thing","least","most"] sp_between) (C_is_row:Cal P w K mg base "is_row" 1 ["thing","fewest","most"] sp_row):FnOk P w K mg base CX0 3 f fd ["thing"] sp_corner:=by
 have sc:FnScope ["thing"] ["thing"] (defScope s_is_corner):=fsc (by decide +kernel)
 refine F.ok sc (fun vs H Q E h=>?_) (fun cdv A outer s H vs Q E hr h=>?_)
 · obtain ⟨v,p,rfl,_⟩:=h
   rfl
 · obtain ⟨v,p,rfl,⟨a,rfl,ha⟩,⟨⟨n1,n2⟩,n3,n4⟩,q⟩:=h
   have nd:=sc.nd
   have hu:=hu_of hr
   have hu1:=Nat.lt_of_succ_lt hu
   refine' ⟨_,?term,?read⟩
   case term =>
    refine' @L2.pss_one _ _ _ ?g1
    case g1 =>
     refine' @L2.ps_ret _ _ _ _ ?g2
     case g2 =>
      refine' @L2.pe_and _ _ _ _ _ _ _ (pe_cal C_is_row hr (by decide) rfl (pa_cons (pv 0) (pa_cons pe_int (pa_cons pe_int pa_nil rfl) rfl) rfl)) ?g3
      case g3 =>
       refine' @L2.pe_one _ _ _ _ _ ?g4
       case g4 =>
        refine' @L2.pe_callB _ _ _ _ _ _ _ _ _ (call_allB rfl) rfl T.b_all bb_all ?g5 (by decide) (by decide) (by rfl) (by rfl)
        case g5 =>
         refine' @L2.pa_cons _ _ _ _ _ ?g6 pa_nil rfl
         case g6 =>
          refine' @L2.pe_lc _ _ _ _ _ _ _ (["part"]) ([none]) _ _ _ _ _ rfl (lcs_plain (by decide) rfl (by decide) rfl rfl) (pi_tup (pv 0)) (fun _ _ _ _=>(pg_name (i:=0) (show List.Nodup (["part"]:List Str) by decide) rfl (Or.inl rfl) (Or.inr rfl))) (fun _ _ _ _=>pifs_nil) (fun _ _ _ _=>(pe_cal C_is_between hr (by decide) rfl (pa_cons (pv 0) (pa_cons (pe_un un_neg (pe_gint T.n_FARTHEST rfl)) (pa_cons (pe_gint T.n_FARTHEST rfl) pa_nil rfl) rfl) rfl))) (by intro _ ; rfl)
   case read =>
    refine ⟨_,rfl,a,_,2,2,rfl,ha,by simp,by simp,true,rfl,iteT ?_⟩
    refine ⟨_,rfl,a,rfl,⟨_,SqT.of ha⟩,fun D nD=>?_⟩
    refine lc_T (k:=.t) (vs:=[V.int p.1,V.int p.2]) RB hRB [true,true] rfl (by simp) nD ha (fun i w H2 C hw s2 c=>?_) (fun H2 us' s2 e2 a2=>?_)
    · have hi:i=0∨i=1:=by have:i < 2:=lt_of_get hw; omega
      rcases hi with rfl | rfl
      · cases (show V.int p.1=w by simpa using hw)
        exact ⟨_,rfl,_,rfl,p.1,-100,100,rfl,n1,n2,c _ _ true (Same.refl _) rfl rfl⟩
      · cases (show V.int p.2=w by simpa using hw)
        exact ⟨_,rfl,_,rfl,p.2,-100,100,rfl,n3,n4,c _ _ true (Same.refl _) rfl rfl⟩
    · rw [a2.bls] at e2
      exact ⟨D,[true,true],rfl,SqL.of e2,q _ s2⟩
abbrev s_are_corners:Stmt:=top 17
theorem ok_are_corners (F:Fun K "are_corners" "are_corners" s_are_corners f fd) (C_is_corner:Cal P w K mg base "is_corner" 3 ["thing"] sp_corner) (C_is_row:Cal P w K mg base "is_row" 1 ["thing","fewest","most"] sp_row):FnOk P w K mg base CX0 4 f fd ["thing"] sp_corners:=by
 have sc:FnScope ["thing"] ["thing"] (defScope s_are_corners):=fsc (by decide +kernel)
 refine F.ok sc (fun vs H Q E h=>?_) (fun cdv A outer s H vs Q E hr h=>?_)
 · obtain ⟨v,cs,rfl,_⟩:=h
   rfl
 · obtain ⟨v,cs,rfl,⟨a,us,rfl,ha,al⟩,h3,h30,nr,nd',q⟩:=h
   have nd:=sc.nd
   have hu:=hu_of hr
   have hu1:=Nat.lt_of_succ_lt hu
   refine' ⟨_,?term,?read⟩
   case term =>
    refine' @L2.pss_cons _ _ _ _ _ ?g1 (pss_one (ps_ret (pe_cmpR op_eq (pe_callB call_lenX rfl T.b_len bb_len (pa_cons (pe_callTy (call_setT rfl hr) rfl T.b_set bb_set (pa_cons (pv 0) pa_nil rfl)) pa_nil rfl)) (pe_callB call_len_seq rfl T.b_len bb_len (pa_cons (pv 0) pa_nil rfl)) (nomark _))))
    case g1 =>
     refine' @L2.ps_if _ _ _ _ _ _ _ _ ?g2 (pss_one (ps_ret pe_bl)) pss_nil
     case g2 =>
      refine' @L2.PW.pt _ _ _ ?g3
      case g3 =>
       refine' @L2.pw_or _ _ _ _ _ _ _ ?g4 ?g5
       case g4 =>
        refine' @L2.pt_not _ _ _ _ ?g6
        case g6 =>
         refine' @L2.pt_truth _ _ _ (pe_cal C_is_row hr (by decide) rfl (pa_cons (pv 0) (pa_cons (pe_gint T.n_FEWEST_CORNERS rfl) (pa_cons (pe_gint T.n_MOST_CORNERS rfl) pa_nil rfl) rfl) rfl)) (fun _=>rfl)
       case g5 =>
        refine' @L2.pw_or1 _ _ _ _ ?g7
        case g7 =>
         refine' @L2.pt_not _ _ _ _ ?g8
         case g8 =>
          refine' @L2.pt_truth _ _ _ ?g9 (fun _=>rfl)
          case g9 =>
           refine' @L2.pe_callB _ _ _ _ _ _ _ _ _ (call_allB rfl) rfl T.b_all bb_all ?ga (by decide) (by decide) (by rfl) (by rfl)
           case ga =>
            refine' @L2.pa_cons _ _ _ _ _ ?gb pa_nil rfl
            case gb =>
             refine' @L2.pe_lc _ _ _ _ _ _ _ (["part"]) ([none]) _ _ _ _ _ rfl (lcs_plain (by decide) rfl (by decide) rfl rfl) (pi_tup (pv 0)) (fun _ _ _ _=>(pg_name (i:=0) (show List.Nodup (["part"]:List Str) by decide) rfl (Or.inl rfl) (Or.inr rfl))) (fun _ _ _ _=>pifs_nil) (fun _ _ _ _=>(pe_cal C_is_corner hr (by decide) rfl (pa_cons (pv 0) pa_nil rfl))) (by intro _ ; rfl)
   case read =>
    have hl:=al.1
    refine ⟨_,rfl,a,_,3,30,rfl,ha,by omega,by omega,true,rfl,iteF ?_⟩
    refine ⟨_,rfl,a,rfl,⟨_,SqT.of ha⟩,fun D nD=>?_⟩
    refine lc_T (k:=.t) (vs:=us) RB hRB (List.replicate us.length true) (by simp) (by omega) nD ha (fun i w H2 C hw s2 c=>?_) (fun H2 us' s2 e2 a2=>?_)
    · obtain ⟨p,ep,rp⟩:=al.get hw
      exact ⟨_,rfl,w,p,rfl,rp.tk s2.tk,nr p (List.mem_of_getElem? ep),fun H5 s5=>c _ _ true s5 (repT (lt_of_get hw)) rfl⟩
    · rw [a2.bls] at e2
      refine ⟨D,List.replicate us.length true,rfl,SqL.of e2,true,by rw [allT]; rfl,iteF ?_⟩
      refine ⟨_,rfl,a,us,cs.map (fun p=>[p.1,p.2]),rfl,SqT.of (s2 _ _ ha),by simp [hl],fun i v hv=>?_,?_,by simp; omega,fun S nS=>?_⟩
      · obtain ⟨p,ep,b,rfl,hb⟩:=al.get hv
        exact ⟨b,[p.1,p.2],rfl,by rw [List.getElem?_map,ep]; rfl,SqT.of (s2 _ _ hb)⟩
      · rw [List.nodup_iff_pairwise_ne,List.pairwise_map]
        refine (List.nodup_iff_pairwise_ne.mp nd').imp fun {x y} ne e=>ne ?_
        simp at e
        exact Prod.ext e.1 e.2
      · have s3:Same H2 (upd H2 S (.ext (isSetN S (cs.map fun p=>[p.1,p.2]).length))):=Same.new nS
        refine ⟨S,_,rfl,upd_same,by rw [List.length_map,sizeLine_eq]; omega,_,rfl,a,us,rfl,.inr (SqT.of (s3 _ _ (s2 _ _ ha))),rfl,?_⟩
        have e:V.int ((cs.map fun p=>[p.1,p.2]).length:Nat)=V.int us.length:=by rw [List.length_map,hl]
        exact qT e (q _ (s2.trans s3))
abbrev s_turn:Stmt:=top 18
theorem ok_turn (F:Fun K "turn" "turn" s_turn f fd):FnOk P w K mg base CX0 1 f fd ["first","second","third"] sp_turn:=by
 have sc:FnScope ["first","second","third","ahead"] ["first","second","third"] (defScope s_turn):=fsc (by decide +kernel)
 refine F.ok sc (fun vs H Q E h=>?_) (fun cdv A outer s H vs Q E hr h=>?_)
 · obtain ⟨u,v,w,a,b,c,rfl,_⟩:=h
   rfl
 · obtain ⟨u,v,w,a,b,c,rfl,⟨pa,rfl,ha⟩,⟨pb,rfl,hb⟩,⟨pc,rfl,hc⟩,na,nb,nc,q⟩:=h
   have nd:=sc.nd
   have hu:=hu_of hr
   have hu1:=Nat.lt_of_succ_lt hu
   refine' ⟨_,?term,?read⟩
   case term =>
    refine' @L2.pss_cons _ _ _ _ _ ?g1 ?g2
    case g1 =>
     refine' @L2.ps_set _ _ (3) _ _ _ _ nd rfl (Or.inl rfl) ?g3 (by rfl) (by first | exact Or.inl rfl | exact Or.inr rfl | assumption)
     case g3 =>
      refine' @L2.pe_op _ _ _ _ _ _ _ _ op_mulB ?g4 ?g5
      case g4 =>
       refine' @L2.pe_op _ _ _ _ _ _ _ _ op_sub ?g6 ?g7
       case g6 =>
        refine' @L2.pe_ix _ _ _ _ _ _ _ ix_tup (pv 1) pe_int (fun _ _=>rfl)
       case g7 =>
        refine' @L2.pe_ix _ _ _ _ _ _ _ ix_tup (pv 0) pe_int (fun _ _=>rfl)
      case g5 =>
       refine' @L2.pe_op _ _ _ _ _ _ _ _ op_sub ?g8 ?g9
       case g8 =>
        refine' @L2.pe_ix _ _ _ _ _ _ _ ix_tup (pv 2) pe_int (fun _ _=>rfl)
       case g9 =>
        refine' @L2.pe_ix _ _ _ _ _ _ _ ix_tup (pv 0) pe_int (fun _ _=>rfl)
    case g2 =>
     refine' @L2.pss_one _ _ _ ?ga
     case ga =>
      refine' @L2.ps_ret _ _ _ _ ?gb
      case gb =>
       refine' @L2.pe_op _ _ _ _ _ _ _ _ op_sub (pv 3) ?gc
       case gc =>
        refine' @L2.pe_op _ _ _ _ _ _ _ _ op_mulB ?gd ?ge
        case gd =>
         refine' @L2.pe_op _ _ _ _ _ _ _ _ op_sub ?gf ?gg
         case gf =>
          refine' @L2.pe_ix _ _ _ _ _ _ _ ix_tup (pv 2) pe_int (fun _ _=>rfl)
         case gg =>
          refine' @L2.pe_ix _ _ _ _ _ _ _ ix_tup (pv 0) pe_int (fun _ _=>rfl)
        case ge =>
         refine' @L2.pe_op _ _ _ _ _ _ _ _ op_sub ?gh ?gi
         case gh =>
          refine' @L2.pe_ix _ _ _ _ _ _ _ ix_tup (pv 1) pe_int (fun _ _=>rfl)
         case gi =>
          refine' @L2.pe_ix _ _ _ _ _ _ _ ix_tup (pv 0) pe_int (fun _ _=>rfl)
   case read =>
    obtain ⟨⟨a1,a2⟩,a3,a4⟩:=na
    obtain ⟨⟨b1,b2⟩,b3,b4⟩:=nb
    obtain ⟨⟨c1,c2⟩,c3,c4⟩:=nc
    refine ⟨_,rfl,pb,_,0,_,rfl,rfl,SqT.of hb,rfl,_,rfl,pa,_,0,_,rfl,rfl,SqT.of ha,rfl,_,_,rfl,rfl,_,rfl,pc,_,1,_,rfl,rfl,SqT.of hc,rfl,_,rfl,pa,_,1,_,rfl,rfl,SqT.of ha,rfl,_,_,rfl,rfl,_,_,rfl,rfl,mul3 (by omega) (by omega),?_⟩
    refine ⟨_,rfl,_,rfl,pc,_,0,_,rfl,rfl,SqT.of hc,rfl,_,rfl,pa,_,0,_,rfl,rfl,SqT.of ha,rfl,_,_,rfl,rfl,_,rfl,pb,_,1,_,rfl,rfl,SqT.of hb,rfl,_,rfl,pa,_,1,_,rfl,rfl,SqT.of ha,rfl,_,_,rfl,rfl,_,_,rfl,rfl,mul3 (by omega) (by omega),_,_,rfl,rfl,?_⟩
    exact q
abbrev s_turn_of:Stmt:=top 19
theorem ok_turn_of (F:Fun K "turn_of" "turn_of" s_turn_of f fd) (C_turn:Cal P w K mg base "turn" 1 ["first","second","third"] sp_turn):FnOk P w K mg base CX0 2 f fd ["corners","piece"] sp_turnOf:=by
 have sc:FnScope ["corners","piece"] ["corners","piece"] (defScope s_turn_of):=fsc (by decide +kernel)
 refine F.ok sc (fun vs H Q E h=>?_) (fun cdv A outer s H vs Q E hr h=>?_)
 · obtain ⟨u,v,cs,p,rfl,_⟩:=h
   rfl
 · obtain ⟨u,v,cs,p,rfl,⟨a,us,rfl,ha,al⟩,⟨b,rfl,hb⟩,hl,bd,nr,q⟩:=h
   have nd:=sc.nd
   have hu:=hu_of hr
   have hu1:=Nat.lt_of_succ_lt hu
   refine' ⟨_,?term,?read⟩
   case term =>
    refine' @L2.pss_one _ _ _ ?g1
    case g1 =>
     refine' @L2.ps_ret _ _ _ _ ?g2
     case g2 =>
      refine' @L2.pe_cal _ _ _ _ _ _ _ _ _ _ _ C_turn hr (by decide) rfl ?g3 (by decide) (by rfl) (by rfl)
      case g3 =>
       refine' @L2.pa_cons _ _ _ _ _ ?g4 ?g5 rfl
       case g4 =>
        refine' @L2.pe_ix _ _ _ _ _ _ _ ix_tup (pv 0) ?g6 (fun _ _=>rfl)
        case g6 =>
         refine' @L2.pe_ix _ _ _ _ _ _ _ ix_tup (pv 1) pe_int (fun _ _=>rfl)
       case g5 =>
        refine' @L2.pa_cons _ _ _ _ _ ?g7 ?g8 rfl
        case g7 =>
         refine' @L2.pe_ix _ _ _ _ _ _ _ ix_tup (pv 0) ?g9 (fun _ _=>rfl)
         case g9 =>
          refine' @L2.pe_ix _ _ _ _ _ _ _ ix_tup (pv 1) pe_int (fun _ _=>rfl)
        case g8 =>
         refine' @L2.pa_cons _ _ _ _ _ ?ga pa_nil rfl
         case ga =>
          refine' @L2.pe_ix _ _ _ _ _ _ _ ix_tup (pv 0) ?gb (fun _ _=>rfl)
          case gb =>
           refine' @L2.pe_ix _ _ _ _ _ _ _ ix_tup (pv 1) pe_int (fun _ _=>rfl)
   case read =>
    match p,hl with
    | [i,j,k],_ =>
      have bi:=bd i (by simp); have bj:=bd j (by simp); have bk:=bd k (by simp)
      obtain ⟨x,ex,rx⟩:=at_cs al bi.1 bi.2
      obtain ⟨y,ey,ry⟩:=at_cs al bj.1 bj.2
      obtain ⟨z,ez,rz⟩:=at_cs al bk.1 bk.2
      refine ⟨_,rfl,_,rfl,b,_,0,_,rfl,rfl,SqT.of hb,rfl,a,us,i,x,rfl,rfl,SqT.of ha,ex,?_⟩
      refine ⟨_,rfl,_,rfl,b,_,1,_,rfl,rfl,SqT.of hb,rfl,a,us,j,y,rfl,rfl,SqT.of ha,ey,?_⟩
      refine ⟨_,rfl,_,rfl,b,_,2,_,rfl,rfl,SqT.of hb,rfl,a,us,k,z,rfl,rfl,SqT.of ha,ez,?_⟩
      exact ⟨x,y,z,_,_,_,rfl,rx,ry,rz,nr _ (cAt_mem bi.1 bi.2),nr _ (cAt_mem bj.1 bj.2),nr _ (cAt_mem bk.1 bk.2),q⟩
abbrev s_is_piece:Stmt:=top 20
theorem ok_is_piece (F:Fun K "is_piece" "is_piece" s_is_piece f fd) (C_are_risingI:Cal P w K mg base "are_rising" 1 ["things"] sp_risingI) (C_is_between:Cal P w K mg base "is_between" 2 ["thing","least","most"] sp_between) (C_is_row:Cal P w K mg base "is_row" 1 ["thing","fewest","most"] sp_row) (C_turn_of:Cal P w K mg base "turn_of" 2 ["corners","piece"] sp_turnOf):FnOk P w K mg base CX0 3 f fd ["corners","thing"] sp_isPiece:=by
 have sc:FnScope ["corners","thing"] ["corners","thing"] (defScope s_is_piece):=fsc (by decide +kernel)
 refine F.ok sc (fun vs H Q E h=>?_) (fun cdv A outer s H vs Q E hr h=>?_)
 · obtain ⟨u,v,cs,p,rfl,_⟩:=h
   rfl
 · obtain ⟨u,v,cs,p,rfl,⟨a,us,rfl,ha,al⟩,⟨b,rfl,hb⟩,ok,nr,q⟩:=h
   have nd:=sc.nd
   have hu:=hu_of hr
   have hu1:=Nat.lt_of_succ_lt hu
   refine' ⟨_,?term,?read⟩
   case term =>
    refine' @L2.pss_cons _ _ _ _ _ ?g1 ?g2
    case g1 =>
     refine' @L2.ps_if _ _ _ _ _ _ _ _ ?g3 (pss_one (ps_ret pe_bl)) pss_nil
     case g3 =>
      refine' @L2.PW.pt _ _ _ ?g4
      case g4 =>
       refine' @L2.pw_or _ _ _ _ _ _ _ ?g5 ?g6
       case g5 =>
        refine' @L2.pt_not _ _ _ _ ?g7
        case g7 =>
         refine' @L2.pt_truth _ _ _ (pe_cal C_is_row hr (by decide) rfl (pa_cons (pv 1) (pa_cons pe_int (pa_cons pe_int pa_nil rfl) rfl) rfl)) (fun _=>rfl)
       case g6 =>
        refine' @L2.pw_or1 _ _ _ _ ?g8
        case g8 =>
         refine' @L2.pt_not _ _ _ _ ?g9
         case g9 =>
          refine' @L2.pt_truth _ _ _ ?ga (fun _=>rfl)
          case ga =>
           refine' @L2.pe_callB _ _ _ _ _ _ _ _ _ (call_allB rfl) rfl T.b_all bb_all ?gb (by decide) (by decide) (by rfl) (by rfl)
           case gb =>
            refine' @L2.pa_cons _ _ _ _ _ ?gc pa_nil rfl
            case gc =>
             refine' @L2.pe_lc _ _ _ _ _ _ _ (["part","corners"]) ([none,some 0]) _ _ _ _ _ rfl (lcs_gen (XN:=["corners","thing"]) (Scope.names (defScope s_is_piece)) rfl rfl rfl (fun _ h=>cell_has h) (by decide +kernel) rfl) (pi_tup (pv 1)) (fun _ _ _ _=>(pg_name (i:=0) (show List.Nodup (["part","corners"]:List Str) by decide) rfl (Or.inl rfl) (Or.inr rfl))) (fun _ _ _ _=>pifs_nil) (fun _ _ _ _=>(pe_cal C_is_between hr (by decide) rfl (pa_cons (pv 0) (pa_cons pe_int (pa_cons (pe_op op_sub (pe_callB (call_len_seqK K rfl) rfl T.b_len bb_len (pa_cons (pv 1) pa_nil rfl)) pe_int) pa_nil rfl) rfl) rfl))) (by intro _ ; rfl)
    case g2 =>
     refine' @L2.pss_one _ _ _ ?gd
     case gd =>
      refine' @L2.ps_ret _ _ _ _ ?ge
      case ge =>
       refine' @L2.pe_and _ _ _ _ _ _ _ (pe_cal C_are_risingI hr (by decide) rfl (pa_cons (pv 1) pa_nil rfl)) (pe_one (pe_cmpR op_ne (pe_cal C_turn_of hr (by decide) rfl (pa_cons (pv 0) (pa_cons (pv 1) pa_nil rfl) rfl)) pe_int (nomark _)))
   case read =>
    have hl:=ok.len
    have hl2:=al.1
    refine ⟨_,rfl,b,_,3,3,rfl,hb,by simp [hl],by simp [hl],true,rfl,iteF ?_⟩
    refine ⟨_,rfl,b,rfl,⟨_,SqT.of hb⟩,fun D nD=>?_⟩
    refine lc_T (k:=.t) (vs:=p.map V.int) RB hRB (List.replicate 3 true) (by simp [hl]) (by simp [hl]) nD hb (fun i w H2 C hw s2 c=>?_) (fun H2 us' s2 e2 a2=>?_)
    · rw [List.getElem?_map] at hw
      obtain ⟨x,ex,rfl⟩:=Option.map_eq_some_iff.mp hw
      obtain ⟨b1,b2⟩:=ok.bd x (List.mem_of_getElem? ex)
      refine ⟨_,rfl,_,rfl,a,us,rfl,.inr (SqT.of (s2 _ _ ha)),_,_,rfl,rfl,x,0,_,rfl,b1,by rw [hl2]; exact b2,c _ _ true (Same.refl _) (repT ?_) rfl⟩
      have:=lt_of_get ex
      omega
    · rw [a2.bls] at e2
      refine ⟨D,List.replicate 3 true,rfl,SqL.of e2,true,by rw [allT]; rfl,iteF ?_⟩
      refine ⟨_,rfl,b,p,rfl,s2 _ _ hb,by omega,fun i x y ex ey=>?_,fun H3 s3=>⟨true,rfl,iteT ?_⟩⟩
      · have r:=ok.rise
        match p,hl with
        | [i0,i1,i2],_ =>
          match i,ex,ey with
          | 0,ex,ey=>simp at ex ey; subst ex; subst ey; exact r.1
          | 1,ex,ey=>simp at ex ey; subst ex; subst ey; exact r.2
          | 2,ex,ey=>simp at ey
          | (n+3),ex,ey=>simp at ex
      · have s4:=s2.trans s3
        refine ⟨_,rfl,_,rfl,_,_,cs,p,rfl,⟨a,us,rfl,s4 _ _ ha,al.imp fun v x r=>r.tk s4.tk⟩,⟨b,rfl,s4 _ _ hb⟩,hl,ok.bd,nr,rfl,?_⟩
        have e:decide (V.int (dOf cs p)=V.int 0)=false:=decide_eq_false fun z=>ok.d (V.int.inj z)
        rw [e]
        exact q _ s4
abbrev s_are_pieces:Stmt:=top 21
theorem ok_are_pieces (F:Fun K "are_pieces" "are_pieces" s_are_pieces f fd) (C_are_risingT:Cal P w K mg base "are_rising" 1 ["things"] sp_risingT) (C_is_piece:Cal P w K mg base "is_piece" 3 ["corners","thing"] sp_isPiece) (C_is_row:Cal P w K mg base "is_row" 1 ["thing","fewest","most"] sp_row):FnOk P w K mg base CX0 4 f fd ["corners","thing"] sp_pieces:=by
 have sc:FnScope ["corners","thing"] ["corners","thing"] (defScope s_are_pieces):=fsc (by decide +kernel)
 refine F.ok sc (fun vs H Q E h=>?_) (fun cdv A outer s H vs Q E hr h=>?_)
 · obtain ⟨u,v,cs,ps,rfl,_⟩:=h
   rfl
 · obtain ⟨u,v,cs,ps,rfl,hc,⟨b,ws,rfl,hb,bl⟩,p1,p40,pc,rise,nr,q⟩:=h
   have nd:=sc.nd
   have hu:=hu_of hr
   have hu1:=Nat.lt_of_succ_lt hu
   refine' ⟨_,?term,?read⟩
   case term =>
    refine' @L2.pss_cons _ _ _ _ _ ?g1 (pss_one (ps_ret (pe_cal C_are_risingT hr (by decide) rfl (pa_cons (pv 1) pa_nil rfl))))
    case g1 =>
     refine' @L2.ps_if _ _ _ _ _ _ _ _ ?g2 (pss_one (ps_ret pe_bl)) pss_nil
     case g2 =>
      refine' @L2.PW.pt _ _ _ ?g3
      case g3 =>
       refine' @L2.pw_or _ _ _ _ _ _ _ ?g4 ?g5
       case g4 =>
        refine' @L2.pt_not _ _ _ _ ?g6
        case g6 =>
         refine' @L2.pt_truth _ _ _ (pe_cal C_is_row hr (by decide) rfl (pa_cons (pv 1) (pa_cons pe_int (pa_cons (pe_gint T.n_MOST_PIECES rfl) pa_nil rfl) rfl) rfl)) (fun _=>rfl)
       case g5 =>
        refine' @L2.pw_or1 _ _ _ _ ?g7
        case g7 =>
         refine' @L2.pt_not _ _ _ _ ?g8
         case g8 =>
          refine' @L2.pt_truth _ _ _ ?g9 (fun _=>rfl)
          case g9 =>
           refine' @L2.pe_callB _ _ _ _ _ _ _ _ _ (call_allB rfl) rfl T.b_all bb_all ?ga (by decide) (by decide) (by rfl) (by rfl)
           case ga =>
            refine' @L2.pa_cons _ _ _ _ _ ?gb pa_nil rfl
            case gb =>
             refine' @L2.pe_lc _ _ _ _ _ _ _ (["part","corners"]) ([none,some 0]) _ _ _ _ _ rfl (lcs_gen (XN:=["corners","thing"]) (Scope.names (defScope s_are_pieces)) rfl rfl rfl (fun _ h=>cell_has h) (by decide +kernel) rfl) (pi_tup (pv 1)) (fun _ _ _ _=>(pg_name (i:=0) (show List.Nodup (["part","corners"]:List Str) by decide) rfl (Or.inl rfl) (Or.inr rfl))) (fun _ _ _ _=>pifs_nil) (fun _ _ _ _=>(pe_cal C_is_piece hr (by decide) rfl (pa_cons (pv 1) (pa_cons (pv 0) pa_nil rfl) rfl))) (by intro _ ; rfl)
   case read =>
    have hl:=bl.1
    refine ⟨_,rfl,b,_,1,40,rfl,hb,by omega,by omega,true,rfl,iteF ?_⟩
    refine ⟨_,rfl,b,rfl,⟨_,SqT.of hb⟩,fun D nD=>?_⟩
    refine lc_T (k:=.t) (vs:=ws) RB hRB (List.replicate ws.length true) (by simp) (by omega) nD hb (fun i w H2 C hw s2 c=>?_) (fun H2 us' s2 e2 a2=>?_)
    · obtain ⟨p,ep,rp⟩:=bl.get hw
      exact ⟨_,rfl,_,rfl,_,_,cs,p,rfl,hc.tk s2.tk,rp.tk s2.tk,pc p (List.mem_of_getElem? ep),nr,fun H5 s5=>c _ _ true s5 (repT (lt_of_get hw)) rfl⟩
    · rw [a2.bls] at e2
      refine ⟨D,List.replicate ws.length true,rfl,SqL.of e2,true,by rw [allT]; rfl,iteF ?_⟩
      refine ⟨_,rfl,b,ws,ps,rfl,s2 _ _ hb,bl.imp fun v x r=>r.tk s2.tk,by omega,fun i x y ex ey=>?_,fun H3 s3=>q _ (s2.trans s3)⟩
      have:=rise i (lt_of_get ey)
      rw [List.getD_eq_getElem?_getD,List.getD_eq_getElem?_getD,ex,ey] at this
      exact this
abbrev s_are_thicks:Stmt:=top 22
theorem ok_are_thicks (F:Fun K "are_thicks" "are_thicks" s_are_thicks f fd) (C_is_between:Cal P w K mg base "is_between" 2 ["thing","least","most"] sp_between) (C_is_row:Cal P w K mg base "is_row" 1 ["thing","fewest","most"] sp_row):FnOk P w K mg base CX0 3 f fd ["pieces","thing"] sp_thicks:=by
 have sc:FnScope ["pieces","thing"] ["pieces","thing"] (defScope s_are_thicks):=fsc (by decide +kernel)
 refine F.ok sc (fun vs H Q E h=>?_) (fun cdv A outer s H vs Q E hr h=>?_)
 · obtain ⟨u,v,ps,ts,rfl,_⟩:=h
   rfl
 · obtain ⟨u,v,ps,ts,rfl,⟨a,us,rfl,ha,al⟩,⟨b,rfl,hb⟩,hl,p40,t9,q⟩:=h
   have nd:=sc.nd
   have hu:=hu_of hr
   have hu1:=Nat.lt_of_succ_lt hu
   refine' ⟨_,?term,?read⟩
   case term =>
    refine' @L2.pss_cons _ _ _ _ _ ?g1 ?g2
    case g1 =>
     refine' @L2.ps_if _ _ _ _ _ _ _ _ ?g3 (pss_one (ps_ret pe_bl)) pss_nil
     case g3 =>
      refine' @L2.pt_not _ _ _ _ ?g4
      case g4 =>
       refine' @L2.pt_truth _ _ _ (pe_cal C_is_row hr (by decide) rfl (pa_cons (pv 1) (pa_cons (pe_callB call_len_seq rfl T.b_len bb_len (pa_cons (pv 0) pa_nil rfl)) (pa_cons (pe_callB call_len_seq rfl T.b_len bb_len (pa_cons (pv 0) pa_nil rfl)) pa_nil rfl) rfl) rfl)) (fun _=>rfl)
    case g2 =>
     refine' @L2.pss_one _ _ _ ?g5
     case g5 =>
      refine' @L2.ps_ret _ _ _ _ ?g6
      case g6 =>
       refine' @L2.pe_callB _ _ _ _ _ _ _ _ _ (call_allB rfl) rfl T.b_all bb_all ?g7 (by decide) (by decide) (by rfl) (by rfl)
       case g7 =>
        refine' @L2.pa_cons _ _ _ _ _ ?g8 pa_nil rfl
        case g8 =>
         refine' @L2.pe_lc _ _ _ _ _ _ _ (["part"]) ([none]) _ _ _ _ _ rfl (lcs_plain (by decide) rfl (by decide) rfl rfl) (pi_tup (pv 1)) (fun _ _ _ _=>(pg_name (i:=0) (show List.Nodup (["part"]:List Str) by decide) rfl (Or.inl rfl) (Or.inr rfl))) (fun _ _ _ _=>pifs_nil) (fun _ _ _ _=>(pe_cal C_is_between hr (by decide) rfl (pa_cons (pv 0) (pa_cons pe_int (pa_cons (pe_gint T.n_THICKEST rfl) pa_nil rfl) rfl) rfl))) (by intro _ ; rfl)
   case read =>
    have hl2:=al.1
    have hl3:((ts.map V.int).length:Int)=us.length:=by simp; omega
    refine ⟨_,rfl,_,rfl,a,us,rfl,.inr (SqT.of ha),_,rfl,a,us,rfl,.inr (SqT.of ha),b,_,_,_,rfl,hb,by rw [hl3]; exact Int.le_refl _,by rw [hl3]; exact Int.le_refl _,true,rfl,iteF ?_⟩
    refine ⟨_,rfl,b,rfl,⟨_,SqT.of hb⟩,fun D nD=>?_⟩
    refine lc_T (k:=.t) (vs:=ts.map V.int) RB hRB (List.replicate ts.length true) (by simp) (by simp; omega) nD hb (fun i w H2 C hw s2 c=>?_) (fun H2 us' s2 e2 a2=>?_)
    · rw [List.getElem?_map] at hw
      obtain ⟨x,ex,rfl⟩:=Option.map_eq_some_iff.mp hw
      obtain ⟨b1,b2⟩:=t9 x (List.mem_of_getElem? ex)
      exact ⟨_,rfl,x,1,9,rfl,b1,b2,c _ _ true (Same.refl _) (repT (lt_of_get ex)) rfl⟩
    · rw [a2.bls] at e2
      refine ⟨D,List.replicate ts.length true,rfl,SqL.of e2,?_⟩
      rw [allT]
      exact q _ s2
abbrev s_is_stuff:Stmt:=top 23
theorem ok_is_stuff (F:Fun K "is_stuff" "is_stuff" s_is_stuff f fd) (C_is_between:Cal P w K mg base "is_between" 2 ["thing","least","most"] sp_between) (C_is_row:Cal P w K mg base "is_row" 1 ["thing","fewest","most"] sp_row):FnOk P w K mg base CX0 3 f fd ["thing"] sp_stuff:=by
 have sc:FnScope ["thing"] ["thing"] (defScope s_is_stuff):=fsc (by decide +kernel)
 refine F.ok sc (fun vs H Q E h=>?_) (fun cdv A outer s H vs Q E hr h=>?_)
 · obtain ⟨v,l,m,rfl,_⟩:=h
   rfl
 · obtain ⟨v,l,m,rfl,⟨b,rfl,hb⟩,l9,m9,q⟩:=h
   have nd:=sc.nd
   have hu:=hu_of hr
   have hu1:=Nat.lt_of_succ_lt hu
   refine' ⟨_,?term,?read⟩
   case term =>
    refine' @L2.pss_cons _ _ _ _ _ ?g1 ?g2
    case g1 =>
     refine' @L2.ps_if _ _ _ _ _ _ _ _ ?g3 (pss_one (ps_ret pe_bl)) pss_nil
     case g3 =>
      refine' @L2.pt_not _ _ _ _ ?g4
      case g4 =>
       refine' @L2.pt_truth _ _ _ (pe_cal C_is_row hr (by decide) rfl (pa_cons (pv 0) (pa_cons pe_int (pa_cons pe_int pa_nil rfl) rfl) rfl)) (fun _=>rfl)
    case g2 =>
     refine' @L2.pss_one _ _ _ ?g5
     case g5 =>
      refine' @L2.ps_ret _ _ _ _ ?g6
      case g6 =>
       refine' @L2.pe_and _ _ _ _ _ _ _ ?g7 ?g8
       case g7 =>
        refine' @L2.pe_cal _ _ _ _ _ _ _ _ _ _ _ C_is_between hr (by decide) rfl ?g9 (by decide) (by rfl) (by rfl)
        case g9 =>
         refine' @L2.pa_cons _ _ _ _ _ ?ga (pa_cons pe_int (pa_cons (pe_gint T.n_MOST_STUFF rfl) pa_nil rfl) rfl) rfl
         case ga =>
          refine' @L2.pe_ix _ _ _ _ _ _ _ ix_tup (pv 0) pe_int (fun _ _=>rfl)
       case g8 =>
        refine' @L2.pe_one _ _ _ _ _ ?gb
        case gb =>
         refine' @L2.pe_cal _ _ _ _ _ _ _ _ _ _ _ C_is_between hr (by decide) rfl ?gc (by decide) (by rfl) (by rfl)
         case gc =>
          refine' @L2.pa_cons _ _ _ _ _ ?gd (pa_cons pe_int (pa_cons (pe_gint T.n_MOST_STUFF rfl) pa_nil rfl) rfl) rfl
          case gd =>
           refine' @L2.pe_ix _ _ _ _ _ _ _ ix_tup (pv 0) pe_int (fun _ _=>rfl)
   case read =>
    refine ⟨_,rfl,b,_,2,2,rfl,hb,by simp,by simp,true,rfl,iteF ?_⟩
    refine ⟨_,rfl,b,_,0,_,rfl,rfl,SqT.of hb,rfl,l,0,9,rfl,l9.1,l9.2,true,rfl,iteT ?_⟩
    exact ⟨_,rfl,b,_,1,_,rfl,rfl,SqT.of hb,rfl,m,1,9,rfl,m9.1,m9.2,q⟩
abbrev s_triangle:Stmt:=top 24
theorem ok_triangle (F:Fun K "triangle" "triangle" s_triangle f fd) (C_turn:Cal P w K mg base "turn" 1 ["first","second","third"] sp_turn):FnOk P w K mg base CX0 2 f fd ["corners","piece"] sp_tri:=by
 have sc:FnScope ["corners","piece","first","second","third"] ["corners","piece"] (defScope s_triangle):=fsc (by decide +kernel)
 refine F.ok sc (fun vs H Q E h=>?_) (fun cdv A outer s H vs Q E hr h=>?_)
 · obtain ⟨u,v,cs,p,rfl,_⟩:=h
   rfl
 · obtain ⟨u,v,cs,p,rfl,⟨a,us,rfl,ha,al⟩,⟨b,rfl,hb⟩,hl,bd,nr,q⟩:=h
   have nd:=sc.nd
   have hu:=hu_of hr
   have hu1:=Nat.lt_of_succ_lt hu
   refine' ⟨_,?term,?read⟩
   case term =>
    refine' @L2.pss_cons _ _ _ _ _ ?g1 ?g2
    case g1 =>
     refine' @L2.ps_asg _ _ _ _ _ _ ?g3 ?g4 (by rfl) (by rfl) (by rfl)
     case g3 =>
      refine' @L2.pe_lc _ _ _ _ _ _ _ (["number","corners"]) ([none,some 0]) _ _ _ _ _ rfl (lcs_gen (XN:=["corners","piece","first","second","third"]) (Scope.names (defScope s_triangle)) rfl rfl rfl (fun _ h=>cell_has h) (by decide +kernel) rfl) (pi_tup (pv 1)) (fun _ _ _ _=>(pg_name (i:=0) (show List.Nodup (["number","corners"]:List Str) by decide) rfl (Or.inl rfl) (Or.inr rfl))) (fun _ _ _ _=>pifs_nil) (fun _ _ _ _=>(pe_ix (ix_tupK K rfl) (pv 1) (pv 0) (fun _ _=>rfl))) (by intro _ ; rfl)
     case g4 =>
      refine' @L2.pg_lst _ _ _ _ _ (3) rfl (pgs_cons (pg_name (i:=2) nd rfl (Or.inl rfl)) (pgs_cons (pg_name (i:=3) nd rfl (Or.inl rfl)) (pgs_cons (pg_name (i:=4) nd rfl (Or.inl rfl)) pgs_nil))) (by rfl) (by rfl)
    case g2 =>
     refine' @L2.pss_cons _ _ _ _ _ ?g5 (pss_one (ps_ret (pe_tup (pa_cons (pv 2) (pa_cons (pv 3) (pa_cons (pv 4) pa_nil rfl) rfl) rfl))))
     case g5 =>
      refine' @L2.ps_if _ _ _ _ _ _ _ _ (pt_cmpR op_lt (pe_cal C_turn hr (by decide) rfl (pa_cons (pv 2) (pa_cons (pv 3) (pa_cons (pv 4) pa_nil rfl) rfl) rfl)) pe_int (nomark _)) (pss_one (ps_ret (pe_tup (pa_cons (pv 2) (pa_cons (pv 4) (pa_cons (pv 3) pa_nil rfl) rfl) rfl)))) pss_nil
   case read =>
    refine ⟨_,rfl,b,rfl,⟨_,SqT.of hb⟩,fun D nD=>?_⟩
    refine lc_T (k:=.t) (vs:=p.map V.int) IsP hRP (p.map (cAt cs)) (by simp) (by simp [hl]) nD hb (fun i w H2 C hw s2 c=>?_) (fun H2 us' s2 e2 a2=>?_)
    · rw [List.getElem?_map] at hw
      obtain ⟨x,ex,rfl⟩:=Option.map_eq_some_iff.mp hw
      obtain ⟨b1,b2⟩:=bd x (List.mem_of_getElem? ex)
      obtain ⟨v,ev,rv⟩:=at_cs al b1 b2
      exact ⟨_,rfl,_,rfl,a,us,x,v,rfl,rfl,SqT.of (s2 _ _ ha),ev,c _ _ _ (Same.refl _) (by rw [List.getElem?_map,ex]; rfl) (rv.tk s2.tk)⟩
    · obtain ⟨x,y,z,rfl,rx,ry,rz⟩:=cs3 (al.imp fun v x r=>r.tk s2.tk) hl bd a2
      have nx:=nr (cAt cs (p.getD 0 0)) (by match p,hl with | [i,j,k],_=>exact cAt_mem (bd i (by simp)).1 (bd i (by simp)).2)
      have ny:=nr (cAt cs (p.getD 1 0)) (by match p,hl with | [i,j,k],_=>exact cAt_mem (bd j (by simp)).1 (bd j (by simp)).2)
      have nz:=nr (cAt cs (p.getD 2 0)) (by match p,hl with | [i,j,k],_=>exact cAt_mem (bd k (by simp)).1 (bd k (by simp)).2)
      refine ⟨D,_,rfl,SqL.of e2,rfl,x,_,rfl,y,_,rfl,z,_,rfl,rfl,?_⟩
      refine ⟨_,rfl,_,rfl,_,rfl,x,y,z,_,_,_,rfl,rx,ry,rz,nx,ny,nz,_,_,rfl,rfl,_,rfl,?_⟩
      refine ite2 (fun h=>?_) (fun h=>?_)
      · refine ⟨_,rfl,_,rfl,_,rfl,by show 3≤sizeLine; decide,fun r nr'=>?_⟩
        have s3:Same H2 (upd H2 r (.tup [x,z,y])):=Same.new nr'
        refine q _ _ (s2.trans s3) ⟨r,x,z,y,rfl,upd_same,?_⟩
        unfold trOf tri
        rw [if_pos (of_decide_eq_true h)]
        exact ⟨rx.tk s3.tk,rz.tk s3.tk,ry.tk s3.tk⟩
      · refine ⟨_,rfl,_,rfl,_,rfl,by show 3≤sizeLine; decide,fun r nr'=>?_⟩
        have s3:Same H2 (upd H2 r (.tup [x,y,z])):=Same.new nr'
        refine q _ _ (s2.trans s3) ⟨r,x,y,z,rfl,upd_same,?_⟩
        unfold trOf tri
        rw [if_neg fun z=>h (decide_eq_true z)]
        exact ⟨rx.tk s3.tk,ry.tk s3.tk,rz.tk s3.tk⟩
abbrev s_edges:Stmt:=top 25
theorem ok_edges (F:Fun K "edges" "edges" s_edges f fd):FnOk P w K mg base CX0 1 f fd ["points"] sp_edges:=by
 have sc:FnScope ["points"] ["points"] (defScope s_edges):=fsc (by decide +kernel)
 refine F.ok sc (fun vs H Q E h=>?_) (fun cdv A outer s H vs Q E hr h=>?_)
 · obtain ⟨v,t,rfl,_⟩:=h
   rfl
 · obtain ⟨v,t,rfl,⟨a,x,y,z,rfl,ha,rx,ry,rz⟩,q⟩:=h
   have nd:=sc.nd
   have hu:=hu_of hr
   have hu1:=Nat.lt_of_succ_lt hu
   refine' ⟨_,?term,?read⟩
   case term =>
    refine' @L2.pss_one _ _ _ ?g1
    case g1 =>
     refine' @L2.ps_ret _ _ _ _ ?g2
     case g2 =>
      refine' @L2.pe_tup _ _ _ _ _ ?g3
      case g3 =>
       refine' @L2.pa_cons _ _ _ _ _ ?g4 ?g5 rfl
       case g4 =>
        refine' @L2.pe_tup _ _ _ _ _ ?g6
        case g6 =>
         refine' @L2.pa_cons _ _ _ _ _ ?g7 ?g8 rfl
         case g7 =>
          refine' @L2.pe_ix _ _ _ _ _ _ _ ix_tup (pv 0) pe_int (fun _ _=>rfl)
         case g8 =>
          refine' @L2.pa_cons _ _ _ _ _ ?g9 pa_nil rfl
          case g9 =>
           refine' @L2.pe_ix _ _ _ _ _ _ _ ix_tup (pv 0) pe_int (fun _ _=>rfl)
       case g5 =>
        refine' @L2.pa_cons _ _ _ _ _ ?ga ?gb rfl
        case ga =>
         refine' @L2.pe_tup _ _ _ _ _ ?gc
         case gc =>
          refine' @L2.pa_cons _ _ _ _ _ ?gd ?ge rfl
          case gd =>
           refine' @L2.pe_ix _ _ _ _ _ _ _ ix_tup (pv 0) pe_int (fun _ _=>rfl)
          case ge =>
           refine' @L2.pa_cons _ _ _ _ _ ?gf pa_nil rfl
           case gf =>
            refine' @L2.pe_ix _ _ _ _ _ _ _ ix_tup (pv 0) pe_int (fun _ _=>rfl)
        case gb =>
         refine' @L2.pa_cons _ _ _ _ _ ?gg pa_nil rfl
         case gg =>
          refine' @L2.pe_tup _ _ _ _ _ ?gh
          case gh =>
           refine' @L2.pa_cons _ _ _ _ _ ?gi ?gj rfl
           case gi =>
            refine' @L2.pe_ix _ _ _ _ _ _ _ ix_tup (pv 0) pe_int (fun _ _=>rfl)
           case gj =>
            refine' @L2.pa_cons _ _ _ _ _ ?gk pa_nil rfl
            case gk =>
             refine' @L2.pe_ix _ _ _ _ _ _ _ ix_tup (pv 0) pe_int (fun _ _=>rfl)
   case read =>
    refine ⟨_,rfl,a,_,0,x,rfl,rfl,SqT.of ha,rfl,_,rfl,a,_,1,y,rfl,rfl,SqT.of ha,rfl,by show 2≤sizeLine; decide,fun p np=>?_⟩
    have s1:Same H (upd H p (.tup [x,y])):=Same.new np
    generalize hH1:upd H p (.tup [x,y])=H1 at s1 ⊢
    have e1:H1 p=some (.tup [x,y]):=by rw [← hH1]; exact upd_same
    refine ⟨_,rfl,a,_,1,y,rfl,rfl,SqT.of (s1 _ _ ha),rfl,_,rfl,a,_,2,z,rfl,rfl,SqT.of (s1 _ _ ha),rfl,by show 2≤sizeLine; decide,fun p2 np2=>?_⟩
    have s2:Same H1 (upd H1 p2 (.tup [y,z])):=Same.new np2
    generalize hH2:upd H1 p2 (.tup [y,z])=H2 at s2 ⊢
    have e2:H2 p2=some (.tup [y,z]):=by rw [← hH2]; exact upd_same
    have s12:=s1.trans s2
    refine ⟨_,rfl,a,_,2,z,rfl,rfl,SqT.of (s12 _ _ ha),rfl,_,rfl,a,_,0,x,rfl,rfl,SqT.of (s12 _ _ ha),rfl,by show 2≤sizeLine; decide,fun p3 np3=>?_⟩
    have s3:Same H2 (upd H2 p3 (.tup [z,x])):=Same.new np3
    generalize hH3:upd H2 p3 (.tup [z,x])=H3 at s3 ⊢
    have e3:H3 p3=some (.tup [z,x]):=by rw [← hH3]; exact upd_same
    refine ⟨by show 3≤sizeLine; decide,fun p4 np4=>?_⟩
    have s4:Same H3 (upd H3 p4 (.tup [.ref p,.ref p2,.ref p3])):=Same.new np4
    have t4:=(s12.trans (s3.trans s4)).tk
    refine q _ _ (s12.trans (s3.trans s4)) ⟨p4,_,rfl,upd_same,.cons ⟨p,x,y,rfl,s4 _ _ (s3 _ _ (s2 _ _ e1)),rx.tk t4,ry.tk t4⟩ (.cons ⟨p2,y,z,rfl,s4 _ _ (s3 _ _ e2),ry.tk t4,rz.tk t4⟩ (.cons ⟨p3,z,x,rfl,s4 _ _ e3,rz.tk t4,rx.tk t4⟩ .nil))⟩
abbrev s_lies_in:Stmt:=top 26
theorem ok_lies_in (F:Fun K "lies_in" "lies_in" s_lies_in f fd) (C_edges:Cal P w K mg base "edges" 1 ["points"] sp_edges) (C_turn:Cal P w K mg base "turn" 1 ["first","second","third"] sp_turn):FnOk P w K mg base CX0 2 f fd ["point","points"] sp_liesIn:=by
 have sc:FnScope ["point","points"] ["point","points"] (defScope s_lies_in):=fsc (by decide +kernel)
 refine F.ok sc (fun vs H Q E h=>?_) (fun cdv A outer s H vs Q E hr h=>?_)
 · obtain ⟨u,v,p,t,rfl,_⟩:=h
   rfl
 · obtain ⟨u,v,p,t,rfl,hp,ht,np,nt,q⟩:=h
   have nd:=sc.nd
   have hu:=hu_of hr
   have hu1:=Nat.lt_of_succ_lt hu
   refine' ⟨_,?term,?read⟩
   case term =>
    refine' @L2.pss_one _ _ _ ?g1
    case g1 =>
     refine' @L2.ps_ret _ _ _ _ ?g2
     case g2 =>
      refine' @L2.pe_callB _ _ _ _ _ _ _ _ _ (call_allB rfl) rfl T.b_all bb_all ?g3 (by decide) (by decide) (by rfl) (by rfl)
      case g3 =>
       refine' @L2.pa_cons _ _ _ _ _ ?g4 pa_nil rfl
       case g4 =>
        refine' @L2.pe_lc _ _ _ _ _ _ _ (["one","other","point"]) ([none,none,some 0]) _ _ ((gTup K 2 (gCons (gName 0) (gCons (gName 1) gNil)))) _ _ rfl (lcs_gen (XN:=["point","points"]) (Scope.names (defScope s_lies_in)) rfl rfl rfl (fun _ h=>cell_has h) (by decide +kernel) rfl) (pi_tup (pe_cal C_edges hr (by decide) rfl (pa_cons (pv 1) pa_nil rfl))) (fun _ _ _ _=>(pg_tup (n:=2) rfl (pgs_cons (pg_name (i:=0) (show List.Nodup (["one","other","point"]:List Str) by decide) rfl (Or.inl rfl) (Or.inr rfl)) (pgs_cons (pg_name (i:=1) (show List.Nodup (["one","other","point"]:List Str) by decide) rfl (Or.inl rfl) (Or.inr rfl)) pgs_nil)))) (fun _ _ _ _=>pifs_nil) (fun _ _ _ _=>(pe_cmpR op_ge (pe_cal C_turn hr (by decide) rfl (pa_cons (pv 0) (pa_cons (pv 1) (pa_cons (pv 2) pa_nil rfl) rfl) rfl)) pe_int (nomark _))) (by intro _ ; rfl)
   case read =>
    refine ⟨_,rfl,v,t,rfl,ht,fun H1 w s1 hw=>?_⟩
    obtain ⟨a,vs,rfl,ha,al⟩:=hw
    have hl:vs.length=3:=al.1
    refine ⟨a,rfl,⟨_,SqT.of ha⟩,fun D nD=>?_⟩
    refine lc_T2 (k:=.t) (vs:=vs) RB hRB (t.edges.map fun e=>decide (0≤tn e.1 e.2 p)) (by simp [hl,Tri.edges]) (by omega) nD ha (prs al) (fun i p' x y H2 C hw hp' s2 c=>?_) (fun H2 us' s2 e2 a2=>?_)
    · obtain ⟨e,ee,rx,ry⟩:=pr1 al hw hp'
      obtain ⟨n1,n2⟩:=edge_near nt (List.mem_of_getElem? ee)
      exact ⟨_,rfl,_,rfl,_,rfl,x,y,u,e.1,e.2,p,rfl,rx.tk s2.tk,ry.tk s2.tk,hp.tk (s1.trans s2).tk,n1,n2,np,_,_,rfl,rfl,c _ _ _ (Same.refl _) (by rw [List.getElem?_map,ee]; rfl) rfl⟩
    · rw [a2.bls] at e2
      exact ⟨D,_,rfl,SqL.of e2,q _ (s1.trans s2)⟩
abbrev s_parts_from:Stmt:=top 27
theorem ok_parts_from (F:Fun K "parts_from" "parts_from" s_parts_from f fd) (C_edges:Cal P w K mg base "edges" 1 ["points"] sp_edges) (C_turn:Cal P w K mg base "turn" 1 ["first","second","third"] sp_turn):FnOk P w K mg base CX0 2 f fd ["points","others"] sp_partsFrom:=by
 have sc:FnScope ["points","others","one","other"] ["points","others"] (defScope s_parts_from):=fsc (by decide +kernel)
 refine F.ok sc (fun vs H Q E h=>?_) (fun cdv A outer s H vs Q E hr h=>?_)
 · obtain ⟨u,v,t,r,rfl,_⟩:=h
   rfl
 · obtain ⟨u,v,t,r,rfl,ht,hr',nt,nr,q⟩:=h
   have nd:=sc.nd
   have hu:=hu_of hr
   have hu1:=Nat.lt_of_succ_lt hu
   refine' ⟨_,?term,?read⟩
   case term =>
    refine' @L2.pss_cons _ _ _ _ _ ?g1 (pss_one (ps_ret pe_bl))
    case g1 =>
     refine' @L2.ps_for _ _ _ _ _ _ _ _ PassesOwn.never rfl (pi_tup (pe_cal C_edges hr (by decide) rfl (pa_cons (pv 0) pa_nil rfl))) ?g2 ?g3 (by intro _ ; rfl)
     case g2 =>
      refine' @L2.pg_tup _ _ _ _ _ (2) rfl (pgs_cons (pg_name (i:=2) nd rfl (Or.inr rfl)) (pgs_cons (pg_name (i:=3) nd rfl (Or.inr rfl)) pgs_nil)) (by rfl) (by rfl)
     case g3 =>
      refine' @L2.pss_one _ _ _ ?g4
      case g4 =>
       refine' @L2.ps_if _ _ _ _ _ _ _ _ ?g5 (pss_one (ps_ret pe_bl)) pss_nil
       case g5 =>
        refine' @L2.pt_truth _ _ _ ?g6 (fun _=>rfl)
        case g6 =>
         refine' @L2.pe_callB _ _ _ _ _ _ _ _ _ (call_allB rfl) rfl T.b_all bb_all ?g7 (by decide) (by decide) (by rfl) (by rfl)
         case g7 =>
          refine' @L2.pa_cons _ _ _ _ _ ?g8 pa_nil rfl
          case g8 =>
           refine' @L2.pe_lc _ _ _ _ _ _ _ (["point","one","other"]) ([none,some 2,some 3]) _ _ _ _ _ rfl (lcs_gen (XN:=["points","others","one","other"]) (Scope.names (defScope s_parts_from)) rfl rfl rfl (fun _ h=>cell_has h) (by decide +kernel) rfl) (pi_tup (pv 1)) (fun _ _ _ _=>(pg_name (i:=0) (show List.Nodup (["point","one","other"]:List Str) by decide) rfl (Or.inl rfl) (Or.inr rfl))) (fun _ _ _ _=>pifs_nil) (fun _ _ _ _=>(pe_cmpR op_le (pe_cal C_turn hr (by decide) rfl (pa_cons (pv 1) (pa_cons (pv 2) (pa_cons (pv 0) pa_nil rfl) rfl) rfl)) pe_int (nomark _))) (by intro _ ; rfl)
   case read =>
    refine ⟨_,rfl,u,t,rfl,ht,fun H1 w s1 hw=>?_⟩
    obtain ⟨a,vs,rfl,ha,al⟩:=hw
    have hl:vs.length=3:=al.1
    have hel:t.edges.length=3:=rfl
    refine ⟨a,rfl,⟨_,SqT.of ha⟩,?_⟩
    refine for_gen (n:=3) (fun i σ H2=>Same H1 H2∧(∃ x y,σ=[some u,some v,x,y])∧((t.edges.take i).any fun e=>beyond e r)=false) ⟨Same.refl _,⟨_,_,rfl⟩,rfl⟩ (fun i σ H2 hi p=>⟨vs,vs[i]'(by omega),SqT.of (p.1 _ _ ha),List.getElem?_eq_getElem (by omega)⟩) (fun σ H2 p=>⟨vs,SqT.of (p.1 _ _ ha),by omega⟩) (fun i x σ H2 H3 hi y p=>?_) (fun σ H2 p=>?_)
    · obtain ⟨s2,⟨u1,u2,rfl⟩,no⟩:=p
      obtain ⟨rfl,y2⟩:=y
      have ex:=y2 vs (SqT.of (s2 _ _ ha))
      obtain ⟨p',x1,y1,rfl,hp'⟩:=prs al i x ex
      obtain ⟨e,ee,rx,ry⟩:=pr1 al ex hp'
      obtain ⟨n1,n2⟩:=edge_near nt (List.mem_of_getElem? ee)
      refine ⟨p',_,rfl,SqT.of (s2 _ _ hp'),rfl,x1,_,rfl,y1,_,rfl,rfl,?_⟩
      obtain ⟨b,ws,rfl,hb,hl2,bl⟩:=isT_al hr'
      have s02:=s1.trans s2
      refine ⟨_,rfl,b,rfl,⟨_,SqT.of (s02 _ _ hb)⟩,fun D nD=>?_⟩
      refine lc_T (k:=.t) (vs:=ws) RB hRB (r.pts.map fun q=>decide (tn e.1 e.2 q≤0)) (by simp [hl2,Tri.pts]) (by omega) nD (s02 _ _ hb) (fun j w H4 C hw s4 c=>?_) (fun H4 us' s4 e4 a4=>?_)
      · obtain ⟨g,eg,rg⟩:=bl.get hw
        have tk4:=(s2.trans s4).tk
        exact ⟨_,rfl,_,rfl,_,rfl,x1,y1,w,e.1,e.2,g,rfl,rx.tk tk4,ry.tk tk4,rg.tk (s02.trans s4).tk,n1,n2,pt_near nr (List.mem_of_getElem? eg),_,_,rfl,rfl,c _ _ _ (Same.refl _) (by rw [List.getElem?_map,eg]; rfl) rfl⟩
      · rw [a4.bls] at e4
        refine ⟨D,_,rfl,SqL.of e4,_,rfl,ite2 (fun h=>?_) (fun h=>?_)⟩
        · have:partsFrom t r=true:=List.any_eq_true.mpr ⟨e,List.mem_of_getElem? ee,h⟩
          rw [this] at q
          exact q _ (s02.trans s4)
        · refine ⟨s2.trans s4,⟨_,_,rfl⟩,?_⟩
          have hi':i < t.edges.length:=by omega
          rw [List.take_succ,ee,List.any_append,no]
          have:beyond e r=false:=Bool.eq_false_iff.mpr h
          simp [this]
    · obtain ⟨s2,⟨u1,u2,rfl⟩,no⟩:=p
      have:partsFrom t r=false:=no
      rw [this] at q
      exact q _ (s1.trans s2)
abbrev s_are_apart:Stmt:=top 28
theorem ok_are_apart (F:Fun K "are_apart" "are_apart" s_are_apart f fd) (C_parts_from:Cal P w K mg base "parts_from" 2 ["points","others"] sp_partsFrom):FnOk P w K mg base CX0 3 f fd ["points","others"] sp_apart:=by
 have sc:FnScope ["points","others"] ["points","others"] (defScope s_are_apart):=fsc (by decide +kernel)
 refine F.ok sc (fun vs H Q E h=>?_) (fun cdv A outer s H vs Q E hr h=>?_)
 · obtain ⟨u,v,t,r,rfl,_⟩:=h
   rfl
 · obtain ⟨u,v,t,r,rfl,ht,hr',nt,nr,q⟩:=h
   have nd:=sc.nd
   have hu:=hu_of hr
   have hu1:=Nat.lt_of_succ_lt hu
   refine' ⟨_,?term,?read⟩
   case term =>
    refine' @L2.pss_one _ _ _ ?g1
    case g1 =>
     refine' @L2.ps_ret _ _ _ _ ?g2
     case g2 =>
      refine' @L2.pe_or _ _ _ _ _ _ _ (pe_cal C_parts_from hr (by decide) rfl (pa_cons (pv 0) (pa_cons (pv 1) pa_nil rfl) rfl)) (pe_one (pe_cal C_parts_from hr (by decide) rfl (pa_cons (pv 1) (pa_cons (pv 0) pa_nil rfl) rfl)))
   case read =>
    refine ⟨_,rfl,_,rfl,u,v,t,r,rfl,ht,hr',nt,nr,fun H1 s1=>⟨_,rfl,ite2 (fun h=>?_) (fun h=>?_)⟩⟩
    · rw [show L2.apart t r=true by unfold L2.apart; rw [h]; rfl] at q
      exact q _ s1
    · rw [show L2.apart t r=partsFrom r t by unfold L2.apart; rw [show partsFrom t r=false by simpa using h]; rfl] at q
      exact ⟨_,rfl,_,rfl,v,u,r,t,rfl,hr'.tk s1.tk,ht.tk s1.tk,nr,nt,fun H2 s2=>q _ (s1.trans s2)⟩
abbrev s_every_corner_is_used:Stmt:=top 29
theorem ok_every_corner_is_used (F:Fun K "every_corner_is_used" "every_corner_is_used" s_every_corner_is_used f fd):FnOk P w K mg base CX0 2 f fd ["corners","pieces"] sp_used:=by
 have sc:FnScope ["corners","pieces"] ["corners","pieces"] (defScope s_every_corner_is_used):=fsc (by decide +kernel)
 refine F.ok sc (fun vs H Q E h=>?_) (fun cdv A outer s H vs Q E hr h=>?_)
 · obtain ⟨u,v,cs,ps,rfl,_⟩:=h
   rfl
 · obtain ⟨u,v,cs,ps,rfl,⟨a,us,rfl,ha,al⟩,⟨b,ws,rfl,hb,bl⟩,h3,p40,cnt,c30,q⟩:=h
   have nd:=sc.nd
   have hu:=hu_of hr
   have hu1:=Nat.lt_of_succ_lt hu
   refine' ⟨_,?term,?read⟩
   case term =>
    refine' @L2.pss_one _ _ _ ?g1
    case g1 =>
     refine' @L2.ps_ret _ _ _ _ ?g2
     case g2 =>
      refine' @L2.pe_cmpR _ _ _ _ _ _ _ _ op_eq ?g3 (pe_callB call_len_seq rfl T.b_len bb_len (pa_cons (pv 0) pa_nil rfl)) (nomark _)
      case g3 =>
       refine' @L2.pe_callB _ _ _ _ _ _ _ _ _ call_lenS rfl T.b_len bb_len ?g4 (by decide) (by decide) (by rfl) (by rfl)
       case g4 =>
        refine' @L2.pa_cons _ _ _ _ _ ?g5 pa_nil rfl
        case g5 =>
         refine' @L2.pe_sc2 _ _ _ _ _ _ _ _ (["piece","number"]) ([none,none]) _ _ _ _ _ _ rfl (lcs_plain (by decide) rfl (by decide) rfl rfl) (pi_tup (pv 1)) (fun _ _ _ _=>(pg_name (i:=0) (show List.Nodup (["piece","number"]:List Str) by decide) rfl (Or.inl rfl) (Or.inr rfl))) (fun _ _ _ _=>(pi_tupK K rfl (pv 0))) (fun _ _ _ _=>(pg_name (i:=1) (show List.Nodup (["piece","number"]:List Str) by decide) rfl (Or.inl rfl) (Or.inr rfl))) (fun _ _ _ _=>(pv 1)) (by intro _ ; rfl) (by intro _ _ ; rfl)
   case read =>
    have hl:=al.1
    have fl:∀ l:List (List Int),(∀ p∈l,p.length=3)→l.flatten.length=3 * l.length:=by
     intro l
     induction l with
     | nil=>intro _; rfl
     | cons x l ih =>
       intro h
       rw [List.flatten_cons,List.length_append,ih fun p hp=>h p (List.mem_cons_of_mem _ hp),h x List.mem_cons_self,List.length_cons]
       omega
    refine ⟨_,rfl,b,rfl,⟨_,SqT.of hb⟩,fun D nD=>?_⟩
    refine sc_ints hb bl (by rw [fl ps h3]; omega) nD (fun S=>?_)
    have s1:Same H (upd H D (.set S (cntS ps.flatten))):=Same.new nD
    refine ⟨D,S,_,rfl,upd_same,_,rfl,a,us,rfl,.inr (SqT.of (s1 _ _ ha)),rfl,?_⟩
    have e:V.int (cntS ps.flatten:Nat)=V.int us.length:=by rw [cnt,hl]
    exact qT e (q _ s1)
abbrev s_no_strange_corner:Stmt:=top 30
theorem ok_no_strange_corner (F:Fun K "no_strange_corner" "no_strange_corner" s_no_strange_corner f fd) (C_lies_in:Cal P w K mg base "lies_in" 2 ["point","points"] sp_liesIn):FnOk P w K mg base CX0 3 f fd ["corners","piece","points"] sp_strange:=by
 have sc:FnScope ["corners","piece","points","strange"] ["corners","piece","points"] (defScope s_no_strange_corner):=fsc (by decide +kernel)
 refine F.ok sc (fun vs H Q E h=>?_) (fun cdv A outer s H vs Q E hr h=>?_)
 · obtain ⟨u,v,w,cs,p,t,rfl,_⟩:=h
   rfl
 · obtain ⟨u,v,w,cs,p,t,rfl,⟨a,us,rfl,ha,al⟩,⟨b,rfl,hb⟩,ht,c30,nr,nt,no,q⟩:=h
   have nd:=sc.nd
   have hu:=hu_of hr
   have hu1:=Nat.lt_of_succ_lt hu
   refine' ⟨_,?term,?read⟩
   case term =>
    refine' @L2.pss_cons _ _ _ _ _ ?g1 ?g2
    case g1 =>
     refine' @L2.ps_lcS _ _ _ _ _ _ _ _ _ _ (["number","corner","piece"]) ([none,none,some 1]) _ _ ((gTup K 2 (gCons (gName 0) (gCons (gName 1) gNil)))) _ _ _ rfl rfl (pg_name (i:=3) nd rfl (Or.inl rfl)) (lcs_gen (XN:=["corners","piece","points","strange"]) (Scope.names (defScope s_no_strange_corner)) rfl rfl rfl (fun _ h=>cell_has h) (by decide +kernel) rfl) ?g3 (fun _ _ _ _=>(pg_tup (n:=2) rfl (pgs_cons (pg_name (i:=0) (show List.Nodup (["number","corner","piece"]:List Str) by decide) rfl (Or.inl rfl) (Or.inr rfl)) (pgs_cons (pg_name (i:=1) (show List.Nodup (["number","corner","piece"]:List Str) by decide) rfl (Or.inl rfl) (Or.inr rfl)) pgs_nil)))) (fun _ _ _ _=>(pifs_one (pt_cmpR (op_notIn_seqK K rfl) (pv 0) (pv 2) rfl))) (fun _ _ _ _=>(pv 1)) (by intro _ ; rfl)
     case g3 =>
      refine' @L2.pi_enum _ _ _ _ .t _ _ _ _ rfl T.b_enumerate (pa_cons (pv 0) pa_nil rfl) (by rfl)
    case g2 =>
     refine' @L2.pss_one _ _ _ ?g4
     case g4 =>
      refine' @L2.ps_ret _ _ _ _ ?g5
      case g5 =>
       refine' @L2.pe_not _ _ _ _ ?g6
       case g6 =>
        refine' @L2.pe_callB _ _ _ _ _ _ _ _ _ (call_anyB rfl) rfl T.b_any bb_any ?g7 (by decide) (by decide) (by rfl) (by rfl)
        case g7 =>
         refine' @L2.pa_cons _ _ _ _ _ ?g8 pa_nil rfl
         case g8 =>
          refine' @L2.pe_lc _ _ _ _ _ _ _ (["corner","points"]) ([none,some 2]) _ _ _ _ _ rfl (lcs_gen (XN:=["corners","piece","points","strange"]) (Scope.names (defScope s_no_strange_corner)) rfl rfl rfl (fun _ h=>cell_has h) (by decide +kernel) rfl) (pi_list (pv 3)) (fun _ _ _ _=>(pg_name (i:=0) (show List.Nodup (["corner","points"]:List Str) by decide) rfl (Or.inl rfl) (Or.inr rfl))) (fun _ _ _ _=>pifs_nil) (fun _ _ _ _=>(pe_cal C_lies_in hr (by decide) rfl (pa_cons (pv 0) (pa_cons (pv 1) pa_nil rfl) rfl))) (by intro _ ; rfl)
   case read =>
    have hl:=al.1
    refine ⟨_,rfl,a,rfl,⟨_,SqT.of ha⟩,fun D nD=>?_⟩
    refine lc_E (k:=.t) (vs:=us) IsP hRP (fun i=>if (i:Int)∈p then none else cs[i]?) (by omega) nD ha (fun i x H2 C N hx s2 c n=>?_) (fun H2 us' s2 e2 a2=>?_)
    · obtain ⟨g,eg,rg⟩:=al.get hx
      refine ⟨_,rfl,_,rfl,b,_,rfl,.inr (SqT.of (s2 _ _ hb)),rfl,by rw [List.all_map]; exact List.all_eq_true.mpr fun _ _=>rfl,_,rfl,?_⟩
      rw [inV_ints]
      by_cases hm:(i:Int)∈p
      · rw [decide_eq_true hm]
        exact iteF (n _ (Same.refl _) (by rw [if_pos hm]))
      · rw [decide_eq_false hm]
        exact iteT ⟨_,rfl,c _ _ g (Same.refl _) (by rw [if_neg hm]; exact eg) (rg.tk s2.tk)⟩
    · generalize hst:(List.range us.length).filterMap (fun i:Nat=>if (i:Int)∈p then none else cs[i]?)=st at a2
      have hst2:∀ g∈st,near g∧liesIn g t=false:=by
       intro g hg
       rw [← hst] at hg
       obtain ⟨i,hi,e⟩:=List.mem_filterMap.mp hg
       have hi:=List.mem_range.mp hi
       split at e
       · cases e
       · rename_i hm
         have:=no i (by omega) hm
         rw [List.getD_eq_getElem?_getD,e] at this
         exact ⟨nr g (List.mem_of_getElem? e),this⟩
      have hl3:st.length≤us.length:=by
       rw [← hst]
       have:=List.length_filterMap_le (fun i:Nat=>if (i:Int)∈p then none else cs[i]?) (List.range us.length)
       rwa [List.length_range] at this
      have l2:=a2.1
      refine ⟨_,rfl,D,rfl,⟨_,SqL.of e2⟩,fun E nE=>?_⟩
      refine lc_T (k:=.l) (vs:=us') RB hRB (st.map fun g=>liesIn g t) (by simp [l2]) (by omega) nE e2 (fun j x H4 C hx s4 c=>?_) (fun H4 us'' s4 e4 a4=>?_)
      · obtain ⟨g,eg,rg⟩:=a2.get hx
        exact ⟨_,rfl,_,rfl,x,w,g,t,rfl,rg.tk s4.tk,ht.tk (s2.trans s4).tk,(hst2 g (List.mem_of_getElem? eg)).1,nt,fun H5 s5=>c _ _ _ s5 (by rw [List.getElem?_map,eg]; rfl) rfl⟩
      · rw [a4.bls] at e4
        refine ⟨E,_,rfl,SqL.of e4,false,by rw [anyM fun g hg=>(hst2 g hg).2],?_⟩
        exact q _ (s2.trans s4)
abbrev s_fit_together:Stmt:=top 31
theorem ok_fit_together (F:Fun K "fit_together" "fit_together" s_fit_together f fd) (C_are_apart:Cal P w K mg base "are_apart" 3 ["points","others"] sp_apart) (C_no_strange_corner:Cal P w K mg base "no_strange_corner" 3 ["corners","piece","points"] sp_strange) (C_triangle:Cal P w K mg base "triangle" 2 ["corners","piece"] sp_tri):FnOk P w K mg base CX0 4 f fd ["corners","pieces"] sp_fit:=by
 have sc:FnScope ["corners","pieces","triangles","at","piece","points"] ["corners","pieces"] (defScope s_fit_together):=fsc (by decide +kernel)
 refine F.ok sc (fun vs H Q E h=>?_) (fun cdv A outer s H vs Q E hr h=>?_)
 · obtain ⟨u,v,cs,ps,rfl,_⟩:=h
   rfl
 · obtain ⟨u,v,cs,ps,rfl,hc,⟨b,ws,rfl,hb,bl⟩,ok,q⟩:=h
   have nd:=sc.nd
   have hu:=hu_of hr
   have hu1:=Nat.lt_of_succ_lt hu
   refine' ⟨_,?term,?read⟩
   case term =>
    refine' @L2.pss_cons _ _ _ _ _ ?g1 ?g2
    case g1 =>
     refine' @L2.ps_lcS _ _ _ _ _ _ _ _ _ _ (["piece","corners"]) ([none,some 0]) _ _ _ _ _ _ rfl rfl (pg_name (i:=2) nd rfl (Or.inl rfl)) (lcs_gen (XN:=["corners","pieces","triangles","at","piece","points"]) (Scope.names (defScope s_fit_together)) rfl rfl rfl (fun _ h=>cell_has h) (by decide +kernel) rfl) (pi_tup (pv 1)) (fun _ _ _ _=>(pg_name (i:=0) (show List.Nodup (["piece","corners"]:List Str) by decide) rfl (Or.inl rfl) (Or.inr rfl))) (fun _ _ _ _=>pifs_nil) (fun _ _ _ _=>(pe_cal C_triangle hr (by decide) rfl (pa_cons (pv 1) (pa_cons (pv 0) pa_nil rfl) rfl))) (by intro _ ; rfl)
    case g2 =>
     refine' @L2.pss_cons _ _ _ _ _ ?g3 (pss_one (ps_ret pe_bl))
     case g3 =>
      refine' @L2.ps_for _ _ _ _ _ _ _ _ PassesOwn.never rfl ?g4 ?g5 ?g6 (by intro _ ; rfl)
      case g4 =>
       refine' @L2.pi_enumzip _ _ _ _ .t .l _ _ _ _ _ _ _ rfl T.b_enumerate rfl T.b_zip (pa_cons (pv 1) (pa_cons (pv 2) pa_nil rfl) rfl) (by rfl) (by rfl) (by rfl)
      case g5 =>
       refine' @L2.pg_tup _ _ _ _ _ (2) rfl ?g7 (by rfl) (by rfl)
       case g7 =>
        refine' @L2.pgs_cons _ _ _ _ _ (pg_name (i:=3) nd rfl (Or.inl rfl)) ?g8 (by rfl)
        case g8 =>
         refine' @L2.pgs_cons _ _ _ _ _ ?g9 pgs_nil (by rfl)
         case g9 =>
          refine' @L2.pg_tup _ _ _ _ _ (2) rfl (pgs_cons (pg_name (i:=4) nd rfl (Or.inl rfl)) (pgs_cons (pg_name (i:=5) nd rfl (Or.inr rfl)) pgs_nil)) (by rfl) (by rfl)
      case g6 =>
       refine' @L2.pss_cons _ _ _ _ _ ?ga ?gb
       case ga =>
        refine' @L2.ps_if _ _ _ _ _ _ _ _ ?gc (pss_one (ps_ret pe_bl)) pss_nil
        case gc =>
         refine' @L2.pt_not _ _ _ _ ?gd
         case gd =>
          refine' @L2.pt_truth _ _ _ (pe_cal C_no_strange_corner hr (by decide) rfl (pa_cons (pv 0) (pa_cons (pv 4) (pa_cons (pv 5) pa_nil rfl) rfl) rfl)) (fun _=>rfl)
       case gb =>
        refine' @L2.pss_one _ _ _ ?ge
        case ge =>
         refine' @L2.ps_if _ _ _ _ _ _ _ _ ?gf (pss_one (ps_ret pe_bl)) pss_nil
         case gf =>
          refine' @L2.pt_not _ _ _ _ ?gg
          case gg =>
           refine' @L2.pt_truth _ _ _ ?gh (fun _=>rfl)
           case gh =>
            refine' @L2.pe_callB _ _ _ _ _ _ _ _ _ (call_allB rfl) rfl T.b_all bb_all ?gi (by decide) (by decide) (by rfl) (by rfl)
            case gi =>
             refine' @L2.pa_cons _ _ _ _ _ ?gj pa_nil rfl
             case gj =>
              refine' @L2.pe_lc _ _ _ _ _ _ _ (["others","points"]) ([none,some 5]) _ _ _ _ _ rfl (lcs_gen (XN:=["corners","pieces","triangles","at","piece","points"]) (Scope.names (defScope s_fit_together)) rfl rfl rfl (fun _ h=>cell_has h) (by decide +kernel) rfl) ?gk (fun _ _ _ _=>(pg_name (i:=0) (show List.Nodup (["others","points"]:List Str) by decide) rfl (Or.inl rfl) (Or.inr rfl))) (fun _ _ _ _=>pifs_nil) (fun _ _ _ _=>(pe_cal C_are_apart hr (by decide) rfl (pa_cons (pv 1) (pa_cons (pv 0) pa_nil rfl) rfl))) (by intro _ ; rfl)
              case gk =>
               refine' @L2.pi_list _ _ _ _ ?gl
               case gl =>
                refine' @L2.pe_slice _ _ _ _ _ _ _ _ _ _ sl_list (pv 2) po_none (po_some (pv 3))
   case read =>
    have hl:=bl.1
    have p40:=ok.p40
    refine ⟨_,rfl,b,rfl,⟨_,SqT.of hb⟩,fun D nD=>?_⟩
    refine lc_T (k:=.t) (vs:=ws) IsT hRT (ps.map (trOf cs)) (by simp [hl]) (by omega) nD hb (fun i w H2 C hw s2 c=>?_) (fun H2 us' s2 e2 a2=>?_)
    · obtain ⟨p,ep,rp⟩:=bl.get hw
      have pk:=ok.pc p (List.mem_of_getElem? ep)
      exact ⟨_,rfl,_,rfl,u,w,cs,p,rfl,hc.tk s2.tk,rp.tk s2.tk,pk.len,pk.bd,ok.nr,fun H5 w5 s5 h5=>c _ _ _ s5 (by rw [List.getElem?_map,ep]; rfl) h5⟩
    · have l2:=a2.1
      rw [List.length_map] at l2
      have hb2:=s2 _ _ hb
      refine ⟨_,rfl,_,rfl,b,D,rfl,⟨_,SqT.of hb2⟩,⟨_,SqL.of e2⟩,?_⟩
      refine for_gen (n:=ps.length) (fun i σ H3=>Same H2 H3∧∃ x y z,σ=[some u,some (.ref b),some (.ref D),x,y,z]) ⟨Same.refl _,_,_,_,rfl⟩ (fun i σ H3 hi p=>⟨ws,us',ws[i]'(by omega),us'[i]'(by omega),SqT.of (p.1 _ _ hb2),SqL.of (p.1 _ _ e2),List.getElem?_eq_getElem (by omega),List.getElem?_eq_getElem (by omega)⟩) (fun σ H3 p=>⟨ws,us',SqT.of (p.1 _ _ hb2),SqL.of (p.1 _ _ e2),by omega⟩) (fun i x σ H3 H4 hi y p=>?_) (fun σ H3 p=>?_)
      · obtain ⟨s3,x1,x2,x3,rfl⟩:=p
        obtain ⟨p1,p2,x,y,rfl,n1,n2,ne,rfl,y1,y2⟩:=y
        have ex:=y1 ws (SqT.of (s3 _ _ hb2))
        have ey:=y2 us' (SqL.of (s3 _ _ e2))
        have sa:Same H3 (upd H3 p1 (.tup [x,y])):=Same.new n1
        have sb:Same (upd H3 p1 (.tup [x,y])) (upd (upd H3 p1 (.tup [x,y])) p2 (.tup [.int i,.ref p1])):=Same.new (by rw [upd_ne ne.symm]; exact n2)
        have e5:upd (upd H3 p1 (.tup [x,y])) p2 (.tup [.int i,.ref p1]) p1=some (.tup [x,y]):=sb _ _ upd_same
        have e6:upd (upd H3 p1 (.tup [x,y])) p2 (.tup [.int i,.ref p1]) p2=some (.tup [.int i,.ref p1]):=upd_same
        have s4:=s3.trans (sa.trans sb)
        generalize upd (upd H3 p1 (.tup [x,y])) p2 (.tup [.int i,.ref p1])=H4 at s4 e5 e6
        obtain ⟨p,ep,rp⟩:=bl.get ex
        obtain ⟨t,et,rt'⟩:=a2.get ey
        rw [List.getElem?_map,ep] at et
        cases et
        have pk:=ok.pc p (List.mem_of_getElem? ep)
        have tn':=trOf_near pk.bd pk.len ok.nr
        have gp:ps.getD i []=p:=by rw [List.getD_eq_getElem?_getD,ep]; rfl
        refine ⟨p2,_,rfl,SqT.of e6,rfl,_,_,rfl,_,_,rfl,⟨p1,_,rfl,SqT.of e5,rfl,x,_,rfl,y,_,rfl,rfl,rfl,?_⟩⟩
        have s04:=s2.trans s4
        refine ⟨_,rfl,_,rfl,_,rfl,u,x,y,cs,p,_,rfl,hc.tk s04.tk,rp.tk s04.tk,rt'.tk s4.tk,ok.c30,ok.nr,tn',ok.strange p (List.mem_of_getElem? ep),fun H5 s5=>⟨true,rfl,iteF ?_⟩⟩
        have s45:=s4.trans s5
        refine ⟨_,rfl,_,rfl,_,rfl,D,us',rfl,SqL.of (s45 _ _ e2),fun r nr'=>?_⟩
        have s6:Same H5 (upd H5 r (.lst (us'.take i))):=Same.new nr'
        rw [cutTo _ _ (by omega)]
        have e7:upd H5 r (.lst (us'.take i)) r=some (.lst (us'.take i)):=upd_same
        generalize upd H5 r (.lst (us'.take i))=H6 at s6 e7 ⊢
        refine ⟨r,rfl,⟨_,SqL.of e7⟩,fun E nE=>?_⟩
        have s46:=s45.trans s6
        refine lc_T (k:=.l) (vs:=us'.take i) RB hRB (List.replicate i true) (by simp; omega) (by simp; omega) nE e7 (fun j w H8 C hw s8 c=>?_) (fun H8 us'' s8 e8 a8=>?_)
        · have hj:j < i:=by
           have:=lt_of_get hw
           rw [List.length_take] at this
           omega
          rw [List.getElem?_take_of_lt hj] at hw
          obtain ⟨t2,et2,rt2⟩:=a2.get hw
          rw [List.getElem?_map] at et2
          obtain ⟨p',ep',rfl⟩:=Option.map_eq_some_iff.mp et2
          have pk':=ok.pc p' (List.mem_of_getElem? ep')
          have gp':ps.getD j []=p':=by rw [List.getD_eq_getElem?_getD,ep']; rfl
          have ap:=ok.apart j i hj hi
          rw [gp,gp'] at ap
          have s48:=s46.trans s8
          refine ⟨_,rfl,_,rfl,y,w,_,_,rfl,rt'.tk s48.tk,rt2.tk s48.tk,tn',trOf_near pk'.bd pk'.len ok.nr,fun H9 s9=>c _ _ true s9 (repT hj) (congrArg V.bl ap)⟩
        · rw [a8.bls] at e8
          refine ⟨E,_,rfl,SqL.of e8,true,by rw [allT]; rfl,iteF ?_⟩
          exact ⟨s46.trans s8,_,_,_,rfl⟩
      · obtain ⟨s3,x1,x2,x3,rfl⟩:=p
        exact q _ (s2.trans s3)
abbrev s_is_plate:Stmt:=top 32
theorem ok_is_plate (F:Fun K "is_plate" "is_plate" s_is_plate f fd) (C_are_corners:Cal P w K mg base "are_corners" 4 ["thing"] sp_corners) (C_are_pieces:Cal P w K mg base "are_pieces" 4 ["corners","thing"] sp_pieces) (C_are_thicks:Cal P w K mg base "are_thicks" 3 ["pieces","thing"] sp_thicks) (C_every_corner_is_used:Cal P w K mg base "every_corner_is_used" 2 ["corners","pieces"] sp_used) (C_fit_together:Cal P w K mg base "fit_together" 4 ["corners","pieces"] sp_fit) (C_is_row:Cal P w K mg base "is_row" 1 ["thing","fewest","most"] sp_row) (C_is_stuff:Cal P w K mg base "is_stuff" 3 ["thing"] sp_stuff):FnOk P w K mg base CX0 5 f fd ["thing"] sp_isPlate:=by
 have sc:FnScope ["thing","corners","pieces","thicks","stuff"] ["thing"] (defScope s_is_plate):=fsc (by decide +kernel)
 refine F.ok sc (fun vs H Q E h=>?_) (fun cdv A outer s H vs Q E hr h=>?_)
 · obtain ⟨v,P',rfl,_⟩:=h
   rfl
 · obtain ⟨v,P',rfl,⟨a,c,p,t,st,rfl,ha,hc,hp,ht,hs⟩,ok,q⟩:=h
   have nd:=sc.nd
   have hu:=hu_of hr
   have hu1:=Nat.lt_of_succ_lt hu
   refine' ⟨_,?term,?read⟩
   case term =>
    refine' @L2.pss_cons _ _ _ _ _ ?g1 ?g2
    case g1 =>
     refine' @L2.ps_if _ _ _ _ _ _ _ _ ?g3 (pss_one (ps_ret pe_bl)) pss_nil
     case g3 =>
      refine' @L2.pt_not _ _ _ _ ?g4
      case g4 =>
       refine' @L2.pt_truth _ _ _ (pe_cal C_is_row hr (by decide) rfl (pa_cons (pv 0) (pa_cons pe_int (pa_cons pe_int pa_nil rfl) rfl) rfl)) (fun _=>rfl)
    case g2 =>
     refine' @L2.pss_cons _ _ _ _ _ ?g5 ?g6
     case g5 =>
      refine' @L2.ps_asg _ _ _ _ _ _ (pv 0) ?g7 (by rfl) (by rfl) (by rfl)
      case g7 =>
       refine' @L2.pg_tup _ _ _ _ _ (4) rfl (pgs_cons (pg_name (i:=1) nd rfl (Or.inl rfl)) (pgs_cons (pg_name (i:=2) nd rfl (Or.inl rfl)) (pgs_cons (pg_name (i:=3) nd rfl (Or.inl rfl)) (pgs_cons (pg_name (i:=4) nd rfl (Or.inl rfl)) pgs_nil)))) (by rfl) (by rfl)
     case g6 =>
      refine' @L2.pss_cons _ _ _ _ _ ?g8 ?g9
      case g8 =>
       refine' @L2.ps_if _ _ _ _ _ _ _ _ ?ga (pss_one (ps_ret pe_bl)) pss_nil
       case ga =>
        refine' @L2.PW.pt _ _ _ ?gb
        case gb =>
         refine' @L2.pw_or _ _ _ _ _ _ _ ?gc ?gd
         case gc =>
          refine' @L2.pt_not _ _ _ _ ?ge
          case ge =>
           refine' @L2.pt_truth _ _ _ (pe_cal C_are_corners hr (by decide) rfl (pa_cons (pv 1) pa_nil rfl)) (fun _=>rfl)
         case gd =>
          refine' @L2.pw_or1 _ _ _ _ ?gf
          case gf =>
           refine' @L2.pt_not _ _ _ _ ?gg
           case gg =>
            refine' @L2.pt_truth _ _ _ (pe_cal C_are_pieces hr (by decide) rfl (pa_cons (pv 1) (pa_cons (pv 2) pa_nil rfl) rfl)) (fun _=>rfl)
      case g9 =>
       refine' @L2.pss_cons _ _ _ _ _ ?gh ?gi
       case gh =>
        refine' @L2.ps_if _ _ _ _ _ _ _ _ ?gj (pss_one (ps_ret pe_bl)) pss_nil
        case gj =>
         refine' @L2.PW.pt _ _ _ ?gk
         case gk =>
          refine' @L2.pw_or _ _ _ _ _ _ _ ?gl ?gm
          case gl =>
           refine' @L2.pt_not _ _ _ _ ?gn
           case gn =>
            refine' @L2.pt_truth _ _ _ (pe_cal C_are_thicks hr (by decide) rfl (pa_cons (pv 2) (pa_cons (pv 3) pa_nil rfl) rfl)) (fun _=>rfl)
          case gm =>
           refine' @L2.pw_or1 _ _ _ _ ?go
           case go =>
            refine' @L2.pt_not _ _ _ _ ?gp
            case gp =>
             refine' @L2.pt_truth _ _ _ (pe_cal C_is_stuff hr (by decide) rfl (pa_cons (pv 4) pa_nil rfl)) (fun _=>rfl)
       case gi =>
        refine' @L2.pss_one _ _ _ ?gq
        case gq =>
         refine' @L2.ps_ret _ _ _ _ ?gr
         case gr =>
          refine' @L2.pe_and _ _ _ _ _ _ _ (pe_cal C_every_corner_is_used hr (by decide) rfl (pa_cons (pv 1) (pa_cons (pv 2) pa_nil rfl) rfl)) (pe_one (pe_cal C_fit_together hr (by decide) rfl (pa_cons (pv 1) (pa_cons (pv 2) pa_nil rfl) rfl)))
   case read =>
    refine ⟨_,rfl,a,_,4,4,rfl,ha,by simp,by simp,true,rfl,iteF ?_⟩
    refine ⟨_,rfl,a,_,rfl,SqT.of ha,rfl,c,_,rfl,p,_,rfl,t,_,rfl,st,_,rfl,rfl,?_⟩
    refine ⟨_,rfl,c,P'.cs,rfl,hc,ok.c3,ok.c30,ok.nr,ok.nd,fun H1 s1=>⟨true,rfl,iteF ?_⟩⟩
    refine ⟨_,rfl,_,rfl,c,p,P'.cs,P'.ps,rfl,hc.tk s1.tk,hp.tk s1.tk,ok.p1,ok.p40,ok.pc,ok.rise,ok.nr,fun H2 s2=>⟨true,rfl,iteF ?_⟩⟩
    have s12:=s1.trans s2
    refine ⟨_,rfl,_,rfl,p,t,P'.ps,P'.ts,rfl,hp.tk s12.tk,ht.tk s12.tk,ok.t1,ok.p40,ok.t9,fun H3 s3=>⟨true,rfl,iteF ?_⟩⟩
    have s13:=s12.trans s3
    refine ⟨_,rfl,st,P'.l,P'.m,rfl,hs.tk s13.tk,ok.l9,ok.m9,true,rfl,iteF ?_⟩
    refine ⟨_,rfl,_,rfl,c,p,P'.cs,P'.ps,rfl,hc.tk s13.tk,hp.tk s13.tk,fun x hx=>(ok.pc x hx).len,ok.p40,ok.used,ok.c30,fun H4 s4=>⟨true,rfl,iteT ?_⟩⟩
    have s14:=s13.trans s4
    exact ⟨_,rfl,_,rfl,c,p,P'.cs,P'.ps,rfl,hc.tk s14.tk,hp.tk s14.tk,⟨ok.c30,ok.nr,ok.p40,ok.pc,ok.strange,ok.apart⟩,fun H5 s5=>q _ (s14.trans s5)⟩
abbrev s_look_at_plate:Stmt:=top 33
theorem ok_look_at_plate (F:Fun K "look_at_plate" "look_at_plate" s_look_at_plate f fd) (C_is_plate:Cal P w K mg base "is_plate" 5 ["thing"] sp_isPlate):FnOk P w K mg base CX0 6 f fd ["plate"] sp_lookPlate:=by
 have sc:FnScope ["plate"] ["plate"] (defScope s_look_at_plate):=fsc (by decide +kernel)
 refine F.ok sc (fun vs H Q E h=>?_) (fun cdv A outer s H vs Q E hr h=>?_)
 · obtain ⟨v,P',rfl,_⟩:=h
   rfl
 · obtain ⟨v,P',rfl,hv,ok,q⟩:=h
   have nd:=sc.nd
   have hu:=hu_of hr
   have hu1:=Nat.lt_of_succ_lt hu
   refine' ⟨_,?term,?read⟩
   case term =>
    refine' @L2.pss_one _ _ _ ?g1
    case g1 =>
     refine' @L2.ps_if _ _ _ _ _ _ _ _ ?g2 pss_never pss_nil
     case g2 =>
      refine' @L2.pt_not _ _ _ _ ?g3
      case g3 =>
       refine' @L2.pt_truth _ _ _ (pe_cal C_is_plate hr (by decide) rfl (pa_cons (pv 0) pa_nil rfl)) (fun _=>rfl)
   case read =>
    exact ⟨_,rfl,v,P',rfl,hv,ok,fun H1 s1=>⟨true,rfl,iteF (q _ s1)⟩⟩
abbrev s_number_of:Stmt:=top 37
theorem ok_number_of (F:Fun K "number_of" "number_of" s_number_of f fd):FnOk P w K mg base CX0 1 f fd ["figures"] sp_numOf:=by
 have sc:FnScope ["figures","ahead","number","at"] ["figures"] (defScope s_number_of):=fsc (by decide +kernel)
 refine F.ok sc (fun vs H Q E h=>?_) (fun cdv A outer s H vs Q E hr h=>?_)
 · obtain ⟨n,rfl,_⟩:=h
   rfl
 · obtain ⟨n,rfl,hn,q⟩:=h
   have nd:=sc.nd
   have hu:=hu_of hr
   have hu1:=Nat.lt_of_succ_lt hu
   refine' ⟨_,?term,?read⟩
   case term =>
    refine' @L2.pss_cons _ _ _ _ _ ?g1 ?g2
    case g1 =>
     refine' @L2.ps_set _ _ (1) _ _ _ _ nd rfl (Or.inl rfl) (pe_op op_modN (pe_callB call_len_str rfl T.b_len bb_len (pa_cons (pv 0) pa_nil rfl)) (pe_gint T.n_AT_ONCE rfl)) (by rfl) (by first | exact Or.inl rfl | exact Or.inr rfl | assumption)
    case g2 =>
     refine' @L2.pss_cons _ _ _ _ _ ?g3 ?g4
     case g3 =>
      refine' @L2.ps_set _ _ (2) _ _ _ _ nd rfl (Or.inl rfl) ?g5 (by rfl) (by first | exact Or.inl rfl | exact Or.inr rfl | assumption)
      case g5 =>
       refine' @L2.pe_ifExp _ _ _ _ _ _ _ _ ?g6 ?g7 pe_int
       case g6 =>
        refine' @L2.pt_truth _ _ _ (pv 1) (fun _=>rfl)
       case g7 =>
        refine' @L2.pe_callTy _ _ _ _ _ _ _ _ _ call_intS rfl T.b_int bb_int ?g8 (by decide) (by decide) (by rfl) (by rfl)
        case g8 =>
         refine' @L2.pa_cons _ _ _ _ _ ?g9 pa_nil rfl
         case g9 =>
          refine' @L2.pe_slice _ _ _ _ _ _ _ _ _ _ sl_str (pv 0) po_none (po_some (pv 1))
     case g4 =>
      refine' @L2.pss_cons _ _ _ _ _ ?ga (pss_one (ps_ret (pv 2)))
      case ga =>
       refine' @L2.ps_for _ _ _ _ _ _ _ _ PassesOwn.never rfl (pi_range3E rfl T.b_range (pa_cons (pv 1) (pa_cons (pe_callB call_len_str rfl T.b_len bb_len (pa_cons (pv 0) pa_nil rfl)) (pa_cons (pe_gint T.n_AT_ONCE rfl) pa_nil rfl) rfl) rfl)) (pg_name (i:=3) nd rfl (Or.inl rfl)) ?gb (by intro _ ; rfl)
       case gb =>
        refine' @L2.pss_one _ _ _ ?gc
        case gc =>
         refine' @L2.ps_set _ _ (2) _ _ _ _ nd rfl (Or.inl rfl) pe_never (by rfl) (by first | exact Or.inl rfl | exact Or.inr rfl | assumption)
   case read =>
    obtain ⟨l1,l3⟩:=wd_len1 hn
    have e1:((wd n).length:Int) % 60=((wd n).length:Int):=Int.emod_eq_of_lt (by omega) (by omega)
    refine ⟨_,rfl,wd n,rfl,sz_str l3 (by decide),_,_,rfl,rfl,(by show (60:Int)≠0; decide),?_⟩
    dsimp only
    rw [show Int.fmod ((wd n).length:Int) 60=((wd n).length:Int) by rw [Int.fmod_eq_emod_of_nonneg _ (by decide)]; exact e1]
    refine ⟨_,rfl,_,rfl,?_⟩
    rw [show (((wd n).length:Int) != 0)=true from bne_iff_ne.mpr (by omega)]
    refine iteT ?_
    refine ⟨_,rfl,_,rfl,_,rfl,wd n,rfl,sz_str l3 (by decide),?_⟩
    dsimp only
    rw [slice_all]
    refine ⟨wd n,n,rfl,wd_int hn,by omega,?_⟩
    refine ⟨_,rfl,_,rfl,wd n,rfl,sz_str l3 (by decide),_,rfl,by omega,by omega,?_⟩
    exact for_range (fun i σ H2=>i=0∧σ=[some (.str (wd n)),some (.int (wd n).length),some (.int n),none]∧H2=H) ⟨rfl,rfl,rfl⟩ (fun i σ H2 hi=>absurd hi (Nat.not_lt_zero _)) (fun σ H2 ⟨_,e,eH⟩=>by subst e; subst eH; exact ⟨_,rfl,q⟩)
abbrev s_whole_in:Stmt:=top 38
theorem ok_whole_in (F:Fun K "whole_in" "whole_in" s_whole_in f fd) (C_number_of:Cal P w K mg base "number_of" 1 ["figures"] sp_numOf):FnOk P w K mg base CX0 2 f fd ["text"] sp_wholeIn:=by
 have sc:FnScope ["text","figures","number"] ["text"] (defScope s_whole_in):=fsc (by decide +kernel)
 refine F.ok sc (fun vs H Q E h=>?_) (fun cdv A outer s H vs Q E hr h=>?_)
 · obtain ⟨i,rfl,_⟩:=h
   rfl
 · obtain ⟨i,rfl,hi,q⟩:=h
   have nd:=sc.nd
   have hu:=hu_of hr
   have hu1:=Nat.lt_of_succ_lt hu
   refine' ⟨_,?term,?read⟩
   case term =>
    refine' @L2.pss_cons _ _ _ _ _ ?g1 ?g2
    case g1 =>
     refine' @L2.ps_set _ _ (1) _ _ _ _ nd rfl (Or.inl rfl) ?g3 (by rfl) (by first | exact Or.inl rfl | exact Or.inr rfl | assumption)
     case g3 =>
      refine' @L2.pe_bm _ _ _ _ _ _ _ _ _ _ _ _ PySem.F.plainAttrs_str PySem.F.slot_str_removeprefix PySem.F.type_str_removeprefix mt_rmpre (pv 0) (pa_cons pe_str pa_nil rfl) (by rfl) (by rfl) (by rfl) (by rfl) (by rfl)
    case g2 =>
     refine' @L2.pss_cons _ _ _ _ _ ?g4 ?g5
     case g4 =>
      refine' @L2.ps_if _ _ _ _ _ _ _ _ ?g6 (pss_one (ps_ret pe_non)) pss_nil
      case g6 =>
       refine' @L2.PW.pt _ _ _ ?g7
       case g7 =>
        refine' @L2.pw_or _ _ _ _ _ _ _ ?g8 ?g9
        case g8 =>
         refine' @L2.pt_not _ _ _ _ ?ga
         case ga =>
          refine' @L2.pt_truth _ _ _ ?gb (fun _=>rfl)
          case gb =>
           refine' @L2.pe_bm0 _ _ _ _ _ _ _ _ _ PySem.F.plainAttrs_str PySem.F.slot_str_isascii PySem.F.type_str_isascii mt_isascii (pv 1) (by rfl) (by rfl)
        case g9 =>
         refine' @L2.pw_or1 _ _ _ _ ?gc
         case gc =>
          refine' @L2.pt_not _ _ _ _ ?gd
          case gd =>
           refine' @L2.pt_truth _ _ _ ?ge (fun _=>rfl)
           case ge =>
            refine' @L2.pe_bm0 _ _ _ _ _ _ _ _ _ PySem.F.plainAttrs_str PySem.F.slot_str_isdigit PySem.F.type_str_isdigit mt_isdigit (pv 1) (by rfl) (by rfl)
     case g5 =>
      refine' @L2.pss_cons _ _ _ _ _ ?gf ?gg
      case gf =>
       refine' @L2.ps_if _ _ _ _ _ _ _ _ ?gh (pss_one (ps_ret pe_non)) pss_nil
       case gh =>
        refine' @L2.PW.pt _ _ _ ?gi
        case gi =>
         refine' @L2.pw_and _ _ _ _ _ _ _ ?gj ?gk
         case gj =>
          refine' @L2.pt_truth _ _ _ ?gl (fun _=>rfl)
          case gl =>
           refine' @L2.pe_bm _ _ _ _ _ _ _ _ _ _ _ _ PySem.F.plainAttrs_str PySem.F.slot_str_startswith PySem.F.type_str_startswith mt_starts (pv 1) (pa_cons pe_str pa_nil rfl) (by rfl) (by rfl) (by rfl) (by rfl) (by rfl)
         case gk =>
          refine' @L2.pw_and1 _ _ _ _ (pt_cmpR op_ne (pv 0) pe_str (nomark _))
      case gg =>
       refine' @L2.pss_cons _ _ _ _ _ ?gm ?gn
       case gm =>
        refine' @L2.ps_set _ _ (2) _ _ _ _ nd rfl (Or.inl rfl) (pe_cal C_number_of hr (by decide) rfl (pa_cons (pv 1) pa_nil rfl)) (by rfl) (by first | exact Or.inl rfl | exact Or.inr rfl | assumption)
       case gn =>
        refine' @L2.pss_one _ _ _ ?go
        case go =>
         refine' @L2.ps_ret _ _ _ _ ?gp
         case gp =>
          refine' @L2.pe_ifExp _ _ _ _ _ _ _ _ ?gq (pe_un un_neg (pv 2)) (pv 2)
          case gq =>
           refine' @L2.pt_truth _ _ _ ?gr (fun _=>rfl)
           case gr =>
            refine' @L2.pe_bm _ _ _ _ _ _ _ _ _ _ _ _ PySem.F.plainAttrs_str PySem.F.slot_str_startswith PySem.F.type_str_startswith mt_starts (pv 0) (pa_cons pe_str pa_nil rfl) (by rfl) (by rfl) (by rfl) (by rfl) (by rfl)
   case read =>
    have hn:(i.natAbs:Nat)≤100:=hi
    refine ⟨_,rfl,rfl,wd i,_,rfl,rfl,sz_str (wd_len hi) (by decide),?_⟩
    rw [wd_rp hi]
    refine ⟨_,rfl,rfl,_,rfl,rfl,_,rfl,?_⟩
    rw [wd_ascii hn]
    refine iteF ?_
    refine ⟨_,rfl,rfl,_,rfl,rfl,_,rfl,?_⟩
    rw [wd_digit hn]
    refine iteF ?_
    refine ⟨_,rfl,rfl,_,_,rfl,rfl,_,rfl,?_⟩
    rw [wd_sw0 hn]
    by_cases e0:i.natAbs=0
    · have ei:i=0:=by omega
      subst ei
      rw [decide_eq_true e0]
      refine iteT ?_
      refine ⟨_,rfl,rfl,_,rfl,?_⟩
      rw [show decide (V.str (wd 0)=V.str (Str.ofString "0"))=true from decide_eq_true (by rw [wd_0])]
      refine iteF ?_
      refine ⟨_,rfl,0,rfl,by decide,?_⟩
      refine ⟨_,rfl,rfl,_,_,rfl,rfl,_,rfl,?_⟩
      rw [wd_dash hi]
      exact iteF ⟨_,rfl,q⟩
    · rw [decide_eq_false e0]
      refine iteF (iteF ?_)
      refine ⟨_,rfl,i.natAbs,rfl,hn,?_⟩
      refine ⟨_,rfl,rfl,_,_,rfl,rfl,_,rfl,?_⟩
      rw [wd_dash hi]
      by_cases h0:i < 0
      · rw [decide_eq_true h0]
        refine iteT ⟨_,rfl,_,rfl,?_⟩
        show Q (.int (-((i.natAbs:Nat):Int))) H
        rw [show -((i.natAbs:Nat):Int)=i by omega]
        exact q
      · rw [decide_eq_false h0]
        refine iteF ⟨_,rfl,?_⟩
        show Q (.int ((i.natAbs:Nat):Int)) H
        rw [show ((i.natAbs:Nat):Int)=i by omega]
        exact q
abbrev s_look_at_text:Stmt:=top 39
theorem ok_look_at_text (F:Fun K "look_at_text" "look_at_text" s_look_at_text f fd):FnOk P w K mg base CX0 1 f fd ["thing"] sp_lookTx:=by
 have sc:FnScope ["thing"] ["thing"] (defScope s_look_at_text):=fsc (by decide +kernel)
 refine F.ok sc (fun vs H Q E h=>?_) (fun cdv A outer s H vs Q E hr h=>?_)
 · obtain ⟨z,rfl,_⟩:=h
   rfl
 · obtain ⟨z,rfl,q⟩:=h
   have nd:=sc.nd
   have hu:=hu_of hr
   have hu1:=Nat.lt_of_succ_lt hu
   refine' ⟨_,?term,?read⟩
   case term =>
    refine' @L2.pss_one _ _ _ ?g1
    case g1 =>
     refine' @L2.ps_if _ _ _ _ _ _ _ _ ?g2 pss_never pss_nil
     case g2 =>
      refine' @L2.pt_not _ _ _ _ ?g3
      case g3 =>
       refine' @L2.pt_truth _ _ _ (pe_callB call_isi rfl T.b_isinstance bb_isinstance (pa_cons (pv 0) (pa_cons (pe_bltn (v:=.ty "str") rfl T.b_str bb_str rfl) pa_nil rfl) rfl)) (fun _=>rfl)
   case read =>
    exact ⟨_,rfl,_,_,_,_,rfl,TyOf.str z,rfl,true,rfl,iteF q⟩
abbrev s_plate_rows:Stmt:=top 40
theorem ok_plate_rows (F:Fun K "plate_rows" "plate_rows" s_plate_rows f fd):FnOk P w K mg base CX0 1 f fd ["plate"] sp_plRows:=by
 have sc:FnScope ["plate","corners","pieces","thicks","stuff","rows"] ["plate"] (defScope s_plate_rows):=fsc (by decide +kernel)
 refine F.ok sc (fun vs H Q E h=>?_) (fun cdv A outer s H vs Q E hr h=>?_)
 · obtain ⟨v,P',rfl,_⟩:=h
   rfl
 · obtain ⟨v,P',rfl,⟨a,c,p,t,st,rfl,ha,⟨ca,cus,rfl,hca,cal⟩,⟨pa,pus,rfl,hpa,pal⟩,⟨ta,rfl,hta⟩,⟨sa,rfl,hsa⟩⟩,ok,q⟩:=h
   have nd:=sc.nd
   have hu:=hu_of hr
   have hu1:=Nat.lt_of_succ_lt hu
   refine' ⟨_,?term,?read⟩
   case term =>
    refine' @L2.pss_cons _ _ _ _ _ ?g1 ?g2
    case g1 =>
     refine' @L2.ps_asg _ _ _ _ _ _ (pv 0) ?g3 (by rfl) (by rfl) (by rfl)
     case g3 =>
      refine' @L2.pg_tup _ _ _ _ _ (4) rfl (pgs_cons (pg_name (i:=1) nd rfl (Or.inl rfl)) (pgs_cons (pg_name (i:=2) nd rfl (Or.inl rfl)) (pgs_cons (pg_name (i:=3) nd rfl (Or.inl rfl)) (pgs_cons (pg_name (i:=4) nd rfl (Or.inl rfl)) pgs_nil)))) (by rfl) (by rfl)
    case g2 =>
     refine' @L2.pss_cons _ _ _ _ _ ?g4 ?g5
     case g4 =>
      refine' @L2.ps_set _ _ (5) _ _ _ _ nd rfl (Or.inl rfl) ?g6 (by rfl) (by first | exact Or.inl rfl | exact Or.inr rfl | assumption)
      case g6 =>
       refine' @L2.pe_lst _ _ _ _ ?g7
       case g7 =>
        refine' @L2.pa_cons _ _ _ _ _ (pe_fstr (pj_cons pe_str (pj_cons (pe_fv (pe_ix ix_tup (pv 4) pe_int (fun _ _=>rfl))) (pj_cons pe_str (pj_cons (pe_fv (pe_ix ix_tup (pv 4) pe_int (fun _ _=>rfl))) pj_nil))))) pa_nil rfl
     case g5 =>
      refine' @L2.pss_cons _ _ _ _ _ ?g8 ?g9
      case g8 =>
       refine' @L2.ps_aug _ _ (5) _ _ _ _ _ _ nd rfl (Or.inl rfl) ?ga iop_cat (by first | exact Or.inl rfl | exact Or.inr rfl | assumption)
       case ga =>
        refine' @L2.pe_lc _ _ _ _ _ _ _ (["x","y"]) ([none,none]) _ _ ((gTup K 2 (gCons (gName 0) (gCons (gName 1) gNil)))) _ _ rfl (lcs_plain (by decide) rfl (by decide) rfl rfl) (pi_tup (pv 1)) (fun _ _ _ _=>(pg_tup (n:=2) rfl (pgs_cons (pg_name (i:=0) (show List.Nodup (["x","y"]:List Str) by decide) rfl (Or.inl rfl) (Or.inr rfl)) (pgs_cons (pg_name (i:=1) (show List.Nodup (["x","y"]:List Str) by decide) rfl (Or.inl rfl) (Or.inr rfl)) pgs_nil)))) (fun _ _ _ _=>pifs_nil) (fun _ _ _ _=>(pe_fstr (pj_cons pe_str (pj_cons (pe_fv (pv 0)) (pj_cons pe_str (pj_cons (pe_fv (pv 1)) pj_nil)))))) (by intro _ ; rfl)
      case g9 =>
       refine' @L2.pss_one _ _ _ ?gb
       case gb =>
        refine' @L2.ps_ret _ _ _ _ ?gc
        case gc =>
         refine' @L2.pe_op _ _ _ _ _ _ _ _ op_cat (pv 5) ?gd
         case gd =>
          refine' @L2.pe_lc _ _ _ _ _ _ _ (["thick","a","b","c"]) ([none,none,none,none]) _ _ ((gTup K 2 (gCons (gTup K 3 (gCons (gName 1) (gCons (gName 2) (gCons (gName 3) gNil)))) (gCons (gName 0) gNil)))) _ _ rfl (lcs_plain (by decide) rfl (by decide) rfl rfl) ?ge (fun _ _ _ _=>(pg_tup (n:=2) rfl (pgs_cons (pg_tup (n:=3) rfl (pgs_cons (pg_name (i:=1) (show List.Nodup (["thick","a","b","c"]:List Str) by decide) rfl (Or.inl rfl) (Or.inr rfl)) (pgs_cons (pg_name (i:=2) (show List.Nodup (["thick","a","b","c"]:List Str) by decide) rfl (Or.inl rfl) (Or.inr rfl)) (pgs_cons (pg_name (i:=3) (show List.Nodup (["thick","a","b","c"]:List Str) by decide) rfl (Or.inl rfl) (Or.inr rfl)) pgs_nil)))) (pgs_cons (pg_name (i:=0) (show List.Nodup (["thick","a","b","c"]:List Str) by decide) rfl (Or.inl rfl) (Or.inr rfl)) pgs_nil)))) (fun _ _ _ _=>pifs_nil) (fun _ _ _ _=>(pe_fstr (pj_cons pe_str (pj_cons (pe_fv (pv 1)) (pj_cons pe_str (pj_cons (pe_fv (pv 2)) (pj_cons pe_str (pj_cons (pe_fv (pv 3)) (pj_cons pe_str (pj_cons (pe_fv (pv 0)) pj_nil)))))))))) (by intro _ ; rfl)
          case ge =>
           refine' @L2.pi_zip _ _ _ _ .t .t _ _ _ _ _ rfl T.b_zip (pa_cons (pv 2) (pa_cons (pv 3) pa_nil rfl) rfl) (by rfl) (by rfl)
   case read =>
    have b:=PlOk.bd ok
    have cl:=cal.1; have pl:=pal.1; have c30:=ok.c30; have p40:=ok.p40; have tl:=ok.t1
    have sz:∀ {x:Str} {n:Nat},x.length≤n→n≤1000→x.length≤sizeLine:=fun h hn=>sz_str h (by omega)
    have z0:(Str.empty:Str).length≤0:=Nat.le_refl _
    have zs:(Str.ofString " ").length≤1:=by decide +kernel
    have z1:(Str.ofString "stuff ").length≤6:=by decide +kernel
    have z2:(Str.ofString "corner ").length≤7:=by decide +kernel
    have z3:(Str.ofString "piece ").length≤6:=by decide +kernel
    refine ⟨_,rfl,a,_,rfl,SqT.of ha,rfl,.ref ca,_,rfl,.ref pa,_,rfl,.ref ta,_,rfl,.ref sa,_,rfl,rfl,?_⟩
    have y1:=szA z0 z1
    have y2:=szA y1 (wd_len b.l)
    have y3:=szA y2 zs
    have y4:=szA y3 (wd_len b.m)
    refine ⟨_,rfl,sz y1 (by decide),_,rfl,sa,_,0,_,rfl,rfl,SqT.of hsa,rfl,.inl ⟨P'.l,rfl,lg100 b.l,_,rfl,sz y2 (by decide),_,rfl,sz y3 (by decide),_,rfl,sa,_,1,_,rfl,rfl,SqT.of hsa,rfl,.inl ⟨P'.m,rfl,lg100 b.m,_,rfl,sz y4 (by decide),sz y4 (by decide),?_⟩⟩⟩
    rw [f_stuff,show Str.ofString (toString P'.l)=wd P'.l from rfl,show Str.ofString (toString P'.m)=wd P'.m from rfl,fs2]
    refine ⟨by show 1≤sizeLine; decide,fun R nR=>?_⟩
    have s1:Same H (upd H R (.lst [.str (rwd (Str.ofString "stuff") [P'.l,P'.m])])):=Same.new nR
    have e1:upd H R (.lst [.str (rwd (Str.ofString "stuff") [P'.l,P'.m])]) R=some (.lst [.str (rwd (Str.ofString "stuff") [P'.l,P'.m])]):=upd_same
    generalize upd H R (.lst [.str (rwd (Str.ofString "stuff") [P'.l,P'.m])])=H1 at s1 e1 ⊢
    refine ⟨_,rfl,_,rfl,ca,rfl,⟨_,SqT.of (s1 _ _ hca)⟩,fun D nD=>?_⟩
    have al1:Al (IsP H1) cus P'.cs:=cal.imp fun v x r=>r.tk s1.tk
    refine lc_T2 (k:=.t) (vs:=cus) IsS hIsS (P'.cs.map fun p=>rwd (Str.ofString "corner") [p.1,p.2]) (by simp [cl]) (by omega) nD (s1 _ _ hca) (fun i w hw=>?_) (fun i p x y H2 C hw hp s2 c=>?_) (fun H2 us' s2 e2 a2=>?_)
    · obtain ⟨x,_,p,rfl,hp⟩:=al1.get hw
      exact ⟨p,_,_,rfl,hp⟩
    · obtain ⟨x',ex,p',ep,hp'⟩:=al1.get hw
      cases ep
      rw [hp'] at hp
      cases hp
      obtain ⟨b1,b2⟩:=b.c x' (List.mem_of_getElem? ex)
      have y1:=szA z0 z2
      have y2:=szA y1 (wd_len b1)
      have y3:=szA y2 zs
      have y4:=szA y3 (wd_len b2)
      refine ⟨_,rfl,sz y1 (by decide),_,rfl,.inl ⟨x'.1,rfl,lg100 b1,_,rfl,sz y2 (by decide),_,rfl,sz y3 (by decide),_,rfl,.inl ⟨x'.2,rfl,lg100 b2,_,rfl,sz y4 (by decide),sz y4 (by decide),?_⟩⟩⟩
      rw [f_corner,show Str.ofString (toString x'.1)=wd x'.1 from rfl,show Str.ofString (toString x'.2)=wd x'.2 from rfl,fs2]
      exact c _ _ _ (Same.refl _) (by rw [List.getElem?_map,ex]; rfl) rfl
    have eu:=al_strs a2
    subst eu
    have e12:=s2 _ _ e1
    refine ⟨R,D,_,_,rfl,rfl,e12,e2,by simp; have:=sizeLine_eq; omega,?_⟩
    have nRD:∀ b o,H b=some o→b≠R:=fun b o e=>ne_of_none e nR
    generalize hH3:upd H2 R _=H3
    have s3:Same H H3:=fun b o e=>by rw [← hH3,upd_ne (nRD b o e)]; exact s2 _ _ (s1 _ _ e)
    have e3:=(congrFun hH3 R).symm
    rw [upd_same] at e3
    clear hH3
    refine ⟨_,rfl,_,rfl,_,rfl,pa,ta,rfl,⟨_,SqT.of (s3 _ _ hpa)⟩,⟨_,SqT.of (s3 _ _ hta)⟩,fun D2 nD2=>?_⟩
    have al3:Al (IsI H3) pus P'.ps:=pal.imp fun v x r=>r.tk s3.tk
    refine lc_Z31 (k:=.t) (l:=.t) (vs:=pus) (ws:=P'.ts.map V.int) IsS hIsS ((P'.ps.zip P'.ts).map fun x=>rwd (Str.ofString "piece") (x.1++[x.2])) (by simp [pl]) (by omega) nD2 (s3 _ _ hpa) (s3 _ _ hta) (fun i w hw=>?_) (fun i p x y z w H4 C hw hp hw2 s4 c=>?_) (fun H4 us4 s4 e4 a4=>?_)
    · obtain ⟨x,ex,p,rfl,hp⟩:=al3.get hw
      have h3:=(b.p x (List.mem_of_getElem? ex)).1
      match x,h3 with
      | [i,j,k],_=>exact ⟨p,_,_,_,rfl,hp⟩
    · obtain ⟨x',ex,p',ep,hp'⟩:=al3.get hw
      cases ep
      rw [hp'] at hp
      obtain ⟨h3,bd⟩:=b.p x' (List.mem_of_getElem? ex)
      rw [List.getElem?_map] at hw2
      obtain ⟨t',et,rfl⟩:=Option.map_eq_some_iff.mp hw2
      have bt:=b.t t' (List.mem_of_getElem? et)
      match x',h3,bd,ex,hp with
      | [i0,j0,k0],_,bd,ex,hp =>
        cases hp
        have b1:=bd i0 (by simp); have b2:=bd j0 (by simp); have b3:=bd k0 (by simp)
        have y1:=szA z0 z3
        have y2:=szA y1 (wd_len b1)
        have y3:=szA y2 zs
        have y4:=szA y3 (wd_len b2)
        have y5:=szA y4 zs
        have y6:=szA y5 (wd_len b3)
        have y7:=szA y6 zs
        have y8:=szA y7 (wd_len bt)
        refine ⟨_,rfl,sz y1 (by decide),_,rfl,.inl ⟨i0,rfl,lg100 b1,_,rfl,sz y2 (by decide),_,rfl,sz y3 (by decide),_,rfl,.inl ⟨j0,rfl,lg100 b2,_,rfl,sz y4 (by decide),_,rfl,sz y5 (by decide),_,rfl,.inl ⟨k0,rfl,lg100 b3,_,rfl,sz y6 (by decide),_,rfl,sz y7 (by decide),_,rfl,.inl ⟨t',rfl,lg100 bt,_,rfl,sz y8 (by decide),sz y8 (by decide),?_⟩⟩⟩⟩⟩
        rw [f_piece,show Str.ofString (toString i0)=wd i0 from rfl,show Str.ofString (toString j0)=wd j0 from rfl,show Str.ofString (toString k0)=wd k0 from rfl,show Str.ofString (toString t')=wd t' from rfl,fs4]
        exact c _ _ _ (Same.refl _) (by rw [List.getElem?_map,(List.getElem?_zip_eq_some (z:=([i0,j0,k0],t'))).mpr ⟨ex,et⟩]; rfl) rfl
    have eu:=al_strs a4
    subst eu
    refine ⟨R,D2,_,_,rfl,rfl,s4 _ _ e3,e4,by simp; have:=sizeLine_eq; omega,fun r nr=>?_⟩
    refine q _ r ((s3.trans s4).trans (Same.new nr)) ?_ ?_
    · rw [upd_same]
      simp [rowsOf,allR,rowT,Function.comp_def]
    · cases e:H r with
      | none=>rfl
      | some o=>rw [s4 _ _ (s3 _ _ e)] at nr; cases nr
abbrev s_plate_text:Stmt:=top 41
theorem ok_plate_text (F:Fun K "plate_text" "plate_text" s_plate_text f fd) (C_look_at_plate:Cal P w K mg base "look_at_plate" 6 ["plate"] sp_lookPlate) (C_plate_rows:Cal P w K mg base "plate_rows" 1 ["plate"] sp_plRows):FnOk P w K mg base CX0 7 f fd ["plate"] sp_plText:=by
 have sc:FnScope ["plate"] ["plate"] (defScope s_plate_text):=fsc (by decide +kernel)
 refine F.ok sc (fun vs H Q E h=>?_) (fun cdv A outer s H vs Q E hr h=>?_)
 · obtain ⟨v,P',rfl,_⟩:=h
   rfl
 · obtain ⟨v,P',rfl,hv,ok,q⟩:=h
   have nd:=sc.nd
   have hu:=hu_of hr
   have hu1:=Nat.lt_of_succ_lt hu
   refine' ⟨_,?term,?read⟩
   case term =>
    refine' @L2.pss_cons _ _ _ _ _ ?g1 ?g2
    case g1 =>
     refine' @L2.ps_expr _ _ _ _ (pe_cal C_look_at_plate hr (by decide) rfl (pa_cons (pv 0) pa_nil rfl)) (by rfl)
    case g2 =>
     refine' @L2.pss_one _ _ _ ?g3
     case g3 =>
      refine' @L2.ps_ret _ _ _ _ ?g4
      case g4 =>
       refine' @L2.pe_bm _ _ _ _ _ _ _ _ _ _ _ _ PySem.F.plainAttrs_str PySem.F.slot_str_join PySem.F.type_str_join mt_join pe_str (pa_cons (pe_cal C_plate_rows hr (by decide) rfl (pa_cons (pv 0) pa_nil rfl)) pa_nil rfl) (by rfl) (by rfl) (by rfl) (by rfl) (by rfl)
   case read =>
    refine ⟨_,rfl,v,P',rfl,hv,ok,fun H1 s1=>?_⟩
    refine ⟨rfl,_,rfl,v,P',rfl,hv.tk s1.tk,ok,fun H2 r s2 e2 n2=>?_⟩
    refine ⟨_,r,rowsOf P',rfl,rfl,SqL.of e2,?_,?_⟩
    · have hl:=rows_len ok
      have c30:=ok.c30; have p40:=ok.p40
      have hb:=row_len (PlOk.bd ok)
      unfold JoinOk
      rw [Bool.not_eq_true']
      exact StrLaws.joinFits hb (by rw [hl]; have:(Str.ofString "\n").length=1:=by decide +kernel
                                    rw [this]; omega)
    · rw [join_nl_eq,s_nl]
      exact q _ (s1.trans s2)
abbrev s_turn_ofL:Stmt:=top 19
theorem ok_turn_ofL (F:Fun K "turn_of" "turn_of" s_turn_ofL f fd) (C_turn:Cal P w K mg base "turn" 1 ["first","second","third"] sp_turn):FnOk P w K mg base CX0 2 f fd ["corners","piece"] sp_turnOfL:=by
 have sc:FnScope ["corners","piece"] ["corners","piece"] (defScope s_turn_ofL):=fsc (by decide +kernel)
 refine F.ok sc (fun vs H Q E h=>?_) (fun cdv A outer s H vs Q E hr h=>?_)
 · obtain ⟨u,v,cs,p,rfl,_⟩:=h
   rfl
 · obtain ⟨u,v,cs,p,rfl,⟨a,us,rfl,ha,al⟩,⟨b,rfl,hb⟩,hl,bd,nr,q⟩:=h
   have nd:=sc.nd
   have hu:=hu_of hr
   have hu1:=Nat.lt_of_succ_lt hu
   refine' ⟨_,?term,?read⟩
   case term =>
    refine' @L2.pss_one _ _ _ ?g1
    case g1 =>
     refine' @L2.ps_ret _ _ _ _ ?g2
     case g2 =>
      refine' @L2.pe_cal _ _ _ _ _ _ _ _ _ _ _ C_turn hr (by decide) rfl ?g3 (by decide) (by rfl) (by rfl)
      case g3 =>
       refine' @L2.pa_cons _ _ _ _ _ ?g4 ?g5 rfl
       case g4 =>
        refine' @L2.pe_ix _ _ _ _ _ _ _ ix_list (pv 0) ?g6 (fun _ _=>rfl)
        case g6 =>
         refine' @L2.pe_ix _ _ _ _ _ _ _ ix_tup (pv 1) pe_int (fun _ _=>rfl)
       case g5 =>
        refine' @L2.pa_cons _ _ _ _ _ ?g7 ?g8 rfl
        case g7 =>
         refine' @L2.pe_ix _ _ _ _ _ _ _ ix_list (pv 0) ?g9 (fun _ _=>rfl)
         case g9 =>
          refine' @L2.pe_ix _ _ _ _ _ _ _ ix_tup (pv 1) pe_int (fun _ _=>rfl)
        case g8 =>
         refine' @L2.pa_cons _ _ _ _ _ ?ga pa_nil rfl
         case ga =>
          refine' @L2.pe_ix _ _ _ _ _ _ _ ix_list (pv 0) ?gb (fun _ _=>rfl)
          case gb =>
           refine' @L2.pe_ix _ _ _ _ _ _ _ ix_tup (pv 1) pe_int (fun _ _=>rfl)
   case read =>
    match p,hl with
    | [i,j,k],_ =>
      have bi:=bd i (by simp); have bj:=bd j (by simp); have bk:=bd k (by simp)
      obtain ⟨x,ex,rx⟩:=at_cs al bi.1 bi.2
      obtain ⟨y,ey,ry⟩:=at_cs al bj.1 bj.2
      obtain ⟨z,ez,rz⟩:=at_cs al bk.1 bk.2
      refine ⟨_,rfl,_,rfl,b,_,0,_,rfl,rfl,SqT.of hb,rfl,a,us,i,x,rfl,rfl,SqL.of ha,ex,?_⟩
      refine ⟨_,rfl,_,rfl,b,_,1,_,rfl,rfl,SqT.of hb,rfl,a,us,j,y,rfl,rfl,SqL.of ha,ey,?_⟩
      refine ⟨_,rfl,_,rfl,b,_,2,_,rfl,rfl,SqT.of hb,rfl,a,us,k,z,rfl,rfl,SqL.of ha,ez,?_⟩
      exact ⟨x,y,z,_,_,_,rfl,rx,ry,rz,nr _ (cAt_mem bi.1 bi.2),nr _ (cAt_mem bj.1 bj.2),nr _ (cAt_mem bk.1 bk.2),q⟩
abbrev s_is_pieceL:Stmt:=top 20
theorem ok_is_pieceL (F:Fun K "is_piece" "is_piece" s_is_pieceL f fd) (C_are_risingI:Cal P w K mg base "are_rising" 1 ["things"] sp_risingI) (C_is_between:Cal P w K mg base "is_between" 2 ["thing","least","most"] sp_between) (C_is_row:Cal P w K mg base "is_row" 1 ["thing","fewest","most"] sp_row) (C_turn_ofL:Cal P w K mg base "turn_of" 2 ["corners","piece"] sp_turnOfL):FnOk P w K mg base CX0 3 f fd ["corners","thing"] sp_isPieceL:=by
 have sc:FnScope ["corners","thing"] ["corners","thing"] (defScope s_is_pieceL):=fsc (by decide +kernel)
 refine F.ok sc (fun vs H Q E h=>?_) (fun cdv A outer s H vs Q E hr h=>?_)
 · obtain ⟨u,v,cs,p,rfl,_⟩:=h
   rfl
 · obtain ⟨u,v,cs,p,rfl,⟨a,us,rfl,ha,al⟩,⟨b,rfl,hb⟩,ok,nr,q⟩:=h
   have nd:=sc.nd
   have hu:=hu_of hr
   have hu1:=Nat.lt_of_succ_lt hu
   refine' ⟨_,?term,?read⟩
   case term =>
    refine' @L2.pss_cons _ _ _ _ _ ?g1 ?g2
    case g1 =>
     refine' @L2.ps_if _ _ _ _ _ _ _ _ ?g3 (pss_one (ps_ret pe_bl)) pss_nil
     case g3 =>
      refine' @L2.PW.pt _ _ _ ?g4
      case g4 =>
       refine' @L2.pw_or _ _ _ _ _ _ _ ?g5 ?g6
       case g5 =>
        refine' @L2.pt_not _ _ _ _ ?g7
        case g7 =>
         refine' @L2.pt_truth _ _ _ (pe_cal C_is_row hr (by decide) rfl (pa_cons (pv 1) (pa_cons pe_int (pa_cons pe_int pa_nil rfl) rfl) rfl)) (fun _=>rfl)
       case g6 =>
        refine' @L2.pw_or1 _ _ _ _ ?g8
        case g8 =>
         refine' @L2.pt_not _ _ _ _ ?g9
         case g9 =>
          refine' @L2.pt_truth _ _ _ ?ga (fun _=>rfl)
          case ga =>
           refine' @L2.pe_callB _ _ _ _ _ _ _ _ _ (call_allB rfl) rfl T.b_all bb_all ?gb (by decide) (by decide) (by rfl) (by rfl)
           case gb =>
            refine' @L2.pa_cons _ _ _ _ _ ?gc pa_nil rfl
            case gc =>
             refine' @L2.pe_lc _ _ _ _ _ _ _ (["part","corners"]) ([none,some 0]) _ _ _ _ _ rfl (lcs_gen (XN:=["corners","thing"]) (Scope.names (defScope s_is_pieceL)) rfl rfl rfl (fun _ h=>cell_has h) (by decide +kernel) rfl) (pi_tup (pv 1)) (fun _ _ _ _=>(pg_name (i:=0) (show List.Nodup (["part","corners"]:List Str) by decide) rfl (Or.inl rfl) (Or.inr rfl))) (fun _ _ _ _=>pifs_nil) (fun _ _ _ _=>(pe_cal C_is_between hr (by decide) rfl (pa_cons (pv 0) (pa_cons pe_int (pa_cons (pe_op op_sub (pe_callB (call_len_seqK K rfl) rfl T.b_len bb_len (pa_cons (pv 1) pa_nil rfl)) pe_int) pa_nil rfl) rfl) rfl))) (by intro _ ; rfl)
    case g2 =>
     refine' @L2.pss_one _ _ _ ?gd
     case gd =>
      refine' @L2.ps_ret _ _ _ _ ?ge
      case ge =>
       refine' @L2.pe_and _ _ _ _ _ _ _ (pe_cal C_are_risingI hr (by decide) rfl (pa_cons (pv 1) pa_nil rfl)) (pe_one (pe_cmpR op_ne (pe_cal C_turn_ofL hr (by decide) rfl (pa_cons (pv 0) (pa_cons (pv 1) pa_nil rfl) rfl)) pe_int (nomark _)))
   case read =>
    have hl:=ok.len
    have hl2:=al.1
    refine ⟨_,rfl,b,_,3,3,rfl,hb,by simp [hl],by simp [hl],true,rfl,iteF ?_⟩
    refine ⟨_,rfl,b,rfl,⟨_,SqT.of hb⟩,fun D nD=>?_⟩
    refine lc_T (k:=.t) (vs:=p.map V.int) RB hRB (List.replicate 3 true) (by simp [hl]) (by simp [hl]) nD hb (fun i w H2 C hw s2 c=>?_) (fun H2 us' s2 e2 a2=>?_)
    · rw [List.getElem?_map] at hw
      obtain ⟨x,ex,rfl⟩:=Option.map_eq_some_iff.mp hw
      obtain ⟨b1,b2⟩:=ok.bd x (List.mem_of_getElem? ex)
      refine ⟨_,rfl,_,rfl,a,us,rfl,.inl (SqL.of (s2 _ _ ha)),_,_,rfl,rfl,x,0,_,rfl,b1,by rw [hl2]; exact b2,c _ _ true (Same.refl _) (repT ?_) rfl⟩
      have:=lt_of_get ex
      omega
    · rw [a2.bls] at e2
      refine ⟨D,List.replicate 3 true,rfl,SqL.of e2,true,by rw [allT]; rfl,iteF ?_⟩
      refine ⟨_,rfl,b,p,rfl,s2 _ _ hb,by omega,fun i x y ex ey=>?_,fun H3 s3=>⟨true,rfl,iteT ?_⟩⟩
      · have r:=ok.rise
        match p,hl with
        | [i0,i1,i2],_ =>
          match i,ex,ey with
          | 0,ex,ey=>simp at ex ey; subst ex; subst ey; exact r.1
          | 1,ex,ey=>simp at ex ey; subst ex; subst ey; exact r.2
          | 2,ex,ey=>simp at ey
          | (n+3),ex,ey=>simp at ex
      · have s4:=s2.trans s3
        refine ⟨_,rfl,_,rfl,_,_,cs,p,rfl,⟨a,us,rfl,s4 _ _ ha,al.imp fun v x r=>r.tk s4.tk⟩,⟨b,rfl,s4 _ _ hb⟩,hl,ok.bd,nr,rfl,?_⟩
        have e:decide (V.int (dOf cs p)=V.int 0)=false:=decide_eq_false fun z=>ok.d (V.int.inj z)
        rw [e]
        exact q _ s4
abbrev s_may_be_piece:Stmt:=top 42
theorem ok_may_be_piece (F:Fun K "may_be_piece" "may_be_piece" s_may_be_piece f fd) (C_is_between:Cal P w K mg base "is_between" 2 ["thing","least","most"] sp_between) (C_is_pieceL:Cal P w K mg base "is_piece" 3 ["corners","thing"] sp_isPieceL):FnOk P w K mg base CX0 4 f fd ["found","numbers"] sp_mayP:=by
 have sc:FnScope ["found","numbers","ahead","piece"] ["found","numbers"] (defScope s_may_be_piece):=fsc (by decide +kernel)
 refine F.ok sc (fun vs H Q E h=>?_) (fun cdv A outer s H vs Q E hr h=>?_)
 · obtain ⟨F,a,b,c,sv,cv,pw,v,cs,R,p,t,rfl,_⟩:=h
   rfl
 · obtain ⟨F,a,b,c,sv,cv,pw,v,cs,R,p,t,rfl,fd',ca,al,⟨na,rfl,hna⟩,r4,r40,ll,pk,nr,t1,t9,q⟩:=h
   have nd:=sc.nd
   have hu:=hu_of hr
   have hu1:=Nat.lt_of_succ_lt hu
   refine' ⟨_,?term,?read⟩
   case term =>
    refine' @L2.pss_cons _ _ _ _ _ ?g1 ?g2
    case g1 =>
     refine' @L2.ps_set _ _ (2) _ _ _ _ nd rfl (Or.inl rfl) (pe_dget hu (pv 0) pe_str (fun _ _=>rfl)) (by rfl) (by first | exact Or.inl rfl | exact Or.inr rfl | assumption)
    case g2 =>
     refine' @L2.pss_cons _ _ _ _ _ ?g3 ?g4
     case g3 =>
      refine' @L2.ps_if _ _ _ _ _ _ _ _ ?g5 (pss_one (ps_ret pe_bl)) pss_nil
      case g5 =>
       refine' @L2.PW.pt _ _ _ ?g6
       case g6 =>
        refine' @L2.pw_or _ _ _ _ _ _ _ (pt_cmpR op_ne (pe_callB call_len_seq rfl T.b_len bb_len (pa_cons (pv 1) pa_nil rfl)) pe_int (nomark _)) ?g7
        case g7 =>
         refine' @L2.pw_or _ _ _ _ _ _ _ (pt_cmpR op_eq (pe_callB call_len_seq rfl T.b_len bb_len (pa_cons (pv 2) pa_nil rfl)) (pe_gint T.n_MOST_PIECES rfl) (nomark _)) ?g8
         case g8 =>
          refine' @L2.pw_or1 _ _ _ _ ?g9
          case g9 =>
           refine' @L2.pt_not _ _ _ _ ?ga
           case ga =>
            refine' @L2.pt_truth _ _ _ ?gb (fun _=>rfl)
            case gb =>
             refine' @L2.pe_cal _ _ _ _ _ _ _ _ _ _ _ C_is_between hr (by decide) rfl ?gc (by decide) (by rfl) (by rfl)
             case gc =>
              refine' @L2.pa_cons _ _ _ _ _ ?gd (pa_cons pe_int (pa_cons (pe_gint T.n_THICKEST rfl) pa_nil rfl) rfl) rfl
              case gd =>
               refine' @L2.pe_ix _ _ _ _ _ _ _ ix_tup (pv 1) pe_int (fun _ _=>rfl)
     case g4 =>
      refine' @L2.pss_cons _ _ _ _ _ ?ge ?gf
      case ge =>
       refine' @L2.ps_set _ _ (3) _ _ _ _ nd rfl (Or.inl rfl) ?gg (by rfl) (by first | exact Or.inl rfl | exact Or.inr rfl | assumption)
       case gg =>
        refine' @L2.pe_slice _ _ _ _ _ _ _ _ _ _ sl_tupU (pv 1) po_none (po_some pe_int)
      case gf =>
       refine' @L2.pss_one _ _ _ ?gh
       case gh =>
        refine' @L2.ps_ret _ _ _ _ ?gi
        case gi =>
         refine' @L2.pe_and _ _ _ _ _ _ _ ?gj ?gk
         case gj =>
          refine' @L2.pe_cal _ _ _ _ _ _ _ _ _ _ _ C_is_pieceL hr (by decide) rfl ?gl (by decide) (by rfl) (by rfl)
          case gl =>
           refine' @L2.pa_cons _ _ _ _ _ (pe_dget hu (pv 0) pe_str (fun _ _=>rfl)) (pa_cons (pv 3) pa_nil rfl) rfl
         case gk =>
          refine' @L2.pe_one _ _ _ _ _ ?gm
          case gm =>
           refine' @L2.pe_or _ _ _ _ _ _ _ (pe_cmpR op_eq (pe_callB call_len_seq rfl T.b_len bb_len (pa_cons (pv 2) pa_nil rfl)) pe_int (nomark _)) ?gn
           case gn =>
            refine' @L2.pe_one _ _ _ _ _ ?go
            case go =>
             refine' @L2.pe_cmpR _ _ _ _ _ _ _ _ (op_ltT (Nat.lt_of_succ_lt hu)) ?gp (pv 3) (nomark _)
             case gp =>
              refine' @L2.pe_slice _ _ _ _ _ _ _ _ _ _ sl_tupU ?gq po_none (po_some pe_int)
              case gq =>
               refine' @L2.pe_ix _ _ _ _ _ _ _ ix_list (pv 2) (pe_un un_neg pe_int) (fun _ _=>rfl)
   case read =>
    have h3:=pk.len
    have pl:=al.1
    have fc:=fd'.c
    refine ⟨_,rfl,F,_,rfl,gP fd',?_⟩
    refine ⟨_,rfl,na,_,rfl,.inr (SqT.of hna),rfl,_,rfl,?_⟩
    rw [decide_eq_true (show V.int (((p++[t]).map V.int).length:Int)=V.int 4 by simp [h3])]
    refine iteF ?_
    refine ⟨_,rfl,c,pw,rfl,.inl (SqL.of fc),rfl,_,rfl,?_⟩
    rw [decide_eq_false (show ¬ V.int (pw.length:Int)=V.int 40 from fun z=>by have:=V.int.inj z; omega)]
    refine iteF ?_
    have e3:atI ((p++[t]).map V.int) 3=some (.int t):=by
     match p,h3 with
     | [i,j,k],_=>rfl
    refine ⟨_,rfl,na,_,3,_,rfl,rfl,SqT.of hna,e3,t,1,9,rfl,t1,t9,true,rfl,iteF ?_⟩
    refine ⟨_,rfl,_,rfl,na,_,rfl,hna,fun q1 H1 s1 e1=>?_⟩
    rw [show (3:Int)=((3:Nat):Int) from rfl,cut_take,← List.map_take,List.take_append_of_le_length (by omega),List.take_of_length_le (by omega)] at e1
    have f1:=fd'.same s1
    refine ⟨_,rfl,F,_,rfl,gC f1,_,rfl,.ref b,.ref q1,cs,p,rfl,⟨b,cv,rfl,f1.b,ca.imp fun v x r=>r.tk s1.tk⟩,⟨q1,rfl,e1⟩,pk,nr,fun H2 s2=>⟨true,rfl,iteT ?_⟩⟩
    have f2:=f1.same s2
    have s02:=s1.trans s2
    refine ⟨_,rfl,c,pw,rfl,.inl (SqL.of f2.c),rfl,_,rfl,?_⟩
    by_cases h0:pw=[]
    · subst h0
      rw [decide_eq_true (show V.int (([]:List V).length:Int)=V.int 0 from rfl)]
      exact iteT (q _ s02)
    · have hp:0 < pw.length:=by cases pw with
       | nil=>exact absurd rfl h0
       | cons _ _=>simp
      rw [decide_eq_false (show ¬ V.int (pw.length:Int)=V.int 0 from fun z=>by have:=V.int.inj z; omega)]
      refine iteF ?_
      obtain ⟨r,er,ra,hra,hr⟩:=al.get (List.getElem?_eq_getElem (show pw.length - 1 < pw.length by omega))
      have em:atI pw (-1)=some (.ref ra):=by
       unfold atI ixN
       rw [if_neg (by decide),if_pos (by omega)]
       show pw[((-1:Int)+pw.length).toNat]? = _
       rw [show ((-1:Int)+pw.length).toNat=pw.length - 1 by omega,List.getElem?_eq_getElem (show pw.length - 1 < pw.length by omega),hra]
      have r4':=r4 r (List.mem_of_getElem? er)
      refine ⟨_,rfl,_,rfl,c,pw,-1,_,rfl,rfl,SqL.of f2.c,em,_,rfl,ra,_,rfl,s02 _ _ hr,fun q2 H3 s3 e3'=>?_⟩
      rw [show (3:Int)=((3:Nat):Int) from rfl,cut_take,← List.map_take] at e3'
      have hlt:HT.lexLt (r.take 3) p=true:=ll r (by rw [← pl]; exact er) (by intro z; rw [z] at pl; exact h0 (List.eq_nil_of_length_eq_zero pl))
      refine ⟨_,rfl,q2,q1,_,p,rfl,rfl,SqT.of e3',SqT.of ((s2.trans s3) _ _ e1),?_⟩
      rw [hlt]
      exact q _ (s02.trans s3)
abbrev s_may_follow:Stmt:=top 43
theorem ok_may_follow (F:Fun K "may_follow" "may_follow" s_may_follow f fd) (C_is_corner:Cal P w K mg base "is_corner" 3 ["thing"] sp_corner) (C_is_stuff:Cal P w K mg base "is_stuff" 3 ["thing"] sp_stuff) (C_may_be_piece:Cal P w K mg base "may_be_piece" 4 ["found","numbers"] sp_mayP):FnOk P w K mg base CX0 5 f fd ["found","word","numbers"] sp_follow:=by
 have sc:FnScope ["found","word","numbers","in_place"] ["found","word","numbers"] (defScope s_may_follow):=fsc (by decide +kernel)
 refine F.ok sc (fun vs H Q E h=>?_) (fun cdv A outer s H vs Q E hr h=>?_)
 · obtain ⟨F,w,v,rfl,_⟩:=h
   rfl
 · obtain ⟨F,w,v,rfl,m,q⟩:=h
   have nd:=sc.nd
   have hu:=hu_of hr
   have hu1:=Nat.lt_of_succ_lt hu
   refine' ⟨_,?term,?read⟩
   case term =>
    refine' @L2.pss_cons _ _ _ _ _ ?g1 ?g2
    case g1 =>
     refine' @L2.ps_if _ _ _ _ _ _ _ _ (pt_cmpR op_eq (pv 1) pe_str (nomark _)) ?g3 pss_nil
     case g3 =>
      refine' @L2.pss_one _ _ _ ?g4
      case g4 =>
       refine' @L2.ps_ret _ _ _ _ ?g5
       case g5 =>
        refine' @L2.pe_and _ _ _ _ _ _ _ ?g6 (pe_one (pe_cal C_is_stuff hr (by decide) rfl (pa_cons (pv 2) pa_nil rfl)))
        case g6 =>
         refine' @L2.pe_cmpR _ _ _ _ _ _ _ _ op_eq ?g7 pe_int (nomark _)
         case g7 =>
          refine' @L2.pe_callB _ _ _ _ _ _ _ _ _ call_len_seq rfl T.b_len bb_len ?g8 (by decide) (by decide) (by rfl) (by rfl)
          case g8 =>
           refine' @L2.pa_cons _ _ _ _ _ (pe_dget hu (pv 0) pe_str (fun _ _=>rfl)) pa_nil rfl
    case g2 =>
     refine' @L2.pss_cons _ _ _ _ _ ?g9 ?ga
     case g9 =>
      refine' @L2.ps_if _ _ _ _ _ _ _ _ (pt_cmpR op_eq (pv 1) pe_str (nomark _)) ?gb pss_nil
      case gb =>
       refine' @L2.pss_cons _ _ _ _ _ ?gc ?gd
       case gc =>
        refine' @L2.ps_set _ _ (3) _ _ _ _ nd rfl (Or.inl rfl) ?ge (by rfl) (by first | exact Or.inl rfl | exact Or.inr rfl | assumption)
        case ge =>
         refine' @L2.pe_and _ _ _ _ _ _ _ ?gf ?gg
         case gf =>
          refine' @L2.pe_cmpR _ _ _ _ _ _ _ _ op_eq ?gh pe_int (nomark _)
          case gh =>
           refine' @L2.pe_callB _ _ _ _ _ _ _ _ _ call_len_seq rfl T.b_len bb_len ?gi (by decide) (by decide) (by rfl) (by rfl)
           case gi =>
            refine' @L2.pa_cons _ _ _ _ _ (pe_dget hu (pv 0) pe_str (fun _ _=>rfl)) pa_nil rfl
         case gg =>
          refine' @L2.pe_one _ _ _ _ _ ?gj
          case gj =>
           refine' @L2.pe_cmpR _ _ _ _ _ _ _ _ op_eq ?gk pe_int (nomark _)
           case gk =>
            refine' @L2.pe_callB _ _ _ _ _ _ _ _ _ call_len_seq rfl T.b_len bb_len ?gl (by decide) (by decide) (by rfl) (by rfl)
            case gl =>
             refine' @L2.pa_cons _ _ _ _ _ (pe_dget hu (pv 0) pe_str (fun _ _=>rfl)) pa_nil rfl
       case gd =>
        refine' @L2.pss_one _ _ _ ?gm
        case gm =>
         refine' @L2.ps_ret _ _ _ _ ?gn
         case gn =>
          refine' @L2.pe_and _ _ _ _ _ _ _ (pv 3) ?go
          case go =>
           refine' @L2.pe_and _ _ _ _ _ _ _ ?gp (pe_one (pe_cal C_is_corner hr (by decide) rfl (pa_cons (pv 2) pa_nil rfl)))
           case gp =>
            refine' @L2.pe_cmpR _ _ _ _ _ _ _ _ op_lt ?gq (pe_gint T.n_MOST_CORNERS rfl) (nomark _)
            case gq =>
             refine' @L2.pe_callB _ _ _ _ _ _ _ _ _ call_len_seq rfl T.b_len bb_len ?gr (by decide) (by decide) (by rfl) (by rfl)
             case gr =>
              refine' @L2.pa_cons _ _ _ _ _ (pe_dget hu (pv 0) pe_str (fun _ _=>rfl)) pa_nil rfl
     case ga =>
      refine' @L2.pss_one _ _ _ ?gs
      case gs =>
       refine' @L2.ps_ret _ _ _ _ ?gt
       case gt =>
        refine' @L2.pe_and _ _ _ _ _ _ _ (pe_cmpR op_eq (pv 1) pe_str (nomark _)) (pe_one (pe_cal C_may_be_piece hr (by decide) rfl (pa_cons (pv 0) (pa_cons (pv 2) pa_nil rfl) rfl)))
   case read =>
    cases m with
    | st h hv h1 h2 =>
      rename_i a b c cv pw l m
      refine ⟨_,rfl,rfl,_,rfl,?_⟩
      rw [decide_eq_true (show V.str kS=V.str (Str.ofString "stuff") from rfl)]
      refine iteT ?_
      refine ⟨_,rfl,F,_,rfl,gS h,a,[],rfl,.inl (SqL.of h.a),rfl,true,rfl,iteT ?_⟩
      exact ⟨_,rfl,v,l,m,rfl,hv,h1,h2,q _ (Same.refl _)⟩
    | co h hv hn hl =>
      rename_i a b c s0 cv p
      refine ⟨_,rfl,rfl,_,rfl,?_⟩
      rw [decide_eq_false (show ¬ V.str kC=V.str (Str.ofString "stuff") from fun z=>nSC (V.str.inj z).symm)]
      refine iteF ?_
      refine ⟨_,rfl,rfl,_,rfl,?_⟩
      rw [decide_eq_true (show V.str kC=V.str (Str.ofString "corner") from rfl)]
      refine iteT ?_
      refine ⟨_,rfl,F,_,rfl,gS h,a,[s0],rfl,.inl (SqL.of h.a),rfl,true,rfl,iteT ?_⟩
      refine ⟨_,rfl,F,_,rfl,gP h,c,[],rfl,.inl (SqL.of h.c),rfl,?_⟩
      refine ⟨_,rfl,true,rfl,iteT ?_⟩
      refine ⟨_,rfl,F,_,rfl,gC h,b,cv,rfl,.inl (SqL.of h.b),_,_,rfl,rfl,_,rfl,?_⟩
      rw [decide_eq_true (show (cv.length:Int) < 30 by omega)]
      exact iteT ⟨_,rfl,v,p,rfl,hv,hn,q⟩
    | pi h h1 h2 hv r4 r40 ll pk nr t1 t9 =>
      rename_i a b c sv cv pw cs R p t
      refine ⟨_,rfl,rfl,_,rfl,?_⟩
      rw [decide_eq_false (show ¬ V.str kP=V.str (Str.ofString "stuff") from fun z=>nSP (V.str.inj z).symm)]
      refine iteF ?_
      refine ⟨_,rfl,rfl,_,rfl,?_⟩
      rw [decide_eq_false (show ¬ V.str kP=V.str (Str.ofString "corner") from fun z=>nCP (V.str.inj z).symm)]
      refine iteF ?_
      refine ⟨_,rfl,rfl,true,by rw [decide_eq_true (show V.str kP=V.str (Str.ofString "piece") from rfl)],iteT ?_⟩
      exact ⟨_,rfl,_,rfl,F,a,b,c,sv,cv,pw,v,cs,R,p,t,rfl,h,h1,h2,hv,r4,r40,ll,pk,nr,t1,t9,q⟩
abbrev s_read_plate:Stmt:=top 44
theorem ok_read_plate (F:Fun K "read_plate" "read_plate" s_read_plate f fd) (C_is_plate:Cal P w K mg base "is_plate" 5 ["thing"] sp_isPlate) (C_look_at_text:Cal P w K mg base "look_at_text" 1 ["thing"] sp_lookTx) (C_may_follow:Cal P w K mg base "may_follow" 5 ["found","word","numbers"] sp_follow) (C_whole_in:Cal P w K mg base "whole_in" 2 ["text"] sp_wholeIn):FnOk P w K mg base CX0 6 f fd ["text"] sp_readPl:=by
 have sc:FnScope ["text","found","rows","at","row","word","others","numbers","pieces","thicks","plate"] ["text"] (defScope s_read_plate):=fsc (by decide +kernel)
 refine F.ok sc (fun vs H Q E h=>?_) (fun cdv A outer s H vs Q E hr h=>?_)
 · obtain ⟨P',rfl,_⟩:=h
   rfl
 · obtain ⟨P',rfl,ok,q⟩:=h
   have nd:=sc.nd
   have hu:=hu_of hr
   have hu1:=Nat.lt_of_succ_lt hu
   refine' ⟨_,?term,?read⟩
   case term =>
    refine' @L2.pss_cons _ _ _ _ _ ?g1 ?g2
    case g1 =>
     refine' @L2.ps_expr _ _ _ _ (pe_cal C_look_at_text hr (by decide) rfl (pa_cons (pv 0) pa_nil rfl)) (by rfl)
    case g2 =>
     refine' @L2.pss_cons _ _ _ _ _ ?g3 ?g4
     case g3 =>
      refine' @L2.ps_set _ _ (1) _ _ _ _ nd rfl (Or.inl rfl) (pe_disp (pps_cons pe_str (pe_lst pa_nil) (pps_cons pe_str (pe_lst pa_nil) (pps_cons pe_str (pe_lst pa_nil) pps_nil))) rfl rfl (by decide) (by decide)) (by rfl) (by first | exact Or.inl rfl | exact Or.inr rfl | assumption)
     case g4 =>
      refine' @L2.pss_cons _ _ _ _ _ ?g5 ?g6
      case g5 =>
       refine' @L2.ps_set _ _ (2) _ _ _ _ nd rfl (Or.inl rfl) ?g7 (by rfl) (by first | exact Or.inl rfl | exact Or.inr rfl | assumption)
       case g7 =>
        refine' @L2.pe_bm _ _ _ _ _ _ _ _ _ _ _ _ PySem.F.plainAttrs_str PySem.F.slot_str_split PySem.F.type_str_split mt_split (pv 0) (pa_cons pe_str pa_nil rfl) (by rfl) (by rfl) (by rfl) (by rfl) (by rfl)
      case g6 =>
       refine' @L2.pss_cons _ _ _ _ _ ?g8 ?g9
       case g8 =>
        refine' @L2.ps_for _ _ _ _ _ _ _ _ PassesOwn.never rfl (pi_enum1 .l rfl T.b_enumerate (pa_cons (pv 2) pa_nil rfl)) ?ga ?gb (by intro _ ; rfl)
        case ga =>
         refine' @L2.pg_tup _ _ _ _ _ (2) rfl (pgs_cons (pg_name (i:=3) nd rfl (Or.inl rfl)) (pgs_cons (pg_name (i:=4) nd rfl (Or.inl rfl)) pgs_nil)) (by rfl) (by rfl)
        case gb =>
         refine' @L2.pss_cons _ _ _ _ _ ?gc ?gd
         case gc =>
          refine' @L2.ps_asg _ _ _ _ _ _ ?ge (pg_star rfl (pgs_cons (pg_name (i:=5) nd rfl (Or.inl rfl)) (pgs_cons (pg_name (i:=6) nd rfl (Or.inl rfl)) pgs_nil))) (by rfl) (by rfl) (by rfl)
          case ge =>
           refine' @L2.pe_bm _ _ _ _ _ _ _ _ _ _ _ _ PySem.F.plainAttrs_str PySem.F.slot_str_split PySem.F.type_str_split mt_split (pv 4) (pa_cons pe_str pa_nil rfl) (by rfl) (by rfl) (by rfl) (by rfl) (by rfl)
         case gd =>
          refine' @L2.pss_cons _ _ _ _ _ ?gf ?gg
          case gf =>
           refine' @L2.ps_set _ _ (7) _ _ _ _ nd rfl (Or.inl rfl) ?gh (by rfl) (by first | exact Or.inl rfl | exact Or.inr rfl | assumption)
           case gh =>
            refine' @L2.pe_callTy _ _ _ _ _ _ _ _ _ call_tuple_of rfl T.b_tuple bb_tuple ?gi (by decide) (by decide) (by rfl) (by rfl)
            case gi =>
             refine' @L2.pa_cons _ _ _ _ _ ?gj pa_nil rfl
             case gj =>
              refine' @L2.pe_lc _ _ _ _ _ _ _ (["other"]) ([none]) _ _ _ _ _ rfl (lcs_plain (by decide) rfl (by decide) rfl rfl) (pi_list (pv 6)) (fun _ _ _ _=>(pg_name (i:=0) (show List.Nodup (["other"]:List Str) by decide) rfl (Or.inl rfl) (Or.inr rfl))) (fun _ _ _ _=>pifs_nil) (fun _ _ _ _=>(pe_cal C_whole_in hr (by decide) rfl (pa_cons (pv 0) pa_nil rfl))) (by intro _ ; rfl)
          case gg =>
           refine' @L2.pss_cons _ _ _ _ _ ?gk ?gl
           case gk =>
            refine' @L2.ps_if _ _ _ _ _ _ _ _ ?gm pss_never pss_nil
            case gm =>
             refine' @L2.pt_not _ _ _ _ ?gn
             case gn =>
              refine' @L2.pt_truth _ _ _ (pe_cal C_may_follow hr (by decide) rfl (pa_cons (pv 1) (pa_cons (pv 5) (pa_cons (pv 7) pa_nil rfl) rfl) rfl)) (fun _=>rfl)
           case gl =>
            refine' @L2.pss_one _ _ _ ?go
            case go =>
             refine' @L2.ps_expr _ _ _ _ ?gp (by rfl)
             case gp =>
              refine' @L2.pe_bm _ _ _ _ _ _ _ _ _ _ _ _ PySem.F.plainAttrs_list PySem.F.slot_list_append PySem.F.type_list_append mt_append (pe_dget hu (pv 1) (pv 5) (fun _ _=>rfl)) (pa_cons (pv 7) pa_nil rfl) (by rfl) (by rfl) (by rfl) (by rfl) (by rfl)
       case g9 =>
        refine' @L2.pss_cons _ _ _ _ _ ?gq ?gr
        case gq =>
         refine' @L2.ps_set _ _ (8) _ _ _ _ nd rfl (Or.inl rfl) ?gs (by rfl) (by first | exact Or.inl rfl | exact Or.inr rfl | assumption)
         case gs =>
          refine' @L2.pe_callTy _ _ _ _ _ _ _ _ _ call_tuple_of rfl T.b_tuple bb_tuple ?gt (by decide) (by decide) (by rfl) (by rfl)
          case gt =>
           refine' @L2.pa_cons _ _ _ _ _ ?gu pa_nil rfl
           case gu =>
            refine' @L2.pe_lc _ _ _ _ _ _ _ (["numbers"]) ([none]) _ _ _ _ _ rfl (lcs_plain (by decide) rfl (by decide) rfl rfl) ?gv (fun _ _ _ _=>(pg_name (i:=0) (show List.Nodup (["numbers"]:List Str) by decide) rfl (Or.inl rfl) (Or.inr rfl))) (fun _ _ _ _=>pifs_nil) (fun _ _ _ _=>(pe_slice sl_tupU (pv 0) po_none (po_some pe_int))) (by intro _ ; rfl)
            case gv =>
             refine' @L2.pi_list _ _ _ _ (pe_dget hu (pv 1) pe_str (fun _ _=>rfl))
        case gr =>
         refine' @L2.pss_cons _ _ _ _ _ ?gw ?gx
         case gw =>
          refine' @L2.ps_set _ _ (9) _ _ _ _ nd rfl (Or.inl rfl) ?gy (by rfl) (by first | exact Or.inl rfl | exact Or.inr rfl | assumption)
          case gy =>
           refine' @L2.pe_callTy _ _ _ _ _ _ _ _ _ call_tuple_of rfl T.b_tuple bb_tuple ?gz (by decide) (by decide) (by rfl) (by rfl)
           case gz =>
            refine' @L2.pa_cons _ _ _ _ _ ?g10 pa_nil rfl
            case g10 =>
             refine' @L2.pe_lc _ _ _ _ _ _ _ (["numbers"]) ([none]) _ _ _ _ _ rfl (lcs_plain (by decide) rfl (by decide) rfl rfl) ?g11 (fun _ _ _ _=>(pg_name (i:=0) (show List.Nodup (["numbers"]:List Str) by decide) rfl (Or.inl rfl) (Or.inr rfl))) (fun _ _ _ _=>pifs_nil) (fun _ _ _ _=>(pe_ix (ix_tupK K rfl) (pv 0) pe_int (fun _ _=>rfl))) (by intro _ ; rfl)
             case g11 =>
              refine' @L2.pi_list _ _ _ _ (pe_dget hu (pv 1) pe_str (fun _ _=>rfl))
         case gx =>
          refine' @L2.pss_cons _ _ _ _ _ ?g12 ?g13
          case g12 =>
           refine' @L2.ps_set _ _ (10) _ _ _ _ nd rfl (Or.inl rfl) ?g14 (by rfl) (by first | exact Or.inl rfl | exact Or.inr rfl | assumption)
           case g14 =>
            refine' @L2.pe_tup _ _ _ _ _ ?g15
            case g15 =>
             refine' @L2.pa_cons _ _ _ _ _ ?g16 ?g17 rfl
             case g16 =>
              refine' @L2.pe_callTy _ _ _ _ _ _ _ _ _ call_tuple_of rfl T.b_tuple bb_tuple ?g18 (by decide) (by decide) (by rfl) (by rfl)
              case g18 =>
               refine' @L2.pa_cons _ _ _ _ _ (pe_dget hu (pv 1) pe_str (fun _ _=>rfl)) pa_nil rfl
             case g17 =>
              refine' @L2.pa_cons _ _ _ _ _ (pv 8) ?g19 rfl
              case g19 =>
               refine' @L2.pa_cons _ _ _ _ _ (pv 9) ?g1a rfl
               case g1a =>
                refine' @L2.pa_cons _ _ _ _ _ ?g1b pa_nil rfl
                case g1b =>
                 refine' @L2.pe_ix _ _ _ _ _ _ _ ix_list (pe_dget hu (pv 1) pe_str (fun _ _=>rfl)) pe_int (fun _ _=>rfl)
          case g13 =>
           refine' @L2.pss_cons _ _ _ _ _ ?g1c (pss_one (ps_ret (pv 10)))
           case g1c =>
            refine' @L2.ps_if _ _ _ _ _ _ _ _ ?g1d pss_never pss_nil
            case g1d =>
             refine' @L2.pt_not _ _ _ _ ?g1e
             case g1e =>
              refine' @L2.pt_truth _ _ _ (pe_cal C_is_plate hr (by decide) rfl (pa_cons (pv 10) pa_nil rfl)) (fun _=>rfl)
   case read =>
    have b:=PlOk.bd ok
    refine ⟨_,rfl,_,rfl,?_⟩
    refine fun F nF=>?_
    have S0:Same H (upd H F (.dK [])):=Same.new nF
    have e0:upd H F (.dK []) F=some (.dK []):=upd_same
    generalize upd H F (.dK [])=H0 at S0 e0 ⊢
    refine ⟨by show 0≤sizeLine; decide,fun a na=>?_⟩
    have Sa:Same H0 (upd H0 a (.lst [])):=Same.new na
    have ea:upd H0 a (.lst []) a=some (.lst []):=upd_same
    generalize upd H0 a (.lst [])=Ha at Sa ea ⊢
    refine ⟨by show 0≤sizeLine; decide,fun b' nb=>?_⟩
    have Sb:Same Ha (upd Ha b' (.lst [])):=Same.new nb
    have eb:upd Ha b' (.lst []) b'=some (.lst []):=upd_same
    generalize upd Ha b' (.lst [])=Hb at Sb eb ⊢
    refine ⟨by show 0≤sizeLine; decide,fun c nc=>?_⟩
    have Sc:Same Hb (upd Hb c (.lst [])):=Same.new nc
    have ec:upd Hb c (.lst []) c=some (.lst []):=upd_same
    generalize upd Hb c (.lst [])=Hc at Sc ec ⊢
    refine ⟨Sc _ _ (Sb _ _ (Sa _ _ e0)),[(.inr kS,.ref a),(.inr kC,.ref b'),(.inr kP,.ref c)],rfl,by show 3≤15; decide,?_⟩
    rw [merge3]
    have nFH:∀ x o,H x=some o→x≠F:=fun x o e=>ne_of_none e nF
    have Fa:F≠a:=ne_of_none e0 na
    have Fb:F≠b':=ne_of_none (Sa _ _ e0) nb
    have Fc:F≠c:=ne_of_none (Sb _ _ (Sa _ _ e0)) nc
    have ab:a≠b':=ne_of_none ea nb
    have ac:a≠c:=ne_of_none (Sb _ _ ea) nc
    have bc:b'≠c:=ne_of_none eb nc
    have nH:∀ {x o},H x=some o→x≠F∧x≠a∧x≠b'∧x≠c:=fun {x o} e=>⟨ne_of_none e nF,ne_of_none (S0 _ _ e) na,ne_of_none (Sa _ _ (S0 _ _ e)) nb,ne_of_none (Sb _ _ (Sa _ _ (S0 _ _ e))) nc⟩
    generalize hHd:upd Hc F _=Hd
    have Sd:Same H Hd:=fun x o e=>by rw [← hHd,upd_ne (nH e).1]; exact Sc _ _ (Sb _ _ (Sa _ _ (S0 _ _ e)))
    have g0:Got P' 0 Hd F a b' c [] [] []:=by
     refine ⟨⟨by rw [← hHd]; exact upd_same,by rw [← hHd,upd_ne Fa.symm]; exact Sc _ _ (Sb _ _ ea),by rw [← hHd,upd_ne Fb.symm]; exact Sc _ _ eb,by rw [← hHd,upd_ne Fc.symm]; exact ec⟩,.nil,by simp only [Nat.zero_sub,List.take_zero]; exact .nil,by simp only [Nat.zero_sub,List.take_zero]; exact .nil⟩
    clear hHd ec eb ea e0
    have rl:=rows_len ok
    have c30:=ok.c30; have p40:=ok.p40
    refine ⟨_,rfl,rfl,txtOf P',_,rfl,rfl,by decide +kernel,sz_str (txt_len ok) (by decide),by rw [rows_nl b,rl]; have:=sizeLine_eq; omega,fun R nR=>?_⟩
    rw [rows_nl b]
    have S1:Same Hd (upd Hd R (.lst ((rowsOf P').map V.str))):=Same.new nR
    have e1:upd Hd R (.lst ((rowsOf P').map V.str)) R=some (.lst ((rowsOf P').map V.str)):=upd_same
    generalize upd Hd R (.lst ((rowsOf P').map V.str))=H1 at S1 e1 ⊢
    have g1:Got P' 0 H1 F a b' c [] [] []:=⟨g0.f.same S1,.nil,by simp only [Nat.zero_sub,List.take_zero]; exact .nil,by simp only [Nat.zero_sub,List.take_zero]; exact .nil⟩
    have Ra:R≠a:=ne_of_none g0.f.a nR |>.symm
    have Rb:R≠b':=ne_of_none g0.f.b nR |>.symm
    have Rc:R≠c:=ne_of_none g0.f.c nR |>.symm
    refine ⟨_,rfl,R,rfl,⟨_,SqL.of e1⟩,?_⟩
    refine for_gen (n:=(rowsOf P').length) (fun n σ H2=>∃ w3 w4 w5 w6 w7:Option V,σ=[some (.str (txtOf P')),some (.ref F),some (.ref R),w3,w4,w5,w6,w7,none,none,none]∧Same H H2∧H2 R=some (.lst ((rowsOf P').map V.str))∧∃ sv cv pw,Got P' n H2 F a b' c sv cv pw) ⟨_,_,_,_,_,rfl,Sd.trans S1,e1,[],[],[],g1⟩ (fun n σ H2 hn pp=>?_) (fun σ H2 pp=>?_) (fun n x σ H2 H3 hn y pp=>?_) (fun σ H2 pp=>?_)
    · obtain ⟨_,_,_,_,_,_,_,er,_⟩:=pp
      exact ⟨_,_,SqL.of er,List.getElem?_eq_getElem (by simpa using hn)⟩
    · obtain ⟨_,_,_,_,_,_,_,er,_⟩:=pp
      exact ⟨_,SqL.of er,by simp⟩
    · obtain ⟨w3,w4,w5,w6,w7,rfl,sH,er,sv,cv,pw,g⟩:=pp
      obtain ⟨p1,x,rfl,np,rfl,yx⟩:=y
      have hx:=yx _ (SqL.of er)
      rw [List.getElem?_map] at hx
      obtain ⟨rt,e1',rfl⟩:=Option.map_eq_some_iff.mp hx
      unfold rowsOf at e1'
      rw [List.getElem?_map] at e1'
      obtain ⟨r,eR,rfl⟩:=Option.map_eq_some_iff.mp e1'
      obtain ⟨r4,rb,rw3⟩:=allR_bd b r (List.mem_of_getElem? eR)
      have S3:Same H2 (upd H2 p1 (.tup [.int ((n+1:Nat):Int),.str (rowT r)])):=Same.new np
      have e3:upd H2 p1 (.tup [.int ((n+1:Nat):Int),.str (rowT r)]) p1=some (.tup [.int ((n+1:Nat):Int),.str (rowT r)]):=upd_same
      generalize upd H2 p1 (.tup [.int ((n+1:Nat):Int),.str (rowT r)])=H3 at S3 e3 ⊢
      refine ⟨p1,_,rfl,SqT.of e3,rfl,_,_,rfl,_,_,rfl,rfl,?_⟩
      have spl:Txt.split (rowT r) (Str.ofString " ")=r.1 :: r.2.map wd:=rwd_split (w_ok rw3).2.1 rb
      have rln:(rowT r).length≤35:=row_len b _ (List.mem_map.mpr ⟨r,List.mem_of_getElem? eR,rfl⟩)
      refine ⟨_,rfl,rfl,rowT r,_,rfl,rfl,by decide +kernel,sz_str rln (by decide),by rw [spl]; have:=sizeLine_eq; simp; omega,fun W nW=>?_⟩
      rw [spl]
      have S4:Same H3 (upd H3 W (.lst ((r.1 :: r.2.map wd).map V.str))):=Same.new nW
      have e4:upd H3 W (.lst ((r.1 :: r.2.map wd).map V.str)) W=some (.lst ((r.1 :: r.2.map wd).map V.str)):=upd_same
      generalize upd H3 W (.lst ((r.1 :: r.2.map wd).map V.str))=H4 at S4 e4 ⊢
      refine ⟨W,.str r.1,(r.2.map wd).map V.str,rfl,SqL.of e4,fun D nD=>?_⟩
      have S5:Same H4 (upd H4 D (.lst ((r.2.map wd).map V.str))):=Same.new nD
      have e5:upd H4 D (.lst ((r.2.map wd).map V.str)) D=some (.lst ((r.2.map wd).map V.str)):=upd_same
      generalize upd H4 D (.lst ((r.2.map wd).map V.str))=H5 at S5 e5 ⊢
      refine ⟨_,_,rfl,_,_,rfl,rfl,?_⟩
      refine ⟨_,rfl,D,rfl,⟨_,SqL.of e5⟩,fun E nE=>?_⟩
      refine lc_T (k:=.l) (vs:=(r.2.map wd).map V.str) RI hRI r.2 (by simp) (by simp; omega) nE e5 (fun i w H6 C hw s6 c'=>?_) (fun H6 us6 s6 e6 a6=>?_)
      · rw [List.getElem?_map,List.getElem?_map] at hw
        obtain ⟨z,ez,rfl⟩:=Option.map_eq_some_iff.mp hw
        obtain ⟨i',ei,rfl⟩:=Option.map_eq_some_iff.mp ez
        exact ⟨_,rfl,i',rfl,rb i' (List.mem_of_getElem? ei),c' _ _ i' (Same.refl _) ei rfl⟩
      rw [a6.ints] at e6
      refine ⟨E,_,rfl,.inl ⟨SqL.of e6,fun t nt=>?_⟩⟩
      have S7:Same H6 (upd H6 t (.tup (r.2.map V.int))):=Same.new nt
      have e7:upd H6 t (.tup (r.2.map V.int)) t=some (.tup (r.2.map V.int)):=upd_same
      generalize upd H6 t (.tup (r.2.map V.int))=H7 at S7 e7 ⊢
      have S27:Same H2 H7:=S3.trans (S4.trans (S5.trans (s6.trans S7)))
      have gs:∀ {H9:Hp},Same H2 H9→Got P' n H9 F a b' c sv cv pw:=fun s=>⟨g.f.same s,g.s.imp fun v x r=>r.tk s.tk,g.c.imp fun v x r=>r.tk s.tk,g.p.imp fun v x r=>r.tk s.tk⟩
      obtain ⟨my,_⟩:=got_step ok (gs S27) ab ac bc eR (v:=.ref t) ⟨t,rfl,e7⟩
      refine ⟨_,rfl,_,rfl,_,rfl,F,r.1,.ref t,rfl,my,fun H8 s8=>⟨true,rfl,iteF ?_⟩⟩
      have S28:=S27.trans s8
      obtain ⟨_,l,xs,dg',hl,hz,labc,sv',cv',pw',g'⟩:=got_step ok (gs S28) ab ac bc eR (v:=.ref t) ⟨t,rfl,s8 _ _ e7⟩
      refine ⟨_,rfl,_,rfl,F,_,rfl,dg',.inl ⟨rfl,_,SqL.of hl⟩,_,rfl,l,xs,.ref t,rfl,rfl,hl,by have:=sizeLine_eq; omega,?_⟩
      refine ⟨_,_,_,_,_,rfl,fun x o e=>?_,?_,sv',cv',pw',g'⟩
      · have hn:=nH e
        have:x≠l:=by rcases labc with rfl | rfl | rfl; exact hn.2.1; exact hn.2.2.1; exact hn.2.2.2
        rw [upd_ne this]
        exact S28 _ _ (sH _ _ e)
      · have:R≠l:=by rcases labc with rfl | rfl | rfl; exact Ra; exact Rb; exact Rc
        rw [upd_ne this]
        exact S28 _ _ er
    obtain ⟨w3,w4,w5,w6,w7,rfl,sH,er,sv,cv,pw,g⟩:=pp
    have r4l:=R4_len ok
    have gs:=g.s; have gc:=g.c; have gp:=g.p
    rw [List.take_of_length_le (by show 1≤_; omega)] at gs
    rw [List.take_of_length_le (by omega)] at gc
    rw [List.take_of_length_le (by omega)] at gp
    have pwl:=gp.1
    refine ⟨_,rfl,F,_,rfl,gP g.f,c,rfl,⟨_,SqL.of g.f.c⟩,fun D nD=>?_⟩
    refine lc_T (k:=.l) (vs:=pw) IsI (fun _ _ _ _ t h=>h.tk t) P'.ps (by omega) (by omega) nD g.f.c (fun i w H6 C hw s6 c'=>?_) (fun H6 us6 s6 e6 a6=>?_)
    · obtain ⟨x,ex,na,rfl,hna⟩:=gp.get hw
      have hi:i < P'.ps.length:=by have:=lt_of_get hw; omega
      obtain ⟨p',t',ep,et,e4⟩:=R4_at ok hi
      rw [ex] at e4
      cases e4
      have h3:=(ok.pc p' (List.mem_of_getElem? ep)).len
      refine ⟨_,rfl,_,rfl,na,_,rfl,s6 _ _ hna,fun q1 H7 s7 e7=>?_⟩
      rw [show (3:Int)=((3:Nat):Int) from rfl,cut_take,← List.map_take,List.take_append_of_le_length (by omega),List.take_of_length_le (by omega)] at e7
      exact c' _ _ p' s7 ep ⟨q1,rfl,e7⟩
    refine ⟨D,_,rfl,.inl ⟨SqL.of e6,fun t1 nt1=>?_⟩⟩
    have S7:Same H6 (upd H6 t1 (.tup us6)):=Same.new nt1
    have e7:upd H6 t1 (.tup us6) t1=some (.tup us6):=upd_same
    generalize upd H6 t1 (.tup us6)=H7 at S7 e7 ⊢
    have S27:=s6.trans S7
    have f7:=g.f.same S27
    refine ⟨_,rfl,F,_,rfl,gP f7,c,rfl,⟨_,SqL.of f7.c⟩,fun D2 nD2=>?_⟩
    refine lc_T (k:=.l) (vs:=pw) RI hRI P'.ts (by have:=ok.t1; omega) (by omega) nD2 f7.c (fun i w H8 C hw s8 c'=>?_) (fun H8 us8 s8 e8 a8=>?_)
    · obtain ⟨x,ex,na,rfl,hna⟩:=gp.get hw
      have hi:i < P'.ps.length:=by have:=lt_of_get hw; omega
      obtain ⟨p',t',ep,et,e4⟩:=R4_at ok hi
      rw [ex] at e4
      cases e4
      have h3:=(ok.pc p' (List.mem_of_getElem? ep)).len
      have e3:atI ((p'++[t']).map V.int) 3=some (.int t'):=by
       match p',h3 with
       | [i,j,k],_=>rfl
      exact ⟨_,rfl,na,_,3,_,rfl,rfl,SqT.of ((S27.trans s8) _ _ hna),e3,c' _ _ t' (Same.refl _) et rfl⟩
    rw [a8.ints] at e8
    refine ⟨D2,_,rfl,.inl ⟨SqL.of e8,fun t2 nt2=>?_⟩⟩
    have S9:Same H8 (upd H8 t2 (.tup (P'.ts.map V.int))):=Same.new nt2
    have e9:upd H8 t2 (.tup (P'.ts.map V.int)) t2=some (.tup (P'.ts.map V.int)):=upd_same
    generalize upd H8 t2 (.tup (P'.ts.map V.int))=H9 at S9 e9 ⊢
    have S29:=S27.trans (s8.trans S9)
    have f9:=g.f.same S29
    refine ⟨_,rfl,F,_,rfl,gC f9,b',_,rfl,.inl ⟨SqL.of f9.b,fun t3 nt3=>?_⟩⟩
    have S10:Same H9 (upd H9 t3 (.tup cv)):=Same.new nt3
    have e10:upd H9 t3 (.tup cv) t3=some (.tup cv):=upd_same
    generalize upd H9 t3 (.tup cv)=H10 at S10 e10 ⊢
    have S210:=S29.trans S10
    have f10:=g.f.same S210
    obtain ⟨s0,rfl⟩:∃ s0,sv=[s0]:=by
     have:=gs.1
     match sv,this with
     | [s0],_=>exact ⟨s0,rfl⟩
    have hs0:IsI H2 s0 [P'.l,P'.m]:=gs.2 0 s0 _ rfl rfl
    refine ⟨_,rfl,_,rfl,_,rfl,F,_,rfl,gS f10,a,_,0,_,rfl,rfl,SqL.of f10.a,rfl,by show 4≤sizeLine; decide,fun t4 nt4=>?_⟩
    have S11:Same H10 (upd H10 t4 (.tup [.ref t3,.ref t1,.ref t2,s0])):=Same.new nt4
    have e11:upd H10 t4 (.tup [.ref t3,.ref t1,.ref t2,s0]) t4=some (.tup [.ref t3,.ref t1,.ref t2,s0]):=upd_same
    generalize upd H10 t4 (.tup [.ref t3,.ref t1,.ref t2,s0])=H11 at S11 e11 ⊢
    have S211:=S210.trans S11
    have hPl:IsPl H11 (.ref t4) P':=⟨t4,_,_,_,_,rfl,e11,⟨t3,cv,rfl,S11 _ _ e10,gc.imp fun v x r=>r.tk S211.tk⟩,⟨t1,us6,rfl,(s8.trans (S9.trans (S10.trans S11))) _ _ e7,a6.imp fun v x r=>r.tk (S7.trans (s8.trans (S9.trans (S10.trans S11)))).tk⟩,⟨t2,rfl,(S10.trans S11) _ _ e9⟩,hs0.tk S211.tk⟩
    refine ⟨_,rfl,.ref t4,P',rfl,hPl,ok,fun H12 s12=>⟨true,rfl,iteF ?_⟩⟩
    exact ⟨_,rfl,q _ _ (sH.trans (S211.trans s12)) (hPl.tk s12.tk)⟩
abbrev s__law_cell_at:Stmt:=top 46
theorem ok__law_cell_at (F:Fun K "_law_cell_at" "_law_cell_at" s__law_cell_at f fd):FnOk P w K mg base CX0 1 f fd ["_law_script","_law_k"] (sp_cell K):=by
 have sc:FnScope ["_law_script","_law_k"] ["_law_script","_law_k"] (defScope s__law_cell_at):=fsc (by decide +kernel)
 refine F.ok sc (fun vs H Q E h=>?_) (fun cdv A outer s H vs Q E hr h=>?_)
 · obtain ⟨a,ns,k,rfl,_⟩:=h
   rfl
 · obtain ⟨a,ns,k,rfl,hS,q⟩:=h
   have nd:=sc.nd
   have hu:=hu_of hr
   have hu1:=Nat.lt_of_succ_lt hu
   refine' ⟨_,?term,?read⟩
   case term =>
    refine' @L2.pss_cons _ _ _ _ _ ?g1 (pss_one (ps_ret pe_int))
    case g1 =>
     refine' @L2.ps_if _ _ _ _ _ _ _ _ (pt_cmpR op_lt (pv 1) (pe_callB call_len_seq rfl T.b_len bb_len (pa_cons (pv 0) pa_nil rfl)) (nomark _)) ?g2 pss_nil
     case g2 =>
      refine' @L2.pss_one _ _ _ ?g3
      case g3 =>
       refine' @L2.ps_ret _ _ _ _ ?g4
       case g4 =>
        refine' @L2.pe_ix _ _ _ _ _ _ _ ix_list (pv 0) (pv 1) (fun _ _=>rfl)
   case read =>
    refine ⟨_,rfl,_,rfl,a,_,rfl,.inl hS,_,_,rfl,rfl,_,rfl,?_⟩
    refine ite2 (fun hlt=>?_) (fun _=>q 0)
    have hk:k < ns.length:=by
     have z:=of_decide_eq_true hlt
     rw [List.length_map] at z
     omega
    exact ⟨_,rfl,_,rfl,a,_,_,_,rfl,rfl,hS,atI_nat (by rw [List.getElem?_map,List.getElem?_eq_getElem hk]; rfl),q _⟩
abbrev s__law_state:Stmt:=top 47
theorem ok__law_state (F:Fun K "_law_state" "_law_state" s__law_state f fd) (C__law_cell_at:Cal P w K mg base "_law_cell_at" 1 ["_law_script","_law_k"] (sp_cell K)):FnOk P w K mg base CX0 2 f fd ["_law_script","_law_k"] (sp_state K):=by
 have sc:FnScope ["_law_script","_law_k","_law_cell"] ["_law_script","_law_k"] (defScope s__law_state):=fsc (by decide +kernel)
 refine F.ok sc (fun vs H Q E h=>?_) (fun cdv A outer s H vs Q E hr h=>?_)
 · obtain ⟨a,ns,k,rfl,_⟩:=h
   rfl
 · obtain ⟨a,ns,k,rfl,hS,q⟩:=h
   have nd:=sc.nd
   have hu:=hu_of hr
   have hu1:=Nat.lt_of_succ_lt hu
   refine' ⟨_,?term,?read⟩
   case term =>
    refine' @L2.pss_cons _ _ _ _ _ ?g1 ?g2
    case g1 =>
     refine' @L2.ps_set _ _ (2) _ _ _ _ nd rfl (Or.inl rfl) (pe_cal C__law_cell_at hr (by decide) rfl (pa_cons (pv 0) (pa_cons (pv 1) pa_nil rfl) rfl)) (by rfl) (by first | exact Or.inl rfl | exact Or.inr rfl | assumption)
    case g2 =>
     refine' @L2.pss_one _ _ _ ?g3
     case g3 =>
      refine' @L2.ps_ret _ _ _ _ ?g4
      case g4 =>
       refine' @L2.pe_lst _ _ _ _ (pa_cons (pe_callB (call_max2 rfl) rfl T.b_max bb_max (pa_cons pe_int (pa_cons (pe_op op_sub (pv 2) (pe_op op_pow pe_int pe_int)) pa_nil rfl) rfl)) (pa_cons (pe_op op_add (pe_op op_modN (pv 2) pe_int) pe_int) (pa_cons pe_int pa_nil rfl) rfl) rfl)
   case read =>
    refine ⟨_,rfl,_,rfl,a,ns,k,rfl,hS,fun c=>?_⟩
    refine ⟨_,rfl,_,_,rfl,rfl,⟨by decide,by decide,by decide⟩,_,_,rfl,rfl,_,_,rfl,?_⟩
    refine ⟨_,rfl,_,_,rfl,rfl,(by show (2147483629:Int)≠0; decide),_,_,rfl,rfl,(by show 3≤sizeLine; decide),fun p hp=>q p _ hp (Same.new hp) ⟨_,_,_,upd_same,?_,?_⟩⟩
    · have:=Int.fmod_nonneg_of_pos c (b:=2147483629) (by decide)
      omega
    · have:=Int.fmod_lt_of_pos c (b:=2147483629) (by decide)
      omega
abbrev s__law_choice:Stmt:=top 48
theorem ok__law_choice (F:Fun K "_law_choice" "_law_choice" s__law_choice f fd):FnOk P w K mg base CX0 1 f fd ["_law_state_here","_law_many"] sp_choice:=by
 have sc:FnScope ["_law_state_here","_law_many","_law_found","_law_mixed"] ["_law_state_here","_law_many"] (defScope s__law_choice):=fsc (by decide +kernel)
 refine F.ok sc (fun vs H Q E h=>?_) (fun cdv A outer s H vs Q E hr h=>?_)
 · obtain ⟨l,m,rfl,_⟩:=h
   rfl
 · obtain ⟨l,m,rfl,⟨s0,s1,s2,hl,h0,h1⟩,hm,hz,q⟩:=h
   have nd:=sc.nd
   have hu:=hu_of hr
   have hu1:=Nat.lt_of_succ_lt hu
   refine' ⟨_,?term,?read⟩
   case term =>
    refine' @L2.pss_cons _ _ _ _ _ ?g1 ?g2
    case g1 =>
     refine' @L2.ps_if _ _ _ _ _ _ _ _ ?g3 ?g4 pss_nil
     case g3 =>
      refine' @L2.pt_cmpR _ _ _ _ _ _ _ _ op_gt ?g5 pe_int (nomark _)
      case g5 =>
       refine' @L2.pe_ix _ _ _ _ _ _ _ ix_list (pv 0) pe_int (fun _ _=>rfl)
     case g4 =>
      refine' @L2.pss_cons _ _ _ _ _ ?g6 ?g7
      case g6 =>
       refine' @L2.ps_set _ _ (2) _ _ _ _ nd rfl (Or.inl rfl) ?g8 (by rfl) (by first | exact Or.inl rfl | exact Or.inr rfl | assumption)
       case g8 =>
        refine' @L2.pe_op _ _ _ _ _ _ _ _ op_modN ?g9 (pv 1)
        case g9 =>
         refine' @L2.pe_ix _ _ _ _ _ _ _ ix_list (pv 0) pe_int (fun _ _=>rfl)
      case g7 =>
       refine' @L2.pss_cons _ _ _ _ _ ?ga (pss_one (ps_ret (pv 2)))
       case ga =>
        refine' @L2.ps_asg _ _ _ _ _ _ ?gb ?gc (by rfl) (by rfl) (by rfl)
        case gb =>
         refine' @L2.pe_op _ _ _ _ _ _ _ _ op_fdivB ?gd (pv 1)
         case gd =>
          refine' @L2.pe_ix _ _ _ _ _ _ _ ix_list (pv 0) pe_int (fun _ _=>rfl)
        case gc =>
         refine' @L2.pg_sub _ _ _ _ _ _ _ (pv 0) pe_int set_list (by intro _ ; rfl)
    case g2 =>
     refine' @L2.pss_cons _ _ _ _ _ ?ge ?gf
     case ge =>
      refine' @L2.ps_asg _ _ _ _ _ _ ?gg ?gh (by rfl) (by rfl) (by rfl)
      case gg =>
       refine' @L2.pe_op _ _ _ _ _ _ _ _ op_add ?gi pe_int
       case gi =>
        refine' @L2.pe_ix _ _ _ _ _ _ _ ix_list (pv 0) pe_int (fun _ _=>rfl)
      case gh =>
       refine' @L2.pg_sub _ _ _ _ _ _ _ (pv 0) pe_int set_list (by intro _ ; rfl)
     case gf =>
      refine' @L2.pss_cons _ _ _ _ _ ?gj ?gk
      case gj =>
       refine' @L2.ps_asg _ _ _ _ _ _ ?gl ?gm (by rfl) (by rfl) (by rfl)
       case gl =>
        refine' @L2.pe_op _ _ _ _ _ _ _ _ op_modN ?gn pe_int
        case gn =>
         refine' @L2.pe_op _ _ _ _ _ _ _ _ op_add ?go ?gp
         case go =>
          refine' @L2.pe_op _ _ _ _ _ _ _ _ op_add ?gq pe_int
          case gq =>
           refine' @L2.pe_op _ _ _ _ _ _ _ _ op_mulB ?gr pe_int
           case gr =>
            refine' @L2.pe_ix _ _ _ _ _ _ _ ix_list (pv 0) pe_int (fun _ _=>rfl)
         case gp =>
          refine' @L2.pe_ix _ _ _ _ _ _ _ ix_list (pv 0) pe_int (fun _ _=>rfl)
       case gm =>
        refine' @L2.pg_sub _ _ _ _ _ _ _ (pv 0) pe_int set_list (by intro _ ; rfl)
      case gk =>
       refine' @L2.pss_cons _ _ _ _ _ ?gs ?gt
       case gs =>
        refine' @L2.ps_set _ _ (3) _ _ _ _ nd rfl (Or.inl rfl) ?gu (by rfl) (by first | exact Or.inl rfl | exact Or.inr rfl | assumption)
        case gu =>
         refine' @L2.pe_op _ _ _ _ _ _ _ _ op_modN ?gv pe_int
         case gv =>
          refine' @L2.pe_op _ _ _ _ _ _ _ _ op_add ?gw pe_int
          case gw =>
           refine' @L2.pe_op _ _ _ _ _ _ _ _ op_add ?gx ?gy
           case gx =>
            refine' @L2.pe_op _ _ _ _ _ _ _ _ op_mulB ?gz ?g10
            case gz =>
             refine' @L2.pe_ix _ _ _ _ _ _ _ ix_list (pv 0) pe_int (fun _ _=>rfl)
            case g10 =>
             refine' @L2.pe_ix _ _ _ _ _ _ _ ix_list (pv 0) pe_int (fun _ _=>rfl)
           case gy =>
            refine' @L2.pe_op _ _ _ _ _ _ _ _ op_mulB pe_int ?g11
            case g11 =>
             refine' @L2.pe_ix _ _ _ _ _ _ _ ix_list (pv 0) pe_int (fun _ _=>rfl)
       case gt =>
        refine' @L2.pss_cons _ _ _ _ _ ?g12 (pss_one (ps_ret (pe_op op_modN (pe_op op_fdivB (pv 3) pe_int) (pv 1))))
        case g12 =>
         refine' @L2.ps_set _ _ (3) _ _ _ _ nd rfl (Or.inl rfl) (pe_op op_modN (pe_op op_add (pe_op op_mulB (pv 3) (pv 3)) (pe_op op_mulB pe_int (pv 3))) pe_int) (by rfl) (by first | exact Or.inl rfl | exact Or.inr rfl | assumption)
   case read =>
    have hm0:m≠0:=by omega
    refine ⟨_,rfl,l,_,0,_,rfl,rfl,SqL.of hl,rfl,_,_,rfl,rfl,_,rfl,?_⟩
    refine ite2 (fun _=>?_) (fun _=>?_)
    · refine ⟨_,rfl,l,_,0,_,rfl,rfl,SqL.of hl,rfl,_,rfl,_,_,rfl,rfl,hm0,?_⟩
      refine ⟨_,rfl,l,_,0,_,rfl,rfl,SqL.of hl,rfl,_,rfl,_,_,rfl,rfl,⟨hm0,hz⟩,?_⟩
      refine ⟨_,rfl,l,_,0,0,rfl,rfl,hl,rfl,?_⟩
      exact ⟨_,rfl,q _ _ (Int.fmod_nonneg_of_pos _ hm) (Int.fmod_lt_of_pos _ hm) Keep.upd ⟨_,_,_,upd_same,h0,h1⟩⟩
    ·
     refine ⟨_,rfl,l,_,2,_,rfl,rfl,SqL.of hl,rfl,_,_,rfl,rfl,?_⟩
     refine ⟨_,rfl,l,_,2,2,rfl,rfl,hl,rfl,?_⟩
     refine ⟨_,rfl,l,_,1,_,rfl,rfl,SqL.of upd_same,rfl,_,_,rfl,rfl,mulS (by rw [p64]; omega) (by decide),_,_,rfl,rfl,?_⟩
     refine ⟨_,rfl,l,_,2,_,rfl,rfl,SqL.of upd_same,rfl,_,_,rfl,rfl,_,_,rfl,rfl,(by show (2147483647:Int)≠0; decide),?_⟩
     refine ⟨_,rfl,l,_,1,1,rfl,rfl,upd_same,rfl,?_⟩
     generalize hs:Int.fmod (s1 * 48271+29+(s2+1)) 2147483647=u
     have u0:0≤u:=by rw [← hs]; exact Int.fmod_nonneg_of_pos _ (by decide)
     have u1:u < 2147483647:=by rw [← hs]; exact Int.fmod_lt_of_pos _ (by decide)
     refine ⟨_,rfl,l,_,1,_,rfl,rfl,SqL.of upd_same,rfl,_,rfl,l,_,1,_,rfl,rfl,SqL.of upd_same,rfl,u,u,by rw [← hs],by rw [← hs],mulS (by rw [p64]; omega) (by rw [p64]; omega),?_⟩
     refine ⟨_,rfl,l,_,1,_,rfl,rfl,SqL.of upd_same,rfl,39373,u,rfl,by rw [← hs],mulS (by decide) (by rw [p64]; omega),_,_,rfl,rfl,_,_,rfl,rfl,_,_,rfl,rfl,(by show (2147483629:Int)≠0; decide),?_⟩
     generalize hv:Int.fmod (u * u+39373 * u+7) 2147483629=v
     have v0:0≤v:=by rw [← hv]; exact Int.fmod_nonneg_of_pos _ (by decide)
     have v1:v < 2147483629:=by rw [← hv]; exact Int.fmod_lt_of_pos _ (by decide)
     refine ⟨_,rfl,_,rfl,v,v,by rw [← hv],by rw [← hv],mulS (by rw [p64]; omega) (by rw [p64]; omega),_,rfl,50021,v,rfl,by rw [← hv],mulS (by decide) (by rw [p64]; omega),_,_,rfl,rfl,_,_,rfl,rfl,(by show (2147483587:Int)≠0; decide),?_⟩
     refine ⟨_,rfl,_,_,rfl,rfl,⟨by decide,lt8999 (by decide)⟩,_,rfl,_,_,rfl,rfl,hm0,?_⟩
     exact q _ _ (Int.fmod_nonneg_of_pos _ hm) (Int.fmod_lt_of_pos _ hm) (Keep.upd.trans Keep.upd) ⟨_,u,_,by rw [← hs]; exact upd_same,u0,by omega⟩
abbrev s__law_order:Stmt:=top 49
theorem ok__law_order (F:Fun K "_law_order" "_law_order" s__law_order f fd) (C__law_choice:Cal P w K mg base "_law_choice" 1 ["_law_state_here","_law_many"] sp_choice):FnOk P w K mg base CX0 2 f fd ["_law_state_here","_law_many"] sp_order:=by
 have sc:FnScope ["_law_state_here","_law_many","_law_left","_law_found"] ["_law_state_here","_law_many"] (defScope s__law_order):=fsc (by decide +kernel)
 refine F.ok sc (fun vs H Q E h=>?_) (fun cdv A outer s H vs Q E hr h=>?_)
 · obtain ⟨l,n,rfl,_⟩:=h
   rfl
 · obtain ⟨l,n,rfl,hl,h60,q⟩:=h
   have nd:=sc.nd
   have hu:=hu_of hr
   have hu1:=Nat.lt_of_succ_lt hu
   refine' ⟨_,?term,?read⟩
   case term =>
    refine' @L2.pss_cons _ _ _ _ _ ?g1 ?g2
    case g1 =>
     refine' @L2.ps_par _ _ (2) (3) _ _ _ _ _ _ _ _ _ _ _ rfl nd rfl rfl (by decide) rfl rfl ?g3 rfl (by rfl)
     case g3 =>
      refine' @L2.pa_cons _ _ _ _ _ ?g4 ?g5 rfl
      case g4 =>
       refine' @L2.pe_callTy _ _ _ _ _ _ _ _ _ (call_listR rfl) rfl T.b_list bb_list ?g6 (by decide) (by decide) (by rfl) (by rfl)
       case g6 =>
        refine' @L2.pa_cons _ _ _ _ _ ?g7 pa_nil rfl
        case g7 =>
         refine' @L2.pe_rng _ _ _ _ _ rfl T.b_range (pa_cons (pv 1) pa_nil rfl) (by rfl)
      case g5 =>
       refine' @L2.pa_cons _ _ _ _ _ ?g8 pa_nil rfl
       case g8 =>
        refine' @L2.pe_lst _ _ _ _ pa_nil
    case g2 =>
     refine' @L2.pss_cons _ _ _ _ _ ?g9 (pss_one (ps_ret (pv 3)))
     case g9 =>
      refine' @L2.ps_while _ _ _ _ _ _ PassesOwn.never ?ga ?gb
      case ga =>
       refine' @L2.pt_cmpR _ _ _ _ _ _ _ _ (op_neL hu1) (pv 2) ?gc (nomark _)
       case gc =>
        refine' @L2.pe_lst _ _ _ _ pa_nil
      case gb =>
       refine' @L2.pss_one _ _ _ ?gd
       case gd =>
        refine' @L2.ps_expr _ _ _ _ ?ge (by rfl)
        case ge =>
         refine' @L2.pe_bm _ _ _ _ _ _ _ _ _ _ _ _ PySem.F.plainAttrs_list PySem.F.slot_list_append PySem.F.type_list_append mt_append (pv 3) ?gf (by rfl) (by rfl) (by rfl) (by rfl) (by rfl)
         case gf =>
          refine' @L2.pa_cons _ _ _ _ _ ?gg pa_nil rfl
          case gg =>
           refine' @L2.pe_bm _ _ _ _ _ _ _ _ _ _ _ _ PySem.F.plainAttrs_list PySem.F.slot_list_pop PySem.F.type_list_pop mt_popAt (pv 2) (pa_cons (pe_cal C__law_choice hr (by decide) rfl (pa_cons (pv 0) (pa_cons (pe_callB call_len_seq rfl T.b_len bb_len (pa_cons (pv 2) pa_nil rfl)) pa_nil rfl) rfl)) pa_nil rfl) (by rfl) (by rfl) (by rfl) (by rfl) (by rfl)
   case read =>
    refine ⟨_,rfl,n,rfl,fun R nR=>?_⟩
    refine ⟨R,n,rfl,upd_same,by omega,fun L nL=>?_⟩
    have s1:Same H (upd H R (.rng 0 n)):=Same.new nR
    generalize upd H R (.rng 0 n)=H1 at s1 nL ⊢
    have nL0:H L=none:=by
     cases e:H L with
     | none=>rfl
     | some o=>rw [s1 _ _ e] at nL; cases nL
    have s2:Same H1 (upd H1 L (.lst ((List.range n).map fun i:Nat=>V.int i))):=Same.new nL
    have e2:upd H1 L (.lst ((List.range n).map fun i:Nat=>V.int i)) L=some (.lst ((List.range n).map fun i:Nat=>V.int i)):=upd_same
    generalize upd H1 L (.lst ((List.range n).map fun i:Nat=>V.int i))=H2 at s2 e2 ⊢
    refine ⟨by show 0≤sizeLine; decide,fun F nF=>?_⟩
    have s3:Same H2 (upd H2 F (.lst [])):=Same.new nF
    have e3:upd H2 F (.lst []) F=some (.lst []):=upd_same
    have nLF:L≠F:=ne_of_none e2 nF
    generalize upd H2 F (.lst [])=H3 at s3 e3 ⊢
    have s03:=s1.trans (s2.trans s3)
    have nF0:H F=none:=by
     cases e:H F with
     | none=>rfl
     | some o=>rw [s2 _ _ (s1 _ _ e)] at nF; cases nF
    have nLl:L≠l:=hl.neN nL0
    have nFl:F≠l:=hl.neN nF0
    refine ⟨_,_,rfl,?_⟩
    refine while_by (fun σ H2=>σ=[some (.ref l),some (.int n),some (.ref L),some (.ref F)]∧Keep l H H2∧StAt H2 l∧∃ xs ys:List Int,H2 L=some (.lst (xs.map V.int))∧H2 F=some (.lst (ys.map V.int))∧(ys++xs).Perm ((List.range n).map fun i:Nat=>(i:Int))) (fun σ H2=>match H2 L with | some (.lst xs)=>xs.length | _=>0) ⟨rfl,s03.keep,hl.same s03,(List.range n).map fun i:Nat=>(i:Int),[],?_,e3,.refl _⟩ ?_ ?_
    · rw [List.map_map]; exact s3 _ _ e2
    · rintro σ H4 ⟨rfl,k4,l4,xs,ys,eL,eF,pm⟩
      refine ⟨_,rfl,by show 0≤sizeLine; decide,fun E nE=>?_⟩
      have s5:Same H4 (upd H4 E (.lst [])):=Same.new nE
      have e5:upd H4 E (.lst []) E=some (.lst []):=upd_same
      generalize upd H4 E (.lst [])=H5 at s5 e5 ⊢
      refine ⟨L,E,_,rfl,rfl,SqL.of (s5 _ _ eL),SqL.of e5,_,rfl,?_⟩
      cases xs with
      | nil =>
        refine iteF ?_
        refine ⟨_,rfl,q H5 F ys (k4.trans s5.keep) (l4.same s5) nF0 (s5 _ _ eF) ?_⟩
        simpa using pm
      | cons x xs =>
        refine iteT ?_
        have len:ys.length+(x :: xs).length=n:=by
         have:=pm.length_eq
         simpa using this
        have l5:=l4.same s5
        refine ⟨_,rfl,.inl ⟨rfl,_,SqL.of (s5 _ _ eF)⟩,_,rfl,.inl ⟨rfl,_,SqL.of (s5 _ _ eL)⟩,_,rfl,_,rfl,L,_,rfl,.inl (SqL.of (s5 _ _ eL)),l,_,rfl,l5,?_,?_,fun r H6 r0 r1 k6 l6=>?_⟩
        · simp
        · rw [List.length_map]
          refine lt8999 ?_
          show _ < 18446744073709551616
          simp at len ⊢
          omega
        · rw [List.length_map] at r1
          have hr:r.toNat < (x :: xs).length:=by omega
          have eL6:=k6 _ _ nLl (s5 _ _ eL)
          have eF6:=k6 _ _ nFl (s5 _ _ eF)
          refine ⟨L,_,r,r.toNat,.int ((x :: xs)[r.toNat]),rfl,rfl,eL6,by omega,?_,seqI r0 (by rw [List.length_map]; exact r1),by rw [List.getElem?_map,List.getElem?_eq_getElem hr]; rfl,?_⟩
          · have:(n:Int)≤60:=by omega
            have:((x :: xs).length:Int)≤n:=by omega
            omega
          · refine ⟨F,_,_,rfl,rfl,by rw [upd_ne nLF.symm]; exact eF6,?_,?_⟩
            · rw [List.length_map,sizeLine_eq]; omega
            · have eL7:∀ o,upd (upd H6 L (.lst (((x :: xs).map V.int).eraseIdx r.toNat))) F o L=some (.lst (((x :: xs).map V.int).eraseIdx r.toNat)):=fun o=>by rw [upd_ne nLF,upd_same]
              refine ⟨⟨rfl,?_,?_,(x :: xs).eraseIdx r.toNat,ys++[(x :: xs)[r.toNat]],?_,?_,?_⟩,?_⟩
              · intro b o nb e
                rw [upd_ne (ne_of_none e nF0),upd_ne (ne_of_none e nL0)]
                exact k6 _ _ nb (s5 _ _ (k4 _ _ nb e))
              · obtain ⟨a,b,c,e,r⟩:=l6
                exact ⟨a,b,c,by rw [upd_ne nFl.symm,upd_ne nLl.symm]; exact e,r⟩
              · rw [eL7,map_erase]
              · rw [upd_same,List.map_append]; rfl
              · refine List.Perm.trans ?_ pm
                rw [List.append_assoc]
                refine List.Perm.append_left ys ?_
                exact erase_perm _ _ hr
              · rw [eL7,eL]
                dsimp only
                rw [List.length_eraseIdx_of_lt (by rw [List.length_map]; exact hr)]
                simp
    · rintro σ H' Q1 Q2 hq ⟨v,e,z,f⟩
      refine ⟨v,e,z,fun p np=>?_⟩
      obtain ⟨a,b,xs,e1,e2,h1,h2,k,t,q'⟩:=f p np
      exact ⟨a,b,xs,e1,e2,h1,h2,k,t,hq _ _ q'⟩
abbrev s__law_shapes:Stmt:=top 50
theorem ok__law_shapes (F:Fun K "_law_shapes" "_law_shapes" s__law_shapes f fd):FnOk P w K mg base CX0 1 f fd [] sp_shapes:=by
 have sc:FnScope ["_law_one","_law_two","_law_hub","_law_hinge","_law_apart","_law_strip","_law_cross","_law_chain"] [] (defScope s__law_shapes):=fsc (by decide +kernel)
 refine F.ok sc (fun vs H Q E h=>?_) (fun cdv A outer s H vs Q E hr h=>?_)
 · obtain ⟨rfl,_⟩:=h
   rfl
 · obtain ⟨rfl,q⟩:=h
   have nd:=sc.nd
   have hu:=hu_of hr
   have hu1:=Nat.lt_of_succ_lt hu
   refine' ⟨_,?term,?read⟩
   case term =>
    refine' @L2.pss_cons _ _ _ _ _ ?g1 ?g2
    case g1 =>
     refine' @L2.ps_set _ _ (0) _ _ _ _ nd rfl (Or.inl rfl) ?g3 (by rfl) (by first | exact Or.inl rfl | exact Or.inr rfl | assumption)
     case g3 =>
      refine' @L2.pe_shape _ _ (([(0,0),(2,0),(0,3)],[[0,1,2]])) rfl
    case g2 =>
     refine' @L2.pss_cons _ _ _ _ _ ?g4 ?g5
     case g4 =>
      refine' @L2.ps_set _ _ (1) _ _ _ _ nd rfl (Or.inl rfl) ?g6 (by rfl) (by first | exact Or.inl rfl | exact Or.inr rfl | assumption)
      case g6 =>
       refine' @L2.pe_shape _ _ (([(0,0),(3,0),(3,2),(0,2)],[[0,1,2],[0,2,3]])) rfl
     case g5 =>
      refine' @L2.pss_cons _ _ _ _ _ ?g7 ?g8
      case g7 =>
       refine' @L2.ps_set _ _ (2) _ _ _ _ nd rfl (Or.inl rfl) ?g9 (by rfl) (by first | exact Or.inl rfl | exact Or.inr rfl | assumption)
       case g9 =>
        refine' @L2.pe_shape _ _ (([(0,0),(6,0),(0,6),(2,1)],[[0,1,3],[0,2,3],[1,2,3]])) rfl
      case g8 =>
       refine' @L2.pss_cons _ _ _ _ _ ?ga ?gb
       case ga =>
        refine' @L2.ps_set _ _ (3) _ _ _ _ nd rfl (Or.inl rfl) ?gc (by rfl) (by first | exact Or.inl rfl | exact Or.inr rfl | assumption)
        case gc =>
         refine' @L2.pe_shape _ _ (([(0,0),(2,1),(2,-1),(-2,1),(-3,-1)],[[0,1,2],[0,3,4]])) rfl
       case gb =>
        refine' @L2.pss_cons _ _ _ _ _ ?gd ?ge
        case gd =>
         refine' @L2.ps_set _ _ (4) _ _ _ _ nd rfl (Or.inl rfl) ?gf (by rfl) (by first | exact Or.inl rfl | exact Or.inr rfl | assumption)
         case gf =>
          refine' @L2.pe_shape _ _ (([(0,0),(2,0),(0,2),(4,0),(6,1),(4,3)],[[0,1,2],[3,4,5]])) rfl
        case ge =>
         refine' @L2.pss_cons _ _ _ _ _ ?gg ?gh
         case gg =>
          refine' @L2.ps_set _ _ (5) _ _ _ _ nd rfl (Or.inl rfl) ?gi (by rfl) (by first | exact Or.inl rfl | exact Or.inr rfl | assumption)
          case gi =>
           refine' @L2.pe_shape _ _ (([(0,0),(0,2),(2,0),(3,2),(5,0)],[[0,1,2],[1,2,3],[2,3,4]])) rfl
         case gh =>
          refine' @L2.pss_cons _ _ _ _ _ ?gj ?gk
          case gj =>
           refine' @L2.ps_set _ _ (6) _ _ _ _ nd rfl (Or.inl rfl) ?gl (by rfl) (by first | exact Or.inl rfl | exact Or.inr rfl | assumption)
           case gl =>
            refine' @L2.pe_shape _ _ (([(0,0),(2,0),(0,3),(-2,0),(0,-1)],[[0,1,2],[0,2,3],[0,3,4],[0,1,4]])) rfl
          case gk =>
           refine' @L2.pss_cons _ _ _ _ _ ?gm ?gn
           case gm =>
            refine' @L2.ps_set _ _ (7) _ _ _ _ nd rfl (Or.inl rfl) ?go (by rfl) (by first | exact Or.inl rfl | exact Or.inr rfl | assumption)
            case go =>
             refine' @L2.pe_shape _ _ (([(0,0),(1,2),(2,0),(3,2),(4,0),(5,3)],[[0,1,2],[2,3,4],[3,4,5]])) rfl
           case gn =>
            refine' @L2.pss_one _ _ _ ?gp
            case gp =>
             refine' @L2.ps_ret _ _ _ _ ?gq
             case gq =>
              refine' @L2.pe_lst _ _ _ _ (pa_cons (pv 0) (pa_cons (pv 1) (pa_cons (pv 3) (pa_cons (pv 4) (pa_cons (pv 2) (pa_cons (pv 5) (pa_cons (pv 7) (pa_cons (pv 6) pa_nil rfl) rfl) rfl) rfl) rfl) rfl) rfl) rfl)
   case read =>
    intro H1 v_one s1 h_one
    intro H2 v_two s2 h_two
    intro H3 v_hub s3 h_hub
    intro H4 v_hinge s4 h_hinge
    intro H5 v_apart s5 h_apart
    intro H6 v_strip s6 h_strip
    intro H7 v_cross s7 h_cross
    intro H8 v_chain s8 h_chain
    replace h_one:=h_one.tk s2.tk
    replace h_one:=h_one.tk s3.tk
    replace h_one:=h_one.tk s4.tk
    replace h_one:=h_one.tk s5.tk
    replace h_one:=h_one.tk s6.tk
    replace h_one:=h_one.tk s7.tk
    replace h_one:=h_one.tk s8.tk
    replace h_two:=h_two.tk s3.tk
    replace h_two:=h_two.tk s4.tk
    replace h_two:=h_two.tk s5.tk
    replace h_two:=h_two.tk s6.tk
    replace h_two:=h_two.tk s7.tk
    replace h_two:=h_two.tk s8.tk
    replace h_hub:=h_hub.tk s4.tk
    replace h_hub:=h_hub.tk s5.tk
    replace h_hub:=h_hub.tk s6.tk
    replace h_hub:=h_hub.tk s7.tk
    replace h_hub:=h_hub.tk s8.tk
    replace h_hinge:=h_hinge.tk s5.tk
    replace h_hinge:=h_hinge.tk s6.tk
    replace h_hinge:=h_hinge.tk s7.tk
    replace h_hinge:=h_hinge.tk s8.tk
    replace h_apart:=h_apart.tk s6.tk
    replace h_apart:=h_apart.tk s7.tk
    replace h_apart:=h_apart.tk s8.tk
    replace h_strip:=h_strip.tk s7.tk
    replace h_strip:=h_strip.tk s8.tk
    replace h_cross:=h_cross.tk s8.tk
    refine ⟨_,rfl,_,rfl,_,rfl,_,rfl,_,rfl,_,rfl,_,rfl,_,rfl,by show 8≤sizeLine; decide,fun r nr=>?_⟩
    have s9:Same H8 (upd H8 r (.lst [v_one,v_two,v_hinge,v_apart,v_hub,v_strip,v_chain,v_cross])):=Same.new nr
    have s08:=(((((((s1.trans s2).trans s3).trans s4).trans s5).trans s6).trans s7).trans s8)
    refine q _ r _ (s08.trans s9) ?_ upd_same ?_
    · cases e:H r with
      | none=>rfl
      | some o=>rw [s08 _ _ e] at nr; cases nr
    · exact (.cons (h_one.tk s9.tk) (.cons (h_two.tk s9.tk) (.cons (h_hinge.tk s9.tk) (.cons (h_apart.tk s9.tk) (.cons (h_hub.tk s9.tk) (.cons (h_strip.tk s9.tk) (.cons (h_chain.tk s9.tk) (.cons (h_cross.tk s9.tk) .nil))))))))
abbrev s__law_plate:Stmt:=top 51
theorem ok__law_plate (F:Fun K "_law_plate" "_law_plate" s__law_plate f fd) (C__law_choice:Cal P w K mg base "_law_choice" 1 ["_law_state_here","_law_many"] sp_choice) (C__law_order:Cal P w K mg base "_law_order" 2 ["_law_state_here","_law_many"] sp_order) (C__law_shapes:Cal P w K mg base "_law_shapes" 1 [] sp_shapes):FnOk P w K mg base CX0 3 f fd ["_law_state_here","_law_most"] sp_plate:=by
 have sc:FnScope ["_law_state_here","_law_most","_law_points","_law_pieces","_law_a","_law_b","_law_c","_law_d","_law_s","_law_t","_law_order_here","_law_corners","_law_at","_law_x","_law_y","_law_rows","_law_thicks"] ["_law_state_here","_law_most"] (defScope s__law_plate):=fsc (by decide +kernel)
 refine F.ok sc (fun vs H Q E h=>?_) (fun cdv A outer s H vs Q E hr h=>?_)
 · obtain ⟨l,rfl,_⟩:=h
   rfl
 · obtain ⟨l,rfl,hl,q'⟩:=h
   have nd:=sc.nd
   have hu:=hu_of hr
   have hu1:=Nat.lt_of_succ_lt hu
   refine' ⟨_,?term,?read⟩
   case term =>
    refine' @L2.pss_cons _ _ _ _ _ ?g1 ?g2
    case g1 =>
     refine' @L2.ps_asg _ _ _ _ _ _ ?g3 ?g4 (by rfl) (by rfl) (by rfl)
     case g3 =>
      refine' @L2.pe_ix _ _ _ _ _ _ _ ix_list ?g5 (pe_cal C__law_choice hr (by decide) rfl (pa_cons (pv 0) (pa_cons (pv 1) pa_nil rfl) rfl)) (fun _ _=>rfl)
      case g5 =>
       refine' @L2.pe_cal0 _ _ _ _ _ _ _ C__law_shapes hr (by decide) rfl (by decide)
     case g4 =>
      refine' @L2.pg_tup _ _ _ _ _ (2) rfl (pgs_cons (pg_name (i:=2) nd rfl (Or.inl rfl)) (pgs_cons (pg_name (i:=3) nd rfl (Or.inl rfl)) pgs_nil)) (by rfl) (by rfl)
    case g2 =>
     refine' @L2.pss_cons _ _ _ _ _ ?g6 ?g7
     case g6 =>
      refine' @L2.ps_par3 _ _ (4) (5) (6) _ _ _ _ _ _ _ _ _ _ _ _ _ _ rfl nd rfl rfl rfl (by decide) (by decide) (by decide) rfl rfl rfl (pa_cons (pe_op op_add pe_int (pe_cal C__law_choice hr (by decide) rfl (pa_cons (pv 0) (pa_cons pe_int pa_nil rfl) rfl))) (pa_cons (pe_op op_sub (pe_cal C__law_choice hr (by decide) rfl (pa_cons (pv 0) (pa_cons pe_int pa_nil rfl) rfl)) pe_int) (pa_cons (pe_op op_sub (pe_cal C__law_choice hr (by decide) rfl (pa_cons (pv 0) (pa_cons pe_int pa_nil rfl) rfl)) pe_int) pa_nil rfl) rfl) rfl) rfl (by rfl)
     case g7 =>
      refine' @L2.pss_cons _ _ _ _ _ ?g8 ?g9
      case g8 =>
       refine' @L2.ps_par3 _ _ (7) (8) (9) _ _ _ _ _ _ _ _ _ _ _ _ _ _ rfl nd rfl rfl rfl (by decide) (by decide) (by decide) rfl rfl rfl (pa_cons (pe_op op_sub (pe_cal C__law_choice hr (by decide) rfl (pa_cons (pv 0) (pa_cons pe_int pa_nil rfl) rfl)) pe_int) (pa_cons (pe_op op_sub (pe_cal C__law_choice hr (by decide) rfl (pa_cons (pv 0) (pa_cons pe_int pa_nil rfl) rfl)) pe_int) (pa_cons (pe_op op_sub (pe_cal C__law_choice hr (by decide) rfl (pa_cons (pv 0) (pa_cons pe_int pa_nil rfl) rfl)) pe_int) pa_nil rfl) rfl) rfl) rfl (by rfl)
      case g9 =>
       refine' @L2.pss_cons _ _ _ _ _ ?ga ?gb
       case ga =>
        refine' @L2.ps_if _ _ _ _ _ _ _ _ (pt_cmpR op_eq (pe_op op_mulB (pv 4) (pv 7)) (pe_op op_mulB (pv 5) (pv 6)) (nomark _)) ?gc pss_nil
        case gc =>
         refine' @L2.pss_one _ _ _ ?gd
         case gd =>
          refine' @L2.ps_asg _ _ _ _ _ _ (pe_tup (pa_cons pe_int (pa_cons (pv 5) (pa_cons pe_int (pa_cons pe_int pa_nil rfl) rfl) rfl) rfl)) ?ge (by rfl) (by rfl) (by rfl)
          case ge =>
           refine' @L2.pg_tup _ _ _ _ _ (4) rfl (pgs_cons (pg_name (i:=4) nd rfl (Or.inl rfl)) (pgs_cons (pg_name (i:=5) nd rfl (Or.inl rfl)) (pgs_cons (pg_name (i:=6) nd rfl (Or.inl rfl)) (pgs_cons (pg_name (i:=7) nd rfl (Or.inl rfl)) pgs_nil)))) (by rfl) (by rfl)
       case gb =>
        refine' @L2.pss_cons _ _ _ _ _ ?gf ?gg
        case gf =>
         refine' @L2.ps_set _ _ (10) _ _ _ _ nd rfl (Or.inr rfl) (pe_cal C__law_order hr (by decide) rfl (pa_cons (pv 0) (pa_cons (pe_callB call_len_seq rfl T.b_len bb_len (pa_cons (pv 2) pa_nil rfl)) pa_nil rfl) rfl)) (by rfl) (by first | exact Or.inl rfl | exact Or.inr rfl | assumption)
        case gg =>
         refine' @L2.pss_cons _ _ _ _ _ ?gh ?gi
         case gh =>
          refine' @L2.ps_set _ _ (11) _ _ _ _ nd rfl (Or.inl rfl) ?gj (by rfl) (by first | exact Or.inl rfl | exact Or.inr rfl | assumption)
          case gj =>
           refine' @L2.pe_op _ _ _ _ _ _ _ _ op_rep ?gk (pe_callB call_len_seq rfl T.b_len bb_len (pa_cons (pv 2) pa_nil rfl))
           case gk =>
            refine' @L2.pe_lst _ _ _ _ (pa_cons (pe_tup (pa_cons pe_int (pa_cons pe_int pa_nil rfl) rfl)) pa_nil rfl)
         case gi =>
          refine' @L2.pss_cons _ _ _ _ _ ?gl ?gm
          case gl =>
           refine' @L2.ps_for _ _ _ _ _ _ _ _ PassesOwn.never rfl ?gn ?go ?gp (by intro _ ; rfl)
           case gn =>
            refine' @L2.pi_enum _ _ _ _ .t _ _ _ _ rfl T.b_enumerate (pa_cons (pv 2) pa_nil rfl) (by rfl)
           case go =>
            refine' @L2.pg_tup _ _ _ _ _ (2) rfl ?gq (by rfl) (by rfl)
            case gq =>
             refine' @L2.pgs_cons _ _ _ _ _ (pg_name (i:=12) nd rfl (Or.inl rfl)) ?gr (by rfl)
             case gr =>
              refine' @L2.pgs_cons _ _ _ _ _ ?gs pgs_nil (by rfl)
              case gs =>
               refine' @L2.pg_tup _ _ _ _ _ (2) rfl (pgs_cons (pg_name (i:=13) nd rfl (Or.inl rfl)) (pgs_cons (pg_name (i:=14) nd rfl (Or.inl rfl)) pgs_nil)) (by rfl) (by rfl)
           case gp =>
            refine' @L2.pss_one _ _ _ ?gt
            case gt =>
             refine' @L2.ps_asg _ _ _ _ _ _ (pe_tup (pa_cons (pe_op op_add (pe_op op_add (pe_op op_mulB (pv 4) (pv 13)) (pe_op op_mulB (pv 5) (pv 14))) (pv 8)) (pa_cons (pe_op op_add (pe_op op_add (pe_op op_mulB (pv 6) (pv 13)) (pe_op op_mulB (pv 7) (pv 14))) (pv 9)) pa_nil rfl) rfl)) ?gu (by rfl) (by rfl) (by rfl)
             case gu =>
              refine' @L2.pg_sub _ _ _ _ _ _ _ (pv 11) ?gv set_list (by intro _ ; rfl)
              case gv =>
               refine' @L2.pe_ix _ _ _ _ _ _ _ ix_list (pv 10) (pv 12) (fun _ _=>rfl)
          case gm =>
           refine' @L2.pss_cons _ _ _ _ _ ?gw ?gx
           case gw =>
            refine' @L2.ps_set _ _ (15) _ _ _ _ nd rfl (Or.inl rfl) ?gy (by rfl) (by first | exact Or.inl rfl | exact Or.inr rfl | assumption)
            case gy =>
             refine' @L2.pe_callB _ _ _ _ _ _ _ _ _ call_sortedT rfl T.b_sorted bb_sorted ?gz (by decide) (by decide) (by rfl) (by rfl)
             case gz =>
              refine' @L2.pa_cons _ _ _ _ _ ?g10 pa_nil rfl
              case g10 =>
               refine' @L2.pe_lc _ _ _ _ _ _ _ (["_law_piece","_law_order_here"]) ([none,some 10]) _ _ _ _ _ rfl (lcs_gen (XN:=["_law_state_here","_law_most","_law_points","_law_pieces","_law_a","_law_b","_law_c","_law_d","_law_s","_law_t","_law_order_here","_law_corners","_law_at","_law_x","_law_y","_law_rows","_law_thicks"]) (Scope.names (defScope s__law_plate)) rfl rfl rfl (fun _ h=>cell_has h) (by decide +kernel) rfl) (pi_tup (pv 3)) (fun _ _ _ _=>(pg_name (i:=0) (show List.Nodup (["_law_piece","_law_order_here"]:List Str) by decide) rfl (Or.inl rfl) (Or.inr rfl))) (fun _ _ _ _=>pifs_nil) (fun _ _ _ _=>(pe_callTy (call_tuple_ofK K rfl) rfl T.b_tuple bb_tuple (pa_cons (pe_callB (call_sortedIK K rfl) rfl T.b_sorted bb_sorted (pa_cons (pe_lc (N:=["_law_at","_law_order_here"]) (fr:=[none,some 1]) rfl (lcs_gen (XN:=["_law_piece","_law_order_here"]) (relN _ (Scope.names (defScope s__law_plate))) rfl rfl rfl (fun _ h=>cells_has (by decide +kernel) h) (by decide +kernel) rfl) (pi_tupK K rfl (pv 0)) (fun _ _ _ _=>(pg_name (i:=0) (show List.Nodup (["_law_at","_law_order_here"]:List Str) by decide) rfl (Or.inl rfl) (Or.inr rfl))) (fun _ _ _ _=>pifs_nil) (fun _ _ _ _=>(pe_ix (ix_listK K rfl) (pv 1) (pv 0) (fun _ _=>rfl)))) pa_nil rfl)) pa_nil rfl))) (by intro _ ; rfl)
           case gx =>
            refine' @L2.pss_cons _ _ _ _ _ ?g11 ?g12
            case g11 =>
             refine' @L2.ps_set _ _ (16) _ _ _ _ nd rfl (Or.inl rfl) ?g13 (by rfl) (by first | exact Or.inl rfl | exact Or.inr rfl | assumption)
             case g13 =>
              refine' @L2.pe_callTy _ _ _ _ _ _ _ _ _ call_tuple_of rfl T.b_tuple bb_tuple ?g14 (by decide) (by decide) (by rfl) (by rfl)
              case g14 =>
               refine' @L2.pa_cons _ _ _ _ _ ?g15 pa_nil rfl
               case g15 =>
                refine' @L2.pe_lc _ _ _ _ _ _ _ (["_law_row","_law_state_here"]) ([none,some 0]) _ _ _ _ _ rfl (lcs_gen (XN:=["_law_state_here","_law_most","_law_points","_law_pieces","_law_a","_law_b","_law_c","_law_d","_law_s","_law_t","_law_order_here","_law_corners","_law_at","_law_x","_law_y","_law_rows","_law_thicks"]) (Scope.names (defScope s__law_plate)) rfl rfl rfl (fun _ h=>cell_has h) (by decide +kernel) rfl) (pi_list (pv 15)) (fun _ _ _ _=>(pg_name (i:=0) (show List.Nodup (["_law_row","_law_state_here"]:List Str) by decide) rfl (Or.inl rfl) (Or.inr rfl))) (fun _ _ _ _=>pifs_nil) (fun _ _ _ _=>(pe_op op_add pe_int (pe_cal C__law_choice hr (by decide) rfl (pa_cons (pv 1) (pa_cons (pe_ix (ix_listK K rfl) (pe_lst (pa_cons pe_int (pa_cons pe_int pa_nil rfl) rfl)) (pe_cal C__law_choice hr (by decide) rfl (pa_cons (pv 1) (pa_cons pe_int pa_nil rfl) rfl)) (fun _ _=>rfl)) pa_nil rfl) rfl)))) (by intro _ ; rfl)
            case g12 =>
             refine' @L2.pss_one _ _ _ ?g16
             case g16 =>
              refine' @L2.ps_ret _ _ _ _ ?g17
              case g17 =>
               refine' @L2.pe_tup _ _ _ _ _ ?g18
               case g18 =>
                refine' @L2.pa_cons _ _ _ _ _ (pe_callTy call_tuple_of rfl T.b_tuple bb_tuple (pa_cons (pv 11) pa_nil rfl)) (pa_cons (pe_callTy call_tuple_of rfl T.b_tuple bb_tuple (pa_cons (pv 15) pa_nil rfl)) (pa_cons (pv 16) (pa_cons (pe_tup (pa_cons (pe_cal C__law_choice hr (by decide) rfl (pa_cons (pv 0) (pa_cons pe_int pa_nil rfl) rfl)) (pa_cons (pe_op op_add pe_int (pe_cal C__law_choice hr (by decide) rfl (pa_cons (pv 0) (pa_cons pe_int pa_nil rfl) rfl))) pa_nil rfl) rfl)) pa_nil rfl) rfl) rfl) rfl
   case read =>
    refine ⟨rfl,fun H0 R us0 s0 nR eR al0=>?_⟩
    have nRl:R≠l:=hl.neN nR
    refine ⟨_,rfl,_,rfl,l,8,rfl,hl.same s0,by decide,lt8999 (by decide),fun r0 H1 r00 r01 k1 l1=>?_⟩
    have al1:Al (IsSh H1) us0 shapes:=al0.imp fun v x r=>r.tk (tkS k1 (hl.same s0))
    obtain ⟨u,sh,eu,hsh,msh⟩:=shape_at al1 r00 r01
    have B:=shape_base msh
    obtain ⟨pts,pcs⟩:=sh
    obtain ⟨a0,c,p,rfl,ha0,hc0,hp0⟩:=hsh
    obtain ⟨c,cvs,rfl,hc7,cal⟩:=hc0
    obtain ⟨p,pvs,rfl,hp7,pal⟩:=hp0
    replace cal:Al (IsP H1) cvs pts:=cal
    replace pal:Al (IsI H1) pvs pcs:=pal
    replace B:Base pts pcs:=B
    have n6:pts.length≤6:=B.n6
    have clen:=cal.1
    refine ⟨R,us0,_,_,rfl,rfl,SqL.of (k1 _ _ nRl eR),eu,?_⟩
    refine ⟨a0,_,rfl,SqT.of ha0,rfl,_,_,rfl,_,_,rfl,rfl,?_⟩
    refine ⟨_,rfl,l,3,rfl,l1,by decide,lt8999 (by decide),fun r1 H2 r10 r11 k2 l2=>⟨_,_,rfl,rfl,?_⟩⟩
    refine ⟨_,rfl,l,5,rfl,l2,by decide,lt8999 (by decide),fun r2 H3 r20 r21 k3 l3=>⟨_,_,rfl,rfl,?_⟩⟩
    refine ⟨_,rfl,l,5,rfl,l3,by decide,lt8999 (by decide),fun r3 H4 r30 r31 k4 l4=>⟨_,_,rfl,rfl,?_⟩⟩
    refine ⟨_,_,_,rfl,?_⟩
    refine ⟨_,rfl,l,7,rfl,l4,by decide,lt8999 (by decide),fun r4 H5 r40 r41 k5 l5=>⟨_,_,rfl,rfl,?_⟩⟩
    refine ⟨_,rfl,l,41,rfl,l5,by decide,lt8999 (by decide),fun r5 H6 r50 r51 k6 l6=>⟨_,_,rfl,rfl,?_⟩⟩
    refine ⟨_,rfl,l,9,rfl,l6,by decide,lt8999 (by decide),fun r6 H7 r60 r61 k7 l7=>⟨_,_,rfl,rfl,?_⟩⟩
    refine ⟨_,_,_,rfl,?_⟩
    have k17:=k2.trans (k3.trans (k4.trans (k5.trans (k6.trans k7))))
    have t7:Tk H1 H7:=tkS k17 l1
    have kk:Keep l H H7:=s0.keep.trans (k1.trans k17)
    dsimp only
    refine if_seq (R:=fun σ Hn=>∃ A:Aff,σ=[some (.ref l),some (.int 8),some (.ref c),some (.ref p),some (.int A.a),some (.int A.b),some (.int A.c),some (.int A.d),some (.int A.s),some (.int A.t),none,none,none,none,none,none,none]∧A.det≠0∧Small A∧Same H7 Hn) ?_ ?_ ?_ ?_ ?_
    · refine ⟨_,rfl,_,rfl,_,_,rfl,rfl,mul4 (by omega) (by omega),_,rfl,_,rfl,_,_,rfl,rfl,mul4 (by omega) (by omega),rfl,_,rfl,?_⟩
      refine ite2 (fun hd=>?_) (fun hd=>?_)
      · refine ⟨_,rfl,by show 4≤sizeLine; decide,fun Z nZ=>?_⟩
        exact ⟨Z,_,rfl,SqT.of upd_same,rfl,_,_,rfl,_,_,rfl,_,_,rfl,_,_,rfl,rfl,Aff.mk 1 (r2 - 2) 0 1 (r5 - 20) (r6 - 4),rfl,by show (1:Int) * 1 - (r2 - 2) * 0≠0; omega,⟨by show (1:Int).natAbs≤3; decide,by show (r2 - 2).natAbs≤3; omega,by show (0:Int).natAbs≤3; decide,by show (1:Int).natAbs≤3; decide,by show (r5 - 20).natAbs≤20; omega,by show (r6 - 4).natAbs≤20; omega⟩,Same.new nZ⟩
      · refine ⟨Aff.mk (1+r1) (r2 - 2) (r3 - 2) (r4 - 3) (r5 - 20) (r6 - 4),rfl,fun z=>?_,⟨by show (1+r1).natAbs≤3; omega,by show (r2 - 2).natAbs≤3; omega,by show (r3 - 2).natAbs≤3; omega,by show (r4 - 3).natAbs≤3; omega,by show (r5 - 20).natAbs≤20; omega,by show (r6 - 4).natAbs≤20; omega⟩,Same.refl _⟩
        refine hd (decide_eq_true (congrArg V.int ?_))
        have z':(1+r1) * (r4 - 3) - (r2 - 2) * (r3 - 2)=0:=z
        omega
    · rintro Q1 Q2 hq ⟨v1,e1,v2,e2,i1,j1,f1,f2,m1,v3,e3,v4,e4,i2,j2,f3,f4,m2,f5,k,f6,q6⟩
      exact ⟨v1,e1,v2,e2,i1,j1,f1,f2,m1,v3,e3,v4,e4,i2,j2,f3,f4,m2,f5,k,f6,hq _ _ q6⟩
    · rintro key H1' ⟨v1,e1,z1,f1⟩
      refine ⟨v1,e1,z1,fun Z nZ=>?_⟩
      obtain ⟨b1,xs1,g1,g2,g3,x1,y1,g4,x2,y2,g5,x3,y3,g6,x4,y4,g7,g8,q8⟩:=f1 Z nZ
      exact ⟨b1,xs1,g1,g2,g3,x1,y1,g4,x2,y2,g5,x3,y3,g6,x4,y4,g7,g8,key _ _ q8⟩
    · exact fun key H1' r=>key _ _ r
    rintro σ H7n ⟨A,rfl,hdet,W,s7n⟩
    replace t7:=t7.trans s7n.tk
    replace kk:=kk.trans s7n.keep
    replace l7:=l7.same s7n
    clear k1 k2 k3 k4 k5 k6 k7 k17
    have Wa:=W.a; have Wb:=W.b; have Wc:=W.c; have Wd:=W.d
    obtain ⟨Aa,Ab,Ac,Ad,As,At⟩:=A
    replace Wa:Aa.natAbs≤1000:=Nat.le_trans Wa (by decide)
    replace Wb:Ab.natAbs≤1000:=Nat.le_trans Wb (by decide)
    replace Wc:Ac.natAbs≤1000:=Nat.le_trans Wc (by decide)
    replace Wd:Ad.natAbs≤1000:=Nat.le_trans Wd (by decide)
    refine ⟨_,rfl,_,rfl,c,cvs,rfl,.inr (SqT.of (t7 _ _ hc7)),l,cvs.length,rfl,l7,by omega,fun H8 O o k8 l8 nO eO pm=>?_⟩
    rw [cal.1] at pm
    have CO:=ord_of pm
    have t8:Tk H1 H8:=t7.trans (tkS k8 l7)
    refine ⟨by show 2≤sizeLine; decide,fun z nz=>?_⟩
    have s9:Same H8 (upd H8 z (.tup [.int 0,.int 0])):=Same.new nz
    have e9:upd H8 z (.tup [.int 0,.int 0]) z=some (.tup [.int 0,.int 0]):=upd_same
    generalize upd H8 z (.tup [.int 0,.int 0])=H9 at s9 e9 ⊢
    refine ⟨by show 1≤sizeLine; decide,fun y ny=>?_⟩
    have s10:Same H9 (upd H9 y (.lst [.ref z])):=Same.new ny
    have e10:upd H9 y (.lst [.ref z]) y=some (.lst [.ref z]):=upd_same
    generalize upd H9 y (.lst [.ref z])=H10 at s10 e10 ⊢
    have t10:Tk H1 H10:=t8.trans (s9.trans s10).tk
    refine ⟨_,rfl,c,cvs,rfl,.inr (SqT.of (t10 _ _ hc7)),y,cvs.length,_,rfl,rfl,e10,by omega,by omega,by simp; rw [sizeLine_eq]; omega,fun C nC=>?_⟩
    rw [Int.toNat_natCast,rep_flat]
    have s11:Same H10 (upd H10 C (.lst (List.replicate cvs.length (.ref z)))):=Same.new nC
    have e11:upd H10 C (.lst (List.replicate cvs.length (.ref z))) C=some (.lst (List.replicate cvs.length (.ref z))):=upd_same
    have nCl:C≠l:=(l8.same (s9.trans s10)).neN nC
    generalize upd H10 C (.lst (List.replicate cvs.length (.ref z)))=H11 at s11 e11 ⊢
    have s811:=s9.trans (s10.trans s11)
    have t11:Tk H1 H11:=t8.trans s811.tk
    have l11:=l8.same s811
    have k11:Keep l H H11:=(kk.trans k8).trans s811.keep
    have eO11:=s811 _ _ eO
    have nOC:O≠C:=ne_of_none (s9.trans s10 _ _ eO) nC
    have nC0:H C=none:=by
     cases e:H C with
     | none=>rfl
     | some ob =>
       have:=(kk.trans k8).trans (s9.trans s10).keep _ _ nCl e
       rw [this] at nC; cases nC
    refine ⟨_,rfl,c,rfl,⟨_,SqT.of (t11 _ _ hc7)⟩,?_⟩
    refine for_gen (n:=pts.length) (fun i σ H2=>Keep C H11 H2∧(∃ x1 x2 x3,σ=[some (.ref l),some (.int 8),some (.ref c),some (.ref p),some (.int Aa),some (.int Ab),some (.int Ac),some (.int Ad),some (.int As),some (.int At),some (.ref O),some (.ref C),x1,x2,x3,none,none])∧∃ us cs,H2 C=some (.lst us)∧Al (IsP H2) us cs∧cs.length=pts.length∧∀ j:Nat,j < i→cs[(o.getD j 0).toNat]? = some ((Aff.mk Aa Ab Ac Ad As At).at (pts.getD j (0,0)))) ⟨Keep.refl _ _,⟨_,_,_,rfl⟩,_,List.replicate cvs.length (0,0),e11,al_rep ⟨z,rfl,s11 _ _ (s10 _ _ e9)⟩ _,by simp [cal.1],fun j hj=>absurd hj (Nat.not_lt_zero _)⟩ (fun i σ H2 hi p=>?_) (fun σ H2 p=>?_) (fun i x σ H2 H3 hi y p=>?_) (fun σ H2 p=>?_)
    · have t2:Tk H11 H2:=Tk.of_keep p.1 e11
      exact ⟨cvs,cvs[i]'(by rw [cal.1]; exact hi),SqT.of (t2 _ _ (t11 _ _ hc7)),List.getElem?_eq_getElem _⟩
    · have t2:Tk H11 H2:=Tk.of_keep p.1 e11
      exact ⟨cvs,SqT.of (t2 _ _ (t11 _ _ hc7)),cal.1⟩
    · obtain ⟨k2,⟨x1,x2,x3,rfl⟩,us,cs,eC,alc,lc,hc⟩:=p
      obtain ⟨g,x,rfl,ng,rfl,y1⟩:=y
      have t2:Tk H11 H2:=Tk.of_keep k2 e11
      have ex:=y1 cvs (SqT.of (t2 _ _ (t11 _ _ hc7)))
      obtain ⟨pt,ept,b,rfl,hb⟩:=cal.get ex
      have hpt:=nat_near (B.bd pt (List.mem_of_getElem? ept))
      have sg:Same H2 (upd H2 g (.tup [.int i,.ref b])):=Same.new ng
      have eg:upd H2 g (.tup [.int i,.ref b]) g=some (.tup [.int i,.ref b]):=upd_same
      generalize upd H2 g (.tup [.int i,.ref b])=H3 at sg eg ⊢
      have hb3:=sg _ _ (t2 _ _ (t11 _ _ hb))
      refine ⟨g,_,rfl,SqT.of eg,rfl,_,_,rfl,_,_,rfl,⟨b,_,rfl,SqT.of hb3,rfl,_,_,rfl,_,_,rfl,rfl,rfl,?_⟩⟩
      refine ⟨_,rfl,_,rfl,_,_,rfl,rfl,mul4 Wa hpt.1,_,rfl,_,rfl,_,_,rfl,rfl,mul4 Wb hpt.2,_,_,rfl,rfl,_,rfl,_,_,rfl,rfl,?_⟩
      refine ⟨_,rfl,_,rfl,_,_,rfl,rfl,mul4 Wc hpt.1,_,rfl,_,rfl,_,_,rfl,rfl,mul4 Wd hpt.2,_,_,rfl,rfl,_,rfl,_,_,rfl,rfl,?_⟩
      refine ⟨by show 2≤sizeLine; decide,fun w nw=>?_⟩
      generalize hH4:upd H3 w _=H4
      have sw:Same H3 H4:=by (rw [← hH4]; exact Same.new nw)
      have ew0:=(congrFun hH4 w).symm
      rw [upd_same] at ew0
      have ew:H4 w=some (.tup [.int (Aa * pt.1+Ab * pt.2+As),.int (Ac * pt.1+Ad * pt.2+At)]):=ew0
      clear ew0 hH4
      have s24:=sg.trans sw
      have eO4:H4 O=some (.lst (o.map V.int)):=s24 _ _ (k2 _ _ nOC eO11)
      have bo:=CO.bd i hi
      have eC4:=s24 _ _ eC
      refine ⟨_,rfl,_,rfl,_,rfl,O,_,(i:Int),_,rfl,rfl,SqL.of eO4,o_at CO (Int.natCast_nonneg i) (Int.ofNat_lt.mpr hi),?_⟩
      have ulen:us.length=pts.length:=by rw [alc.1,lc]
      refine ⟨C,us,_,(o.getD i 0).toNat,rfl,rfl,eC4,ixN_lt bo.1 (by rw [ulen]; exact bo.2),?_⟩
      have tC:Tk H4 (upd H4 C (.lst (us.set (o.getD i 0).toNat (.ref w)))):=Tk.upd_lst eC4
      refine ⟨fun b' o' nb e=>?_,⟨_,_,_,rfl⟩,_,cs.set (o.getD i 0).toNat ((Aff.mk Aa Ab Ac Ad As At).at pt),upd_same,?_,by simp [lc],fun j hj=>?_⟩
      · rw [upd_ne nb]; exact s24 _ _ (k2 _ _ nb e)
      · exact alset (alc.imp fun v x r=>r.tk (s24.tk.trans tC)) _ ⟨w,rfl,tC _ _ ew⟩
      · rw [List.getElem?_set]
        by_cases hji:j=i
        · subst hji
          rw [if_pos rfl,if_pos (by rw [lc]; omega),List.getD_eq_getElem?_getD (l:=pts),ept]
          rfl
        · rw [if_neg (fun z=>hji (CO.inj j i (by omega) hi (by have b2:=CO.bd j (by omega); omega)))]
          exact hc j (by omega)
    · obtain ⟨k2,⟨x1,x2,x3,rfl⟩,us,cs,eC,alc,lc,hc⟩:=p
      have t2:Tk H11 H2:=Tk.of_keep k2 e11
      have t12:=t11.trans t2
      have eO2:=k2 _ _ nOC eO11
      have l2:StAt H2 l:=by
       obtain ⟨a',b',c',e,r⟩:=l11
       exact ⟨a',b',c',k2 _ _ nCl.symm e,r⟩
      have k02:Keep l H H2:=fun b' o' nb e=>k2 _ _ (ne_of_none e nC0) (k11 _ _ nb e)
      have hp2:=t12 _ _ hp7
      refine ⟨_,rfl,p,rfl,⟨_,SqT.of hp2⟩,fun D nD=>?_⟩
      refine lc_T (k:=.t) (vs:=pvs) (fun H v pc=>∃ r,IsI H v r∧(r.Perm (pc.map (oAt o))∧r.Pairwise (·≤·))) (fun H1 H2 v x t r=>let ⟨r',i,j⟩:=r; ⟨r',i.tk t,j⟩) pcs (by rw [pal.1]) (by rw [pal.1]; have:=B.p4; omega) nD hp2 (fun i w H4 C' hw s4 c'=>?_) (fun H4 vs s4 e4 a4=>?_)
      · obtain ⟨pc,epc,b,rfl,hb⟩:=pal.get hw
        have hb4:=s4 _ _ (t12 _ _ hb)
        obtain ⟨i1,j1,k1,rfl,bi,bj,bk,_⟩:=piece3 (B.pc _ (List.mem_of_getElem? epc))
        refine ⟨_,rfl,b,rfl,⟨_,SqT.of hb4⟩,fun E nE=>?_⟩
        refine lc_T (k:=.t) (vs:=[i1,j1,k1].map V.int) RI hRI ([i1,j1,k1].map (oAt o)) (by simp) (by simp) nE hb4 (fun n x H6 C6 hx s6 c6=>?_) (fun H6 us6 s6 e6 a6=>?_)
        · rw [List.getElem?_map] at hx
          obtain ⟨y,ey,rfl⟩:=Option.map_eq_some_iff.mp hx
          have by':0≤y∧y < (pts.length:Int):=by
           have:=List.mem_of_getElem? ey
           simp only [List.mem_cons,List.not_mem_nil,or_false] at this
           rcases this with rfl | rfl | rfl <;> assumption
          exact ⟨_,rfl,_,rfl,O,_,y,_,rfl,rfl,SqL.of (s6 _ _ (s4 _ _ eO2)),o_at CO by'.1 by'.2,c6 _ _ _ (Same.refl _) (by rw [List.getElem?_map,ey]; rfl) rfl⟩
        · rw [a6.ints] at e6
          refine ⟨E,_,rfl,SqL.of e6,by simp,fun L ns' nL pm' so'=>?_⟩
          have s7:Same H6 (upd H6 L (.lst (ns'.map V.int))):=Same.new nL
          have e7:upd H6 L (.lst (ns'.map V.int)) L=some (.lst (ns'.map V.int)):=upd_same
          generalize upd H6 L (.lst (ns'.map V.int))=H7' at s7 e7 ⊢
          refine ⟨L,_,rfl,.inl ⟨SqL.of e7,fun T' nT=>?_⟩⟩
          exact c' _ _ [i1,j1,k1] (s6.trans (s7.trans (Same.new nT))) epc ⟨ns',⟨T',rfl,upd_same⟩,pm',so'⟩
      · obtain ⟨kl,klen,kal,kT⟩:=al_pick a4
        have DR:∀ q:List Nat,q.Perm (List.range pcs.length)→Drawn pts pcs (Aff.mk Aa Ab Ac Ad As At) o cs kl q:=fun q hq=>⟨B,hdet,W,CO,lc,hc,klen,fun i hi=>kT i hi,hq⟩
        have D0:=DR _ (List.Perm.refl _)
        have p4:=B.p4
        refine ⟨D,vs,kl,3,rfl,SqL.of e4,kal.1,fun i v hv=>?_,D0.knd,by rw [klen]; exact p4,fun k hk=>?_,by decide,fun L q nL qp rise=>?_⟩
        · obtain ⟨k,ek,b,rfl,hb⟩:=kal.get hv
          exact ⟨b,k,rfl,ek,SqT.of hb⟩
        · obtain ⟨n,hn,rfl⟩:=List.getElem_of_mem hk
          rw [klen] at hn
          obtain ⟨_,_,_,x,y,z,_,e,_⟩:=D0.piece hn
          have:kl[n]=[x,y,z]:=by rw [← e,List.getD_eq_getElem?_getD,List.getElem?_eq_getElem (by rw [klen]; exact hn)]; rfl
          rw [this]; rfl
        · rw [klen] at qp
          have D1:=DR q qp
          have s5:Same H4 (upd H4 L (.lst (q.map fun i=>vs.getD i .non))):=Same.new nL
          have e5:upd H4 L (.lst (q.map fun i=>vs.getD i .non)) L=some (.lst (q.map fun i=>vs.getD i .non)):=upd_same
          have nLl:L≠l:=(l2.same s4).neN nL
          generalize upd H4 L (.lst (q.map fun i=>vs.getD i .non))=H5 at s5 e5 ⊢
          have s25:=s4.trans s5
          have l5:=l2.same s25
          have k05:=k02.trans s25.keep
          have qlen:q.length=pcs.length:=by rw [qp.length_eq,List.length_range]
          refine ⟨_,rfl,L,rfl,⟨_,SqL.of e5⟩,fun E nE=>?_⟩
          refine lc_draw (n:=pcs.length) (l:=l) (fun H v (x:Int)=>v=.int x∧1≤x∧x≤9) (fun _ _ _ _ _ r=>r) (by omega) (fun σ=>∃ u,σ=[u,some (.ref l)]) ⟨_,rfl⟩ nE l5 (fun i H6 k6 hi=>⟨_,_,SqL.of (k6 _ _ nLl e5),List.getElem?_eq_getElem (by simp [qlen]; exact hi)⟩) (fun H6 k6=>⟨_,SqL.of (k6 _ _ nLl e5),by simp [qlen]⟩) (fun i x σ2 H6 H7' C' hi k6 l6 y o' c'=>?_) (fun H6 ts ys k6 l6 e6 hy a6=>?_)
          · obtain ⟨u,rfl⟩:=o'
            obtain ⟨rfl,y2⟩:=y
            refine ⟨_,rfl,by show 2≤sizeLine; decide,fun W' nW=>?_⟩
            have s8':Same H7' (upd H7' W' (.lst [.int 9,.int 2])):=Same.new nW
            have e8':upd H7' W' (.lst [.int 9,.int 2]) W'=some (.lst [.int 9,.int 2]):=upd_same
            have nWl:W'≠l:=l6.neN nW
            generalize upd H7' W' (.lst [.int 9,.int 2])=H8' at s8' e8' ⊢
            refine ⟨_,rfl,l,2,rfl,l6.same s8',by decide,lt8999 (by decide),fun r9 H9' r90 r91 k9 l9=>?_⟩
            have hr9:r9=0∨r9=1:=by omega
            have fin:∀ m:Int,0 < m→m≤9→sp_choice [.ref l,.int m] H9' (fun v H=>∃ i j,V.int 1=.int i∧v=.int j∧C' [some x,some (.ref l)] (.int (i+j)) H) E0:=fun m m0 m9=>⟨l,m,rfl,l9,m0,lt8999 (by show _ < 18446744073709551616; omega),fun r10 H10' ra rb k10 l10=>⟨_,_,rfl,rfl,c' _ _ _ _ ⟨_,rfl⟩ (s8'.keep.trans (k9.trans k10)) l10 ⟨rfl,by omega,by omega⟩⟩⟩
            rcases hr9 with rfl | rfl
            · exact ⟨W',_,_,_,rfl,rfl,SqL.of (k9 _ _ nWl e8'),rfl,fin 9 (by decide) (by decide)⟩
            · exact ⟨W',_,_,_,rfl,rfl,SqL.of (k9 _ _ nWl e8'),rfl,fin 2 (by decide) (by decide)⟩
          · have ets:ts=ys.map V.int:=by
             refine (Al.ints (ns:=ys) ?_)
             exact a6.imp fun v x r=>r.1
            refine ⟨E,ts,rfl,.inl ⟨SqL.of e6,fun T' nT=>?_⟩⟩
            have s7:Same H6 (upd H6 T' (.tup ts)):=Same.new nT
            have e7:upd H6 T' (.tup ts) T'=some (.tup (ys.map V.int)):=by rw [upd_same,ets]
            generalize upd H6 T' (.tup ts)=H7' at s7 e7 ⊢
            have t57:Tk H5 H7':=(tkS k6 l5).trans s7.tk
            have t27:Tk H2 H7':=s25.tk.trans t57
            have k07:=k05.trans (k6.trans s7.keep)
            have l7':=l6.same s7
            have nDl:C≠l:=nCl
            have eC7:H7' C=some (.lst us):=s7 _ _ (k6 _ _ nCl (s25 _ _ eC))
            have eL7:H7' L=some (.lst (q.map fun i=>vs.getD i .non)):=s7 _ _ (k6 _ _ nLl e5)
            refine ⟨_,rfl,C,us,rfl,.inl ⟨SqL.of eC7,fun T1 n1=>?_⟩⟩
            have u1:Same H7' (upd H7' T1 (.tup us)):=Same.new n1
            have f1:upd H7' T1 (.tup us) T1=some (.tup us):=upd_same
            generalize upd H7' T1 (.tup us)=G1 at u1 f1 ⊢
            refine ⟨_,rfl,L,_,rfl,.inl ⟨SqL.of (u1 _ _ eL7),fun T2 n2=>?_⟩⟩
            have u2:Same G1 (upd G1 T2 (.tup (q.map fun i=>vs.getD i .non))):=Same.new n2
            have f2:upd G1 T2 (.tup (q.map fun i=>vs.getD i .non)) T2=some (.tup (q.map fun i=>vs.getD i .non)):=upd_same
            generalize upd G1 T2 (.tup (q.map fun i=>vs.getD i .non))=G2 at u2 f2 ⊢
            have u02:=u1.trans u2
            refine ⟨_,rfl,_,rfl,l,10,rfl,l7'.same u02,by decide,lt8999 (by decide),fun rl G3 rl0 rl1 k3' l3'=>?_⟩
            refine ⟨_,rfl,l,9,rfl,l3',by decide,lt8999 (by decide),fun rm G4 rm0 rm1 k4' l4'=>⟨_,_,rfl,rfl,by show 2≤sizeLine; decide,fun T4 n4=>?_⟩⟩
            have u5:Same G4 (upd G4 T4 (.tup [.int rl,.int (1+rm)])):=Same.new n4
            have f5:upd G4 T4 (.tup [.int rl,.int (1+rm)]) T4=some (.tup [.int rl,.int (1+rm)]):=upd_same
            generalize upd G4 T4 (.tup [.int rl,.int (1+rm)])=G5 at u5 f5 ⊢
            refine ⟨by show 4≤sizeLine; decide,fun T5 n5=>?_⟩
            have u6:Same G5 (upd G5 T5 (.tup [.ref T1,.ref T2,.ref T',.ref T4])):=Same.new n5
            have w24:Tk G2 G4:=(tkS k3' (l7'.same u02)).trans (tkS k4' l3')
            have w26:Tk G2 (upd G5 T5 (.tup [.ref T1,.ref T2,.ref T',.ref T4])):=w24.trans (u5.trans u6).tk
            have w76:=u02.tk.trans w26
            refine q' _ _ ⟨cs,q.map fun i=>kl.getD i [],ys,rl,1+rm⟩ (k07.trans (u02.keep.trans (k3'.trans (k4'.trans (u5.trans u6).keep)))) (l4'.same (u5.trans u6)) ⟨T5,_,_,_,_,rfl,upd_same,⟨T1,us,rfl,w26 _ _ (u2 _ _ f1),alc.imp fun v x r=>r.tk (t27.trans w76)⟩,⟨T2,_,rfl,w26 _ _ f2,?_⟩,⟨T',rfl,w76 _ _ e7⟩,⟨T4,rfl,u6 _ _ f5⟩⟩ (D1.ok rise (by rw [hy]) (fun t ht=>?_) ⟨rl0,by omega⟩ ⟨by omega,by omega⟩) (show (q.map fun i=>kl.getD i []).length≤4 by rw [List.length_map,qlen]; exact p4)
            · refine (q_tup kal (q:=q) fun i hi=>?_).imp fun v x r=>r.tk (s5.tk.trans (t57.trans w76))
              rw [klen]; exact List.mem_range.mp (qp.mem_iff.mp hi)
            · obtain ⟨i,hi,e⟩:=List.getElem_of_mem ht
              obtain ⟨v,_,r⟩:=a6.got (show ys[i]? = some t by rw [List.getElem?_eq_getElem hi,e])
              exact r.2
abbrev s__law_plate_rows:Stmt:=top 52
theorem ok__law_plate_rows (F:Fun K "_law_plate_rows" "_law_plate_rows" s__law_plate_rows f fd):FnOk P w K mg base CX0 1 f fd ["_law_plate_own"] sp_plRows:=by
 have sc:FnScope ["_law_plate_own","_law_rows","_law_x","_law_y","_law_piece","_law_thick"] ["_law_plate_own"] (defScope s__law_plate_rows):=fsc (by decide +kernel)
 refine F.ok sc (fun vs H Q E h=>?_) (fun cdv A outer s H vs Q E hr h=>?_)
 · obtain ⟨v,P',rfl,_⟩:=h
   rfl
 · obtain ⟨v,P',rfl,⟨a,c,p,t,st,rfl,ha,⟨ca,cus,rfl,hca,cal⟩,⟨pa,pus,rfl,hpa,pal⟩,⟨ta,rfl,hta⟩,⟨sa,rfl,hsa⟩⟩,ok,q⟩:=h
   have nd:=sc.nd
   have hu:=hu_of hr
   have hu1:=Nat.lt_of_succ_lt hu
   refine' ⟨_,?term,?read⟩
   case term =>
    refine' @L2.pss_cons _ _ _ _ _ ?g1 ?g2
    case g1 =>
     refine' @L2.ps_set _ _ (1) _ _ _ _ nd rfl (Or.inl rfl) ?g3 (by rfl) (by first | exact Or.inl rfl | exact Or.inr rfl | assumption)
     case g3 =>
      refine' @L2.pe_lst _ _ _ _ ?g4
      case g4 =>
       refine' @L2.pa_cons _ _ _ _ _ ?g5 pa_nil rfl
       case g5 =>
        refine' @L2.pe_op _ _ _ _ _ _ _ _ op_add_str ?g6 ?g7
        case g6 =>
         refine' @L2.pe_op _ _ _ _ _ _ _ _ op_add_str ?g8 pe_str
         case g8 =>
          refine' @L2.pe_op _ _ _ _ _ _ _ _ op_add_str pe_str ?g9
          case g9 =>
           refine' @L2.pe_callTy _ _ _ _ _ _ _ _ _ call_str_int rfl T.b_str bb_str ?ga (by decide) (by decide) (by rfl) (by rfl)
           case ga =>
            refine' @L2.pa_cons _ _ _ _ _ ?gb pa_nil rfl
            case gb =>
             refine' @L2.pe_ix _ _ _ _ _ _ _ ix_tup ?gc pe_int (fun _ _=>rfl)
             case gc =>
              refine' @L2.pe_ix _ _ _ _ _ _ _ ix_tup (pv 0) pe_int (fun _ _=>rfl)
        case g7 =>
         refine' @L2.pe_callTy _ _ _ _ _ _ _ _ _ call_str_int rfl T.b_str bb_str ?gd (by decide) (by decide) (by rfl) (by rfl)
         case gd =>
          refine' @L2.pa_cons _ _ _ _ _ ?ge pa_nil rfl
          case ge =>
           refine' @L2.pe_ix _ _ _ _ _ _ _ ix_tup ?gf pe_int (fun _ _=>rfl)
           case gf =>
            refine' @L2.pe_ix _ _ _ _ _ _ _ ix_tup (pv 0) pe_int (fun _ _=>rfl)
    case g2 =>
     refine' @L2.pss_cons _ _ _ _ _ ?gg ?gh
     case gg =>
      refine' @L2.ps_for _ _ _ _ _ _ _ _ PassesOwn.never rfl ?gi ?gj ?gk (by intro _ ; rfl)
      case gi =>
       refine' @L2.pi_tup _ _ _ _ ?gl
       case gl =>
        refine' @L2.pe_ix _ _ _ _ _ _ _ ix_tup (pv 0) pe_int (fun _ _=>rfl)
      case gj =>
       refine' @L2.pg_tup _ _ _ _ _ (2) rfl (pgs_cons (pg_name (i:=2) nd rfl (Or.inl rfl)) (pgs_cons (pg_name (i:=3) nd rfl (Or.inl rfl)) pgs_nil)) (by rfl) (by rfl)
      case gk =>
       refine' @L2.pss_one _ _ _ ?gm
       case gm =>
        refine' @L2.ps_expr _ _ _ _ ?gn (by rfl)
        case gn =>
         refine' @L2.pe_bm _ _ _ _ _ _ _ _ _ _ _ _ PySem.F.plainAttrs_list PySem.F.slot_list_append PySem.F.type_list_append mt_append (pv 1) (pa_cons (pe_op op_add_str (pe_op op_add_str (pe_op op_add_str pe_str (pe_callTy call_str_int rfl T.b_str bb_str (pa_cons (pv 2) pa_nil rfl))) pe_str) (pe_callTy call_str_int rfl T.b_str bb_str (pa_cons (pv 3) pa_nil rfl))) pa_nil rfl) (by rfl) (by rfl) (by rfl) (by rfl) (by rfl)
     case gh =>
      refine' @L2.pss_cons _ _ _ _ _ ?go (pss_one (ps_ret (pv 1)))
      case go =>
       refine' @L2.ps_for _ _ _ _ _ _ _ _ PassesOwn.never rfl ?gp ?gq ?gr (by intro _ ; rfl)
       case gp =>
        refine' @L2.pi_zip _ _ _ _ .t .t _ _ _ _ _ rfl T.b_zip ?gs (by rfl) (by rfl)
        case gs =>
         refine' @L2.pa_cons _ _ _ _ _ ?gt ?gu rfl
         case gt =>
          refine' @L2.pe_ix _ _ _ _ _ _ _ ix_tup (pv 0) pe_int (fun _ _=>rfl)
         case gu =>
          refine' @L2.pa_cons _ _ _ _ _ ?gv pa_nil rfl
          case gv =>
           refine' @L2.pe_ix _ _ _ _ _ _ _ ix_tup (pv 0) pe_int (fun _ _=>rfl)
       case gq =>
        refine' @L2.pg_tup _ _ _ _ _ (2) rfl (pgs_cons (pg_name (i:=4) nd rfl (Or.inl rfl)) (pgs_cons (pg_name (i:=5) nd rfl (Or.inl rfl)) pgs_nil)) (by rfl) (by rfl)
       case gr =>
        refine' @L2.pss_one _ _ _ ?gw
        case gw =>
         refine' @L2.ps_expr _ _ _ _ ?gx (by rfl)
         case gx =>
          refine' @L2.pe_bm _ _ _ _ _ _ _ _ _ _ _ _ PySem.F.plainAttrs_list PySem.F.slot_list_append PySem.F.type_list_append mt_append (pv 1) ?gy (by rfl) (by rfl) (by rfl) (by rfl) (by rfl)
          case gy =>
           refine' @L2.pa_cons _ _ _ _ _ ?gz pa_nil rfl
           case gz =>
            refine' @L2.pe_bm _ _ _ _ _ _ _ _ _ _ _ _ PySem.F.plainAttrs_str PySem.F.slot_str_join PySem.F.type_str_join mt_join pe_str ?g10 (by rfl) (by rfl) (by rfl) (by rfl) (by rfl)
            case g10 =>
             refine' @L2.pa_cons _ _ _ _ _ ?g11 pa_nil rfl
             case g11 =>
              refine' @L2.pe_op _ _ _ _ _ _ _ _ op_cat ?g12 ?g13
              case g12 =>
               refine' @L2.pe_lst _ _ _ _ (pa_cons pe_str pa_nil rfl)
              case g13 =>
               refine' @L2.pe_lc _ _ _ _ _ _ _ (["_law_one"]) ([none]) _ _ _ _ _ rfl (lcs_plain (by decide) rfl (by decide) rfl rfl) (pi_tup (pe_op op_catU (pv 4) (pe_tup (pa_cons (pv 5) pa_nil rfl)))) (fun _ _ _ _=>(pg_name (i:=0) (show List.Nodup (["_law_one"]:List Str) by decide) rfl (Or.inl rfl) (Or.inr rfl))) (fun _ _ _ _=>pifs_nil) (fun _ _ _ _=>(pe_callTy call_str_int rfl T.b_str bb_str (pa_cons (pv 0) pa_nil rfl))) (by intro _ ; rfl)
   case read =>
    have b:=PlOk.bd ok
    have cl:=cal.1; have pl:=pal.1; have c30:=ok.c30; have p40:=ok.p40; have tl:=ok.t1
    have zs:(Str.ofString " ").length≤1:=by decide +kernel
    have z1:(Str.ofString "stuff ").length≤6:=by decide +kernel
    have z2:(Str.ofString "corner ").length≤7:=by decide +kernel
    have y2:=szA z1 (wd_len b.l)
    have y3:=szA y2 zs
    have y4:=szA y3 (wd_len b.m)
    refine ⟨_,rfl,a,_,3,_,rfl,rfl,SqT.of ha,rfl,sa,_,0,_,rfl,rfl,SqT.of hsa,rfl,P'.l,rfl,lg100 b.l,_,_,rfl,rfl,sz2 y2 (by decide),_,_,rfl,rfl,sz2 y3 (by decide),_,rfl,a,_,3,_,rfl,rfl,SqT.of ha,rfl,sa,_,1,_,rfl,rfl,SqT.of hsa,rfl,P'.m,rfl,lg100 b.m,_,_,rfl,rfl,sz2 y4 (by decide),?_⟩
    rw [f_stuff,show Str.ofString (toString P'.l)=wd P'.l from rfl,show Str.ofString (toString P'.m)=wd P'.m from rfl,fs2']
    refine ⟨by show 1≤sizeLine; decide,fun R nR=>?_⟩
    have s1:Same H (upd H R (.lst [.str (rwd kS [P'.l,P'.m])])):=Same.new nR
    have e1:upd H R (.lst [.str (rwd kS [P'.l,P'.m])]) R=some (.lst [.str (rwd kS [P'.l,P'.m])]):=upd_same
    generalize upd H R (.lst [.str (rwd kS [P'.l,P'.m])])=H1 at s1 e1 ⊢
    have nRH:∀ x o,H x=some o→x≠R:=fun x o e=>ne_of_none e nR
    refine ⟨_,rfl,a,_,0,_,rfl,rfl,SqT.of (s1 _ _ ha),rfl,ca,rfl,⟨_,SqT.of (s1 _ _ hca)⟩,?_⟩
    refine for_tup (xs:=cus) (fun n σ H2=>∃ w2 w3:Option V,σ=[some (.ref a),some (.ref R),w2,w3,none,none]∧Same H H2∧H2 R=some (.lst ((rwd kS [P'.l,P'.m] :: (P'.cs.take n).map fun p=>rwd kC [p.1,p.2]).map V.str))) ⟨_,_,rfl,s1,e1⟩ ?_ ?_ ?_
    · rintro n σ H2 _ ⟨_,_,_,s2,_⟩
      exact SqT.of (s2 _ _ hca)
    · rintro n x σ H2 hx ⟨w2,w3,rfl,s2,e2⟩
      obtain ⟨p',ep,pp,rfl,hp⟩:=cal.get hx
      obtain ⟨b1,b2⟩:=b.c p' (List.mem_of_getElem? ep)
      have hn:=lt_of_get hx
      refine ⟨pp,_,rfl,SqT.of (s2 _ _ hp),rfl,_,_,rfl,_,_,rfl,rfl,?_⟩
      have y2:=szA z2 (wd_len b1)
      have y3:=szA y2 zs
      have y4:=szA y3 (wd_len b2)
      refine ⟨_,rfl,.inl ⟨rfl,_,SqL.of e2⟩,_,rfl,p'.1,rfl,lg100 b1,_,_,rfl,rfl,sz2 y2 (by decide),_,_,rfl,rfl,sz2 y3 (by decide),_,rfl,p'.2,rfl,lg100 b2,_,_,rfl,rfl,sz2 y4 (by decide),R,_,_,rfl,rfl,e2,by have:=sizeLine_eq; simp; omega,?_⟩
      rw [f_corner,show Str.ofString (toString p'.1)=wd p'.1 from rfl,show Str.ofString (toString p'.2)=wd p'.2 from rfl,fs2']
      refine ⟨_,_,rfl,fun x o e=>by rw [upd_ne (nRH x o e)]; exact s2 _ _ e,?_⟩
      rw [upd_same,List.take_succ_eq_append_getElem (show n < P'.cs.length by omega),(List.getElem?_eq_some_iff.mp ep).2]
      simp
    rintro σ H2 ⟨w2,w3,rfl,s2,e2⟩
    rw [List.take_of_length_le (by omega)] at e2
    refine ⟨_,rfl,a,_,1,_,rfl,rfl,SqT.of (s2 _ _ ha),rfl,_,rfl,a,_,2,_,rfl,rfl,SqT.of (s2 _ _ ha),rfl,pa,ta,rfl,⟨_,SqT.of (s2 _ _ hpa)⟩,⟨_,SqT.of (s2 _ _ hta)⟩,?_⟩
    refine for_gen (n:=P'.ps.length) (fun n σ H3=>∃ w2 w3 w4 w5:Option V,σ=[some (.ref a),some (.ref R),w2,w3,w4,w5]∧Same H H3∧H3 R=some (.lst ((rwd kS [P'.l,P'.m] :: ((P'.cs.map fun p=>rwd kC [p.1,p.2])++((R4 P').take n).map (rwd kP))).map V.str))) ⟨_,_,_,_,rfl,s2,by rw [e2]; simp⟩ (fun n σ H3 hn pp=>?_) (fun σ H3 pp=>?_) (fun n x σ H3 H4 hn y pp=>?_) (fun σ H3 pp=>?_)
    · obtain ⟨_,_,_,_,_,s3,_⟩:=pp
      exact ⟨pus,P'.ts.map V.int,_,_,SqT.of (s3 _ _ hpa),SqT.of (s3 _ _ hta),List.getElem?_eq_getElem (by omega),List.getElem?_eq_getElem (by simp; omega)⟩
    · obtain ⟨_,_,_,_,_,s3,_⟩:=pp
      exact ⟨pus,P'.ts.map V.int,SqT.of (s3 _ _ hpa),SqT.of (s3 _ _ hta),by simp; omega⟩
    · obtain ⟨w2',w3',w4,w5,rfl,s3,e3⟩:=pp
      obtain ⟨p1,v,w,rfl,hp1,rfl,y1,y2⟩:=y
      have ev:=y1 _ (SqT.of (s3 _ _ hpa))
      have ew:=y2 _ (SqT.of (s3 _ _ hta))
      obtain ⟨p',ep,pp,rfl,hpp⟩:=pal.get ev
      rw [List.getElem?_map] at ew
      obtain ⟨t',et,rfl⟩:=Option.map_eq_some_iff.mp ew
      obtain ⟨p2,t2,ep2,et2,e4⟩:=R4_at ok hn
      rw [ep] at ep2; rw [et] at et2
      cases ep2; cases et2
      obtain ⟨h3,bd⟩:=b.p p' (List.mem_of_getElem? ep)
      have bt:=b.t t' (List.mem_of_getElem? et)
      have bA:∀ i∈p'++[t'],i.natAbs≤100:=fun i hi=>(List.mem_append.mp hi).elim (bd i) fun z=>by rw [List.mem_singleton.mp z]; exact bt
      have lA:(p'++[t']).length=4:=by simp [h3]
      have S4:Same H3 (upd H3 p1 (.tup [.ref pp,.int t'])):=Same.new hp1
      have e4':upd H3 p1 (.tup [.ref pp,.int t']) p1=some (.tup [.ref pp,.int t']):=upd_same
      generalize upd H3 p1 (.tup [.ref pp,.int t'])=H4 at S4 e4' ⊢
      refine ⟨p1,_,rfl,SqT.of e4',rfl,_,_,rfl,_,_,rfl,rfl,?_⟩
      refine ⟨_,rfl,.inl ⟨rfl,_,SqL.of (S4 _ _ e3)⟩,rfl,by show 1≤sizeLine; decide,fun L nL=>?_⟩
      have S5:Same H4 (upd H4 L (.lst [.str (Str.ofString "piece")])):=Same.new nL
      have e5:upd H4 L (.lst [.str (Str.ofString "piece")]) L=some (.lst [.str (Str.ofString "piece")]):=upd_same
      generalize upd H4 L (.lst [.str (Str.ofString "piece")])=H5 at S5 e5 ⊢
      refine ⟨_,rfl,_,rfl,by show 1≤sizeLine; decide,fun T1 nT1=>?_⟩
      have S6:Same H5 (upd H5 T1 (.tup [.int t'])):=Same.new nT1
      have e6:upd H5 T1 (.tup [.int t']) T1=some (.tup [.int t']):=upd_same
      generalize upd H5 T1 (.tup [.int t'])=H6 at S6 e6 ⊢
      have S06:=s3.trans (S4.trans (S5.trans S6))
      refine ⟨pp,T1,_,_,rfl,rfl,S06 _ _ hpp,e6,by have:=sizeLine_eq; simp [h3]; omega,fun q1 H7 S7 e7=>?_⟩
      rw [show p'.map V.int++[.int t']=(p'++[t']).map V.int by simp] at e7
      refine ⟨q1,rfl,⟨_,SqT.of e7⟩,fun D nD=>?_⟩
      refine lc_T (k:=.t) (vs:=(p'++[t']).map V.int) IsS hIsS ((p'++[t']).map wd) (by simp) (by rw [List.length_map,lA]; decide) nD e7 (fun i w H8 C hw s8 c'=>?_) (fun H8 us8 s8 e8 a8=>?_)
      · rw [List.getElem?_map] at hw
        obtain ⟨i',ei,rfl⟩:=Option.map_eq_some_iff.mp hw
        exact ⟨_,rfl,i',rfl,lg100 (bA i' (List.mem_of_getElem? ei)),c' _ _ (wd i') (Same.refl _) (by rw [List.getElem?_map,ei]; rfl) rfl⟩
      have eu:=al_strs a8
      subst eu
      refine ⟨L,D,_,_,rfl,rfl,s8 _ _ (S7 _ _ (S6 _ _ e5)),e8,by have:=sizeLine_eq; simp [h3]; omega,fun L2 nL2=>?_⟩
      have S9:Same H8 (upd H8 L2 (.lst ([.str (Str.ofString "piece")]++((p'++[t']).map wd).map V.str))):=Same.new nL2
      have e9:upd H8 L2 (.lst ([.str (Str.ofString "piece")]++((p'++[t']).map wd).map V.str)) L2=some (.lst ((Str.ofString "piece" :: (p'++[t']).map wd).map V.str)):=upd_same
      generalize upd H8 L2 (.lst ([.str (Str.ofString "piece")]++((p'++[t']).map wd).map V.str))=H9 at S9 e9 ⊢
      have S39:=S4.trans (S5.trans (S6.trans (S7.trans (s8.trans S9))))
      refine ⟨_,L2,_,rfl,rfl,SqL.of e9,?_,?_⟩
      · unfold JoinOk
        rw [Bool.not_eq_true']
        refine StrLaws.joinFits (B:=6) (fun y hy=>?_) (by rw [List.length_cons,List.length_map,lA,show (Str.ofString " ").length=1 by decide +kernel]; decide)
        rcases List.mem_cons.mp hy with rfl | hy
        · decide +kernel
        · obtain ⟨i,hi,rfl⟩:=List.mem_map.mp hy
          have:=wd_len (bA i hi); omega
      rw [join_w]
      refine ⟨R,_,_,rfl,rfl,S39 _ _ e3,by have:=sizeLine_eq; have:=R4_len ok; simp; omega,?_⟩
      refine ⟨_,_,_,_,rfl,fun x o e=>by rw [upd_ne (nRH x o e)]; exact S39 _ _ (s3 _ _ e),?_⟩
      rw [upd_same,List.take_succ_eq_append_getElem (show n < (R4 P').length by rw [R4_len ok]; exact hn),(List.getElem?_eq_some_iff.mp e4).2]
      simp
    obtain ⟨w2',w3',w4,w5,rfl,s3,e3⟩:=pp
    refine ⟨_,rfl,q _ R s3 ?_ nR⟩
    rw [e3,List.take_of_length_le (by rw [R4_len ok]; exact Nat.le_refl _)]
    simp [rowsOf,allR,rowT,R4,Function.comp_def]
abbrev s__law_grid:Stmt:=top 53
theorem ok__law_grid (F:Fun K "_law_grid" "_law_grid" s__law_grid f fd) (C__law_choice:Cal P w K mg base "_law_choice" 1 ["_law_state_here","_law_many"] sp_choice):FnOk P w K mg base CX0 2 f fd ["_law_state_here","_law_wide","_law_high"] sp_grid:=by
 have sc:FnScope ["_law_state_here","_law_wide","_law_high","_law_points","_law_pieces","_law_y","_law_x","_law_a","_law_b","_law_c","_law_d","_law_way","_law_thicks"] ["_law_state_here","_law_wide","_law_high"] (defScope s__law_grid):=fsc (by decide +kernel)
 refine F.ok sc (fun vs H Q E h=>?_) (fun cdv A outer s H vs Q E hr h=>?_)
 · obtain ⟨l,w,h',rfl,_⟩:=h
   rfl
 · obtain ⟨l,w,h',rfl,hl,w1,w4,h1,h3,q⟩:=h
   have nd:=sc.nd
   have hu:=hu_of hr
   have hu1:=Nat.lt_of_succ_lt hu
   refine' ⟨_,?term,?read⟩
   case term =>
    refine' @L2.pss_cons _ _ _ _ _ ?g1 ?g2
    case g1 =>
     refine' @L2.ps_par _ _ (3) (4) _ _ _ _ _ _ _ _ _ _ _ rfl nd rfl rfl (by decide) rfl rfl ?g3 rfl (by rfl)
     case g3 =>
      refine' @L2.pa_cons _ _ _ _ _ ?g4 ?g5 rfl
      case g4 =>
       refine' @L2.pe_lst _ _ _ _ pa_nil
      case g5 =>
       refine' @L2.pa_cons _ _ _ _ _ ?g6 pa_nil rfl
       case g6 =>
        refine' @L2.pe_lst _ _ _ _ pa_nil
    case g2 =>
     refine' @L2.pss_cons _ _ _ _ _ ?g7 ?g8
     case g7 =>
      refine' @L2.ps_for _ _ _ _ _ _ _ _ PassesOwn.never rfl ?g9 (pg_name (i:=5) nd rfl (Or.inr rfl)) ?ga (by intro _ ; rfl)
      case g9 =>
       refine' @L2.pi_range1 _ _ _ _ _ _ rfl T.b_range (pa_cons (pe_op op_add (pv 2) pe_int) pa_nil rfl) (by rfl)
      case ga =>
       refine' @L2.pss_one _ _ _ ?gb
       case gb =>
        refine' @L2.ps_set _ _ (3) _ _ _ _ nd rfl (Or.inl rfl) ?gc (by rfl) (by first | exact Or.inl rfl | exact Or.inr rfl | assumption)
        case gc =>
         refine' @L2.pe_op _ _ _ _ _ _ _ _ op_cat (pv 3) ?gd
         case gd =>
          refine' @L2.pe_lc _ _ _ _ _ _ _ (["_law_x","_law_y"]) ([none,some 5]) _ _ _ _ _ rfl (lcs_gen (XN:=["_law_state_here","_law_wide","_law_high","_law_points","_law_pieces","_law_y","_law_x","_law_a","_law_b","_law_c","_law_d","_law_way","_law_thicks"]) (Scope.names (defScope s__law_grid)) rfl rfl rfl (fun _ h=>cell_has h) (by decide +kernel) rfl) ?ge (fun _ _ _ _=>(pg_name (i:=0) (show List.Nodup (["_law_x","_law_y"]:List Str) by decide) rfl (Or.inl rfl) (Or.inr rfl))) (fun _ _ _ _=>pifs_nil) (fun _ _ _ _=>(pe_tup (pa_cons (pe_op op_mulB pe_int (pv 0)) (pa_cons (pe_op op_mulB pe_int (pv 1)) pa_nil rfl) rfl))) (by intro _ ; rfl)
          case ge =>
           refine' @L2.pi_range1 _ _ _ _ _ _ rfl T.b_range (pa_cons (pe_op op_add (pv 1) pe_int) pa_nil rfl) (by rfl)
     case g8 =>
      refine' @L2.pss_cons _ _ _ _ _ ?gf ?gg
      case gf =>
       refine' @L2.ps_for _ _ _ _ _ _ _ _ PassesOwn.never rfl ?gh (pg_name (i:=5) nd rfl (Or.inr rfl)) ?gi (by intro _ ; rfl)
       case gh =>
        refine' @L2.pi_range1 _ _ _ _ _ _ rfl T.b_range (pa_cons (pv 2) pa_nil rfl) (by rfl)
       case gi =>
        refine' @L2.pss_one _ _ _ ?gj
        case gj =>
         refine' @L2.ps_for _ _ _ _ _ _ _ _ PassesOwn.never rfl ?gk (pg_name (i:=6) nd rfl (Or.inl rfl)) ?gl (by intro _ ; rfl)
         case gk =>
          refine' @L2.pi_range1 _ _ _ _ _ _ rfl T.b_range (pa_cons (pv 1) pa_nil rfl) (by rfl)
         case gl =>
          refine' @L2.pss_cons _ _ _ _ _ ?gm ?gn
          case gm =>
           refine' @L2.ps_set _ _ (7) _ _ _ _ nd rfl (Or.inl rfl) (pe_op op_add (pe_op op_mulB (pv 5) (pe_op op_add (pv 1) pe_int)) (pv 6)) (by rfl) (by first | exact Or.inl rfl | exact Or.inr rfl | assumption)
          case gn =>
           refine' @L2.pss_cons _ _ _ _ _ ?go ?gp
           case go =>
            refine' @L2.ps_par3 _ _ (8) (9) (10) _ _ _ _ _ _ _ _ _ _ _ _ _ _ rfl nd rfl rfl rfl (by decide) (by decide) (by decide) rfl rfl rfl (pa_cons (pe_op op_add (pv 7) pe_int) (pa_cons (pe_op op_add (pe_op op_add (pv 7) (pv 1)) pe_int) (pa_cons (pe_op op_add (pe_op op_add (pv 7) (pv 1)) pe_int) pa_nil rfl) rfl) rfl) rfl (by rfl)
           case gp =>
            refine' @L2.pss_cons _ _ _ _ _ ?gq ?gr
            case gq =>
             refine' @L2.ps_set _ _ (11) _ _ _ _ nd rfl (Or.inl rfl) (pe_cal C__law_choice hr (by decide) rfl (pa_cons (pv 0) (pa_cons pe_int pa_nil rfl) rfl)) (by rfl) (by first | exact Or.inl rfl | exact Or.inr rfl | assumption)
            case gr =>
             refine' @L2.pss_one _ _ _ ?gs
             case gs =>
              refine' @L2.ps_set _ _ (4) _ _ _ _ nd rfl (Or.inl rfl) ?gt (by rfl) (by first | exact Or.inl rfl | exact Or.inr rfl | assumption)
              case gt =>
               refine' @L2.pe_op _ _ _ _ _ _ _ _ op_cat (pv 4) ?gu
               case gu =>
                refine' @L2.pe_ix _ _ _ _ _ _ _ ix_list ?gv (pv 11) (fun _ _=>rfl)
                case gv =>
                 refine' @L2.pe_lst _ _ _ _ ?gw
                 case gw =>
                  refine' @L2.pa_cons _ _ _ _ _ ?gx ?gy rfl
                  case gx =>
                   refine' @L2.pe_lst _ _ _ _ (pa_cons (pe_tup (pa_cons (pv 7) (pa_cons (pv 8) (pa_cons (pv 9) pa_nil rfl) rfl) rfl)) (pa_cons (pe_tup (pa_cons (pv 8) (pa_cons (pv 9) (pa_cons (pv 10) pa_nil rfl) rfl) rfl)) pa_nil rfl) rfl)
                  case gy =>
                   refine' @L2.pa_cons _ _ _ _ _ ?gz pa_nil rfl
                   case gz =>
                    refine' @L2.pe_lst _ _ _ _ (pa_cons (pe_tup (pa_cons (pv 7) (pa_cons (pv 8) (pa_cons (pv 10) pa_nil rfl) rfl) rfl)) (pa_cons (pe_tup (pa_cons (pv 7) (pa_cons (pv 9) (pa_cons (pv 10) pa_nil rfl) rfl) rfl)) pa_nil rfl) rfl)
      case gg =>
       refine' @L2.pss_cons _ _ _ _ _ ?g10 ?g11
       case g10 =>
        refine' @L2.ps_set _ _ (12) _ _ _ _ nd rfl (Or.inl rfl) ?g12 (by rfl) (by first | exact Or.inl rfl | exact Or.inr rfl | assumption)
        case g12 =>
         refine' @L2.pe_callTy _ _ _ _ _ _ _ _ _ call_tuple_of rfl T.b_tuple bb_tuple ?g13 (by decide) (by decide) (by rfl) (by rfl)
         case g13 =>
          refine' @L2.pa_cons _ _ _ _ _ ?g14 pa_nil rfl
          case g14 =>
           refine' @L2.pe_lc _ _ _ _ _ _ _ (["_law_piece","_law_state_here"]) ([none,some 0]) _ _ _ _ _ rfl (lcs_gen (XN:=["_law_state_here","_law_wide","_law_high","_law_points","_law_pieces","_law_y","_law_x","_law_a","_law_b","_law_c","_law_d","_law_way","_law_thicks"]) (Scope.names (defScope s__law_grid)) rfl rfl rfl (fun _ h=>cell_has h) (by decide +kernel) rfl) (pi_list (pv 4)) (fun _ _ _ _=>(pg_name (i:=0) (show List.Nodup (["_law_piece","_law_state_here"]:List Str) by decide) rfl (Or.inl rfl) (Or.inr rfl))) (fun _ _ _ _=>pifs_nil) (fun _ _ _ _=>(pe_op op_add pe_int (pe_cal C__law_choice hr (by decide) rfl (pa_cons (pv 1) (pa_cons pe_int pa_nil rfl) rfl)))) (by intro _ ; rfl)
       case g11 =>
        refine' @L2.pss_one _ _ _ ?g15
        case g15 =>
         refine' @L2.ps_ret _ _ _ _ ?g16
         case g16 =>
          refine' @L2.pe_tup _ _ _ _ _ ?g17
          case g17 =>
           refine' @L2.pa_cons _ _ _ _ _ (pe_callTy call_tuple_of rfl T.b_tuple bb_tuple (pa_cons (pv 3) pa_nil rfl)) (pa_cons (pe_callTy call_tuple_of rfl T.b_tuple bb_tuple (pa_cons (pe_callB call_sortedM rfl T.b_sorted bb_sorted (pa_cons (pv 4) pa_nil rfl)) pa_nil rfl)) (pa_cons (pv 12) (pa_cons (pe_tup (pa_cons (pe_cal C__law_choice hr (by decide) rfl (pa_cons (pv 0) (pa_cons pe_int pa_nil rfl) rfl)) (pa_cons (pe_op op_add pe_int (pe_cal C__law_choice hr (by decide) rfl (pa_cons (pv 0) (pa_cons pe_int pa_nil rfl) rfl))) pa_nil rfl) rfl)) pa_nil rfl) rfl) rfl) rfl
   case read =>
    refine ⟨by show 0≤sizeLine; decide,fun C0 nC=>?_⟩
    have s1:Same H (upd H C0 (.lst [])):=Same.new nC
    have e1:upd H C0 (.lst []) C0=some (.lst []):=upd_same
    have nCl:C0≠l:=hl.neN nC
    generalize upd H C0 (.lst [])=H1 at s1 e1 ⊢
    refine ⟨by show 0≤sizeLine; decide,fun D0 nD=>?_⟩
    have s2:Same H1 (upd H1 D0 (.lst [])):=Same.new nD
    have e2:upd H1 D0 (.lst []) D0=some (.lst []):=upd_same
    have nDl:D0≠l:=(hl.same s1).neN nD
    have e1':=s2 _ _ e1
    generalize upd H1 D0 (.lst [])=H2 at s2 e2 e1' ⊢
    have s02:=s1.trans s2
    refine ⟨_,_,rfl,?_⟩
    refine ⟨_,rfl,_,_,rfl,rfl,_,rfl,by omega,by omega,?_⟩
    rw [show ((h':Int)+1).toNat=h'+1 by omega]
    refine for_range (fun n σ H3=>∃ (w5:Option V) (C:Addr) (cv:List V),σ=[some (.ref l),some (.int w),some (.int h'),some (.ref C),some (.ref D0),w5,none,none,none,none,none,none,none]∧Same H2 H3∧C≠l∧H3 C=some (.lst cv)∧Al (IsP H3) cv (gPs w n)) ⟨_,C0,[],rfl,Same.refl _,nCl,e1',by unfold gPs; simp only [Nat.zero_mul,List.range_zero,List.map_nil]; exact .nil⟩ ?_ ?_
    · rintro n σ H3 hn ⟨w5,C,cv,rfl,s3,nC',eC,al⟩
      have cvl:=al.1
      have gl:(gPs w n).length=n * (w+1):=by simp [gPs]
      have hn5:n * (w+1)≤4 * 5:=Nat.mul_le_mul (by omega) (by omega)
      refine ⟨_,rfl,_,rfl,_,_,rfl,rfl,_,rfl,by omega,by omega,fun D nD'=>?_⟩
      rw [show ((w:Int)+1).toNat=w+1 by omega]
      refine lc_R (n:=w+1) IsP (fun _ _ _ _ t h=>h.tk t) ((List.range (w+1)).map fun (x:Nat)=>((7 * (x:Int),9 * (n:Int)):Pnt)) (by simp) (by omega) nD' (fun i H4 C4 hi s4 c=>?_) (fun H4 us4 s4 e4 a4=>?_)
      · refine ⟨_,rfl,_,_,rfl,rfl,mul3 (by decide) (by omega),_,rfl,_,_,rfl,rfl,mul3 (by decide) (by omega),by show 2≤sizeLine; decide,fun t nt=>?_⟩
        refine c _ _ (7 * (i:Int),9 * (n:Int)) (Same.new nt) (by rw [List.getElem?_map,List.getElem?_range hi]; rfl) ⟨t,rfl,?_⟩
        rw [upd_same]
        show some (HO.tup [V.int (7 * (0+(i:Int))),V.int (9 * (0+(n:Int)))])=_
        rw [Int.zero_add,Int.zero_add]
        rfl
      have u4l:=a4.1
      simp only [List.length_map,List.length_range] at u4l
      refine ⟨C,D,_,_,rfl,rfl,s4 _ _ eC,e4,by have:=sizeLine_eq; omega,fun C2 nC2=>?_⟩
      have s5:Same H4 (upd H4 C2 (.lst (cv++us4))):=Same.new nC2
      have st4:StAt H4 l:=((hl.same s02).same s3).same s4
      refine ⟨_,C2,cv++us4,rfl,s3.trans (s4.trans s5),st4.neN nC2,upd_same,?_⟩
      rw [gPs_succ]
      exact al_app ((al.imp fun v x r=>r.tk s4.tk).imp fun v x r=>r.tk s5.tk) (a4.imp fun v x r=>r.tk s5.tk)
    rintro σ H3 ⟨w5,C,cv,rfl,s3,nC',eC,al⟩
    have st3:=(hl.same s02).same s3
    have k03:Keep l H H3:=(s02.trans s3).keep
    have eD3:=s3 _ _ e2
    clear s02 e1' e2 s2 e1 s1 nC nD
    refine ⟨_,rfl,_,rfl,by omega,by omega,?_⟩
    rw [show ((h':Int)).toNat=h' by omega]
    refine for_range (fun n σ H4=>∃ (w5 w6 w7 w8 w9 w10 w11:Option V) (D:Addr) (pw:List V) (f':Nat→Nat),σ=[some (.ref l),some (.int w),some (.int h'),some (.ref C),some (.ref D),w5,w6,w7,w8,w9,w10,w11,none]∧Keep l H3 H4∧StAt H4 l∧D≠l∧H4 D=some (.lst pw)∧(∀ k,f' k=0∨f' k=1)∧Al (IsI H4) pw (gU w f' (n * w))) ⟨_,_,_,_,_,_,_,D0,[],fun _=>0,rfl,Keep.refl _ _,st3,nDl,eD3,fun _=>.inl rfl,by unfold gU; simp only [Nat.zero_mul,Nat.mul_zero,List.range_zero,List.map_nil]; exact .nil⟩ ?_ ?_
    · rintro n σ H4 hn ⟨w5,w6,w7,w8,w9,w10,w11,D,pw,f',rfl,k4,st4,nDl',eD,hf,al4⟩
      refine ⟨_,rfl,_,rfl,by omega,by omega,?_⟩
      rw [show ((w:Int)).toNat=w by omega]
      refine for_range (fun m σ H4=>∃ (w6 w7 w8 w9 w10 w11:Option V) (D:Addr) (pw:List V) (f':Nat→Nat),σ=[some (.ref l),some (.int w),some (.int h'),some (.ref C),some (.ref D),some (.int (0+n)),w6,w7,w8,w9,w10,w11,none]∧Keep l H3 H4∧StAt H4 l∧D≠l∧H4 D=some (.lst pw)∧(∀ k,f' k=0∨f' k=1)∧Al (IsI H4) pw (gU w f' (n * w+m))) ⟨_,_,_,_,_,_,D,pw,f',rfl,k4,st4,nDl',eD,hf,al4⟩ ?_ ?_
      · clear k4 st4 nDl' eD hf al4 D pw f'
        rintro m σ H4 hm ⟨w6,w7,w8,w9,w10,w11,D,pw,f',rfl,k4,st4,nDl',eD,hf,al4⟩
        have pwl:=al4.1
        have ul:(gU w f' (n * w+m)).length=2 * (n * w+m):=by simp [gU]
        have nw:n * w≤3 * 4:=Nat.mul_le_mul (by omega) (by omega)
        refine ⟨_,rfl,_,rfl,_,_,rfl,rfl,_,_,rfl,rfl,mul3 (by omega) (by omega),_,rfl,_,_,rfl,rfl,?_⟩
        refine ⟨_,rfl,_,_,rfl,rfl,_,rfl,_,rfl,_,_,rfl,rfl,_,_,rfl,rfl,_,rfl,_,rfl,_,_,rfl,rfl,_,_,rfl,rfl,_,_,_,rfl,?_⟩
        refine ⟨_,rfl,l,2,rfl,st4,by decide,lt8999 (by decide),fun r H5 r0 r1 k5 st5=>?_⟩
        have eD5:=k5 _ _ nDl' eD
        have al5:Al (IsI H5) pw (gU w f' (n * w+m)):=al4.imp fun v x r=>r.tk (tkS k5 st4)
        have ea:((0:Int)+(n:Int)) * ((w:Int)+1)+(0+(m:Int))=((n * (w+1)+m:Nat):Int):=by
         rw [Int.zero_add,Int.zero_add]; push_cast; rfl
        rw [ea]
        refine ⟨_,rfl,_,rfl,_,rfl,_,rfl,by show 3≤sizeLine; decide,?_⟩
        intro p1' nb1
        generalize hHb1:upd H5 p1' _=Hb1
        have Sb1:Same H5 Hb1:=by (rw [← hHb1]; exact Same.new nb1)
        have Ab1:=(congrFun hHb1 p1').symm
        rw [upd_same] at Ab1
        clear hHb1
        have stb1:=(st5).same Sb1
        refine ⟨_,rfl,_,rfl,_,rfl,by show 3≤sizeLine; decide,?_⟩
        intro p2' nb2
        generalize hHb2:upd Hb1 p2' _=Hb2
        have Sb2:Same Hb1 Hb2:=by (rw [← hHb2]; exact Same.new nb2)
        have Ab2:=(congrFun hHb2 p2').symm
        rw [upd_same] at Ab2
        clear hHb2
        have stb2:=(stb1).same Sb2
        refine ⟨by show 2≤sizeLine; decide,?_⟩
        intro q1' nb3
        generalize hHb3:upd Hb2 q1' _=Hb3
        have Sb3:Same Hb2 Hb3:=by (rw [← hHb3]; exact Same.new nb3)
        have Ab3:=(congrFun hHb3 q1').symm
        rw [upd_same] at Ab3
        clear hHb3
        have stb3:=(stb2).same Sb3
        refine ⟨_,rfl,_,rfl,_,rfl,by show 3≤sizeLine; decide,?_⟩
        intro p3' nb4
        generalize hHb4:upd Hb3 p3' _=Hb4
        have Sb4:Same Hb3 Hb4:=by (rw [← hHb4]; exact Same.new nb4)
        have Ab4:=(congrFun hHb4 p3').symm
        rw [upd_same] at Ab4
        clear hHb4
        have stb4:=(stb3).same Sb4
        refine ⟨_,rfl,_,rfl,_,rfl,by show 3≤sizeLine; decide,?_⟩
        intro p4' nb5
        generalize hHb5:upd Hb4 p4' _=Hb5
        have Sb5:Same Hb4 Hb5:=by (rw [← hHb5]; exact Same.new nb5)
        have Ab5:=(congrFun hHb5 p4').symm
        rw [upd_same] at Ab5
        clear hHb5
        have stb5:=(stb4).same Sb5
        refine ⟨by show 2≤sizeLine; decide,?_⟩
        intro q2' nb6
        generalize hHb6:upd Hb5 q2' _=Hb6
        have Sb6:Same Hb5 Hb6:=by (rw [← hHb6]; exact Same.new nb6)
        have Ab6:=(congrFun hHb6 q2').symm
        rw [upd_same] at Ab6
        clear hHb6
        have stb6:=(stb5).same Sb6
        refine ⟨by show 2≤sizeLine; decide,?_⟩
        intro o' nb7
        generalize hHb7:upd Hb6 o' _=Hb7
        have Sb7:Same Hb6 Hb7:=by (rw [← hHb7]; exact Same.new nb7)
        have Ab7:=(congrFun hHb7 o').symm
        rw [upd_same] at Ab7
        clear hHb7
        have stb7:=(stb6).same Sb7
        have SB:Same H5 Hb7:=(Sb1.trans (Sb2.trans (Sb3.trans (Sb4.trans (Sb5.trans (Sb6.trans Sb7))))))
        have B1:=(Sb7 _ _ (Sb6 _ _ (Sb5 _ _ (Sb4 _ _ (Sb3 _ _ (Sb2 _ _ Ab1)))))); have B2:=(Sb7 _ _ (Sb6 _ _ (Sb5 _ _ (Sb4 _ _ (Sb3 _ _ Ab2))))); have B3:=(Sb7 _ _ (Sb6 _ _ (Sb5 _ _ Ab4))); have B4:=(Sb7 _ _ (Sb6 _ _ Ab5)); have BL1:=(Sb7 _ _ (Sb6 _ _ (Sb5 _ _ (Sb4 _ _ Ab3)))); have BL2:=(Sb7 _ _ Ab6); have BO:=Ab7; have stB:=stb7
        generalize Hb7=HB at SB B1 B2 B3 B4 BL1 BL2 BO stB ⊢
        dsimp only at B1 B3 B4
        rw [ea] at B1 B3 B4
        have hk:∀ z:Nat,(z=0∨z=1)→∀ i,i < n * w+m→(fun i=>if i=n * w+m then z else f' i) i=f' i:=fun z _ i hi=>if_neg (by omega)
        have hz:∀ z:Nat,(z=0∨z=1)→∀ k,(fun i=>if i=n * w+m then z else f' i) k=0∨(fun i=>if i=n * w+m then z else f' i) k=1:=fun z hz k=>by
         show (if k=n * w+m then z else f' k)=0∨(if k=n * w+m then z else f' k)=1
         split
         · exact hz
         · exact hf k
        have fin:∀ (z:Nat) (hz':z=0∨z=1) (v1 v2:V),IsI HB v1 (gPc w (n * w+m) z 0)→IsI HB v2 (gPc w (n * w+m) z 1)→∀ D2,HB D2=none→∃ f'':Nat→Nat,(∀ k,f'' k=0∨f'' k=1)∧Al (IsI (upd HB D2 (.lst (pw++[v1,v2])))) (pw++[v1,v2]) (gU w f'' (n * w+(m+1))):=fun z hz' v1 v2 i1 i2 D2 nD2=>by
         have tk:Tk HB (upd HB D2 (.lst (pw++[v1,v2]))):=(Same.new nD2).tk
         refine ⟨fun i=>if i=n * w+m then z else f' i,hz z hz',?_⟩
         rw [← Nat.add_assoc,gU_succ (hk z hz')]
         refine al_app ((al5.imp fun v x r=>r.tk SB.tk).imp fun v x r=>r.tk tk) ?_
         show Al _ _ [gPc w (n * w+m) (if n * w+m=n * w+m then z else f' (n * w+m)) 0,gPc w (n * w+m) (if n * w+m=n * w+m then z else f' (n * w+m)) 1]
         rw [if_pos rfl]
         exact .cons (i1.tk tk) (.cons (i2.tk tk) .nil)
        have hr:r=0∨r=1:=by omega
        rcases hr with rfl | rfl
        · refine ⟨_,rfl,o',_,0,_,rfl,rfl,SqL.of BO,rfl,D,q1',_,_,rfl,rfl,SB _ _ eD5,BL1,by have:=sizeLine_eq; simp; omega,fun D2 nD2=>?_⟩
          obtain ⟨f'',hf'',al''⟩:=fin 0 (.inl rfl) (.ref p1') (.ref p2') ⟨p1',rfl,by rw [gPc_at hm]; exact B1⟩ ⟨p2',rfl,by rw [gPc_at hm]; exact B2⟩ D2 nD2
          exact ⟨_,_,_,_,_,_,D2,_,f'',rfl,(k4.trans (k5.trans SB.keep)).trans (Keep.new nD2),stB.new nD2,stB.neN nD2,upd_same,hf'',al''⟩
        · refine ⟨_,rfl,o',_,1,_,rfl,rfl,SqL.of BO,rfl,D,q2',_,_,rfl,rfl,SB _ _ eD5,BL2,by have:=sizeLine_eq; simp; omega,fun D2 nD2=>?_⟩
          obtain ⟨f'',hf'',al''⟩:=fin 1 (.inr rfl) (.ref p3') (.ref p4') ⟨p3',rfl,by rw [gPc_at hm]; exact B3⟩ ⟨p4',rfl,by rw [gPc_at hm]; exact B4⟩ D2 nD2
          exact ⟨_,_,_,_,_,_,D2,_,f'',rfl,(k4.trans (k5.trans SB.keep)).trans (Keep.new nD2),stB.new nD2,stB.neN nD2,upd_same,hf'',al''⟩
      · rintro σ H5 ⟨w6,w7,w8,w9,w10,w11,D,pw,f',rfl,k5,st5,nDl',eD,hf,al5⟩
        exact ⟨_,_,_,_,_,_,_,D,pw,f',rfl,k5,st5,nDl',eD,hf,by rw [Nat.succ_mul]; exact al5⟩
    rintro σ H4 ⟨w5,w6,w7,w8,w9,w10,w11,D,pw,f',rfl,k4,st4,nDl',eD,hf,al4⟩
    rw [show gU w f' (h' * w)=gKl w h' f' by unfold gU gKl; rw [Nat.mul_comm h' w]] at al4
    have ww:=g_sizes (w:=w) (h:=h') ⟨w1,w4⟩ ⟨h1,h3⟩
    have kll:(gKl w h' f').length=2 * (w * h'):=by simp [gKl]
    have pwl:=al4.1
    have eC4:=k4 _ _ nC' eC
    have al3:Al (IsP H4) cv (gCs w h'):=al.imp fun v x r=>r.tk (tkS k4 st3)
    have k04:=k03.trans k4
    refine ⟨_,rfl,D,rfl,⟨_,SqL.of eD⟩,fun E nE=>?_⟩
    refine lc_draw (n:=pw.length) (l:=l) (fun H v (x:Int)=>v=.int x∧1≤x∧x≤9) (fun _ _ _ _ _ r=>r) (by omega) (fun σ=>∃ u,σ=[u,some (.ref l)]) ⟨_,rfl⟩ nE st4 (fun i H6 k6 hi=>⟨_,_,SqL.of (k6 _ _ nDl' eD),List.getElem?_eq_getElem hi⟩) (fun H6 k6=>⟨_,SqL.of (k6 _ _ nDl' eD),Nat.le_refl _⟩) (fun i x σ2 H6 H7' C' hi k6 l6 y o'' c'=>?_) (fun H6 ts ys k6 l6 e6 hy a6=>?_)
    · obtain ⟨u,rfl⟩:=o''
      obtain ⟨rfl,y2⟩:=y
      exact ⟨_,rfl,l,9,rfl,l6,by decide,lt8999 (by decide),fun r9 H9' r90 r91 k9 l9=>⟨_,_,rfl,rfl,c' _ _ _ _ ⟨_,rfl⟩ k9 l9 ⟨rfl,by omega,by omega⟩⟩⟩
    have ets:ts=ys.map V.int:=(Al.ints (ns:=ys) (a6.imp fun v x r=>r.1))
    subst ets
    refine ⟨E,_,rfl,.inl ⟨SqL.of e6,fun T' nT=>?_⟩⟩
    have s7:Same H6 (upd H6 T' (.tup (ys.map V.int))):=Same.new nT
    have e7:upd H6 T' (.tup (ys.map V.int)) T'=some (.tup (ys.map V.int)):=upd_same
    generalize upd H6 T' (.tup (ys.map V.int))=H7 at s7 e7 ⊢
    have k47:=k6.trans s7.keep
    have t47:Tk H4 H7:=(tkS k6 st4).trans s7.tk
    have st7:=l6.same s7
    refine ⟨_,rfl,C,cv,rfl,.inl ⟨SqL.of (k47 _ _ nC' eC4),fun T1 n1=>?_⟩⟩
    have u1:Same H7 (upd H7 T1 (.tup cv)):=Same.new n1
    have f1:upd H7 T1 (.tup cv) T1=some (.tup cv):=upd_same
    generalize upd H7 T1 (.tup cv)=G1 at u1 f1 ⊢
    have t41:=t47.trans u1.tk
    have eD1:=u1 _ _ (k47 _ _ nDl' eD)
    have al1:Al (IsI G1) pw (gKl w h' f'):=al4.imp fun v x r=>r.tk t41
    refine ⟨_,rfl,D,pw,gKl w h' f',3,rfl,SqL.of eD1,pwl,fun i v hv=>?_,gKl_nd ⟨w1,w4⟩ ⟨h1,h3⟩ hf,by omega,fun k hk=>?_,by decide,fun L qq nL qp pws=>?_⟩
    · obtain ⟨k,ek,b',rfl,hb⟩:=al1.get hv
      exact ⟨b',k,rfl,ek,SqT.of hb⟩
    · obtain ⟨i,_,rfl⟩:=List.mem_map.mp hk
      rfl
    have u2:Same G1 (upd G1 L (.lst (qq.map fun i=>pw.getD i .non))):=Same.new nL
    have f2:upd G1 L (.lst (qq.map fun i=>pw.getD i .non)) L=some (.lst (qq.map fun i=>pw.getD i .non)):=upd_same
    generalize upd G1 L (.lst (qq.map fun i=>pw.getD i .non))=G2 at u2 f2 ⊢
    refine ⟨L,_,rfl,.inl ⟨SqL.of f2,fun T2 n2=>?_⟩⟩
    have u3:Same G2 (upd G2 T2 (.tup (qq.map fun i=>pw.getD i .non))):=Same.new n2
    have f3:upd G2 T2 (.tup (qq.map fun i=>pw.getD i .non)) T2=some (.tup (qq.map fun i=>pw.getD i .non)):=upd_same
    generalize upd G2 T2 (.tup (qq.map fun i=>pw.getD i .non))=G3 at u3 f3 ⊢
    have u13:=u2.trans u3
    have u73:=u1.trans u13
    have st3':=st7.same u73
    refine ⟨_,rfl,_,rfl,l,10,rfl,st3',by decide,lt8999 (by decide),fun rl G4 rl0 rl1 k4' l4'=>?_⟩
    refine ⟨_,rfl,l,9,rfl,l4',by decide,lt8999 (by decide),fun rm G5 rm0 rm1 k5' l5'=>⟨_,_,rfl,rfl,by show 2≤sizeLine; decide,fun T4 n4=>?_⟩⟩
    have u5:Same G5 (upd G5 T4 (.tup [.int rl,.int (1+rm)])):=Same.new n4
    have f5:upd G5 T4 (.tup [.int rl,.int (1+rm)]) T4=some (.tup [.int rl,.int (1+rm)]):=upd_same
    generalize upd G5 T4 (.tup [.int rl,.int (1+rm)])=G6 at u5 f5 ⊢
    refine ⟨by show 4≤sizeLine; decide,fun T5 n5=>?_⟩
    have u6:Same G6 (upd G6 T5 (.tup [.ref T1,.ref T2,.ref T',.ref T4])):=Same.new n5
    have f6:upd G6 T5 (.tup [.ref T1,.ref T2,.ref T',.ref T4]) T5=some (.tup [.ref T1,.ref T2,.ref T',.ref T4]):=upd_same
    generalize upd G6 T5 (.tup [.ref T1,.ref T2,.ref T',.ref T4])=G7 at u6 f6 ⊢
    have t37:Tk G3 G7:=((tkS k4' st3').trans (tkS k5' l4')).trans (u5.trans u6).tk
    have t17:=u13.tk.trans t37
    have t77:=u1.tk.trans t17
    have ql:qq.length=pw.length:=by rw [qp.length_eq,List.length_range,pwl]
    refine q G7 (.ref T5) ⟨gCs w h',qq.map fun i=>(gKl w h' f').getD i [],ys,rl,1+rm⟩ (k04.trans (k47.trans (u73.keep.trans (k4'.trans (k5'.trans (u5.trans u6).keep))))) (l5'.same (u5.trans u6)) ⟨T5,_,_,_,_,rfl,f6,⟨T1,cv,rfl,t17 _ _ f1,(al3.imp fun v x r=>r.tk (t47.trans t77))⟩,⟨T2,_,rfl,t37 _ _ f3,?_⟩,⟨T',rfl,t77 _ _ e7⟩,⟨T4,rfl,u6 _ _ f5⟩⟩ (grid_ok ⟨w1,w4⟩ ⟨h1,h3⟩ hf qp pws (by rw [hy,ql]) (fun t ht=>?_) ⟨by omega,by omega⟩ ⟨by omega,by omega⟩)
    · refine ⟨by simp,fun i v x e1 e2=>?_⟩
      rw [List.getElem?_map] at e1 e2
      obtain ⟨j,ej,rfl⟩:=Option.map_eq_some_iff.mp e1
      rw [ej] at e2
      cases e2
      have hj:j < (gKl w h' f').length:=List.mem_range.mp (qp.mem_iff.mp (List.mem_of_getElem? ej))
      have hj':j < pw.length:=by omega
      show IsI G7 (pw.getD j .non) ((gKl w h' f').getD j [])
      rw [List.getD_eq_getElem?_getD,List.getElem?_eq_getElem hj',List.getD_eq_getElem?_getD,List.getElem?_eq_getElem hj]
      exact (al1.2 j _ _ (List.getElem?_eq_getElem hj') (List.getElem?_eq_getElem hj)).tk t17
    · obtain ⟨i,hi,e⟩:=List.getElem_of_mem ht
      obtain ⟨v,_,r⟩:=a6.got (show ys[i]? = some t by rw [List.getElem?_eq_getElem hi,e])
      exact r.2
abbrev s_law:Stmt:=top 54
theorem ok_law (F:Fun K "law" "law" s_law f fd) (C__law_choice:Cal P w K mg base "_law_choice" 1 ["_law_state_here","_law_many"] sp_choice) (C__law_grid:Cal P w K mg base "_law_grid" 2 ["_law_state_here","_law_wide","_law_high"] sp_grid) (C__law_plate:Cal P w K mg base "_law_plate" 3 ["_law_state_here","_law_most"] sp_plate) (C__law_plate_rows:Cal P w K mg base "_law_plate_rows" 1 ["_law_plate_own"] sp_plRows) (C__law_state:Cal P w K mg base "_law_state" 2 ["_law_script","_law_k"] (sp_state K)) (C_plate_text:Cal P w K mg base "plate_text" 7 ["plate"] sp_plText) (C_read_plate:Cal P w K mg base "read_plate" 6 ["text"] sp_readPl) (U_plate_text:Cal1 P w K mg base "plate_text" 7 "plate" sp_plText) (U_read_plate:Cal1 P w K mg base "read_plate" 6 "text" sp_readPl):FnOk P w K mg base CX0 9 f fd ["_law_script"] (sp_law K):=by
 have sc:FnScope ["_law_script","_law_k","_law_state_here","_law_wide","_law_high","_law_plate_own","_law_due","_law_kept","_law_again","_law_one"] ["_law_script"] (defScope s_law):=fsc (by decide +kernel)
 refine F.ok sc (fun vs H Q E h=>?_) (fun cdv A outer s H vs Q E hr h=>?_)
 · obtain ⟨a,ns,rfl,_⟩:=h
   rfl
 · obtain ⟨a,ns,rfl,hS,hlen,q⟩:=h
   have nd:=sc.nd
   have hu:=hu_of hr
   have hu1:=Nat.lt_of_succ_lt hu
   refine' ⟨_,?term,?read⟩
   case term =>
    refine' @L2.pss_cons _ _ _ _ _ ?g1 ?g2
    case g1 =>
     refine' @L2.ps_for _ _ _ _ _ _ _ _ PassesOwn.never rfl ?g3 (pg_name (i:=1) nd rfl (Or.inl rfl)) ?g4 (by intro _ ; rfl)
     case g3 =>
      refine' @L2.pi_range1 _ _ _ _ _ _ rfl T.b_range (pa_cons (pe_callB (call_max2 rfl) rfl T.b_max bb_max (pa_cons pe_int (pa_cons (pe_callB (call_min2 rfl) rfl T.b_min bb_min (pa_cons (pe_callB call_len_seq rfl T.b_len bb_len (pa_cons (pv 0) pa_nil rfl)) (pa_cons pe_int pa_nil rfl) rfl)) pa_nil rfl) rfl)) pa_nil rfl) (by rfl)
     case g4 =>
      refine' @L2.pss_cons _ _ _ _ _ ?g5 ?g6
      case g5 =>
       refine' @L2.ps_set _ _ (2) _ _ _ _ nd rfl (Or.inl rfl) (pe_cal C__law_state hr (by decide) rfl (pa_cons (pv 0) (pa_cons (pv 1) pa_nil rfl) rfl)) (by rfl) (by first | exact Or.inl rfl | exact Or.inr rfl | assumption)
      case g6 =>
       refine' @L2.pss_cons _ _ _ _ _ ?g7 ?g8
       case g7 =>
        refine' @L2.ps_par _ _ (3) (4) _ _ _ _ _ _ _ _ _ _ _ rfl nd rfl rfl (by decide) rfl rfl (pa_cons (pe_op op_add pe_int (pe_cal C__law_choice hr (by decide) rfl (pa_cons (pv 2) (pa_cons pe_int pa_nil rfl) rfl))) (pa_cons (pe_op op_add pe_int (pe_cal C__law_choice hr (by decide) rfl (pa_cons (pv 2) (pa_cons pe_int pa_nil rfl) rfl))) pa_nil rfl) rfl) rfl (by rfl)
       case g8 =>
        refine' @L2.pss_one _ _ _ ?g9
        case g9 =>
         refine' @L2.ps_for _ _ _ _ _ _ _ _ PassesOwn.never rfl ?ga (pg_name (i:=5) nd rfl (Or.inl rfl)) ?gb (by intro _ ; rfl)
         case ga =>
          refine' @L2.pi_list _ _ _ _ ?gc
          case gc =>
           refine' @L2.pe_lst _ _ _ _ (pa_cons (pe_cal C__law_plate hr (by decide) rfl (pa_cons (pv 2) (pa_cons pe_int pa_nil rfl) rfl)) (pa_cons (pe_cal C__law_plate hr (by decide) rfl (pa_cons (pv 2) (pa_cons pe_int pa_nil rfl) rfl)) (pa_cons (pe_cal C__law_grid hr (by decide) rfl (pa_cons (pv 2) (pa_cons (pv 3) (pa_cons (pv 4) pa_nil rfl) rfl) rfl)) pa_nil rfl) rfl) rfl)
         case gb =>
          refine' @L2.pss_cons _ _ _ _ _ ?gd ?ge
          case gd =>
           refine' @L2.ps_par _ _ (6) (7) _ _ _ _ _ _ _ _ _ _ _ rfl nd rfl rfl (by decide) rfl rfl ?gf rfl (by rfl)
           case gf =>
            refine' @L2.pa_cons _ _ _ _ _ ?gg (pa_cons (pe_callB (call_reprD hr) rfl T.b_repr bb_repr (pa_cons (pv 5) pa_nil rfl)) pa_nil rfl) rfl
            case gg =>
             refine' @L2.pe_bm _ _ _ _ _ _ _ _ _ _ _ _ PySem.F.plainAttrs_str PySem.F.slot_str_join PySem.F.type_str_join mt_join pe_str (pa_cons (pe_cal C__law_plate_rows hr (by decide) rfl (pa_cons (pv 5) pa_nil rfl)) pa_nil rfl) (by rfl) (by rfl) (by rfl) (by rfl) (by rfl)
          case ge =>
           refine' @L2.pss_cons _ _ _ _ _ ?gh ?gi
           case gh =>
            refine' @L2.ps_for _ _ _ _ _ _ _ _ PassesOwn.never rfl ?gj (pg_name (i:=8) nd rfl (Or.inl rfl)) ?gk (by intro _ ; rfl)
            case gj =>
             refine' @L2.pi_range1 _ _ _ _ _ _ rfl T.b_range (pa_cons pe_int pa_nil rfl) (by rfl)
            case gk =>
             refine' @L2.pss_one _ _ _ ?gl
             case gl =>
              refine' @L2.ps_if _ _ _ _ _ _ _ _ ?gm (pss_one (ps_ret pe_bl)) pss_nil
              case gm =>
               refine' @L2.PW.pt _ _ _ ?gn
               case gn =>
                refine' @L2.pw_or _ _ _ _ _ _ _ (pt_cmpR op_ne (pe_cal C_plate_text hr (by decide) rfl (pa_cons (pv 5) pa_nil rfl)) (pv 6) (nomark _)) ?go
                case go =>
                 refine' @L2.pw_or _ _ _ _ _ _ _ (pt_cmpR op_ne (pe_callB (call_reprD hr) rfl T.b_repr bb_repr (pa_cons (pe_cal C_read_plate hr (by decide) rfl (pa_cons (pv 6) pa_nil rfl)) pa_nil rfl)) (pv 7) (nomark _)) ?gp
                 case gp =>
                  refine' @L2.pw_or1 _ _ _ _ (pt_cmpR op_ne (pe_callB (call_reprD hr) rfl T.b_repr bb_repr (pa_cons (pv 5) pa_nil rfl)) (pv 7) (nomark _))
           case gi =>
            refine' @L2.pss_one _ _ _ ?gq
            case gq =>
             refine' @L2.ps_if _ _ _ _ _ _ _ _ ?gr (pss_one (ps_ret pe_bl)) pss_nil
             case gr =>
              refine' @L2.PW.pt _ _ _ ?gs
              case gs =>
               refine' @L2.pw_or _ _ _ _ _ _ _ ?gt ?gu
               case gt =>
                refine' @L2.pt_cmpR _ _ _ _ _ _ _ _ op_ne (pe_cal1 U_plate_text hr (by decide) rfl (pk_cons (pv 5) pk_nil)) (pv 6) (nomark _)
               case gu =>
                refine' @L2.pw_or1 _ _ _ _ ?gv
                case gv =>
                 refine' @L2.pt_cmpR _ _ _ _ _ _ _ _ op_ne ?gw (pv 7) (nomark _)
                 case gw =>
                  refine' @L2.pe_callB _ _ _ _ _ _ _ _ _ (call_reprD hr) rfl T.b_repr bb_repr ?gx (by decide) (by decide) (by rfl) (by rfl)
                  case gx =>
                   refine' @L2.pa_cons _ _ _ _ _ (pe_cal1 U_read_plate hr (by decide) rfl (pk_cons (pv 6) pk_nil)) pa_nil rfl
    case g2 =>
     refine' @L2.pss_cons _ _ _ _ _ ?gy (pss_one (ps_ret (pe_cmpR op_eq (pe_cal C_plate_text hr (by decide) rfl (pa_cons (pv 9) pa_nil rfl)) pe_str (nomark _))))
     case gy =>
      refine' @L2.ps_set _ _ (9) _ _ _ _ nd rfl (Or.inl rfl) ?gz (by rfl) (by first | exact Or.inl rfl | exact Or.inr rfl | assumption)
      case gz =>
       refine' @L2.pe_tup _ _ _ _ _ ?g10
       case g10 =>
        refine' @L2.pa_cons _ _ _ _ _ (pe_tup (pa_cons (pe_tup (pa_cons pe_int (pa_cons pe_int pa_nil rfl) rfl)) (pa_cons (pe_tup (pa_cons pe_int (pa_cons pe_int pa_nil rfl) rfl)) (pa_cons (pe_tup (pa_cons pe_int (pa_cons (pe_un un_neg pe_int) pa_nil rfl) rfl)) pa_nil rfl) rfl) rfl)) (pa_cons (pe_tup (pa_cons (pe_tup (pa_cons pe_int (pa_cons pe_int (pa_cons pe_int pa_nil rfl) rfl) rfl)) pa_nil rfl)) (pa_cons (pe_tup (pa_cons pe_int pa_nil rfl)) (pa_cons (pe_tup (pa_cons pe_int (pa_cons pe_int pa_nil rfl) rfl)) pa_nil rfl) rfl) rfl) rfl
   case read =>
    refine ⟨_,rfl,a,_,rfl,.inl hS,_,_,rfl,_,_,rfl,_,rfl,?_,?_,?_⟩
    · split <;> (try split) <;> omega
    · rw [List.length_map]
      split <;> (try split) <;> omega
    refine for_range (fun i σ H2=>∃ v1 v2 v3 v4 v5 v6 v7 v8 v9:Option V,σ=[some (.ref a),v1,v2,v3,v4,v5,v6,v7,v8,v9]∧Same H H2) ⟨_,_,_,_,_,_,_,_,_,rfl,Same.refl H⟩ ?_ ?_
    rotate_left
    · rintro σ H9 ⟨v1,v2,v3,v4,v5,v6,v7,v8,v9,rfl,s9⟩
      refine ⟨by show 2≤sizeLine; decide,?_⟩
      intro pe1 ne1
      generalize hHe1:upd H9 pe1 _=He1
      have Se1:Same H9 He1:=by (rw [← hHe1]; exact Same.new ne1)
      have Ae1:=(congrFun hHe1 pe1).symm
      rw [upd_same] at Ae1
      clear hHe1
      refine ⟨by show 2≤sizeLine; decide,?_⟩
      intro pe2 ne2
      generalize hHe2:upd He1 pe2 _=He2
      have Se2:Same He1 He2:=by (rw [← hHe2]; exact Same.new ne2)
      have Ae2:=(congrFun hHe2 pe2).symm
      rw [upd_same] at Ae2
      clear hHe2
      refine ⟨_,rfl,by show 2≤sizeLine; decide,?_⟩
      intro pe3 ne3
      generalize hHe3:upd He2 pe3 _=He3
      have Se3:Same He2 He3:=by (rw [← hHe3]; exact Same.new ne3)
      have Ae3:=(congrFun hHe3 pe3).symm
      rw [upd_same] at Ae3
      clear hHe3
      refine ⟨by show 3≤sizeLine; decide,?_⟩
      intro pe4 ne4
      generalize hHe4:upd He3 pe4 _=He4
      have Se4:Same He3 He4:=by (rw [← hHe4]; exact Same.new ne4)
      have Ae4:=(congrFun hHe4 pe4).symm
      rw [upd_same] at Ae4
      clear hHe4
      refine ⟨by show 3≤sizeLine; decide,?_⟩
      intro pe5 ne5
      generalize hHe5:upd He4 pe5 _=He5
      have Se5:Same He4 He5:=by (rw [← hHe5]; exact Same.new ne5)
      have Ae5:=(congrFun hHe5 pe5).symm
      rw [upd_same] at Ae5
      clear hHe5
      refine ⟨by show 1≤sizeLine; decide,?_⟩
      intro pe6 ne6
      generalize hHe6:upd He5 pe6 _=He6
      have Se6:Same He5 He6:=by (rw [← hHe6]; exact Same.new ne6)
      have Ae6:=(congrFun hHe6 pe6).symm
      rw [upd_same] at Ae6
      clear hHe6
      refine ⟨by show 1≤sizeLine; decide,?_⟩
      intro pe7 ne7
      generalize hHe7:upd He6 pe7 _=He7
      have Se7:Same He6 He7:=by (rw [← hHe7]; exact Same.new ne7)
      have Ae7:=(congrFun hHe7 pe7).symm
      rw [upd_same] at Ae7
      clear hHe7
      refine ⟨by show 2≤sizeLine; decide,?_⟩
      intro pe8 ne8
      generalize hHe8:upd He7 pe8 _=He8
      have Se8:Same He7 He8:=by (rw [← hHe8]; exact Same.new ne8)
      have Ae8:=(congrFun hHe8 pe8).symm
      rw [upd_same] at Ae8
      clear hHe8
      refine ⟨by show 4≤sizeLine; decide,?_⟩
      intro pe9 ne9
      generalize hHe9:upd He8 pe9 _=He9
      have Se9:Same He8 He9:=by (rw [← hHe9]; exact Same.new ne9)
      have Ae9:=(congrFun hHe9 pe9).symm
      rw [upd_same] at Ae9
      clear hHe9
      have hP:IsPl He9 (.ref pe9) oneP:=⟨pe9,_,_,_,_,rfl,Ae9,⟨pe4,_,rfl,(Se9 _ _ (Se8 _ _ (Se7 _ _ (Se6 _ _ (Se5 _ _ Ae4))))),.cons ⟨pe1,rfl,(Se9 _ _ (Se8 _ _ (Se7 _ _ (Se6 _ _ (Se5 _ _ (Se4 _ _ (Se3 _ _ (Se2 _ _ Ae1))))))))⟩ (.cons ⟨pe2,rfl,(Se9 _ _ (Se8 _ _ (Se7 _ _ (Se6 _ _ (Se5 _ _ (Se4 _ _ (Se3 _ _ Ae2)))))))⟩ (.cons ⟨pe3,rfl,(Se9 _ _ (Se8 _ _ (Se7 _ _ (Se6 _ _ (Se5 _ _ (Se4 _ _ Ae3))))))⟩ .nil))⟩,⟨pe6,_,rfl,(Se9 _ _ (Se8 _ _ (Se7 _ _ Ae6))),.cons ⟨pe5,rfl,(Se9 _ _ (Se8 _ _ (Se7 _ _ (Se6 _ _ Ae5))))⟩ .nil⟩,⟨pe7,rfl,(Se9 _ _ (Se8 _ _ Ae7))⟩,⟨pe8,rfl,(Se9 _ _ Ae8)⟩⟩
      refine ⟨_,rfl,_,oneP,rfl,hP,one_ok,fun H10 s10=>⟨rfl,?_⟩⟩
      rw [one_txt]
      exact q H10
    rintro i σ H2 _ ⟨v1,v2,v3,v4,v5,v6,v7,v8,v9,rfl,s2⟩
    refine ⟨_,rfl,_,rfl,a,ns,i,by rw [Int.zero_add],s2.seq hS,fun l H3 nl s3 st3=>?_⟩
    refine ⟨_,rfl,l,4,rfl,st3,by decide,lt8999 (by decide),fun r1 H4 r10 r11 k4 st4=>⟨_,_,rfl,rfl,?_⟩⟩
    refine ⟨_,rfl,l,3,rfl,st4,by decide,lt8999 (by decide),fun r2 H5 r20 r21 k5 st5=>⟨_,_,rfl,rfl,_,_,rfl,?_⟩⟩
    obtain ⟨w',rfl⟩:∃ w':Nat,r1=w':=⟨r1.toNat,by omega⟩
    obtain ⟨h'',rfl⟩:∃ h'':Nat,r2=h'':=⟨r2.toNat,by omega⟩
    refine ⟨_,rfl,l,rfl,st5,fun H6 x1 P1 k6 st6 hP1 ok1 _=>?_⟩
    refine ⟨_,rfl,l,rfl,st6,fun H7 x2 P2 k7 st7 hP2 ok2 _=>?_⟩
    refine ⟨_,rfl,_,rfl,_,rfl,l,1+w',1+h'',by (rw [show (((1+w':Nat)):Int)=1+(w':Int) by omega,show (((1+h'':Nat)):Int)=1+(h'':Int) by omega]),st7,by omega,by omega,by omega,by omega,fun H8 x3 P3 k8 st8 hP3 ok3=>?_⟩
    refine ⟨by show 3≤sizeLine; decide,fun LL nL=>?_⟩
    have t78:=tkS k8 st7
    have t68:=(tkS k7 st6).trans t78
    have K28:Same H H8:=fun b o e=>by
     have e2:=s2 _ _ e
     have nb:=ne_of_none e2 nl
     exact k8 _ _ nb (k7 _ _ nb (k6 _ _ nb (k5 _ _ nb (k4 _ _ nb (s3 _ _ e2)))))
    have S9:Same H8 (upd H8 LL (.lst [x1,x2,x3])):=Same.new nL
    have e9:upd H8 LL (.lst [x1,x2,x3]) LL=some (.lst [x1,x2,x3]):=upd_same
    have TP:∀ z∈([x1,x2,x3]:List V),∃ P',IsPl (upd H8 LL (.lst [x1,x2,x3])) z P'∧PlOk P':=by
     intro z hz
     simp only [List.mem_cons,List.not_mem_nil,or_false] at hz
     rcases hz with rfl | rfl | rfl
     · exact ⟨P1,(hP1.tk t68).tk S9.tk,ok1⟩
     · exact ⟨P2,(hP2.tk t78).tk S9.tk,ok2⟩
     · exact ⟨P3,hP3.tk S9.tk,ok3⟩
    generalize ([x1,x2,x3]:List V)=XS at TP S9 e9 ⊢
    generalize upd H8 LL (.lst XS)=H9 at TP S9 e9 ⊢
    refine ⟨LL,rfl,⟨_,SqL.of e9⟩,?_⟩
    refine for_list (xs:=XS) (fun m σ H10=>∃ w5 w6 w7 w8:Option V,σ=[some (.ref a),some (.int (0+i)),some (.ref l),some (.int (1+(w':Int))),some (.int (1+(h'':Int))),w5,w6,w7,w8,v9]∧Same H9 H10) ⟨_,_,_,_,rfl,Same.refl _⟩ ?_ ?_ ?_
    · rintro m σ H10 _ ⟨_,_,_,_,_,s10⟩
      exact SqL.of (s10 _ _ e9)
    · rintro m z σ H10 hz ⟨w5,w6,w7,w8,rfl,s10⟩
      obtain ⟨P',hP0,ok⟩:=TP z (List.mem_of_getElem? hz)
      have hP:=hP0.tk s10.tk
      refine ⟨rfl,_,rfl,z,P',rfl,hP,ok,fun H11 r s11 e11 n11=>?_⟩
      refine ⟨_,r,rowsOf P',rfl,rfl,SqL.of e11,joinOk_rows ok,?_⟩
      rw [join_nl_eq,s_nl]
      refine ⟨_,rfl,NF,64,_,_,rfl,dtPl (hP.tk s11.tk) ok (by decide),by decide,Nat.le_trans (depthPl _) (by decide),Nat.le_trans (nzPl ok) (by decide),?_⟩
      refine ⟨_,_,rfl,?_⟩
      have step:True:=trivial
      refine ⟨_,rfl,by decide,by decide,?_⟩
      refine for_range (fun m σ H12=>∃ w8:Option V,σ=[some (.ref a),some (.int (0+i)),some (.ref l),some (.int (1+(w':Int))),some (.int (1+(h'':Int))),some z,some (.str (txtOf P')),some (.str (dPl P').shown),w8,v9]∧Same H10 H12) ⟨_,rfl,s11⟩ ?_ ?_
      · rintro m' σ H12 _ ⟨w8',rfl,s12⟩
        refine ⟨_,rfl,z,P',rfl,hP.tk s12.tk,ok,fun H13 s13=>⟨_,rfl,rfl,_,rfl,?_⟩⟩
        rw [decide_eq_true rfl]
        refine iteF ?_
        refine ⟨_,rfl,P',rfl,ok,fun H14 rr s14 h14=>?_⟩
        refine ⟨NF,64,_,_,rfl,dtPl h14 ok (by decide),by decide,Nat.le_trans (depthPl _) (by decide),Nat.le_trans (nzPl ok) (by decide),_,rfl,rfl,_,rfl,?_⟩
        rw [decide_eq_true rfl]
        refine iteF ?_
        have s1214:=s12.trans (s13.trans s14)
        refine ⟨_,rfl,NF,64,_,_,rfl,dtPl (hP.tk s1214.tk) ok (by decide),by decide,Nat.le_trans (depthPl _) (by decide),Nat.le_trans (nzPl ok) (by decide),_,rfl,rfl,_,rfl,?_⟩
        rw [decide_eq_true rfl]
        refine iteF ?_
        exact ⟨_,rfl,s1214⟩
      rintro σ H12 ⟨w8',rfl,s12⟩
      refine ⟨_,rfl,_,rfl,z,P',rfl,hP.tk s12.tk,ok,fun H13 s13=>⟨_,rfl,rfl,_,rfl,?_⟩⟩
      rw [decide_eq_true rfl]
      refine iteF ?_
      refine ⟨_,rfl,_,rfl,P',rfl,ok,fun H14 rr s14 h14=>?_⟩
      refine ⟨NF,64,_,_,rfl,dtPl h14 ok (by decide),by decide,Nat.le_trans (depthPl _) (by decide),Nat.le_trans (nzPl ok) (by decide),_,rfl,rfl,_,rfl,?_⟩
      rw [decide_eq_true rfl]
      refine iteF ?_
      exact ⟨_,_,_,_,rfl,s10.trans (s12.trans (s13.trans s14))⟩
    rintro σ H10 ⟨w5,w6,w7,w8,rfl,s10⟩
    exact ⟨_,_,_,_,_,_,_,_,_,rfl,K28.trans (S9.trans s10)⟩
end
structure Lk (K:PySem.W.Frag) (b:Str) (st:Stmt) (f:Addr):Prop where
 fn:∃ fd,Fun K b b st f fd
 a:PySem.W.nsIn K mainGlobals b=some (some (.ref f))
 k:PySem.W.keepIn K (.ref f)=true
theorem lk_mk {K:PySem.W.Frag} {b:Str} {st:Stmt} {f:Addr} {od an:Option Addr} {sl:Array (Option Value)} {oc kV dc pm cd ct:Value} (a:PySem.W.nsIn K mainGlobals b=some (some (.ref f))) (l:K.lookup f=some ⟨oc,od,.func (PySem.W.fnOf b b (defArgs st) (defBody st) (defScope st) .none kV dc pm an cd ct),sl⟩) (c:PySem.W.codeIn K cd b=true) (k:PySem.W.keepIn K (.ref f)=true):Lk K b st f:=⟨⟨_,fun_mk (st:=st) l c k⟩,a,k⟩
theorem Lk.cal {P:Program} {w:World} {K:PySem.W.Frag} {h:Heap} {mg:Str→Option Value} {base:Heap} {b:Str} {st:Stmt} {f:Addr} {k:Nat} {ps:List Str} {sp:Sp} (L:Lk K b st f) (X:K.In h) (G:h.Ns mainGlobals mg) (ok:∀ {fd},Fun K b b st f fd→FnOk P w K mg base CX0 k f fd ps sp) (hb:∀ (kV doc pm:Value) (an:Option Addr) (cdv ct:Value) (us:List Value),us.length=ps.length→bindArgs (PySem.W.fnOf b b (defArgs st) (defBody st) (defScope st) .none kV doc pm an cdv ct) ⟨us,[]⟩=pure (ps.zip us)):Cal P w K mg base b k ps sp :=
 let ⟨_,F⟩:=L.fn
 ⟨f,_,ok F,PySem.W.mg_of X G L.a,L.k,F.binds (ps:=ps) hb⟩
theorem ln1 {P:List Value→Prop} (h:∀ x0,P [x0]):∀ us:List Value,us.length=1→P us:=fun us e=>match us,e with | [x0],_=>h x0
theorem ln2 {P:List Value→Prop} (h:∀ x0 x1,P [x0,x1]):∀ us:List Value,us.length=2→P us:=fun us e=>match us,e with | [x0,x1],_=>h x0 x1
theorem ln3 {P:List Value→Prop} (h:∀ x0 x1 x2,P [x0,x1,x2]):∀ us:List Value,us.length=3→P us:=fun us e=>match us,e with | [x0,x1,x2],_=>h x0 x1 x2
theorem all_mk {l:PySem.W.OpenLaw} {w:World} {K:PySem.W.Frag} {h:Heap} {mg:Str→Option Value} {fa:Addr} (X:K.In h) (G:h.Ns mainGlobals mg) (hfa:mg "law" = some (.ref fa))
 {f_0:Addr} (h_0:Lk K "is_whole" s_is_whole f_0)
 {f_1:Addr} (h_1:Lk K "is_between" s_is_between f_1)
 {f_2:Addr} (h_2:Lk K "is_row" s_is_row f_2)
 {f_3:Addr} (h_3:Lk K "are_rising" s_are_risingI f_3)
 {f_4:Addr} (h_4:Lk K "is_corner" s_is_corner f_4)
 {f_5:Addr} (h_5:Lk K "are_corners" s_are_corners f_5)
 {f_6:Addr} (h_6:Lk K "turn" s_turn f_6)
 {f_7:Addr} (h_7:Lk K "turn_of" s_turn_of f_7)
 {f_8:Addr} (h_8:Lk K "is_piece" s_is_piece f_8)
 {f_9:Addr} (h_9:Lk K "are_pieces" s_are_pieces f_9)
 {f_10:Addr} (h_10:Lk K "are_thicks" s_are_thicks f_10)
 {f_11:Addr} (h_11:Lk K "is_stuff" s_is_stuff f_11)
 {f_12:Addr} (h_12:Lk K "triangle" s_triangle f_12)
 {f_13:Addr} (h_13:Lk K "edges" s_edges f_13)
 {f_14:Addr} (h_14:Lk K "lies_in" s_lies_in f_14)
 {f_15:Addr} (h_15:Lk K "parts_from" s_parts_from f_15)
 {f_16:Addr} (h_16:Lk K "are_apart" s_are_apart f_16)
 {f_17:Addr} (h_17:Lk K "every_corner_is_used" s_every_corner_is_used f_17)
 {f_18:Addr} (h_18:Lk K "no_strange_corner" s_no_strange_corner f_18)
 {f_19:Addr} (h_19:Lk K "fit_together" s_fit_together f_19)
 {f_20:Addr} (h_20:Lk K "is_plate" s_is_plate f_20)
 {f_21:Addr} (h_21:Lk K "look_at_plate" s_look_at_plate f_21)
 {f_22:Addr} (h_22:Lk K "number_of" s_number_of f_22)
 {f_23:Addr} (h_23:Lk K "whole_in" s_whole_in f_23)
 {f_24:Addr} (h_24:Lk K "look_at_text" s_look_at_text f_24)
 {f_25:Addr} (h_25:Lk K "plate_rows" s_plate_rows f_25)
 {f_26:Addr} (h_26:Lk K "plate_text" s_plate_text f_26)
 {f_27:Addr} (h_27:Lk K "may_be_piece" s_may_be_piece f_27)
 {f_28:Addr} (h_28:Lk K "may_follow" s_may_follow f_28)
 {f_29:Addr} (h_29:Lk K "read_plate" s_read_plate f_29)
 {f_30:Addr} (h_30:Lk K "_law_cell_at" s__law_cell_at f_30)
 {f_31:Addr} (h_31:Lk K "_law_state" s__law_state f_31)
 {f_32:Addr} (h_32:Lk K "_law_choice" s__law_choice f_32)
 {f_33:Addr} (h_33:Lk K "_law_order" s__law_order f_33)
 {f_34:Addr} (h_34:Lk K "_law_shapes" s__law_shapes f_34)
 {f_35:Addr} (h_35:Lk K "_law_plate" s__law_plate f_35)
 {f_36:Addr} (h_36:Lk K "_law_plate_rows" s__law_plate_rows f_36)
 {f_37:Addr} (h_37:Lk K "_law_grid" s__law_grid f_37)
 {f_law:Addr} {od_law an_law:Option Addr} {sl_law:Array (Option Value)} {oc_law kV_law dc_law pm_law cd_law ct_law:Value}
 (a_law:PySem.W.nsIn K mainGlobals "law" = some (some (.ref f_law)))
 (l_law:K.lookup f_law=some ⟨oc_law,od_law,.func (PySem.W.fnOf "law" "law" (defArgs s_law) (defBody s_law) (defScope s_law) .none kV_law dc_law pm_law an_law cd_law ct_law),sl_law⟩)
 (c_law:PySem.W.codeIn K cd_law "law" = true) (k_law:PySem.W.keepIn K (.ref f_law)=true)
 (z_all:PySem.W.nsIn K mainGlobals "all" = some none)
 (z_any:PySem.W.nsIn K mainGlobals "any" = some none)
 (z_bool:PySem.W.nsIn K mainGlobals "bool" = some none)
 (z_enumerate:PySem.W.nsIn K mainGlobals "enumerate" = some none)
 (z_int:PySem.W.nsIn K mainGlobals "int" = some none)
 (z_isinstance:PySem.W.nsIn K mainGlobals "isinstance" = some none)
 (z_len:PySem.W.nsIn K mainGlobals "len" = some none)
 (z_list:PySem.W.nsIn K mainGlobals "list" = some none)
 (z_max:PySem.W.nsIn K mainGlobals "max" = some none)
 (z_min:PySem.W.nsIn K mainGlobals "min" = some none)
 (z_range:PySem.W.nsIn K mainGlobals "range" = some none)
 (z_repr:PySem.W.nsIn K mainGlobals "repr" = some none)
 (z_set:PySem.W.nsIn K mainGlobals "set" = some none)
 (z_sorted:PySem.W.nsIn K mainGlobals "sorted" = some none)
 (z_str:PySem.W.nsIn K mainGlobals "str" = some none)
 (z_tuple:PySem.W.nsIn K mainGlobals "tuple" = some none)
 (z_zip:PySem.W.nsIn K mainGlobals "zip" = some none)
 {tn_AT_ONCE:Tok} (n_AT_ONCE:PySem.W.nsIn K mainGlobals "AT_ONCE" = some (some (.int 60 tn_AT_ONCE)))
 {tn_FARTHEST:Tok} (n_FARTHEST:PySem.W.nsIn K mainGlobals "FARTHEST" = some (some (.int 100 tn_FARTHEST)))
 {tn_FEWEST_CORNERS:Tok} (n_FEWEST_CORNERS:PySem.W.nsIn K mainGlobals "FEWEST_CORNERS" = some (some (.int 3 tn_FEWEST_CORNERS)))
 {tn_MOST_CORNERS:Tok} (n_MOST_CORNERS:PySem.W.nsIn K mainGlobals "MOST_CORNERS" = some (some (.int 30 tn_MOST_CORNERS)))
 {tn_MOST_PIECES:Tok} (n_MOST_PIECES:PySem.W.nsIn K mainGlobals "MOST_PIECES" = some (some (.int 40 tn_MOST_PIECES)))
 {tn_MOST_STUFF:Tok} (n_MOST_STUFF:PySem.W.nsIn K mainGlobals "MOST_STUFF" = some (some (.int 9 tn_MOST_STUFF)))
 {tn_THICKEST:Tok} (n_THICKEST:PySem.W.nsIn K mainGlobals "THICKEST" = some (some (.int 9 tn_THICKEST)))
 : ∃ fd:FuncData,(∀ (s:Shared) (v:Value),BindsTo s fd ⟨[v],[]⟩ [("_law_script",v)])∧∀ base:Heap,K.In base→base.Ns mainGlobals mg→FnOk l.prog w K mg base CX0 9 fa fd ["_law_script"] (sp_law K):=by
 have e:=hfa.symm.trans (PySem.W.mg_of X G a_law)
 cases e
 have T:Bt mg:=⟨PySem.W.mg_none_of X G z_all,PySem.W.mg_none_of X G z_any,PySem.W.mg_none_of X G z_bool,PySem.W.mg_none_of X G z_enumerate,PySem.W.mg_none_of X G z_int,PySem.W.mg_none_of X G z_isinstance,PySem.W.mg_none_of X G z_len,PySem.W.mg_none_of X G z_list,PySem.W.mg_none_of X G z_max,PySem.W.mg_none_of X G z_min,PySem.W.mg_none_of X G z_range,PySem.W.mg_none_of X G z_repr,PySem.W.mg_none_of X G z_set,PySem.W.mg_none_of X G z_sorted,PySem.W.mg_none_of X G z_str,PySem.W.mg_none_of X G z_tuple,PySem.W.mg_none_of X G z_zip,⟨_,PySem.W.mg_of X G n_AT_ONCE⟩,⟨_,PySem.W.mg_of X G n_FARTHEST⟩,⟨_,PySem.W.mg_of X G n_FEWEST_CORNERS⟩,⟨_,PySem.W.mg_of X G n_MOST_CORNERS⟩,⟨_,PySem.W.mg_of X G n_MOST_PIECES⟩,⟨_,PySem.W.mg_of X G n_MOST_STUFF⟩,⟨_,PySem.W.mg_of X G n_THICKEST⟩⟩
 obtain ⟨_,F_26⟩:=h_26.fn
 obtain ⟨_,F_29⟩:=h_29.fn
 have F_law:=fun_mk (st:=s_law) l_law c_law k_law
 refine ⟨PySem.W.fnOf "law" "law" (defArgs s_law) (defBody s_law) (defScope s_law) .none kV_law dc_law pm_law an_law cd_law ct_law,fun s v=>.of_eq rfl,fun base _ _=>?_⟩
 have C_0:Cal l.prog w K mg base "is_whole" 1 ["thing"] sp_is_whole:=h_0.cal X G (fun F=>ok_is_whole T F) fun _ _ _ _ _ _=>ln1 fun _=>rfl
 have C_1:Cal l.prog w K mg base "is_between" 2 ["thing","least","most"] sp_between:=h_1.cal X G (fun F=>ok_is_between T F C_0) fun _ _ _ _ _ _=>ln3 fun _ _ _=>rfl
 have C_2:Cal l.prog w K mg base "is_row" 1 ["thing","fewest","most"] sp_row:=h_2.cal X G (fun F=>ok_is_row T F) fun _ _ _ _ _ _=>ln3 fun _ _ _=>rfl
 have C_x3:Cal l.prog w K mg base "are_rising" 1 ["things"] sp_risingI:=h_3.cal X G (fun F=>ok_are_risingI T F) fun _ _ _ _ _ _=>ln1 fun _=>rfl
 have C_x4:Cal l.prog w K mg base "are_rising" 1 ["things"] sp_risingT:=h_3.cal X G (fun F=>ok_are_risingT T F) fun _ _ _ _ _ _=>ln1 fun _=>rfl
 have C_4:Cal l.prog w K mg base "is_corner" 3 ["thing"] sp_corner:=h_4.cal X G (fun F=>ok_is_corner T F C_1 C_2) fun _ _ _ _ _ _=>ln1 fun _=>rfl
 have C_5:Cal l.prog w K mg base "are_corners" 4 ["thing"] sp_corners:=h_5.cal X G (fun F=>ok_are_corners T F C_4 C_2) fun _ _ _ _ _ _=>ln1 fun _=>rfl
 have C_6:Cal l.prog w K mg base "turn" 1 ["first","second","third"] sp_turn:=h_6.cal X G (fun F=>ok_turn T F) fun _ _ _ _ _ _=>ln3 fun _ _ _=>rfl
 have C_7:Cal l.prog w K mg base "turn_of" 2 ["corners","piece"] sp_turnOf:=h_7.cal X G (fun F=>ok_turn_of T F C_6) fun _ _ _ _ _ _=>ln2 fun _ _=>rfl
 have C_8:Cal l.prog w K mg base "is_piece" 3 ["corners","thing"] sp_isPiece:=h_8.cal X G (fun F=>ok_is_piece T F C_x3 C_1 C_2 C_7) fun _ _ _ _ _ _=>ln2 fun _ _=>rfl
 have C_9:Cal l.prog w K mg base "are_pieces" 4 ["corners","thing"] sp_pieces:=h_9.cal X G (fun F=>ok_are_pieces T F C_x4 C_8 C_2) fun _ _ _ _ _ _=>ln2 fun _ _=>rfl
 have C_10:Cal l.prog w K mg base "are_thicks" 3 ["pieces","thing"] sp_thicks:=h_10.cal X G (fun F=>ok_are_thicks T F C_1 C_2) fun _ _ _ _ _ _=>ln2 fun _ _=>rfl
 have C_11:Cal l.prog w K mg base "is_stuff" 3 ["thing"] sp_stuff:=h_11.cal X G (fun F=>ok_is_stuff T F C_1 C_2) fun _ _ _ _ _ _=>ln1 fun _=>rfl
 have C_12:Cal l.prog w K mg base "triangle" 2 ["corners","piece"] sp_tri:=h_12.cal X G (fun F=>ok_triangle T F C_6) fun _ _ _ _ _ _=>ln2 fun _ _=>rfl
 have C_13:Cal l.prog w K mg base "edges" 1 ["points"] sp_edges:=h_13.cal X G (fun F=>ok_edges T F) fun _ _ _ _ _ _=>ln1 fun _=>rfl
 have C_14:Cal l.prog w K mg base "lies_in" 2 ["point","points"] sp_liesIn:=h_14.cal X G (fun F=>ok_lies_in T F C_13 C_6) fun _ _ _ _ _ _=>ln2 fun _ _=>rfl
 have C_15:Cal l.prog w K mg base "parts_from" 2 ["points","others"] sp_partsFrom:=h_15.cal X G (fun F=>ok_parts_from T F C_13 C_6) fun _ _ _ _ _ _=>ln2 fun _ _=>rfl
 have C_16:Cal l.prog w K mg base "are_apart" 3 ["points","others"] sp_apart:=h_16.cal X G (fun F=>ok_are_apart T F C_15) fun _ _ _ _ _ _=>ln2 fun _ _=>rfl
 have C_17:Cal l.prog w K mg base "every_corner_is_used" 2 ["corners","pieces"] sp_used:=h_17.cal X G (fun F=>ok_every_corner_is_used T F) fun _ _ _ _ _ _=>ln2 fun _ _=>rfl
 have C_18:Cal l.prog w K mg base "no_strange_corner" 3 ["corners","piece","points"] sp_strange:=h_18.cal X G (fun F=>ok_no_strange_corner T F C_14) fun _ _ _ _ _ _=>ln3 fun _ _ _=>rfl
 have C_19:Cal l.prog w K mg base "fit_together" 4 ["corners","pieces"] sp_fit:=h_19.cal X G (fun F=>ok_fit_together T F C_16 C_18 C_12) fun _ _ _ _ _ _=>ln2 fun _ _=>rfl
 have C_20:Cal l.prog w K mg base "is_plate" 5 ["thing"] sp_isPlate:=h_20.cal X G (fun F=>ok_is_plate T F C_5 C_9 C_10 C_17 C_19 C_2 C_11) fun _ _ _ _ _ _=>ln1 fun _=>rfl
 have C_21:Cal l.prog w K mg base "look_at_plate" 6 ["plate"] sp_lookPlate:=h_21.cal X G (fun F=>ok_look_at_plate T F C_20) fun _ _ _ _ _ _=>ln1 fun _=>rfl
 have C_22:Cal l.prog w K mg base "number_of" 1 ["figures"] sp_numOf:=h_22.cal X G (fun F=>ok_number_of T F) fun _ _ _ _ _ _=>ln1 fun _=>rfl
 have C_23:Cal l.prog w K mg base "whole_in" 2 ["text"] sp_wholeIn:=h_23.cal X G (fun F=>ok_whole_in T F C_22) fun _ _ _ _ _ _=>ln1 fun _=>rfl
 have C_24:Cal l.prog w K mg base "look_at_text" 1 ["thing"] sp_lookTx:=h_24.cal X G (fun F=>ok_look_at_text T F) fun _ _ _ _ _ _=>ln1 fun _=>rfl
 have C_25:Cal l.prog w K mg base "plate_rows" 1 ["plate"] sp_plRows:=h_25.cal X G (fun F=>ok_plate_rows T F) fun _ _ _ _ _ _=>ln1 fun _=>rfl
 have U_26:Cal1 l.prog w K mg base "plate_text" 7 "plate" sp_plText:=⟨f_26,_,ok_plate_text T F_26 C_21 C_25,PySem.W.mg_of X G h_26.a,h_26.k,fun s u _=>by (obtain ⟨_,_,_,_,_,_,_,_,_,e,_,_⟩:=F_26.ex; subst e; exact .of_eq rfl)⟩
 have C_26:Cal l.prog w K mg base "plate_text" 7 ["plate"] sp_plText:=h_26.cal X G (fun F=>ok_plate_text T F C_21 C_25) fun _ _ _ _ _ _=>ln1 fun _=>rfl
 have C_x28:Cal l.prog w K mg base "turn_of" 2 ["corners","piece"] sp_turnOfL:=h_7.cal X G (fun F=>ok_turn_ofL T F C_6) fun _ _ _ _ _ _=>ln2 fun _ _=>rfl
 have C_x29:Cal l.prog w K mg base "is_piece" 3 ["corners","thing"] sp_isPieceL:=h_8.cal X G (fun F=>ok_is_pieceL T F C_x3 C_1 C_2 C_x28) fun _ _ _ _ _ _=>ln2 fun _ _=>rfl
 have C_27:Cal l.prog w K mg base "may_be_piece" 4 ["found","numbers"] sp_mayP:=h_27.cal X G (fun F=>ok_may_be_piece T F C_1 C_x29) fun _ _ _ _ _ _=>ln2 fun _ _=>rfl
 have C_28:Cal l.prog w K mg base "may_follow" 5 ["found","word","numbers"] sp_follow:=h_28.cal X G (fun F=>ok_may_follow T F C_4 C_11 C_27) fun _ _ _ _ _ _=>ln3 fun _ _ _=>rfl
 have U_29:Cal1 l.prog w K mg base "read_plate" 6 "text" sp_readPl:=⟨f_29,_,ok_read_plate T F_29 C_20 C_24 C_28 C_23,PySem.W.mg_of X G h_29.a,h_29.k,fun s u _=>by (obtain ⟨_,_,_,_,_,_,_,_,_,e,_,_⟩:=F_29.ex; subst e; exact .of_eq rfl)⟩
 have C_29:Cal l.prog w K mg base "read_plate" 6 ["text"] sp_readPl:=h_29.cal X G (fun F=>ok_read_plate T F C_20 C_24 C_28 C_23) fun _ _ _ _ _ _=>ln1 fun _=>rfl
 have C_30:Cal l.prog w K mg base "_law_cell_at" 1 ["_law_script","_law_k"] (sp_cell K):=h_30.cal X G (fun F=>ok__law_cell_at T F) fun _ _ _ _ _ _=>ln2 fun _ _=>rfl
 have C_31:Cal l.prog w K mg base "_law_state" 2 ["_law_script","_law_k"] (sp_state K):=h_31.cal X G (fun F=>ok__law_state T F C_30) fun _ _ _ _ _ _=>ln2 fun _ _=>rfl
 have C_32:Cal l.prog w K mg base "_law_choice" 1 ["_law_state_here","_law_many"] sp_choice:=h_32.cal X G (fun F=>ok__law_choice T F) fun _ _ _ _ _ _=>ln2 fun _ _=>rfl
 have C_33:Cal l.prog w K mg base "_law_order" 2 ["_law_state_here","_law_many"] sp_order:=h_33.cal X G (fun F=>ok__law_order T F C_32) fun _ _ _ _ _ _=>ln2 fun _ _=>rfl
 have C_34:Cal l.prog w K mg base "_law_shapes" 1 [] sp_shapes:=h_34.cal X G (fun F=>ok__law_shapes T F) fun _ _ _ _ _ _=>fun us hl=>match us,hl with | [],_=>rfl
 have C_35:Cal l.prog w K mg base "_law_plate" 3 ["_law_state_here","_law_most"] sp_plate:=h_35.cal X G (fun F=>ok__law_plate T F C_32 C_33 C_34) fun _ _ _ _ _ _=>ln2 fun _ _=>rfl
 have C_36:Cal l.prog w K mg base "_law_plate_rows" 1 ["_law_plate_own"] sp_plRows:=h_36.cal X G (fun F=>ok__law_plate_rows T F) fun _ _ _ _ _ _=>ln1 fun _=>rfl
 have C_37:Cal l.prog w K mg base "_law_grid" 2 ["_law_state_here","_law_wide","_law_high"] sp_grid:=h_37.cal X G (fun F=>ok__law_grid T F C_32) fun _ _ _ _ _ _=>ln3 fun _ _ _=>rfl
 exact ok_law T F_law C_32 C_37 C_35 C_36 C_31 C_26 C_29 U_26 U_29
theorem walk {l:PySem.W.OpenLaw} {q:Program} {loose:List Str} {XP:(Str→Option Value)→Heap→Prop} {YP:World→Heap→Prop} {d:DefRec} {K:Params→PySem.W.Frag} (hn:l.most=some 63) (hdf:d.params.defaults=[])
 (hY:∀ (w:World) (h:Heap),YP w h→(K w.params).In h)
 (F:∀ (w:World) (mg:Str→Option Value) (fa:Addr) (h:Heap),(K w.params).In h→h.Ns mainGlobals mg→mg d.name=some (.ref fa) →
   ∃ fd:FuncData,(∀ (s:Shared) (u:Value),BindsTo s fd ⟨[u],[]⟩ [("_law_script",u)])∧∀ base:Heap,(K w.params).In base→base.Ns mainGlobals mg→FnOk l.prog w (K w.params) mg base CX0 9 fa fd ["_law_script"] (sp_law (K w.params))) :
 PySem.W.WalkO q loose XP YP l.row.toRowW d [] (fun f vs=>PySem.call f vs) :=
 L2.walk_of (n:=63) (k:=9) (x := "_law_script") (CX:=fun _=>CX0) (sp:=fun w=>sp_law (K w.params)) hn (by decide) hdf ⟨rfl,by decide,by decide,rfl⟩ hY F (fun _ _ a ns hl _ hS=>⟨a,ns,rfl,hS,hl,fun _=>rfl⟩) fun _ _ _ _ _ z=>z
end My

namespace My
open PySem PySem.W PyProof.Rows L2
set_option maxRecDepth 1000000
set_option maxHeartbeats 0
def gE (P : Params) (n : Str) (t : Tok) (v : Value) : DictEntry := ⟨PySem.PyData.keyHash P n, .str n t, v⟩
def gR (P : Params) (n : Str) (t : Tok) (a : Addr) : DictEntry := gE P n t (.ref a)
def fO (n : Str) (i : Nat) (m : Str) (mt : Tok) (c : Addr) (dv : Value) : Obj := { cls := .type "function", data := .func (PySem.W.fnOf n n (defArgs (top i)) (defBody (top i)) (defScope (top i)) dv .none .none (.str m mt) none (.ref c) .none) }
def cO (n : Str) (a : Tok) (l k : Int) (r s : Addr) (u v : Value) (t : Nat) : Obj := { cls := .type "code", data := .fields (Array.mk [.str n a, .str n (a + 1), .str "/claim/cut.py" (a + 2), .int l 0, .int k 0, .int 0 0, .int 0 0, .int 3 0, .ref r, .bool true, .int 181 0, .ref (r + 1), .none, u, v, .ref s, .int t 0, .int l 0, .str "/claim/cut.py" (t + 1)]) }
def dR (n : Str) (i : Nat) (m : Str) (mt a : Tok) (l k : Int) (r : Addr) (t : Nat) : Frag := [(r + 6, fO n i m mt (r + 5) .none), (r + 5, cO n a l k r (r + 4) (.ref (r + 2)) (.ref (r + 3)) t)]
def dN (n : Str) (i : Nat) (m : Str) (mt a : Tok) (l k : Int) (r : Addr) (t : Nat) : Frag := [(r + 4, fO n i m mt (r + 3) .none), (r + 3, cO n a l k r (r + 2) .none .none t)]
def defPos (s : Stmt) : Pos := match s with | .FunctionDef _ _ _ _ _ _ _ _ _ p => p | _ => ⟨0, 0, 0, 0⟩
def m0 : Str := "platerest.quotients"
def m1 : Str := "platerest.plates"
def m2 : Str := "platerest.texts"
def m3 : Str := "law_platerest_k76_plates_as_texts"
noncomputable def kK (P : Params) : Frag := (3, { cls := .type "dict", data := (.dict #[gE P "__name__" 165 (.str "law_platerest_k76_plates_as_texts" 492),
gE P "__doc__" 166 (.none),
gE P "__package__" 167 (.none),
gE P "__loader__" 168 (.builtin "__main__.__loader__#opaque"),
gE P "__spec__" 169 (.none),
gR P "__annotations__" 170 6,
gR P "__builtins__" 171 4,
gE P "__file__" 173 (.str "/claim/cut.py" 172),
gE P "__cached__" 174 (.none),
gR P "PlateError" 206 24,
gR P "NoPlate" 222 37,
gR P "NoText" 247 56,
gR P "is_whole" 256 65,
gE P "FEWEST_CORNERS" 260 (.int 3 259),
gE P "MOST_CORNERS" 262 (.int 30 261),
gE P "FARTHEST" 264 (.int 100 263),
gE P "MOST_PIECES" 266 (.int 40 265),
gE P "THICKEST" 268 (.int 9 267),
gE P "MOST_STUFF" 270 (.int 9 269),
gR P "is_between" 279 72,
gR P "is_row" 288 79,
gR P "are_rising" 294 84,
gR P "is_corner" 300 89,
gR P "are_corners" 306 94,
gR P "turn" 316 101,
gR P "turn_of" 324 108,
gR P "is_piece" 330 113,
gR P "are_pieces" 336 118,
gR P "are_thicks" 342 123,
gR P "is_stuff" 349 130,
gR P "triangle" 355 135,
gR P "edges" 362 142,
gR P "lies_in" 368 147,
gR P "parts_from" 374 152,
gR P "are_apart" 382 159,
gR P "every_corner_is_used" 388 164,
gR P "no_strange_corner" 394 169,
gR P "fit_together" 400 174,
gR P "is_plate" 411 181,
gR P "look_at_plate" 418 188,
gE P "AT_ONCE" 422 (.int 60 421),
gE P "BASE" 426 (.int 1000000000000000000000000000000000000000000000000000000000000 425),
gR P "number_of" 436 195,
gR P "whole_in" 445 202,
gR P "look_at_text" 452 209,
gR P "plate_rows" 458 214,
gR P "plate_text" 465 221,
gR P "may_be_piece" 475 228,
gR P "may_follow" 485 235,
gR P "read_plate" 491 240,
gR P "_law_cell_at" 501 247,
gR P "_law_state" 510 254,
gR P "_law_choice" 520 261,
gR P "_law_order" 530 268,
gR P "_law_shapes" 544 275,
gR P "_law_plate" 550 280,
gR P "_law_plate_rows" 556 285,
gR P "_law_grid" 562 290,
gR P "law" 578 297] 59) }) :: (dR "is_whole" 5 m0 248 250 12 1 59 254 ++
dR "is_between" 13 m1 257 271 21 3 66 277 ++
dR "is_row" 14 m1 257 280 23 3 73 286 ++
dN "are_rising" 15 m1 257 289 25 1 80 292 ++
dN "is_corner" 16 m1 257 295 27 1 85 298 ++
dN "are_corners" 17 m1 257 301 29 1 90 304 ++
dR "turn" 18 m1 257 307 33 3 95 314 ++
dR "turn_of" 19 m1 257 317 36 2 102 322 ++
dN "is_piece" 20 m1 257 325 38 2 109 328 ++
dN "are_pieces" 21 m1 257 331 42 2 114 334 ++
dN "are_thicks" 22 m1 257 337 46 2 119 340 ++
dR "is_stuff" 23 m1 257 343 50 1 124 347 ++
dN "triangle" 24 m1 257 350 54 2 131 353 ++
dR "edges" 25 m1 257 356 59 1 136 360 ++
dN "lies_in" 26 m1 257 363 61 2 143 366 ++
dN "parts_from" 27 m1 257 369 63 2 148 372 ++
dR "are_apart" 28 m1 257 375 68 2 153 380 ++
dN "every_corner_is_used" 29 m1 257 383 70 2 160 386 ++
dN "no_strange_corner" 30 m1 257 389 72 3 165 392 ++
dN "fit_together" 31 m1 257 395 75 2 170 398 ++
dR "is_plate" 32 m1 257 401 83 1 175 409 ++
dR "look_at_plate" 33 m1 257 412 92 1 182 416 ++
dR "number_of" 37 m2 419 427 98 1 189 434 ++
dR "whole_in" 38 m2 419 437 104 1 196 443 ++
dR "look_at_text" 39 m2 419 446 112 1 203 450 ++
dN "plate_rows" 40 m2 419 453 115 1 210 456 ++
dR "plate_text" 41 m2 419 459 120 1 215 463 ++
dR "may_be_piece" 42 m2 419 466 123 2 222 473 ++
dR "may_follow" 43 m2 419 476 129 3 229 483 ++
dN "read_plate" 44 m2 419 486 136 1 236 489 ++
dR "_law_cell_at" 46 m3 492 494 153 2 241 499 ++
dR "_law_state" 47 m3 492 502 157 2 248 508 ++
dR "_law_choice" 48 m3 492 511 160 2 255 518 ++
dR "_law_order" 49 m3 492 521 170 2 262 528 ++
dR "_law_shapes" 50 m3 492 531 175 0 269 542 ++
dN "_law_plate" 51 m3 492 545 185 2 276 548 ++
dN "_law_plate_rows" 52 m3 492 551 198 1 281 554 ++
dN "_law_grid" 53 m3 492 557 205 3 286 560 ++
dR "law" 54 m3 492 563 217 1 291 576)
def kA : List Addr := [3, 65, 64, 72, 71, 79, 78, 84, 83, 89, 88, 94, 93, 101, 100, 108, 107, 113, 112, 118, 117, 123, 122, 130, 129, 135, 134, 142, 141, 147, 146, 152, 151, 159, 158, 164, 163, 169, 168, 174, 173, 181, 180, 188, 187, 195, 194, 202, 201, 209, 208, 214, 213, 221, 220, 228, 227, 235, 234, 240, 239, 247, 246, 254, 253, 261, 260, 268, 267, 275, 274, 280, 279, 285, 284, 290, 289, 297, 296]
theorem kAs : ∀ P, kA = (kK P).map (·.1) := fun _ => by kernel_rfl
theorem h3 : ∀ w os, (topK pw 3918 w os).map (fun s => kA.map s.abs.heap.get?) = some ((kK w.params).map fun p => some p.2) := fun w os => by
  unfold topK topStub
  rw [PySem.W.Fast.te4652649595001227023, PySem.W.Fast.te14364793385576792824, PySem.W.Fast.te17154629097778926822, PySem.W.Fast.te12822647523644345616]
  kernel_rfl
theorem left : LeftO pw qq ll (fun s => xlAt qq [] s && recOk (RowW.records (OpenRow.toRowW rr)) s) (Hook.obs (kHook kK kA kAs)) (Hook.val (kHook kK kA kAs)) 3918 :=
  left_of_run (T0 := bootT) (life := {}) (by kernel_rfl) (by kernel_rfl) (fun s => by kernel_rfl) boot_abs boot_size (run_of_parts (R := topK pw 3918) h1 h2 h3)
theorem lk4 {P : Params} {b : Str} {i : Nat} {f : Addr} (c : Addr) (m : Str) (mt : Tok) (h : ((kK P).lookup f, PySem.W.nsIn (kK P) mainGlobals b, PySem.W.codeIn (kK P) (.ref c) b, PySem.W.keepIn (kK P) (.ref f)) = (some (fO b i m mt c .none), some (some (.ref f)), true, true)) : Lk (kK P) b (top i) f := lk_mk (Prod.mk.inj (Prod.mk.inj h).2).1 (Prod.mk.inj h).1 (Prod.mk.inj (Prod.mk.inj (Prod.mk.inj h).2).2).1 (Prod.mk.inj (Prod.mk.inj (Prod.mk.inj h).2).2).2
theorem kl_law (P : Params) : (kK P).lookup 297 = some (fO "law" 54 m3 492 296 .none) := by kernel_rfl
theorem ka_law (P : Params) : PySem.W.nsIn (kK P) mainGlobals "law" = some (some (.ref 297)) := by kernel_rfl
theorem kc_law (P : Params) : PySem.W.codeIn (kK P) (.ref 296) "law" = true := by kernel_rfl
theorem kk_law (P : Params) : PySem.W.keepIn (kK P) (.ref 297) = true := by kernel_rfl
def dL : DefRec := ⟨"law", defArgs (top 54), defBody (top 54), defScope (top 54), defPos (top 54)⟩
theorem hdL : defOf qq (OpenRow.toRowW rr).name = some (dL, []) := by kernel_rfl
theorem hpL : (OpenRow.toRowW rr).prog.theDef (OpenRow.toRowW rr).name = some (dL.params, dL.body, dL.scope) := by kernel_rfl
theorem hkL : kwWritten? dL.params.kwonlyargs dL.params.kw_defaults = some [] := by kernel_rfl
theorem okL : (chainsOk qq && opensWell (OpenRow.toRowW rr).prog && (frees (OpenRow.toRowW rr) && (OpenRow.toRowW rr).within.isEmpty)) = true := by kernel_rfl
theorem dfL : dL.params.defaults = [] := by kernel_rfl
theorem wkL : WalkO qq ll (XL qq []) (Hook.says (kHook kK kA kAs)) (OpenRow.toRowW rr) dL [] (fun f vs => PySem.call f vs) := by
  refine My.walk (l := PySem.Challenge.rw_platerest_k76_plates_as_texts) rfl dfL (fun w h Y => PySem.W.kIn_of Y) ?F
  intro w mg fa h KX G hmg
  exact all_mk KX G hmg (lk4 (f:=65) 64 m0 248 (by kernel_rfl)) (lk4 (f:=72) 71 m1 257 (by kernel_rfl)) (lk4 (f:=79) 78 m1 257 (by kernel_rfl)) (lk4 (f:=84) 83 m1 257 (by kernel_rfl)) (lk4 (f:=89) 88 m1 257 (by kernel_rfl)) (lk4 (f:=94) 93 m1 257 (by kernel_rfl)) (lk4 (f:=101) 100 m1 257 (by kernel_rfl)) (lk4 (f:=108) 107 m1 257 (by kernel_rfl)) (lk4 (f:=113) 112 m1 257 (by kernel_rfl)) (lk4 (f:=118) 117 m1 257 (by kernel_rfl)) (lk4 (f:=123) 122 m1 257 (by kernel_rfl)) (lk4 (f:=130) 129 m1 257 (by kernel_rfl)) (lk4 (f:=135) 134 m1 257 (by kernel_rfl)) (lk4 (f:=142) 141 m1 257 (by kernel_rfl)) (lk4 (f:=147) 146 m1 257 (by kernel_rfl)) (lk4 (f:=152) 151 m1 257 (by kernel_rfl)) (lk4 (f:=159) 158 m1 257 (by kernel_rfl)) (lk4 (f:=164) 163 m1 257 (by kernel_rfl)) (lk4 (f:=169) 168 m1 257 (by kernel_rfl)) (lk4 (f:=174) 173 m1 257 (by kernel_rfl)) (lk4 (f:=181) 180 m1 257 (by kernel_rfl)) (lk4 (f:=188) 187 m1 257 (by kernel_rfl)) (lk4 (f:=195) 194 m2 419 (by kernel_rfl)) (lk4 (f:=202) 201 m2 419 (by kernel_rfl)) (lk4 (f:=209) 208 m2 419 (by kernel_rfl)) (lk4 (f:=214) 213 m2 419 (by kernel_rfl)) (lk4 (f:=221) 220 m2 419 (by kernel_rfl)) (lk4 (f:=228) 227 m2 419 (by kernel_rfl)) (lk4 (f:=235) 234 m2 419 (by kernel_rfl)) (lk4 (f:=240) 239 m2 419 (by kernel_rfl)) (lk4 (f:=247) 246 m3 492 (by kernel_rfl)) (lk4 (f:=254) 253 m3 492 (by kernel_rfl)) (lk4 (f:=261) 260 m3 492 (by kernel_rfl)) (lk4 (f:=268) 267 m3 492 (by kernel_rfl)) (lk4 (f:=275) 274 m3 492 (by kernel_rfl)) (lk4 (f:=280) 279 m3 492 (by kernel_rfl)) (lk4 (f:=285) 284 m3 492 (by kernel_rfl)) (lk4 (f:=290) 289 m3 492 (by kernel_rfl)) (ka_law _) (kl_law _) (kc_law _) (kk_law _) (by kernel_rfl) (by kernel_rfl) (by kernel_rfl) (by kernel_rfl) (by kernel_rfl) (by kernel_rfl) (by kernel_rfl) (by kernel_rfl) (by kernel_rfl) (by kernel_rfl) (by kernel_rfl) (by kernel_rfl) (by kernel_rfl) (by kernel_rfl) (by kernel_rfl) (by kernel_rfl) (by kernel_rfl) (tn_AT_ONCE:=421) (by kernel_rfl) (tn_FARTHEST:=263) (by kernel_rfl) (tn_FEWEST_CORNERS:=259) (by kernel_rfl) (tn_MOST_CORNERS:=261) (by kernel_rfl) (tn_MOST_PIECES:=265) (by kernel_rfl) (tn_MOST_STUFF:=269) (by kernel_rfl) (tn_THICKEST:=267) (by kernel_rfl)
end My
open PySem PySem.W PyProof.Rows
set_option maxRecDepth 1000000 in
set_option maxHeartbeats 0 in
theorem PySem.Challenge.cw_platerest_k76_plates_as_texts_holds : PySem.Challenge.rw_platerest_k76_plates_as_texts.Holds := by
  refine holds_law My.ws fun said => ?_
  refine holds_open (q := My.qq) (loose := My.ll) (Xt := fun s => xlAt My.qq [] s && recOk (RowW.records (OpenRow.toRowW My.rr)) s) (XP := XL My.qq []) (Yf := Hook.obs (kHook My.kK My.kA My.kAs)) (Ya := Hook.val (kHook My.kK My.kA My.kAs)) (YP := Hook.says (kHook My.kK My.kA My.kAs)) My.left (Hook.of (kHook My.kK My.kA My.kAs)) (Hook.keeps (kHook My.kK My.kA My.kAs)) (fun s e => xl_of s (Bool.and_eq_true_iff.mp e).1) XL.keeps My.hdL My.hpL My.hkL (fun s e => recFacts_of (Bool.and_eq_true_iff.mp e).2) rfl said My.okL ⟨rfl, rfl, rfl, rfl, rfl, by decide +kernel⟩ ?hw My.wkL
  case hw => w_witness2
