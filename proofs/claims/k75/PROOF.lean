import PyProof.Rows.All
import Wide.All
import OpenK.AllK
import Wide.FinOn
import Lean
import PyProof.EqAt
import PyProof.EqKinds
import PyProof.TupleCall
import PyProof.NeKinds
import PyProof.ConsumeWalk
import PyProof.ReprRoads
import PyProof.ReprLen
import PyProof.ZipIter
import PyProof.Draws
import PyProof.ListMulRoad
import PyProof.FactsAll.tuple_2
import PyProof.RaisesMany
import PyProof.ExcClass2
import OpenK.KOwn
import PyProof.ExcBaseAll.ValueError
import PyProof.RulesAs
import KE.KTryMore
import KE.KLam
import KE.KIsNot
import PyProof.ExcArgsOwn
import PyProof.ExcAttrAll.ValueError
import PyProof.ExcInit
import OpenK.KCls
import PyProof.InstStore
import PyProof.NsCount
import PyProof.StrWalks
import PyProof.Rows.StrNews2
import PySem.Challenge.RW_platerest_k75_fractions_and_rows_as_text
set_option Elab.async false
set_option linter.all false
set_option maxRecDepth 100000
namespace L2
open PySem PySem.W PyProof.Rows
def topRunT (tb : String → Option Builtin) (p : Program) (w : World) (n0 : Nat) (ann : Option Value) : Nat → SharedT → Thread → Option SharedT
  | 0, _, _ => none
  | n + 1, s, t => match through t with
    | true => some s
    | false => match stepOk n0 ann t with
      | false => none
      | true => match stepT (denote tb) p w s t with
        | some (s', t') => topRunT tb p w n0 ann n s' t'
        | none => none
theorem topRun_of {tb : String → Option Builtin} {p : Program} {w : World} {n0 : Nat} {ann : Option Value} : ∀ {n : Nat} {s s' : SharedT} {t : Thread}, topRunT tb p w n0 ann n s t = some s' → topRun tb p w n0 ann n s.abs t = some s'.abs
  | 0, _, _, _, h => by cases h
  | n + 1, s, s', t, h => by
    unfold topRunT at h
    unfold topRun
    cases he : through t with
    | true => rw [he] at h; cases h; rfl
    | false =>
      rw [he] at h
      cases hk : stepOk n0 ann t with
      | false => rw [hk] at h; cases h
      | true =>
        rw [hk] at h
        cases hs : stepT (denote tb) p w s t with
        | none => rw [hs] at h; cases h
        | some r => obtain ⟨s2, t2⟩ := r; rw [hs] at h; rw [stepT_spec hs]; exact topRun_of h
def btOf : List Obj → Nat → BT → BT
  | [], _, t => t
  | o :: os, n, t => btOf os (n + 1) (t.ins n o)
theorem left_of_run {p q : Program} {loose : List Str} {Xt : Shared → Bool} {α : Type} {Yf : Shared → α} {Ya : World → α} {N : Nat} {g0 : Bool} {T0 : Params → BT} {n0 : Nat} {life : Life} {ann : Option Value}
    (e : opening p = plainProg p.main.scope.names) (hN : Nat.ble 600 N = true) (f : ∀ s, fenceModules? p s = some s)
    (h0 : ∀ P, absHeap (T0 P) n0 life = boot_heap P)
    (size : ∀ P, ((boot_heap P).isNs mainGlobals, (boot_heap P).objs.size, (boot_heap P).nsMap mainGlobals "__annotations__") = (true, n0, ann))
    (run : ∀ (w : World) (os : OsState), (topRunT treeTable p w n0 ann N ⟨T0 w.params, n0, life, Array.mk [], boot_drawn, boot_toks, os⟩ (topStub p)).map (fun s => ((staticsOk (importedModules p.main.body) (boot_heap w.params) s.abs.heap && namesBound p s.abs.heap && gensDone s.abs && laidKept (boot_heap w.params) s.abs.heap), openSeen q loose (importedModules p.main.body) Xt g0 s.abs, Yf s.abs)) = some (true, openGood q loose, Ya w)) : LeftO p q loose Xt Yf Ya N g0 := fun w => by
  obtain ⟨⟨h, gs, d, k, os⟩, e1, e2⟩ := Option.map_eq_some_iff.mp (boot_open e hN f w)
  obtain ⟨rfl, rfl, rfl, rfl⟩ : h = boot_heap w.params ∧ gs = Array.mk [] ∧ d = boot_drawn ∧ k = boot_toks := by simpa using e2
  obtain ⟨z1, z2, z3⟩ : _ ∧ _ ∧ _ := by simpa only [Prod.mk.injEq] using size w.params
  obtain ⟨s, r1, r2⟩ := Option.map_eq_some_iff.mp (run w os)
  obtain ⟨l1, l2, l3⟩ : _ ∧ _ ∧ _ := by simpa only [Prod.mk.injEq] using r2
  have r := topRun_of r1
  have ha : SharedT.abs ⟨T0 w.params, n0, life, Array.mk [], boot_drawn, boot_toks, os⟩ = ⟨boot_heap w.params, Array.mk [], boot_drawn, boot_toks, os⟩ := by
    unfold SharedT.abs
    rw [h0]
  rw [ha] at r
  have t : topFrom treeTable p w N ⟨boot_heap w.params, Array.mk [], boot_drawn, boot_toks, os⟩ = some s.abs := by
    unfold topFrom
    dsimp only
    rw [z1, z2, z3, r]
    show (match staticsOk (importedModules p.main.body) (boot_heap w.params) s.abs.heap && namesBound p s.abs.heap && gensDone s.abs && laidKept (boot_heap w.params) s.abs.heap with | true => _ | false => _) = _
    rw [l1]
  unfold openEnds
  rw [e1]
  show (topFrom treeTable p w N _).map _ = _
  rw [t]
  exact congrArg some (Prod.ext l2 l3)
lay_quick L2.topRunT
end L2
namespace L2
open PySem PySem.W PyProof.Rows
theorem run_of_parts {p q : Program} {loose : List Str} {Xt : Shared → Bool} {α : Type} {Yf : Shared → α} {Ya : World → α} {g0 : Bool} {R : World → OsState → Option SharedT}
    (h1 : ∀ w os, (R w os).map (fun s => (staticsOk (importedModules p.main.body) (boot_heap w.params) s.abs.heap && namesBound p s.abs.heap && gensDone s.abs && laidKept (boot_heap w.params) s.abs.heap)) = some true)
    (h2 : ∀ w os, (R w os).map (fun s => openSeen q loose (importedModules p.main.body) Xt g0 s.abs) = some (openGood q loose))
    (h3 : ∀ w os, (R w os).map (fun s => Yf s.abs) = some (Ya w)) (w : World) (os : OsState) :
    (R w os).map (fun s => ((staticsOk (importedModules p.main.body) (boot_heap w.params) s.abs.heap && namesBound p s.abs.heap && gensDone s.abs && laidKept (boot_heap w.params) s.abs.heap), openSeen q loose (importedModules p.main.body) Xt g0 s.abs, Yf s.abs)) = some (true, openGood q loose, Ya w) := by
  have a := h1 w os
  have b := h2 w os
  have c := h3 w os
  cases e : R w os with
  | none => rw [e] at a; cases a
  | some s =>
    rw [e] at a b c
    exact congrArg some (Prod.ext (Option.some.inj a) (Prod.ext (Option.some.inj b) (Option.some.inj c)))
noncomputable abbrev bootT (P : Params) : BT := btOf (boot_heap P).objs.toList 0 .nil
noncomputable def topK (p : Program) (N : Nat) (w : World) (os : OsState) : Option SharedT := topRunT treeTable p w 11 (some (.ref 6)) N ⟨bootT w.params, 11, {}, Array.mk [], boot_drawn, boot_toks, os⟩ (topStub p)
theorem boot_abs : ∀ P, absHeap (bootT P) 11 {} = boot_heap P := fun P => by kernel_rfl
theorem boot_size : ∀ P, ((boot_heap P).isNs mainGlobals, (boot_heap P).objs.size, (boot_heap P).nsMap mainGlobals "__annotations__") = (true, 11, some (.ref 6)) := fun P => by kernel_rfl
def looseOf (p : Program) (names : List Str) : List Str := ((p.main.body.flatMap bindsAtTop).filter fun x => !startupNames.contains x && !names.contains x).eraseDups
end L2

namespace My
open PySem PySem.W PyProof.Rows L2
noncomputable abbrev pw : Program := PySem.Challenge.pw_platerest_k75_fractions_and_rows_as_text
noncomputable abbrev rr : OpenRow := OpenLaw.row PySem.Challenge.rw_platerest_k75_fractions_and_rows_as_text
noncomputable abbrev qq : Program := view pw [78]
noncomputable abbrev ll : List Str := looseOf pw ["law"]
set_option maxRecDepth 1000000
set_option maxHeartbeats 0
theorem ws : OpenLaw.wellSaid PySem.Challenge.rw_platerest_k75_fractions_and_rows_as_text = true := by kernel_rfl
theorem h1 : ∀ w os, (topK pw 14466 w os).map (fun s => (staticsOk (importedModules pw.main.body) (boot_heap w.params) s.abs.heap && namesBound pw s.abs.heap && gensDone s.abs && laidKept (boot_heap w.params) s.abs.heap)) = some true := fun w os => by
  unfold topK topStub
  rw [PySem.W.Fast.te4652649595001227023, PySem.W.Fast.te14364793385576792824, PySem.W.Fast.te17154629097778926822, PySem.W.Fast.te12822647523644345616]
  kernel_rfl
theorem h2 : ∀ w os, (topK pw 14466 w os).map (fun s => openSeen qq ll (importedModules pw.main.body) (fun s => xlAt qq [] s && recOk (RowW.records (OpenRow.toRowW rr)) s) true s.abs) = some (openGood qq ll) := fun w os => by
  unfold topK topStub
  rw [PySem.W.Fast.te4652649595001227023, PySem.W.Fast.te14364793385576792824, PySem.W.Fast.te17154629097778926822, PySem.W.Fast.te12822647523644345616, PySem.W.Fast.te4187177175401517315]
  kernel_rfl
end My
noncomputable section
set_option Elab.async false
set_option linter.all false
set_option maxRecDepth 100000
namespace L2
open PySem PySem.Spec PyProof.Rows
abbrev Key:=Sum Int Str
def keyIs:Key→Value→Bool
 | .inl k,v=>Value.isInt k v
 | .inr x,v=>Value.isStrOf x v
def keyH (w:World):Key→Int
 | .inl k=>hashInt k
 | .inr x=>hashStr w x
theorem keyIs_shape:∀ {k:Key} {v:Value},keyIs k v=true→(∃ i t,k=Sum.inl i∧v=Value.int i t)∨(∃ x t,k=Sum.inr x∧v=Value.str x t)
 | .inl i,v,h=>by
   obtain ⟨t,e⟩:=Value.isInt_shape (k:=i) (v:=v) h
   exact .inl ⟨i,t,rfl,e⟩
 | .inr x,v,h=>by
   obtain ⟨t,e⟩:=Value.isStrOf_shape (x:=x) (v:=v) h
   exact .inr ⟨x,t,rfl,e⟩
theorem key_ll (a b:Int):decide ((Sum.inl a:Key)=Sum.inl b)=(a == b):=by
 by_cases e:a=b
 · subst e; simp
 · have h:¬ (Sum.inl a:Key)=Sum.inl b:=fun q=>e (Sum.inl.inj q)
   rw [decide_eq_false h]
   exact (beq_eq_false_iff_ne.mpr e).symm
theorem key_rr (a b:Str):decide ((Sum.inr a:Key)=Sum.inr b)=decide (a=b):=by
 by_cases e:a=b
 · subst e; simp
 · have h:¬ (Sum.inr a:Key)=Sum.inr b:=fun q=>e (Sum.inr.inj q)
   rw [decide_eq_false h,decide_eq_false e]
theorem key_lr (a:Int) (b:Str):decide ((Sum.inl a:Key)=Sum.inr b)=false:=decide_eq_false (fun q=>nomatch q)
theorem key_rl (a:Str) (b:Int):decide ((Sum.inr a:Key)=Sum.inl b)=false:=decide_eq_false (fun q=>nomatch q)
def mixKind (prog:Program) (w:World):PySem.KeyKind prog w Key where
 is:=keyIs
 hash:=keyH w
 inj:=fun v a b ha hb=>by
  rcases keyIs_shape ha with ⟨i,t,rfl,rfl⟩ | ⟨x,t,rfl,rfl⟩
  · rcases keyIs_shape hb with ⟨j,u,rfl,e⟩ | ⟨y,u,rfl,e⟩
    · injection e with e1 _; rw [e1]
    · exact nomatch e
  · rcases keyIs_shape hb with ⟨j,u,rfl,e⟩ | ⟨y,u,rfl,e⟩
    · exact nomatch e
    · injection e with e1 _; rw [e1]
 byValue:=fun k v h=>by
  rcases keyIs_shape h with ⟨i,t,rfl,rfl⟩ | ⟨x,t,rfl,rfl⟩ <;> rfl
 pyHash:=fun hv h=>by
  rcases keyIs_shape hv with ⟨i,t,rfl,rfl⟩ | ⟨x,t,rfl,rfl⟩
  · exact wpAny_pyHash_int h
  · exact wpAny_pyHash_str h
 eqBool:=fun hu hv h=>by
  rcases keyIs_shape hu with ⟨i,t,rfl,rfl⟩ | ⟨x,t,rfl,rfl⟩
  · rcases keyIs_shape hv with ⟨j,u,rfl,rfl⟩ | ⟨y,u,rfl,rfl⟩
    · rw [key_ll] at h; exact wpAny_eqBool_int h
    · rw [key_lr] at h; exact SeqAt.EqAt.int_str i t y u _ _ _ _ h
  · rcases keyIs_shape hv with ⟨j,u,rfl,rfl⟩ | ⟨y,u,rfl,rfl⟩
    · rw [key_rl] at h; exact SeqAt.EqAt.str_int x t j u _ _ _ _ h
    · rw [key_rr] at h; exact wpAny_eqBool_str h
 «strs»:=fun k x t v h=>by
  rcases keyIs_shape h with ⟨i,u,rfl,e⟩ | ⟨y,u,rfl,e⟩
  · exact nomatch e
  · injection e with e1 _
    subst e1
    cases v <;> rfl
end L2
namespace L2
open PySem PySem.Spec PyProof.Rows
inductive V where
 | non | bl (b:Bool) | int (i:Int) | str (x:Str) | byt (b:Array UInt8) | flt (b:UInt64) | ref (a:Addr) | ty (n:String)
 deriving DecidableEq
def RelV:V→Value→Prop
 | .non,u=>u=Value.none
 | .bl b,u=>u=Value.bool b
 | .int i,u=>∃ t,u=Value.int i t
 | .str x,u=>∃ t,u=Value.str x t
 | .byt b,u=>∃ t,u=Value.bytes b t
 | .flt b,u=>∃ t,u=Value.float b t
 | .ref a,u=>u=Value.ref a
 | .ty n,u=>u=Value.type n
abbrev Vals:List V→List Value→Prop:=Paired RelV
theorem Vals.length {xs:List V} {us:List Value} (r:Vals xs us):xs.length=us.length:=Paired.length r
theorem Vals.get:∀ {xs:List V} {us:List Value} {i:Nat} {x:V},Vals xs us→xs[i]? = some x→∃ u,us[i]? = some u∧RelV x u
 | _,_,_,_,.nil,e=>by simp at e
 | _,_,0,_,.cons r _,e=>by simp at e; subst e; exact ⟨_,rfl,r⟩
 | _,_,i+1,x,.cons _ t,e=>by
   obtain ⟨u,h1,h2⟩:=Vals.get (i:=i) (x:=x) t (by simpa using e)
   exact ⟨u,by simpa using h1,h2⟩
theorem Vals.set {x:V} {u:Value} (r:RelV x u):∀ {xs:List V} {us:List Value} (i:Nat),Vals xs us→Vals (xs.set i x) (us.set i u)
 | _,_,_,.nil=>.nil
 | _,_,0,.cons _ t=>.cons r t
 | _,_,i+1,.cons q t=>.cons q (Vals.set r i t)
theorem Vals.append:∀ {xs ys:List V} {us ws:List Value},Vals xs us→Vals ys ws→Vals (xs++ys) (us++ws)
 | _,_,_,_,.nil,s=>s
 | _,_,_,_,.cons r t,s=>.cons r (Vals.append t s)
def RelO:Option V→Option Value→Prop
 | some v,some u=>RelV v u
 | none,none=>True
 | _,_=>False
def KV {κ:Type}:List (κ×V)→List (κ×Value)→Prop:=Paired fun (p:κ×V) (q:κ×Value)=>p.1=q.1∧RelV p.2 q.2
def kV:Key→V
 | .inl i=>.int i
 | .inr x=>.str x
inductive HO where
 | lst (xs:List V)
 | tup (xs:List V)
 | dK (kvs:List (Key×V)) | dT (kvs:List (List Key×V))
 | set (S:Int→Bool) (n:Nat)
 | ins (C dx:Addr) (fs:List (Str×V))
 | own (x:Addr)
 | xd (fs:List (Str×V))
 | met (f x:Addr)
 | rng (lo hi:Int)
 | frz (o:Obj) (u:HO)
 | tbl (ps:Array Value)
 | ext (φ:Heap→Prop)
abbrev Hp:=Addr→Option HO
def upd (H:Hp) (a:Addr) (o:HO):Hp:=fun b=>if b=a then some o else H b
theorem upd_same {H:Hp} {a:Addr} {o:HO}:upd H a o a=some o:=by unfold upd; rw [if_pos rfl]
theorem upd_ne {H:Hp} {a b:Addr} {o:HO} (h:b≠a):upd H a o b=H b:=by unfold upd; rw [if_neg h]
theorem ne_of {H:Hp} {a b:Addr} {o u:HO} (h:H a=some o) (h':H b=some u) (d:o≠u):a≠b:=by
 intro e; subst e; rw [h] at h'; exact d (Option.some.inj h')
theorem ne_of_none {H:Hp} {a b:Addr} {o:HO} (h:H a=some o) (h':H b=none):a≠b:=by
 intro e; subst e; rw [h] at h'; cases h'
section
variable (P:Program) (w:World)
def ObjOk (H:Hp) (h:Heap) (a:Addr):HO→Prop
 | .lst xs=>xs.length≤sizeLine∧∃ (its:List Value) (n:Nat),Vals xs its∧h.get? a=some { cls:=.type "list",data:=.seq its.toArray n }
 | .tup xs=>xs.length≤sizeLine∧∃ its:List Value,Vals xs its∧IsTup h a its.toArray
 | .dK kvs=>kvs.length≤sizeLine∧(a == sysModules)=false∧∃ vs,KV kvs vs∧h.DictOf (mixKind P w) a vs
 | .dT kvs=>kvs.length≤sizeLine∧(a == sysModules)=false∧∃ xs:List (List Key×Addr×Value),
    Paired (fun (p:List Key×V) (q:List Key×Addr×Value)=>p.1=q.1∧H q.2.1=some (.tup (p.1.map kV))∧RelV p.2 q.2.2) kvs xs ∧
    ∃ o es ep,h.get? a=some o∧o.ExactDict∧o.data=.dict es ep∧es.toList=xs.map (entryOfKey (tupleKind (mixKind P w)))∧(xs.map (·.1)).Nodup
 | .set S n=>h.SetOf (intKind P w) a S n
 | .ins C dx fs=>H dx=some (.own a)∧fs.length≤1000∧dx≠a∧h.get? a=some (PySem.W.instObj C dx) ∧
    ∃ mA,h.Ns1 dx mA∧(∀ f,RelO (fs.lookup f) (mA f))∧PySem.Within mA (fs.map (·.1))
 | .own _=>∃ o,h.get? a=some o
 | .xd fs=>∃ mA,h.Ns1 a mA∧∀ f,RelO (fs.lookup f) (mA f)
 | .rng lo hi=>∃ t u v,h.get? a=some { cls:=.type "range",data:=.fields #[.int lo t,.int hi u,.int 1 v] }
 | .frz o u=>h.get? a=some o∧ObjOk H h a u
 | .tbl ps=>h.get? a=some { cls:=.none,data:=.fields ps }
 | .met f x=>h.get? a=some (PySem.W.methodObj (.ref f) (.ref x))
 | .ext φ=>φ h∧(∃ o,h.get? a=some o)∧∀ h1 h2:Heap,φ h1→(∀ o,h1.get? a=some o→h2.get? a=some o)→φ h2
def HOk (H:Hp) (h:Heap):Prop:=∀ a o,H a=some o→ObjOk P w H h a o
end
section
variable {P:Program} {w:World} {H H':Hp} {h h':Heap} {a:Addr} {o:HO}
theorem ObjOk.lt (x:ObjOk P w H h a o):a < h.objs.size:=by
 cases o with
 | lst xs=>obtain ⟨_,_,_,_,e⟩:=x; exact Heap.lt_size e
 | tup xs=>obtain ⟨_,_,_,p⟩:=x; exact p.lt
 | dK kvs=>obtain ⟨_,_,_,_,o,_,_,e,_⟩:=x; exact Heap.lt_size e
 | dT kvs=>obtain ⟨_,_,_,_,o,_,_,e,_⟩:=x; exact Heap.lt_size e
 | set S n=>obtain ⟨o,_,_,_,e,_⟩:=x; exact Heap.lt_size e
 | ins C dx fs=>obtain ⟨_,_,_,e,_⟩:=x; exact Heap.lt_size e
 | own y=>obtain ⟨_,e⟩:=x; exact Heap.lt_size e
 | xd fs=>obtain ⟨_,⟨_,_,_,e,_⟩,_⟩:=x; exact Heap.lt_size e
 | rng lo hi=>obtain ⟨_,_,_,e⟩:=x; exact Heap.lt_size e
 | frz ob u=>obtain ⟨e,_⟩:=x; exact Heap.lt_size e
 | tbl ps=>exact Heap.lt_size (show h.get? a=some _ from x)
 | met f y=>exact Heap.lt_size (show h.get? a=some _ from x)
 | ext φ=>obtain ⟨_,⟨_,e⟩,_⟩:=x; exact Heap.lt_size e
theorem Paired.mapP {α β:Type} {F G:α→β→Prop}:∀ {l₁:List α} {l₂:List β},Paired F l₁ l₂→(∀ a b,F a b→G a b)→Paired G l₁ l₂
 | _,_,.nil,_=>.nil
 | _,_,.cons r t,f=>.cons (f _ _ r) (Paired.mapP t f)
theorem ObjOk.stay (x:ObjOk P w H h a o) (k:∀ b u,(b=a∨H b=some (.own a))→h.get? b=some u→h'.get? b=some u)
 (ho:∀ b,H b=some (.own a)→H' b=some (.own a)) (ht:∀ b xs,H b=some (.tup xs)→H' b=some (.tup xs)):ObjOk P w H' h' a o:=by
 induction o with
 | lst xs=>obtain ⟨z,its,n,r,e⟩:=x; exact ⟨z,its,n,r,k _ _ (.inl rfl) e⟩
 | tup xs=>obtain ⟨z,its,r,ob,e,c⟩:=x; exact ⟨z,its,r,ob,k _ _ (.inl rfl) e,c⟩
 | dK kvs=>obtain ⟨z,y,vs,r,ob,es,ep,e,c⟩:=x; exact ⟨z,y,vs,r,ob,es,ep,k _ _ (.inl rfl) e,c⟩
 | dT kvs =>
   obtain ⟨z,y,xs,r,ob,es,ep,e,c⟩:=x
   exact ⟨z,y,xs,Paired.mapP r fun p q z=>⟨z.1,ht _ _ z.2.1,z.2.2⟩,ob,es,ep,k _ _ (.inl rfl) e,c⟩
 | set S n=>obtain ⟨ob,es,ep,t,e,c⟩:=x; exact ⟨ob,es,ep,t,k _ _ (.inl rfl) e,c⟩
 | ins C dx fs =>
   obtain ⟨d,z,ne,e,mA,⟨od,es,ep,e2,c⟩,r⟩:=x
   exact ⟨ho _ d,z,ne,k _ _ (.inl rfl) e,mA,⟨od,es,ep,k _ _ (.inr d) e2,c⟩,r⟩
 | own y=>obtain ⟨ob,e⟩:=x; exact ⟨ob,k _ _ (.inl rfl) e⟩
 | xd fs=>obtain ⟨mA,⟨od,es,ep,e,c⟩,r⟩:=x; exact ⟨mA,⟨od,es,ep,k _ _ (.inl rfl) e,c⟩,r⟩
 | rng lo hi=>obtain ⟨t,u,v,e⟩:=x; exact ⟨t,u,v,k _ _ (.inl rfl) e⟩
 | frz ob u ih=>obtain ⟨e,q⟩:=x; exact ⟨k _ _ (.inl rfl) e,ih q⟩
 | tbl ps =>
   have e:h.get? a=some { cls:=.none,data:=.fields ps }:=x
   show h'.get? a=some { cls:=.none,data:=.fields ps }
   exact k a _ (.inl rfl) e
 | met f y =>
   have e:h.get? a=some (PySem.W.methodObj (.ref f) (.ref y)):=x
   show h'.get? a=some (PySem.W.methodObj (.ref f) (.ref y))
   exact k a _ (.inl rfl) e
 | ext φ=>obtain ⟨p,⟨o,e⟩,st⟩:=x; exact ⟨st _ _ p fun o q=>k _ _ (.inl rfl) q,⟨o,k _ _ (.inl rfl) e⟩,st⟩
theorem HOk.lt (x:HOk P w H h) (e:H a=some o):a < h.objs.size:=(x a o e).lt
theorem HOk.fresh (x:HOk P w H h) (e:h.objs.size≤a):H a=none:=by
 cases q:H a with
 | none=>rfl
 | some u=>exact absurd (Nat.lt_of_lt_of_le (x.lt q) e) (Nat.lt_irrefl _)
theorem HOk.kept (x:HOk P w H h) (k:∀ b u,h.get? b=some u→h'.get? b=some u):HOk P w H h':=fun a o e =>
 (x a o e).stay (fun b u _ q=>k b u q) (fun _ q=>q) fun _ _ q=>q
theorem HOk.laid (x:HOk P w H h) (k:∀ b u,h.get? b=some u→h'.get? b=some u) (hp:h.objs.size≤a) (new:ObjOk P w (upd H a o) h' a o):HOk P w (upd H a o) h':=fun b u e=>by
 have hn:=x.fresh hp
 by_cases hb:b=a
 · subst hb; rw [upd_same] at e; cases e; exact new
 · rw [upd_ne hb] at e
   exact (x b u e).stay (fun c v _ q=>k c v q) (fun c q=>by rw [upd_ne (ne_of_none q hn)]; exact q) fun c xs q=>by rw [upd_ne (ne_of_none q hn)]; exact q
end
def Rd (H:Hp) (a:Addr) (u:HO):Prop:=H a=some u∨∃ o,H a=some (.frz o u)
theorem Rd.ok {P:Program} {w:World} {H:Hp} {h:Heap} {a:Addr} {u:HO} (r:Rd H a u) (x:HOk P w H h):ObjOk P w H h a u:=by
 rcases r with r | ⟨o,r⟩
 · exact x a u r
 · obtain ⟨_,q⟩:=x a _ r
   exact q
def Mut:Option HO→Prop
 | some (.lst _)=>True
 | some (.dK _)=>True
 | some (.dT _)=>True
 | some (.set _ _)=>True
 | some (.ins _ _ _)=>True
 | some (.ext _)=>True
 | _=>False
section
variable {P:Program} {w:World} {H:Hp} {h h':Heap} {x e:Addr} {o':HO}
theorem HOk.write (ok:HOk P w H h) (mu:Mut (H x)) (he:e=x∨H e=some (.own x)) (k:∀ b u,b≠e→h.get? b=some u→h'.get? b=some u) (heo:∃ u,h'.get? e=some u)
 (new:ObjOk P w (upd H x o') h' x o'):HOk P w (upd H x o') h':=fun b u q=>by
 have nown:∀ c y,H c=some (.own y)→c≠x:=fun c y r z=>by subst z; rw [r] at mu; exact mu
 have ntup:∀ c xs,H c=some (.tup xs)→c≠x:=fun c xs r z=>by subst z; rw [r] at mu; exact mu
 by_cases hb:b=x
 · subst hb; rw [upd_same] at q; cases q; exact new
 · rw [upd_ne hb] at q
   by_cases hbe:b=e
   · have q':H b=some (.own x):=by
      rcases he with z | z
      · exact absurd (hbe.trans z) hb
      · rw [hbe]; exact z
     rw [q] at q'; cases q'
     obtain ⟨v,hv⟩:=heo
     exact ⟨v,by rw [hbe]; exact hv⟩
   · refine (ok b u q).stay (fun c v hc r=>k c v ?_ r) (fun c r=>by rw [upd_ne (nown c b r)]; exact r) fun c xs r=>by rw [upd_ne (ntup c xs r)]; exact r
     rcases hc with rfl | hc
     · exact hbe
     · rintro rfl
       rcases he with z | z
       · exact nown c b hc z
       · rw [hc] at z; cases z; exact hb rfl
end
structure Un (fs ex:List Addr) (H H':Hp) (h h':Heap):Prop where
 keep:∀ b o,h.get? b=some o→H b=none→b∉fs→b∉ex→h'.get? b=some o
 slot:∀ b o,h.get? b=some o→H b=none→b∈fs→b∉ex→∃ sl,h'.get? b=some { o with slots:=sl }
 free:∀ b o,h.get? b=some o→H b=none→b∉ex→H' b=none
 there:∀ b o,h.get? b=some o→b∉ex→∃ o',h'.get? b=some o'
 tups:∀ b xs,H b=some (.tup xs)→H' b=some (.tup xs)
 frzs:∀ b o u,H b=some (.frz o u)→H' b=some (.frz o u)
 tbls:∀ b ps,H b=some (.tbl ps)→∃ more,H' b=some (.tbl (ps++more))
section
variable {fs fs' ex ex':List Addr} {H H1 H2:Hp} {h h1 h2 h':Heap} {a x e:Addr} {o:HO}
theorem Un.any (u:Un fs ex H H1 h h1) {b:Addr} {ob:Obj} (q:h.get? b=some ob) (n:H b=none) (hx:b∉ex):∃ sl,h1.get? b=some { ob with slots:=sl }:=by
 by_cases hb:b∈fs
 · exact u.slot b ob q n hb hx
 · exact ⟨ob.slots,u.keep b ob q n hb hx⟩
theorem Un.kept (k:∀ b u,h.get? b=some u→h'.get? b=some u):Un fs ex H H h h' :=
 ⟨fun b ob q _ _ _=>k b ob q,fun b ob q _ _ _=>⟨ob.slots,k b ob q⟩,fun _ _ _ n _=>n,fun b ob q _=>⟨ob,k b ob q⟩,fun _ _ q=>q,fun _ _ _ q=>q,fun _ ps q=>⟨#[],by rw [q]; simp⟩⟩
theorem Un.refl:Un fs ex H H h h:=Un.kept fun _ _ q=>q
theorem Un.laid (k:∀ b u,h.get? b=some u→h'.get? b=some u) (hp:h.objs.size≤a) (hn:H a=none):Un fs ex H (upd H a o) h h' where
 keep:=fun b u q _ _ _=>k b u q
 slot:=fun b u q _ _ _=>⟨u.slots,k b u q⟩
 free:=fun b u q n _=>by rw [upd_ne (Nat.ne_of_lt (Nat.lt_of_lt_of_le (Heap.lt_size q) hp))]; exact n
 there:=fun b u q _=>⟨u,k b u q⟩
 tups:=fun b xs q=>by rw [upd_ne (ne_of_none q hn)]; exact q
 frzs:=fun b u xs q=>by rw [upd_ne (ne_of_none q hn)]; exact q
 tbls:=fun b ps q=>⟨#[],by rw [upd_ne (ne_of_none q hn),q]; simp⟩
theorem Un.write (mu:Mut (H x)) (he:e=x∨H e=some (.own x)) (k:∀ b u,b≠e→h.get? b=some u→h'.get? b=some u) (heo:∃ u,h'.get? e=some u):Un fs ex H (upd H x o) h h':=by
 have hx:∀ b,H b=none→b≠x:=fun b n z=>by subst z; rw [n] at mu; exact mu
 have hb:∀ b,H b=none→b≠e:=fun b n z=>by
  subst z
  rcases he with r | r
  · exact hx b n r
  · rw [n] at r; cases r
 have hm:∀ b u,H b=some u→¬ Mut (some u)→b≠x:=fun b u q nm z=>by subst z; rw [q] at mu; exact nm mu
 refine ⟨fun b u q n _ _=>k b u (hb b n) q,fun b u q n _ _=>⟨u.slots,k b u (hb b n) q⟩,fun b u q n _=>by rw [upd_ne (hx b n)]; exact n,fun b u q _=>?_,
  fun b xs q=>by rw [upd_ne (hm b _ q fun z=>z)]; exact q,fun b u xs q=>by rw [upd_ne (hm b _ q fun z=>z)]; exact q,fun b ps q=>⟨#[],by rw [upd_ne (hm b _ q fun z=>z),q]; simp⟩⟩
 by_cases hbe:b=e
 · subst hbe; exact heo
 · exact ⟨u,k b u hbe q⟩
end
def trk (h:Heap) (H:Hp):List Addr:=(List.range h.objs.size).filter fun a=>(H a).isSome
def hidT (h:Heap) (H:Hp):Heap:=PySem.W.hideAll h (trk h H)
theorem hidT_size (h:Heap) (H:Hp):(hidT h H).objs.size=h.objs.size:=PySem.W.hideAll_size _ _
theorem hidT_get {h:Heap} {H:Hp} {b:Addr} {o:Obj} (e:h.get? b=some o) (n:H b=none):(hidT h H).get? b=some o :=
 PySem.W.hideAll_get _ e fun hm=>by
  have q:(H b).isSome=true:=(List.mem_filter.mp hm).2
  rw [n] at q; simp at q
theorem of_hidT {h:Heap} {H:Hp} {b:Addr} {o:Obj} (e:(hidT h H).get? b=some o):h.get? b=some o∧H b=none:=by
 have e':h.get? b=some o:=PySem.W.of_hideAll (trk h H) e
 refine ⟨e',?_⟩
 cases q:H b with
 | none=>rfl
 | some x =>
   have hm:b∈trk h H:=List.mem_filter.mpr ⟨List.mem_range.mpr (Heap.lt_size e'),by simp [q]⟩
   have z:(hidT h H).get? b=none:=PySem.W.hideAll_none (trk h H) hm
   rw [z] at e; cases e
end L2
namespace L2
open PySem PySem.Spec PyProof.Rows
structure Mod (K:PySem.W.Frag) (mg:Str→Option Value) (base:Heap):Prop where
 kin:K.In base
 glob:base.Ns mainGlobals mg
 blt:∃ mb,base.Ns builtinsNs mb∧∀ x:Str,x ≠ "__name__" → mb x=bootBuiltins x
 nolimit:base.NoLimit
 seer:base.NoSeer
 digits:base.NoDigits
structure Cx where
 prog:Program
 w:World
 K:PySem.W.Frag
 mg:Str→Option Value
 base:Heap
 A:Around
 N:List Str
 s₀:Shared
 H₀:Hp
 env:Env
 outer:List Env
 stack:List Env
 ex:List Addr
 fn:Str→Bool
 calm:Bool
 pn:List (Addr×Obj)
 xe:Value→Shared→Prop
def frs (l:List Env):List Addr:=l.filterMap (·.frame)
abbrev Cx.fs (X:Cx):List Addr:=frs X.outer
def Vis (sc:Scope) (x:Str):Prop:=sc.names.lookup x=some .local∨sc.names.lookup x=some .cell∨sc.names.lookup x=some .free
def Loc (sc:Scope) (x:Str):Prop:=sc.names.lookup x=some .local∨sc.names.lookup x=some .cell
def Look (env:Env) (h:Heap) (m:Str→Option Value) (x:Str) (u:Value):Prop :=
 (env.kindOf x=some .local∧m x=some u)∨((env.kindOf x=some .cell∨env.kindOf x=some .free)∧∃ c,env.cells.lookup x=some c∧h.IsCell c (some u))
structure Cx.Ok (X:Cx):Prop where
 mod:Mod X.K X.mg X.base
 kind:X.env.scope.kind=.function
 glob:X.env.globals=mainGlobals
 blt:X.env.builtins=builtinsNs
 above:X.s₀.heap.objs.size≤X.env.locals
 inj:∀ x y c,X.env.cells.lookup x=some c→X.env.cells.lookup y=some c→x=y
 has:∀ x,(X.env.kindOf x=some .cell∨X.env.kindOf x=some .free)→∃ c,X.env.cells.lookup x=some c
 cab:∀ x c,X.fn x=true→X.env.cells.lookup x=some c→X.s₀.heap.objs.size≤c
 hd:X.calm=true→X.A.handled=none
 frames:X.A.frames=some X.stack
 stk:X.stack=X.outer∨(X.stack=X.env :: X.outer∧X.env.frame=some X.env.locals)
 exf:∀ b∈X.ex,b≠X.env.locals∧∀ x c,X.env.cells.lookup x=some c→c≠b
 bs:∀ b o,X.base.get? b=some o→X.s₀.heap.get? b=some o∧X.H₀ b=none
 bsz:X.base.objs.size≤X.s₀.heap.objs.size
 noex:∀ b o,X.base.get? b=some o→b∉X.ex
 exfs:∀ b∈X.ex,b∉X.fs
 funs:X.s₀.heap.FunFrames X.base X.outer
 frf:∀ b∈X.fs,X.H₀ b=none
structure Inv (X:Cx) (pins:List (Addr×Obj)) (σ:List (Option V)) (H:Hp) (s:Shared):Prop where
 ok:X.Ok
 os:s.os=X.s₀.os
 bare:AllBare s.gens
 base:Un X.fs X.ex X.H₀ H X.s₀.heap s.heap
 loc:∃ m,s.heap.Ns X.env.locals m∧∀ (i:Nat) (x:Str) (v:V),X.N[i]? = some x→σ[i]? = some (some v)→Vis X.env.scope x→∃ u,RelV v u∧Look X.env s.heap m x u
 cell:∀ x c,X.env.cells.lookup x=some c→∃ v,s.heap.IsCell c v
 free:H X.env.locals=none
 freeC:∀ x c,X.env.cells.lookup x=some c→H c=none∨(X.fn x=false∧∃ o u,H c=some (.frz o u))
 pin:∀ p∈X.pn++pins,s.heap.get? p.1=some p.2∧H p.1=none∧p.1≠X.env.locals∧p.1∉X.fs∧∀ v,p.2.data≠.cell v
 hok:HOk X.prog X.w H s.heap
 len:σ.length=X.N.length
section
variable {X:Cx} {pins:List (Addr×Obj)} {σ:List (Option V)} {H H':Hp} {s:Shared} {h':Heap}
theorem Cx.Ok.nofr (ok:X.Ok) {b:Addr} {o:Obj} (e:X.base.get? b=some o):b∉X.fs:=fun hb=>by
 have:=(ok.funs.mem hb).1
 rw [e] at this; cases this
theorem Inv.bs (I:Inv X pins σ H s):∀ b o,X.base.get? b=some o→s.heap.get? b=some o∧H b=none:=fun b o e =>
 ⟨I.base.keep b o (I.ok.bs b o e).1 (I.ok.bs b o e).2 (I.ok.nofr e) (I.ok.noex b o e),I.base.free b o (I.ok.bs b o e).1 (I.ok.bs b o e).2 (I.ok.noex b o e)⟩
theorem Inv.bk (I:Inv X pins σ H s):∀ b o,X.base.get? b=some o→s.heap.get? b=some o:=fun b o e=>(I.bs b o e).1
theorem Inv.mod (I:Inv X pins σ H s):Mod X.K X.mg X.base:=I.ok.mod
theorem Inv.kIn (I:Inv X pins σ H s):X.K.In s.heap:=I.ok.mod.kin.keeps I.bk
theorem Inv.digits (I:Inv X pins σ H s):s.heap.NoDigits:=I.ok.mod.digits.keeps I.bk
theorem Inv.lt (I:Inv X pins σ H s):X.env.locals < s.heap.objs.size:=let ⟨_,hn,_⟩:=I.loc; hn.lt
theorem Inv.sz (I:Inv X pins σ H s):X.s₀.heap.objs.size≤s.heap.objs.size:=Nat.le_trans I.ok.above (Nat.le_of_lt I.lt)
theorem Inv.nofs (I:Inv X pins σ H s) {a:Addr} (h:s.heap.objs.size≤a):a∉X.fs:=fun hb=>by
 obtain ⟨_,o,ho,_⟩:=I.ok.funs.mem hb
 exact absurd (Nat.lt_of_lt_of_le (Heap.lt_size ho) (Nat.le_trans I.sz h)) (Nat.lt_irrefl _)
theorem Inv.cne (I:Inv X pins σ H s):∀ x c,X.env.cells.lookup x=some c→c≠X.env.locals:=fun x c e z=>by
 obtain ⟨v,o,ho,hd⟩:=I.cell x c e
 obtain ⟨m,⟨o',es,ep,ho',hd',_⟩,_⟩:=I.loc
 rw [z,ho'] at ho; cases ho; rw [hd'] at hd; cases hd
theorem Inv.funs (I:Inv X pins σ H s):s.heap.FunFrames X.base X.outer:=by
 have all:∀ (l:List Env),(∀ b∈frs l,b∈X.fs)→X.s₀.heap.FunFrames X.base l→s.heap.FunFrames X.base l:=by
  intro l
  induction l with
  | nil=>intro _ _; trivial
  | cons env r ih =>
    intro hs hl
    obtain ⟨hk,⟨L,o,hf,hn,ho,hd⟩,hr⟩:=hl
    have hL:L∈X.fs:=hs L (by unfold frs; rw [List.filterMap_cons,hf]; exact List.mem_cons_self)
    obtain ⟨sl,e⟩:=I.base.slot L o ho (I.ok.frf L hL) hL fun z=>I.ok.exfs L z hL
    exact ⟨hk,⟨L,_,hf,hn,e,hd⟩,ih (fun b hb=>hs b (by unfold frs; rw [List.filterMap_cons,hf]; exact List.mem_cons_of_mem _ hb)) hr⟩
 exact all X.outer (fun _ hb=>hb) I.ok.funs
theorem Inv.stack (I:Inv X pins σ H s):s.heap.FunFrames X.base X.stack:=by
 rcases I.ok.stk with e | ⟨e,hf⟩
 · rw [e]; exact I.funs
 · rw [e]
   obtain ⟨m,hn,_⟩:=I.loc
   refine .cons (by rw [I.ok.kind]; decide) hf hn ?_ I.funs
   exact Heap.get?_none_of_le (Nat.le_trans I.ok.bsz I.ok.above)
theorem Inv.stkSub (I:Inv X pins σ H s):∀ b∈frs X.stack,b∈X.env.locals :: X.fs:=fun b hb=>by
 rcases I.ok.stk with e | ⟨e,hf⟩
 · rw [e] at hb; exact List.mem_cons_of_mem _ hb
 · rw [e] at hb
   unfold frs at hb
   rw [List.filterMap_cons,hf] at hb
   exact hb
theorem Inv.stkFree (I:Inv X pins σ H s):∀ b∈frs X.stack,H b=none:=fun b hb=>by
 rcases List.mem_cons.mp (I.stkSub b hb) with e | hb
 · rw [e]; exact I.free
 · obtain ⟨_,o,ho,_⟩:=I.ok.funs.mem hb
   exact I.base.free b o ho (I.ok.frf b hb) fun z=>I.ok.exfs b z hb
theorem Inv.step {g':Array GenState} {t':Nat} {d':Drawn} {ch:List Addr} (I:Inv X pins σ H s)
 (hch:∀ b∈ch,(b∈X.ex∨X.s₀.heap.objs.size≤b)∧b≠X.env.locals∧(∀ x c,X.env.cells.lookup x=some c→c≠b)∧∀ p∈X.pn++pins,p.1≠b)
 (keep:∀ b o,b≠X.env.locals→b∉X.fs→b∉ch→s.heap.get? b=some o→H b=none→h'.get? b=some o)
 (slot:∀ b o,b≠X.env.locals→b∈X.fs→b∉ch→s.heap.get? b=some o→H b=none→∃ sl,h'.get? b=some { o with slots:=sl }) (free:∀ b o,b∉ch→s.heap.get? b=some o→H b=none→H' b=none)
 (there:∀ b o,b∉ch→s.heap.get? b=some o→∃ o',h'.get? b=some o')
 (tups:∀ b xs,H b=some (.tup xs)→H' b=some (.tup xs)) (frzs:∀ b o u,H b=some (.frz o u)→H' b=some (.frz o u)) (tbls:∀ b ps,H b=some (.tbl ps)→∃ more,H' b=some (.tbl (ps++more)))
 (ns:∀ m,s.heap.Ns X.env.locals m→h'.Ns X.env.locals m) (hok:HOk X.prog X.w H' h') (hg:AllBare g') :
 Inv X pins σ H' { s with heap:=h',gens:=g',drawn:=d',toks:=t' }:=by
 have neL:∀ b o,X.s₀.heap.get? b=some o→b≠X.env.locals:=fun b o e=>Nat.ne_of_lt (Nat.lt_of_lt_of_le (Heap.lt_size e) I.ok.above)
 have neC:∀ b o,X.s₀.heap.get? b=some o→b∉X.ex→b∉ch:=fun b o e hx hb=>by
  rcases (hch b hb).1 with z | z
  · exact hx z
  · exact absurd (Nat.lt_of_lt_of_le (Heap.lt_size e) z) (Nat.lt_irrefl _)
 have cellK:∀ x c,X.env.cells.lookup x=some c→∀ v,s.heap.IsCell c v→h'.IsCell c v:=fun x c e v ⟨o,ho,hd⟩=>by
  have nch:c∉ch:=fun z=>(hch c z).2.2.1 x c e rfl
  rcases I.freeC x c e with fz | ⟨_,o',u',fz⟩
  · by_cases hc:c∈X.fs
    · obtain ⟨sl,q⟩:=slot c o (I.cne x c e) hc nch ho fz
      exact ⟨_,q,hd⟩
    · exact ⟨o,keep c o (I.cne x c e) hc nch ho fz,hd⟩
  · have h1:=(I.hok c _ fz).1
    rw [ho] at h1; cases h1
    exact ⟨o,(hok c _ (frzs c o u' fz)).1,hd⟩
 refine ⟨I.ok,I.os,hg,⟨fun b o e n hb hx=>?_,fun b o e n hb hx=>?_,fun b o e n hx=>?_,fun b o e hx=>?_,fun b xs e=>tups b xs (I.base.tups b xs e),fun b o xs e=>frzs b o xs (I.base.frzs b o xs e),fun b ps e=>?_⟩,?_,fun x c e=>?_,?_,fun x c e=>?_,fun p hp=>?_,hok,I.len⟩
 · exact keep b o (neL b o e) hb (neC b o e hx) (I.base.keep b o e n hb hx) (I.base.free b o e n hx)
 · obtain ⟨sl,e1⟩:=I.base.slot b o e n hb hx
   obtain ⟨sl',e2⟩:=slot b _ (neL b o e) hb (neC b o e hx) e1 (I.base.free b o e n hx)
   exact ⟨sl',e2⟩
 · obtain ⟨o',e1⟩:=I.base.there b o e hx
   exact free b o' (neC b o e hx) e1 (I.base.free b o e n hx)
 · obtain ⟨o',e1⟩:=I.base.there b o e hx
   exact there b o' (neC b o e hx) e1
 · obtain ⟨m1,e1⟩:=I.base.tbls b ps e
   obtain ⟨m2,e2⟩:=tbls b _ e1
   exact ⟨m1++m2,by rw [e2,Array.append_assoc]⟩
 · obtain ⟨m,hn,hl⟩:=I.loc
   refine ⟨m,ns m hn,fun i x v e1 e2 e3=>?_⟩
   obtain ⟨u,r,l⟩:=hl i x v e1 e2 e3
   refine ⟨u,r,?_⟩
   rcases l with l | ⟨k,c,e,z⟩
   · exact .inl l
   · exact .inr ⟨k,c,e,cellK x c e _ z⟩
 · obtain ⟨v,z⟩:=I.cell x c e
   exact ⟨v,cellK x c e v z⟩
 · obtain ⟨m,⟨o,_,_,ho,_⟩,_⟩:=I.loc
   exact free _ o (fun z=>(hch _ z).2.1 rfl) ho I.free
 · obtain ⟨v,o,ho,hd⟩:=I.cell x c e
   exact (I.freeC x c e).imp (fun fz=>free c o (fun z=>(hch c z).2.2.1 x c e rfl) ho fz) fun ⟨q,o',u',fz⟩=>⟨q,o',u',frzs c o' u' fz⟩
 · obtain ⟨e,n,ne,nf,d⟩:=I.pin p hp
   have nch:p.1∉ch:=fun z=>(hch p.1 z).2.2.2 p hp rfl
   exact ⟨keep p.1 p.2 ne nf nch e n,free p.1 p.2 nch e n,ne,nf,d⟩
theorem Inv.un {t':Nat} (I:Inv X pins σ H s) (u:Un X.fs [] H H' s.heap h') (hok:HOk X.prog X.w H' h'):Inv X pins σ H' { s with heap:=h',toks:=t' }:=by
 obtain ⟨m,⟨o,es,ep,ho,r⟩,_⟩:=id I.loc
 obtain ⟨sl,hL⟩:=u.any ho I.free (by simp)
 exact I.step (g':=s.gens) (d':=s.drawn) (ch:=[]) (fun _ z=>nomatch z) (fun b o _ hb _ e n=>u.keep b o e n hb (by simp)) (fun b o _ hb _ e n=>u.slot b o e n hb (by simp)) (fun b o _ e n=>u.free b o e n (by simp)) (fun b o _ e=>u.there b o e (by simp)) u.tups u.frzs u.tbls (fun m' hm=>by
  obtain ⟨o',es',ep',ho',r'⟩:=hm
  rw [ho] at ho'; cases ho'
  exact ⟨_,es',ep',hL,r'⟩) hok I.bare
theorem Inv.call {g':Array GenState} {t':Nat} {d':Drawn} {ch:List Addr} (I:Inv X pins σ H s) (u:Un (frs X.stack) ch H H' s.heap h') (hok:HOk X.prog X.w H' h') (hg:AllBare g')
 (hch:∀ b∈ch,(b∈X.ex∨X.s₀.heap.objs.size≤b)∧b≠X.env.locals∧(∀ x c,X.env.cells.lookup x=some c→c≠b)∧∀ p∈X.pn++pins,p.1≠b) :
 Inv X pins σ H' { s with heap:=h',gens:=g',drawn:=d',toks:=t' }:=by
 obtain ⟨m,⟨o,es,ep,ho,r⟩,_⟩:=id I.loc
 obtain ⟨sl,hL⟩:=u.any ho I.free fun z=>(hch _ z).2.1 rfl
 exact I.step (ch:=ch) hch (fun b o hL hb hc e n=>u.keep b o e n (fun z=>(List.mem_cons.mp (I.stkSub b z)).elim hL hb) hc) (fun b o _ _ hc e n=>u.any e n hc) (fun b o hc e n=>u.free b o e n hc) (fun b o hc e=>u.there b o e hc) u.tups u.frzs u.tbls (fun m' hm=>by
  obtain ⟨o',es',ep',ho',r'⟩:=hm
  rw [ho] at ho'; cases ho'
  exact ⟨_,es',ep',hL,r'⟩) hok hg
theorem Inv.turned {t':Nat} {it:Addr} (I:Inv X pins σ H s) (k:∀ b o,b≠it→s.heap.get? b=some o→h'.get? b=some o) (hn:H it=none) (hL:it≠X.env.locals)
 (h1:it∈X.ex∨X.s₀.heap.objs.size≤it) (h2:∀ x c,X.env.cells.lookup x=some c→c≠it) (h3:∀ p∈X.pn++pins,p.1≠it):Inv X pins σ H { s with heap:=h',toks:=t' }:=by
 have nit:∀ b u,H b=some u→b≠it:=fun b u e z=>by rw [z,hn] at e; cases e
 refine I.step (g':=s.gens) (d':=s.drawn) (ch:=[it]) (fun b hb=>?_) (fun b o _ _ hc e _=>k b o (fun z=>hc (by simp [z])) e) (fun b o _ _ hc e _=>⟨o.slots,k b o (fun z=>hc (by simp [z])) e⟩) (fun _ _ _ _ n=>n)
  (fun b o hc e=>⟨o,k b o (fun z=>hc (by simp [z])) e⟩) (fun _ _ e=>e) (fun _ _ _ e=>e) (fun b ps e=>⟨#[],by rw [e]; simp⟩) (fun m hm=>?_) (fun b u e=>?_) I.bare
 · have e:b=it:=by simpa using hb
   subst e
   exact ⟨h1,hL,h2,h3⟩
 · obtain ⟨o,es,ep,ho,r⟩:=hm
   exact ⟨o,es,ep,k _ o (Ne.symm hL) ho,r⟩
 · refine (I.hok b u e).stay (fun c v hc q=>k c v ?_ q) (fun _ q=>q) fun _ _ q=>q
   rcases hc with z | z
   · rw [z]; exact nit b u e
   · exact nit c _ z
theorem Inv.tok (I:Inv X pins σ H s) (t:Nat):Inv X pins σ H { s with toks:=t }:=I.un (h':=s.heap) (t':=t) Un.refl I.hok
theorem Inv.kept {t':Nat} (I:Inv X pins σ H s) (k:∀ b u,s.heap.get? b=some u→h'.get? b=some u):Inv X pins σ H { s with heap:=h',toks:=t' }:=I.un (Un.kept k) (I.hok.kept k)
theorem Inv.laid {a:Addr} {o:HO} {t':Nat} (I:Inv X pins σ H s) (k:∀ b u,s.heap.get? b=some u→h'.get? b=some u) (hp:s.heap.objs.size≤a) (new:ObjOk X.prog X.w (upd H a o) h' a o) :
 Inv X pins σ (upd H a o) { s with heap:=h',toks:=t' }:=I.un (Un.laid k hp (I.hok.fresh hp)) (I.hok.laid k hp new)
theorem Inv.write {x e:Addr} {o:HO} {t':Nat} (I:Inv X pins σ H s) (mu:Mut (H x)) (he:e=x∨H e=some (.own x)) (k:∀ b u,b≠e→s.heap.get? b=some u→h'.get? b=some u) (heo:∃ u,h'.get? e=some u)
 (new:ObjOk X.prog X.w (upd H x o) h' x o):Inv X pins σ (upd H x o) { s with heap:=h',toks:=t' }:=I.un (Un.write mu he k heo) (I.hok.write mu he k heo new)
theorem Inv.pins_of {pins':List (Addr×Obj)} (I:Inv X pins σ H s) (h:∀ p∈pins',s.heap.get? p.1=some p.2∧H p.1=none∧p.1≠X.env.locals∧p.1∉X.fs∧∀ v,p.2.data≠.cell v):Inv X pins' σ H s :=
 ⟨I.ok,I.os,I.bare,I.base,I.loc,I.cell,I.free,I.freeC,fun p hp=>(List.mem_append.mp hp).elim (fun z=>I.pin p (List.mem_append_left _ z)) (h p),I.hok,I.len⟩
theorem nodup_ix {N:List Str} (hN:N.Nodup) {i j:Nat} {x:Str} (a:N[i]? = some x) (b:N[j]? = some x):i=j:=by
 obtain ⟨h1,e1⟩:=List.getElem?_eq_some_iff.mp a
 obtain ⟨h2,e2⟩:=List.getElem?_eq_some_iff.mp b
 exact (List.getElem_inj hN).mp (e1.trans e2.symm)
theorem store_ok2 {M:Model} {A:Around} {E:Value→Shared→Prop} {i:Nat} {x:Str} {v:V} {u:Value} {Q:Unit→Shared→Prop} (I:Inv X pins σ H s) (hN:X.N.Nodup) (hi:X.N[i]? = some x) (hx:Loc X.env.scope x) (r:RelV v u)
 (h:∀ s',Inv X pins (σ.set i (some v)) H s'→(∃ a,Heap.SameBut a s.heap s'.heap∧(a=X.env.locals∨X.env.cells.lookup x=some a))→Q () s') (hf:X.fn x=true∨X.env.scope.names.lookup x=some .local:=by first | exact .inl rfl | exact .inr rfl | assumption):wpAny M A (storeName X.env x u) Q E s:=by
 obtain ⟨m,hn,hl⟩:=id I.loc
 have hcls:(X.env.scope.kind == .class || (X.env.scope.kind == .module && X.env.locals != X.env.globals))=false:=by rw [I.ok.kind]; rfl
 have hiσ:i < σ.length:=by rw [I.len]; exact (List.getElem?_eq_some_iff.mp hi).1
 have cne:=I.cne
 have tracked:∀ {a:Addr} {h':Heap},(∃ o,s.heap.get? a=some o∧H a=none)→Heap.SameBut a s.heap h'→HOk X.prog X.w H h':=fun {a h'} ha hs b ob e=>by
  obtain ⟨_,_,hfree⟩:=ha
  refine (I.hok b ob e).stay (fun c w' hc q=>(hs.2 c ?_).trans q) (fun _ q=>q) fun _ _ q=>q
  rintro rfl
  rcases hc with rfl | hc
  · rw [hfree] at e; cases e
  · rw [hfree] at hc; cases hc
 rcases hx with hk | hk
 · refine wpAny_storeName_local hk hn (fun h' hn' hs=>?_) hcls
   obtain ⟨oL,_,_,hoL,_⟩:=id hn
   refine h _ ⟨I.ok,I.os,I.bare,⟨fun b o e n hb hx=>?_,fun b o e n hb hx=>?_,I.base.free,fun b o e hx=>?_,I.base.tups,I.base.frzs,I.base.tbls⟩,⟨_,hn',fun j y v' e1 e2 e3=>?_⟩,fun y c e=>?_,I.free,I.freeC,fun p hp=>?_,tracked ⟨oL,hoL,I.free⟩ hs,by simpa using I.len⟩ ⟨_,hs,.inl rfl⟩
   · exact (hs.2 b (Nat.ne_of_lt (Nat.lt_of_lt_of_le (Heap.lt_size e) I.ok.above))).trans (I.base.keep b o e n hb hx)
   · obtain ⟨sl,e1⟩:=I.base.slot b o e n hb hx
     exact ⟨sl,(hs.2 b (Nat.ne_of_lt (Nat.lt_of_lt_of_le (Heap.lt_size e) I.ok.above))).trans e1⟩
   · obtain ⟨o',e1⟩:=I.base.there b o e hx
     exact ⟨o',(hs.2 b (Nat.ne_of_lt (Nat.lt_of_lt_of_le (Heap.lt_size e) I.ok.above))).trans e1⟩
   · by_cases hj:j=i
     · subst hj
       rw [hi] at e1; cases e1
       rw [List.getElem?_set_self hiσ] at e2
       cases e2
       exact ⟨u,r,.inl ⟨hk,by simp⟩⟩
     · rw [List.getElem?_set_ne (Ne.symm hj)] at e2
       obtain ⟨u',r',q⟩:=hl j y v' e1 e2 e3
       refine ⟨u',r',?_⟩
       rcases q with ⟨k,e⟩ | ⟨k,c,e,z⟩
       · refine .inl ⟨k,?_⟩
         have:y≠x:=fun e=>hj (nodup_ix hN e1 (e ▸ hi))
         simp [this,e]
       · exact .inr ⟨k,c,e,z.sameBut hs (cne y c e)⟩
   · obtain ⟨w',z⟩:=I.cell y c e
     exact ⟨w',z.sameBut hs (cne y c e)⟩
   · obtain ⟨e,n,ne,nf,d⟩:=I.pin p hp
     exact ⟨(hs.2 p.1 ne).trans e,n,ne,nf,d⟩
 · have hfn:X.fn x=true:=by
    rcases hf with z | z
    · exact z
    · rw [z] at hk; cases hk
   obtain ⟨c,hc⟩:=I.ok.has x (.inl hk)
   obtain ⟨w',z⟩:=I.cell x c hc
   refine wpAny_storeName_cell I.ok.kind hk hc z (fun h' hc' hs=>?_)
   obtain ⟨oc,hoc,hocd⟩:=id z
   refine h { s with heap:=h' } ⟨I.ok,I.os,I.bare,⟨fun b o e n hb hx=>?_,fun b o e n hb hx=>?_,I.base.free,fun b o e hx=>?_,I.base.tups,I.base.frzs,I.base.tbls⟩,⟨m,hn.sameBut hs (Ne.symm (cne x c hc)),fun j y v' e1 e2 e3=>?_⟩,fun y c' e=>?_,I.free,I.freeC,fun p hp=>?_,tracked ⟨oc,hoc,(I.freeC x c hc).elim id fun z=>(by rw [hfn] at z; cases z.1)⟩ hs,by simpa using I.len⟩ ⟨c,hs,.inr hc⟩
   · exact (hs.2 b (Nat.ne_of_lt (Nat.lt_of_lt_of_le (Heap.lt_size e) (I.ok.cab x c hfn hc)))).trans (I.base.keep b o e n hb hx)
   · obtain ⟨sl,e1⟩:=I.base.slot b o e n hb hx
     exact ⟨sl,(hs.2 b (Nat.ne_of_lt (Nat.lt_of_lt_of_le (Heap.lt_size e) (I.ok.cab x c hfn hc)))).trans e1⟩
   · obtain ⟨o',e1⟩:=I.base.there b o e hx
     exact ⟨o',(hs.2 b (Nat.ne_of_lt (Nat.lt_of_lt_of_le (Heap.lt_size e) (I.ok.cab x c hfn hc)))).trans e1⟩
   · by_cases hj:j=i
     · subst hj
       rw [hi] at e1; cases e1
       rw [List.getElem?_set_self hiσ] at e2
       cases e2
       exact ⟨u,r,.inr ⟨.inl hk,c,hc,hc'⟩⟩
     · rw [List.getElem?_set_ne (Ne.symm hj)] at e2
       obtain ⟨u',r',q⟩:=hl j y v' e1 e2 e3
       refine ⟨u',r',?_⟩
       rcases q with q | ⟨k,c',e,z'⟩
       · exact .inl q
       · refine .inr ⟨k,c',e,z'.sameBut hs ?_⟩
         rintro rfl
         exact hj (nodup_ix hN e1 (I.ok.inj _ _ _ e hc ▸ hi))
   · by_cases hcc:c'=c
     · subst hcc; exact ⟨_,hc'⟩
     · obtain ⟨w2,z2⟩:=I.cell y c' e
       exact ⟨w2,z2.sameBut hs hcc⟩
   · obtain ⟨e,n,ne,nf,d⟩:=I.pin p hp
     refine ⟨(hs.2 p.1 ?_).trans e,n,ne,nf,d⟩
     intro q
     rw [q,hoc] at e
     have q':oc=p.2:=Option.some.inj e
     exact d w' (by rw [← q']; exact hocd)
theorem store_ok {M:Model} {A:Around} {E:Value→Shared→Prop} {i:Nat} {x:Str} {v:V} {u:Value} {Q:Unit→Shared→Prop} (I:Inv X pins σ H s) (hN:X.N.Nodup) (hi:X.N[i]? = some x) (hx:Loc X.env.scope x) (r:RelV v u)
 (h:∀ s',Inv X pins (σ.set i (some v)) H s'→Q () s') (hf:X.fn x=true∨X.env.scope.names.lookup x=some .local:=by first | exact .inl rfl | exact .inr rfl | assumption):wpAny M A (storeName X.env x u) Q E s :=
 store_ok2 I hN hi hx r (fun s' I' _=>h s' I') hf
theorem Inv.call' {s':Shared} {ch:List Addr} (I:Inv X pins σ H s) (ho:s'.os=s.os) (u:Un (frs X.stack) ch H H' s.heap s'.heap) (hok:HOk X.prog X.w H' s'.heap) (hg:AllBare s'.gens)
 (hch:∀ b∈ch,(b∈X.ex∨X.s₀.heap.objs.size≤b)∧b≠X.env.locals∧(∀ x c,X.env.cells.lookup x=some c→c≠b)∧∀ p∈X.pn++pins,p.1≠b):Inv X pins σ H' s':=by
 obtain ⟨h',g',d',t',o'⟩:=s'
 have e:o'=s.os:=ho
 subst e
 exact I.call (g':=g') (t':=t') (d':=d') u hok hg hch
end
abbrev XK:=Value→Option Addr→Hp→Prop
abbrev St:=List (Option V)
abbrev VK:=V→Hp→Prop
abbrev TE:=St→Hp→VK→Prop
abbrev TT:=St→Hp→(Bool→Hp→Prop)→Prop
abbrev TA:=St→Hp→(List V→Hp→Prop)→Prop
structure Ends where
 nx:St→Hp→Prop
 rt:VK
 bk:St→Hp→Prop:=fun _ _=>False
 ct:St→Hp→Prop:=fun _ _=>False
abbrev TS:=Ends→St→Hp→Prop
def EP (X:Cx) (pins:List (Addr×Obj)) (σ:St) (Q:VK) (u:Value) (s':Shared):Prop:=∃ v H',Inv X pins σ H' s'∧RelV v u∧Q v H'
def TP (X:Cx) (pins:List (Addr×Obj)) (σ:St) (Q:Bool→Hp→Prop) (b:Bool) (s':Shared):Prop:=∃ H',Inv X pins σ H' s'∧Q b H'
def AP (X:Cx) (pins:List (Addr×Obj)) (σ:St) (Q:List V→Hp→Prop) (us:List Value) (s':Shared):Prop:=∃ vs H',Inv X pins σ H' s'∧Vals vs us∧Q vs H'
def SP (X:Cx) (pins:List (Addr×Obj)) (D:Ends) (f:Flow) (s':Shared):Prop :=
 match f with
 | .next=>∃ σ' H',Inv X pins σ' H' s'∧D.nx σ' H'
 | .brk=>∃ σ' H',Inv X pins σ' H' s'∧D.bk σ' H'
 | .cont=>∃ σ' H',Inv X pins σ' H' s'∧D.ct σ' H'
 | .ret u=>∃ v σ' H',Inv X pins σ' H' s'∧RelV v u∧D.rt v H'
def PE (X:Cx) (e:Expr) (t:TE):Prop :=
 ∀ (pins:List (Addr×Obj)) (s:Shared) (σ:St) (H:Hp) (Q:VK),Inv X pins σ H s→t σ H Q→wpAny (model X.prog X.w) X.A (eval e X.env) (EP X pins σ Q) X.xe s
def PT (X:Cx) (e:Expr) (t:TT):Prop :=
 ∀ (pins:List (Addr×Obj)) (s:Shared) (σ:St) (H:Hp) (Q:Bool→Hp→Prop),Inv X pins σ H s→t σ H Q→wpAny (model X.prog X.w) X.A (isTrue e X.env (eval e X.env)) (TP X pins σ Q) X.xe s
def PW (X:Cx) (e:Expr) (t:TT):Prop :=
 ∀ (whole:Sem Value) (pins:List (Addr×Obj)) (s:Shared) (σ:St) (H:Hp) (Q:Bool→Hp→Prop),Inv X pins σ H s→t σ H Q→wpAny (model X.prog X.w) X.A (isTrue e X.env whole) (TP X pins σ Q) X.xe s
theorem PW.pt {X:Cx} {e:Expr} {t:TT} (h:PW X e t):PT X e t:=h _
def PA (X:Cx) (es:List Expr) (t:TA):Prop :=
 ∀ (pos:Pos) (pins:List (Addr×Obj)) (s:Shared) (σ:St) (H:Hp) (Q:List V→Hp→Prop),Inv X pins σ H s→t σ H Q→wpAny (model X.prog X.w) X.A (spliced (backTo pos (starEach es X.env))) (AP X pins σ Q) X.xe s
def PS (X:Cx) (st:Stmt) (t:TS):Prop :=
 ∀ (pins:List (Addr×Obj)) (s:Shared) (σ:St) (H:Hp) (D:Ends),Inv X pins σ H s→t D σ H→wpAny (model X.prog X.w) X.A (exec st X.env) (SP X pins D) X.xe s
def PSs (X:Cx) (st:List Stmt) (t:TS):Prop :=
 ∀ (pins:List (Addr×Obj)) (s:Shared) (σ:St) (H:Hp) (D:Ends),Inv X pins σ H s→t D σ H→wpAny (model X.prog X.w) X.A (execs st X.env) (SP X pins D) X.xe s
theorem thn {α:Type} {t:Sem α} {Q Q':α→Shared→Prop} {M:Model} {A:Around} {E:Value→Shared→Prop} {s:Shared} (h:wpAny M A t Q E s) (hQ:∀ a s,Q a s→Q' a s):wpAny M A t Q' E s:=wpAny_mono h hQ fun _ _ x=>x
end L2
namespace L2
open PySem PySem.Spec PyProof.Rows
section
variable {X:Cx}
def tVar (i:Nat):TE:=fun σ H Q=>∃ v,σ[i]? = some (some v)∧Q v H
def tC (v:V):TE:=fun _ H Q=>Q v H
theorem pe_var {i:Nat} {x:Str} {pos:Pos} (hN:X.N[i]? = some x) (hv:Vis X.env.scope x) (hd:(x == ("__debug__" : Str))=false:=by decide) (hcd:(x == ("__classdict__" : Str))=false:=by decide):PE X (.Name x pos) (tVar i):=by
 intro pins s σ H Q I h
 obtain ⟨v,e,h⟩:=h
 obtain ⟨m,hn,hl⟩:=I.loc
 obtain ⟨u,r,l⟩:=hl i x v hN e hv
 have fin:EP X pins σ Q u s:=⟨v,H,I,r,h⟩
 rcases l with ⟨hk,hm⟩ | ⟨hk,c,hc,hcell⟩
 · exact wpAny_Name (wpAny_loadName_local I.ok.kind hk hn hm fin) hd
 · rcases hk with hk | hk
   · exact wpAny_Name (wpAny_loadName_cell I.ok.kind hk hc hcell fin) hd
   · exact wpAny_Name (wpAny_loadName_free I.ok.kind hk hc hcell fin hcd) hd
theorem pe_int {i j pos}:PE X (.Constant (.int i) j pos) (tC (.int i)):=fun _ _ _ H _ I h=>wpAny_Constant_int ⟨.int i,H,I.tok _,⟨_,rfl⟩,h⟩
theorem pe_bl {b j pos}:PE X (.Constant (.bool b) j pos) (tC (.bl b)):=fun _ _ _ H _ I h=>Constant_bool ⟨.bl b,H,I,rfl,h⟩
theorem pe_non {j pos}:PE X (.Constant .none j pos) (tC .non):=fun _ _ _ H _ I h=>Constant_none ⟨.non,H,I,rfl,h⟩
theorem pe_str {x j pos}:PE X (.Constant (.str x) j pos) (tC (.str x)):=fun _ _ _ H _ I h=>Calls.Constant_str ⟨.str x,H,I.tok _,⟨_,rfl⟩,h⟩
def Gl (X:Cx) (x:Str):Prop:=X.env.kindOf x=some .globalImplicit
theorem ld_glob {E:Value→Shared→Prop} {pins:List (Addr×Obj)} {s:Shared} {σ:St} {H:Hp} {x:Str} {u:Value} {pos:Pos} {Q:Value→Shared→Prop} (I:Inv X pins σ H s) (hg:Gl X x) (hm:X.mg x=some u) (h:Q u s)
 (hd:(x == ("__debug__" : Str))=false:=by decide):wpAny (model X.prog X.w) X.A (eval (.Name x pos) X.env) Q E s :=
 Calls.Name_function_global I.ok.kind hg (Calls.loadGlobal_global (by rw [I.ok.glob]; exact I.mod.glob.keeps I.bk) hm h) hd
theorem ld_blt {E:Value→Shared→Prop} {pins:List (Addr×Obj)} {s:Shared} {σ:St} {H:Hp} {x:Str} {u:Value} {pos:Pos} {Q:Value→Shared→Prop} (I:Inv X pins σ H s) (hg:Gl X x) (hm:X.mg x=none) (hv:bootBuiltins x=some u) (h:Q u s)
 (hn:x ≠ "__name__" := by decide) (hd:(x == ("__debug__" : Str))=false:=by decide):wpAny (model X.prog X.w) X.A (eval (.Name x pos) X.env) Q E s:=by
 obtain ⟨mb,h1,h2⟩:=I.mod.blt
 exact Calls.Name_function_global I.ok.kind hg (Calls.loadGlobal_builtin (by rw [I.ok.glob]; exact I.mod.glob.keeps I.bk) hm (by rw [I.ok.blt]; exact h1.keeps I.bk) ((h2 x hn).trans hv) h) hd
theorem pe_glob {x:Str} {v:V} {u:Value} {pos:Pos} (hg:Gl X x) (hm:X.mg x=some u) (r:RelV v u) (hd:(x == ("__debug__" : Str))=false:=by decide):PE X (.Name x pos) (tC v) :=
 fun _ _ _ H _ I h=>ld_glob I hg hm ⟨v,H,I,r,h⟩ hd
theorem pe_bltn {x:Str} {v:V} {u:Value} {pos:Pos} (hg:Gl X x) (hm:X.mg x=none) (hv:bootBuiltins x=some u) (r:RelV v u) (hn:x ≠ "__name__" := by decide) (hd:(x == ("__debug__" : Str))=false:=by decide):PE X (.Name x pos) (tC v) :=
 fun _ _ _ H _ I h=>ld_blt I hg hm hv ⟨v,H,I,r,h⟩ hn hd
variable {a b:Expr} {ta tb:TE} {pos:Pos}
variable {tA tB':TT} {rest:List Expr}
def tAnd (t u:TT):TT:=fun σ H Q=>t σ H fun c H1=>if c=true then u σ H1 Q else Q false H1
def tOr (t u:TT):TT:=fun σ H Q=>t σ H fun c H1=>if c=true then Q true H1 else u σ H1 Q
def tNot (t:TT):TT:=fun σ H Q=>t σ H fun c H1=>Q (!c) H1
theorem pw_and1 (ha:PT X a tA):PW X (.BoolOp .And [a] pos) tA:=by
 intro wh pins s σ H Q I h
 refine isTrue_and (thn (ha pins s σ H Q I h) fun c s1 e=>?_)
 cases c with
 | true=>exact isTrue_and_nil e
 | false=>exact e
theorem pw_or1 (ha:PT X a tA):PW X (.BoolOp .Or [a] pos) tA:=by
 intro wh pins s σ H Q I h
 refine isTrue_or (thn (ha pins s σ H Q I h) fun c s1 e=>?_)
 cases c with
 | false=>exact isTrue_or_nil e
 | true=>exact e
theorem pw_and (ha:PT X a tA) (hb:PW X (.BoolOp .And (b :: rest) pos) tB'):PW X (.BoolOp .And (a :: b :: rest) pos) (tAnd tA tB'):=by
 intro wh pins s σ H Q I h
 refine isTrue_and (thn (ha pins s σ H _ I h) fun c s1 ⟨H1,I1,q1⟩=>?_)
 cases c with
 | true=>exact hb wh pins s1 σ H1 Q I1 q1
 | false=>exact ⟨H1,I1,q1⟩
theorem pw_or (ha:PT X a tA) (hb:PW X (.BoolOp .Or (b :: rest) pos) tB'):PW X (.BoolOp .Or (a :: b :: rest) pos) (tOr tA tB'):=by
 intro wh pins s σ H Q I h
 refine isTrue_or (thn (ha pins s σ H _ I h) fun c s1 ⟨H1,I1,q1⟩=>?_)
 cases c with
 | true=>exact ⟨H1,I1,q1⟩
 | false=>exact hb wh pins s1 σ H1 Q I1 q1
theorem pt_not (ha:PT X a tA):PT X (.UnaryOp .Not a pos) (tNot tA):=by
 intro pins s σ H Q I h
 exact isTrue_not (ha pins s σ H (fun c H1=>Q (!c) H1) I h)
def tAndV (ta tb:TE):TE:=fun σ H Q=>ta σ H fun x H1=>∃ c,x=.bl c∧if c=true then tb σ H1 Q else Q (.bl false) H1
def tNotV (ta:TE):TE:=fun σ H Q=>ta σ H fun x H1=>∃ c,x=.bl c∧Q (.bl (!c)) H1
theorem pe_one {op} {t:TE} (h:PE X a t):PE X (.BoolOp op [a] pos) t:=fun pins s σ H Q I hw=>BoolOp_one (h pins s σ H Q I hw)
theorem pe_and (ha:PE X a ta) (hb:PE X (.BoolOp .And (b :: rest) pos) tb):PE X (.BoolOp .And (a :: b :: rest) pos) (tAndV ta tb):=by
 intro pins s σ H Q I h
 refine BoolOp_and (thn (ha pins s σ H _ I h) fun v s1 ⟨x,H1,I1,r1,q1⟩=>?_)
 obtain ⟨c,rfl,q1⟩:=q1
 cases r1
 refine wpAny_truthy_bool ?_
 cases c with
 | true=>exact hb pins s1 σ H1 Q I1 q1
 | false=>exact ⟨.bl false,H1,I1,rfl,q1⟩
theorem pe_not (ha:PE X a ta):PE X (.UnaryOp .Not a pos) (tNotV ta):=by
 intro pins s σ H Q I h
 refine UnaryOp_ (thn (ha pins s σ H _ I h) fun v s1 ⟨x,H1,I1,r1,q1⟩=>?_)
 obtain ⟨c,rfl,q1⟩:=q1
 cases r1
 exact not_of (wpAny_truthy_bool ⟨.bl (!c),H1,I1,rfl,q1⟩)
def tIf (t:TT) (ta tb:TE):TE:=fun σ H Q=>t σ H fun c H1=>if c=true then ta σ H1 Q else tb σ H1 Q
theorem pe_ifExp {c:Expr} (hc:PT X c tA) (ha:PE X a ta) (hb:PE X b tb):PE X (.IfExp c a b pos) (tIf tA ta tb):=by
 intro pins s σ H Q I h
 refine wpAny_IfExp (thn (hc pins s σ H _ I h) fun d s1 ⟨H1,I1,q1⟩=>?_)
 cases d with
 | true=>exact ha pins s1 σ H1 Q I1 q1
 | false=>exact hb pins s1 σ H1 Q I1 q1
end
end L2
namespace L2
open PySem PySem.Spec PyProof.Rows
def SqL (K:PySem.W.Frag) (H:Hp) (a:Addr) (xs:List V):Prop :=
 Rd H a (.lst xs) ∨
  ∃ (o:Obj) (its:Array Value) (n:Nat),K.lookup a=some o∧o.cls=.type "list" ∧ o.dict=none∧o.data=.seq its n∧its.size≤sizeLine∧Vals xs its.toList
def SqT (K:PySem.W.Frag) (H:Hp) (a:Addr) (xs:List V):Prop :=
 Rd H a (.tup xs) ∨
  ∃ (o:Obj) (its:Array Value) (n:Nat),K.lookup a=some o∧o.cls=.type "tuple" ∧ o.data=.seq its n∧its.size≤sizeLine∧Vals xs its.toList
def absV:Value→Option V
 | .none=>some .non
 | .bool b=>some (.bl b)
 | .int i _=>some (.int i)
 | .str x _=>some (.str x)
 | .bytes b _=>some (.byt b)
 | .float b _=>some (.flt b)
 | .ref a=>some (.ref a)
 | .type n=>some (.ty n)
 | _=>none
theorem RelV.abs {x:V} {u:Value} (r:RelV x u):absV u=some x:=by
 cases x with
 | non=>cases r; rfl
 | bl _=>cases r; rfl
 | int _=>obtain ⟨t,rfl⟩:=r; rfl
 | str _=>obtain ⟨t,rfl⟩:=r; rfl
 | byt _=>obtain ⟨t,rfl⟩:=r; rfl
 | flt _=>obtain ⟨t,rfl⟩:=r; rfl
 | ref _=>cases r; rfl
 | ty _=>cases r; rfl
theorem RelV.inj {x y:V} {u:Value} (r:RelV x u) (q:RelV y u):x=y:=Option.some.inj (r.abs.symm.trans q.abs)
theorem Vals.inj:∀ {xs ys:List V} {us:List Value},Vals xs us→Vals ys us→xs=ys
 | _,_,_,.nil,.nil=>rfl
 | _,_,_,.cons r t,.cons r' t'=>by rw [r.inj r',Vals.inj t t']
section
variable {X:Cx} {pins:List (Addr×Obj)} {σ:St} {H:Hp} {s:Shared} {a:Addr} {xs ys:List V}
theorem SqL.of {K:PySem.W.Frag} (h:H a=some (.lst xs)):SqL K H a xs:=.inl (.inl h)
theorem SqT.of {K:PySem.W.Frag} (h:H a=some (.tup xs)):SqT K H a xs:=.inl (.inl h)
theorem Inv.list (I:Inv X pins σ H s) (h:SqL X.K H a xs):∃ its:List Value,Vals xs its∧PlainL s.heap a its.toArray∧xs.length≤sizeLine:=by
 rcases h with h | ⟨o,its,n,hk,hc,hd,hs,hz,r⟩
 · obtain ⟨z,its,n,r,e⟩:=h.ok I.hok
   exact ⟨its,r,⟨_,n,e,rfl,rfl,rfl⟩,z⟩
 · refine ⟨its.toList,r,⟨o,n,I.kIn a o hk,hc,hd,by simpa using hs⟩,?_⟩
   have e:=r.length
   simp only [Array.length_toList] at e
   omega
theorem Inv.tuple (I:Inv X pins σ H s) (h:SqT X.K H a xs):∃ its:List Value,Vals xs its∧IsTup s.heap a its.toArray∧xs.length≤sizeLine:=by
 rcases h with h | ⟨o,its,n,hk,hc,hs,hz,r⟩
 · obtain ⟨z,its,r,p⟩:=h.ok I.hok
   exact ⟨its,r,p,z⟩
 · refine ⟨its.toList,r,⟨o,I.kIn a o hk,hc,n,by simpa using hs⟩,?_⟩
   have e:=r.length
   simp only [Array.length_toList] at e
   omega
theorem Inv.list_inj (I:Inv X pins σ H s) (h:SqL X.K H a xs) (h':SqL X.K H a ys):xs=ys:=by
 obtain ⟨its,r,⟨o,n,e,_,_,d⟩,_⟩:=I.list h
 obtain ⟨its',r',⟨o',n',e',_,_,d'⟩,_⟩:=I.list h'
 rw [e] at e'; cases e'
 rw [d] at d'
 injection d' with d1 _
 have:its=its':=by simpa using congrArg Array.toList d1
 subst this
 exact r.inj r'
theorem Inv.tuple_inj (I:Inv X pins σ H s) (h:SqT X.K H a xs) (h':SqT X.K H a ys):xs=ys:=by
 obtain ⟨its,r,⟨o,e,_,n,d⟩,_⟩:=I.tuple h
 obtain ⟨its',r',⟨o',e',_,n',d'⟩,_⟩:=I.tuple h'
 rw [e] at e'; cases e'
 rw [d] at d'
 injection d' with d1 _
 have:its=its':=by simpa using congrArg Array.toList d1
 subst this
 exact r.inj r'
end
abbrev Cx.wish (X:Cx) (E:Value→Shared→Prop):Cx:={ X with xe:=E }
abbrev Cx.nox (X:Cx):Cx:=X.wish fun _ _=>False
theorem Cx.Ok.wish {X:Cx} (ok:X.Ok) (E:Value→Shared→Prop):(X.wish E).Ok :=
 ⟨ok.mod,ok.kind,ok.glob,ok.blt,ok.above,ok.inj,ok.has,ok.cab,ok.hd,ok.frames,ok.stk,ok.exf,ok.bs,ok.bsz,ok.noex,ok.exfs,ok.funs,ok.frf⟩
theorem Cx.Ok.unwish {X:Cx} {E:Value→Shared→Prop} (ok:(X.wish E).Ok):X.Ok :=
 ⟨ok.mod,ok.kind,ok.glob,ok.blt,ok.above,ok.inj,ok.has,ok.cab,ok.hd,ok.frames,ok.stk,ok.exf,ok.bs,ok.bsz,ok.noex,ok.exfs,ok.funs,ok.frf⟩
section
variable {X:Cx} {pins:List (Addr×Obj)} {σ:St} {H:Hp} {s:Shared} {E:Value→Shared→Prop}
theorem Inv.wish (I:Inv X pins σ H s) (E:Value→Shared→Prop):Inv (X.wish E) pins σ H s:=⟨I.ok.wish E,I.os,I.bare,I.base,I.loc,I.cell,I.free,I.freeC,I.pin,I.hok,I.len⟩
theorem Inv.unwish (I:Inv (X.wish E) pins σ H s):Inv X pins σ H s:=⟨I.ok.unwish,I.os,I.bare,I.base,I.loc,I.cell,I.free,I.freeC,I.pin,I.hok,I.len⟩
theorem SP.unwish {D:Ends} {f:Flow} {s':Shared} (h:SP (X.wish E) pins D f s'):SP X pins D f s':=by
 cases f with
 | next=>obtain ⟨σ',H',I,q⟩:=h; exact ⟨σ',H',I.unwish,q⟩
 | brk=>obtain ⟨σ',H',I,q⟩:=h; exact ⟨σ',H',I.unwish,q⟩
 | cont=>obtain ⟨σ',H',I,q⟩:=h; exact ⟨σ',H',I.unwish,q⟩
 | ret u=>obtain ⟨v,σ',H',I,r,q⟩:=h; exact ⟨v,σ',H',I.unwish,r,q⟩
theorem PSs.nox {st:List Stmt} {t:TS} (h:PSs X.nox st t):PSs X st t:=fun pins s σ H D I hw =>
 wpAny_mono (h pins s σ H D (I.wish _) hw) (fun _ _ q=>q.unwish) fun _ _ z=>False.elim z
end
section
variable {X:Cx} {st:Stmt} {rest:List Stmt} {t u:TS} {e:Expr} {te:TE} {pos:Pos}
def tNext:TS:=fun D σ H=>D.nx σ H
def tSeq (t u:TS):TS:=fun D σ H=>t { D with nx:=u D } σ H
theorem pss_nil:PSs X [] tNext:=fun _ _ σ H _ I h=>wpAny_execs_nil ⟨σ,H,I,h⟩
theorem pss_cons (h1:PS X st t) (h2:PSs X rest u):PSs X (st :: rest) (tSeq t u):=by
 intro pins s σ H D I h
 refine wpAny_execs_cons (thn (h1 pins s σ H { D with nx:=u D } I h) fun f s1 q=>?_)
 cases f with
 | next =>
   obtain ⟨σ',H',I',q⟩:=q
   exact h2 pins s1 σ' H' D I' q
 | ret v=>exact q
 | brk=>exact q
 | cont=>exact q
theorem pss_one (h1:PS X st t):PSs X [st] t:=by
 intro pins s σ H D I h
 refine wpAny_execs_cons (thn (h1 pins s σ H D I h) fun f s1 q=>?_)
 cases f with
 | next=>exact wpAny_execs_nil q
 | ret v=>exact q
 | brk=>exact q
 | cont=>exact q
theorem Inv.quiet {pins:List (Addr×Obj)} {σ:St} {H:Hp} {s:Shared} (I:Inv X pins σ H s):interactive X.env=false:=by simp [interactive,I.ok.kind]
def tDrop (te:TE):TS:=fun D σ H=>te σ H fun _ H1=>D.nx σ H1
theorem ps_expr (he:PE X e te) (hs:swapsWith e none pos.line X.env=pure false:=by rfl):PS X (.Expr e pos) (tDrop te):=by
 intro pins s σ H D I h
 exact wpAny_Expr_any (thn (he pins s σ H _ I h) fun v s1 ⟨x,H1,I1,r1,q1⟩=>⟨σ,H1,I1,q1⟩) I.quiet hs
def tRet (te:TE):TS:=fun D σ H=>te σ H D.rt
theorem ps_ret (he:PE X e te):PS X (.Return (some e) pos) (tRet te):=by
 intro pins s σ H D I h
 exact wpAny_Return_some (thn (he pins s σ H _ I h) fun v s1 ⟨x,H1,I1,r1,q1⟩=>⟨x,σ,H1,I1,r1,q1⟩)
def tIfS (c:TT) (t u:TS):TS:=fun D σ H=>c σ H fun b H1=>if b=true then t D σ H1 else u D σ H1
theorem ps_if {c:Expr} {a b:List Stmt} {tc:TT} (hc:PT X c tc) (ha:PSs X a t) (hb:PSs X b u):PS X (.If c a b pos) (tIfS tc t u):=by
 intro pins s σ H D I h
 refine wpAny_If (thn (hc pins s σ H _ I h) fun d s1 ⟨H1,I1,q1⟩=>?_)
 cases d with
 | true=>exact ha pins s1 σ H1 D I1 q1
 | false=>exact hb pins s1 σ H1 D I1 q1
def tNever:TS:=fun _ _ _=>False
theorem pss_never {sts:List Stmt}:PSs X sts tNever:=fun _ _ _ _ _ _ h=>h.elim
end
abbrev TG:=V→St→Hp→(St→Hp→Prop)→Prop
abbrev TGs:=List V→St→Hp→(St→Hp→Prop)→Prop
def PG (X:Cx) (target:Expr) (t:TG):Prop :=
 ∀ (pins:List (Addr×Obj)) (s:Shared) (σ:St) (H:Hp) (v:V) (u:Value) (Q:St→Hp→Prop),Inv X pins σ H s→RelV v u→t v σ H Q →
   wpAny (model X.prog X.w) X.A (assign target X.env u) (fun _ s'=>∃ σ' H',Inv X pins σ' H' s'∧Q σ' H') X.xe s
def PGs (X:Cx) (ts:List Expr) (t:TGs):Prop :=
 ∀ (pins:List (Addr×Obj)) (s:Shared) (σ:St) (H:Hp) (vs:List V) (us:List Value) (Q:St→Hp→Prop),Inv X pins σ H s→Vals vs us→t vs σ H Q →
   wpAny (model X.prog X.w) X.A (assignInOrder ((assignEach ts X.env).map (·.2)) us) (fun _ s'=>∃ σ' H',Inv X pins σ' H' s'∧Q σ' H') X.xe s
abbrev TSet:=V→V→V→Hp→(Hp→Prop)→Prop
def PSet (X:Cx) (t:TSet):Prop :=
 ∀ (pins:List (Addr×Obj)) (s:Shared) (σ:St) (H:Hp) (o i v:V) (ov iv u:Value) (Q:Hp→Prop),Inv X pins σ H s→RelV o ov→RelV i iv→RelV v u→t o i v H Q →
   wpAny (model X.prog X.w) X.A (setItem ov iv u) (fun _ s'=>∃ H',Inv X pins σ H' s'∧Q H') X.xe s
section
variable {X:Cx} {pos:Pos}
def gName (i:Nat):TG:=fun v σ H Q=>Q (σ.set i (some v)) H
theorem pg_name {i:Nat} {x:Str} (hN:X.N.Nodup) (hi:X.N[i]? = some x) (hx:Loc X.env.scope x) (hf:X.fn x=true∨X.env.scope.names.lookup x=some .local:=by first | exact .inl rfl | exact .inr rfl | assumption):PG X (.Name x pos) (gName i):=by
 intro pins s σ H v u Q I r h
 exact wpAny_assign_Name (store_ok I hN hi hx r (fun s' I'=>⟨_,H,I',h⟩) hf)
def gNil:TGs:=fun vs σ H Q=>vs=[]∧Q σ H
def gCons (t:TG) (u:TGs):TGs:=fun vs σ H Q=>∃ v r,vs=v :: r∧t v σ H fun σ' H'=>u r σ' H' Q
theorem pgs_nil:PGs X [] gNil:=by
 intro pins s σ H vs us Q I r h
 obtain ⟨e,h⟩:=h
 subst e
 cases r
 exact assignInOrder_nil ⟨σ,H,I,h⟩
theorem pgs_cons {e:Expr} {es:List Expr} {t:TG} {u:TGs} (h1:PG X e t) (h2:PGs X es u)
 (hs:(assignEach (e :: es) X.env).map (·.2)=assign e X.env :: (assignEach es X.env).map (·.2):=by rfl):PGs X (e :: es) (gCons t u):=by
 intro pins s σ H vs us Q I r h
 obtain ⟨v,vr,e1,h⟩:=h
 subst e1
 cases r with
 | cons r rr =>
   rw [hs]
   refine assignInOrder_cons (thn (h1 pins s σ H _ _ _ I r h) fun _ s1 ⟨σ1,H1,I1,q1⟩=>?_)
   exact h2 pins s1 σ1 H1 _ _ Q I1 rr q1
def gTup (K:PySem.W.Frag) (n:Nat) (t:TGs):TG:=fun v σ H Q=>∃ a xs,v=.ref a∧SqT K H a xs∧xs.length=n∧t xs σ H Q
theorem pg_tup {es:List Expr} {k:Nat} {t:TGs} {n:Nat} (hc:X.calm=true) (h:PGs X es t)
 (hn:(assignEach es X.env).length=n:=by rfl) (hst:(assignEach es X.env).findIdx? (·.1)=none:=by rfl):PG X (.Tuple es k pos) (gTup X.K n t):=by
 intro pins s σ H v u Q I r hw
 obtain ⟨a,xs,e1,hq,hl,hw⟩:=hw
 subst e1
 cases r
 obtain ⟨its,rv,ht,hz⟩:=I.tuple hq
 refine assign_Tuple_tuple (I.ok.hd hc) ht (by simp [hn,← hl,rv.length]) hst fun h' hx=>?_
 have I1:Inv X pins σ H { s with heap:=h' }:=I.kept (t':=s.toks) fun b o e=>hx b o (Nat.ne_of_lt (Heap.lt_size e)) e
 exact h pins _ σ H xs _ Q I1 (by simpa using rv) hw
def gSub (to ti:TE) (t:TSet):TG:=fun v σ H Q=>to σ H fun o H1=>ti σ H1 fun i H2=>t o i v H2 fun H3=>Q σ H3
theorem pg_sub {o i:Expr} {to ti:TE} {t:TSet} (ho:PE X o to) (hi:PE X i ti) (hs:PSet X t)
 (ha:∀ v,assign (.Subscript o i pos) X.env v=(do
   let ov ← holding [v] (eval o X.env)
   let iv ← holding [v,ov] (eval i X.env)
   standAt pos
   holding [v,ov,iv] (setItem ov iv v)
   release [v,ov,iv] []):=by intro _; rfl):PG X (.Subscript o i pos) (gSub to ti t):=by
 intro pins s σ H v u Q I r h
 rw [ha]
 refine wpAny_bind (wpAny_holding (thn (ho pins s σ H _ I h) fun ov s1 ⟨x,H1,I1,r1,q1⟩=>?_))
 refine wpAny_bind (wpAny_holding (thn (hi pins s1 σ H1 _ I1 q1) fun iv s2 ⟨y,H2,I2,r2,q2⟩=>?_))
 refine wpAny_bind (wpAny_standAt (wpAny_bind (wpAny_holding (thn (hs pins s2 σ H2 x y v ov iv u _ I2 r1 r2 r q2) fun _ s3 ⟨H3,I3,q3⟩=>?_))))
 exact wpAny_release ⟨σ,H3,I3,q3⟩
def tAsg (te:TE) (g:TG):TS:=fun D σ H=>te σ H fun x H1=>g x σ H1 D.nx
theorem ps_asg {tg e:Expr} {te:TE} {g:TG} (he:PE X e te) (hg:PG X tg g) (hs:swapsWithSole [tg] e pos.line X.env=pure false:=by rfl) (hw:swappedStores [tg] e X.env=pure none:=by rfl)
 (h1:(assignEach [tg] X.env).map (·.2)=[assign tg X.env]:=by rfl):PS X (.Assign [tg] e pos) (tAsg te g):=by
 intro pins s σ H D I h
 refine wpAny_Assign_stores (thn (he pins s σ H _ I h) fun v s1 ⟨x,H1,I1,r1,q1⟩=>?_) hs hw
 rw [h1]
 exact thn (hg pins s1 σ H1 x v _ I1 r1 q1) fun _ s2 q=>q
theorem ps_set {i:Nat} {x:Str} {e:Expr} {te:TE} {pos':Pos} (hN:X.N.Nodup) (hi:X.N[i]? = some x) (hx:Loc X.env.scope x) (he:PE X e te) (hs:swapsWith e (some (.Name x pos')) pos.line X.env=pure false:=by rfl) (hf:X.fn x=true∨X.env.scope.names.lookup x=some .local:=by first | exact .inl rfl | exact .inr rfl | assumption) :
 PS X (.Assign [.Name x pos'] e pos) (tAsg te (gName i)):=by
 intro pins s σ H D I h
 refine wpAny_Assign_Name (thn (he pins s σ H _ I h) fun v s1 ⟨y,H1,I1,r1,q1⟩=>?_) hs
 exact store_ok I1 hN hi hx r1 (fun s2 I2=>⟨_,H1,I2,q1⟩) hf
def tPar (i j:Nat) (ta:TA):TS:=fun D σ H=>ta σ H fun vs H1=>∃ v w,vs=[v,w]∧D.nx ((σ.set i (some v)).set j (some w)) H1
theorem ps_par {i j:Nat} {x y:Str} {a b:Expr} {ta:TA} {px py pt:Pos} {kt k2 pt2} (hc:X.calm=true) (hN:X.N.Nodup) (hi:X.N[i]? = some x) (hj:X.N[j]? = some y) (hij:i≠j)
 (hx:X.env.scope.names.lookup x=some .local) (hy:X.env.scope.names.lookup y=some .local) (ha:PA X [a,b] ta)
 (hw:swappedStores [.Tuple [.Name x px,.Name y py] kt pt] (.Tuple [a,b] k2 pt2) X.env=pure (some [x,y]))
 (hs:swapsWithSole [.Tuple [.Name x px,.Name y py] kt pt] (.Tuple [a,b] k2 pt2) pos.line X.env=pure false:=by rfl) :
 PS X (.Assign [.Tuple [.Name x px,.Name y py] kt pt] (.Tuple [a,b] k2 pt2) pos) (tPar i j ta):=by
 intro pins s σ H D I h
 rw [exec_Assign_arm]
 refine wpAny_bind (wpAny_standAt ?_)
 rw [hs]
 refine wpAny_bind (wpAny_pure ?_)
 rw [if_neg (by decide)]
 refine wpAny_bind (Tuple_ (thn (ha _ pins s σ H _ I h) fun us s1 ⟨vs,H1,I1,r1,q1⟩=>?_))
 obtain ⟨v,w,e1,q1⟩:=q1
 subst e1
 obtain ⟨u1,u2,rfl,rv,rw'⟩:∃ u1 u2,us=[u1,u2]∧RelV v u1∧RelV w u2:=by
  cases r1 with
  | cons p q =>
    cases q with
    | cons p' q' =>
      cases q'
      exact ⟨_,_,rfl,p,p'⟩
 refine wpAny_newObj_type ?_ (by show 2≤sizeLine; decide)
 have I2:Inv X pins σ H1 { s1 with heap:=s1.heap.push { cls:=.type "tuple",data:=.seq [u1,u2].toArray } }:=I1.kept (t':=s1.toks) fun b o e=>Heap.get?_push_of_some _ e
 rw [hw]
 refine wpAny_bind (wpAny_pure ?_)
 show wpAny (model X.prog X.w) X.A (do rule "assign.swapped-stores"; let items ← unpackItems (.ref s1.heap.objs.size) 2 none; assignInOrder [fun v=>bindName X.env y v,fun v=>bindName X.env x v] items.reverse; pure Flow.next) _ _ _
 refine wpAny_bind (wpAny_rule (wpAny_bind (unpackItems_tuple (items:=#[u1,u2]) (I.ok.hd hc) (IsTup.new s1.heap _) fun h' hx'=>?_)))
 have I3:=I2.kept (h':=h') (t':=s1.toks) fun b o e=>hx' b o (Nat.ne_of_lt (Heap.lt_size e)) e
 show wpAny _ _ (assignInOrder [fun v=>bindName X.env y v,fun v=>bindName X.env x v] [u2,u1] >>= fun _=>pure Flow.next) _ _ _
 refine wpAny_bind (assignInOrder_cons (wpAny_bindName (store_ok I3 hN hj (.inl hy) rw' (fun s2 I4=>?_) (.inr hy))))
 refine assignInOrder_cons (wpAny_bindName (store_ok I4 hN hi (.inl hx) rv (fun s3 I5=>assignInOrder_nil (wpAny_pure ?_)) (.inr hx)))
 rw [List.set_comm _ _ (Ne.symm hij)] at I5
 exact ⟨_,H1,I5,q1⟩
end
section
variable {X:Cx} {pos:Pos}
def tWhile (c:TT) (tb:TS):TS:=fun D σ H=>∃ W:Nat→St→Hp→Prop,(∃ m,W m σ H)∧∀ m σ H,W m σ H →
 c σ H fun b H1=>if b=true then ∃ N:St→Hp→Prop,(∀ σ' H',N σ' H'→∃ m',m' < m∧W m' σ' H')∧tb { D with nx:=N,ct:=N,bk:=D.nx } σ H1 else D.nx σ H1
theorem ps_while {c:Expr} {body:List Stmt} {tc:TT} {tb:TS} (hp:PassesOwn (model X.prog X.w) X.A X.env X.xe) (hc:PT X c tc) (hb:PSs X body tb):PS X (.While c body [] pos) (tWhile tc tb):=by
 intro pins s σ H D I h
 obtain ⟨W,⟨m0,w0⟩,turn⟩:=h
 refine wpAny_While (codeAny_whileLoop (fun n s'=>∃ σ' H',Inv X pins σ' H' s'∧W n σ' H') ?_ m0 ⟨σ,H,I,w0⟩)
 rintro n s1 ⟨σ1,H1,I1,w1⟩
 refine wpAny_passesOwn hp (thn (hc pins s1 σ1 H1 _ I1 (turn n σ1 H1 w1)) fun b s2 ⟨H2,I2,q2⟩=>?_)
 cases b with
 | true =>
   obtain ⟨N,hN,q2⟩:=q2
   rw [if_pos rfl]
   refine wpAny_passesOwn hp (thn (hb pins s2 σ1 H2 _ I2 q2) fun f s3 q3=>?_)
   cases f with
   | next =>
     obtain ⟨σ3,H3,I3,n3⟩:=q3
     obtain ⟨m',hm,w3⟩:=hN σ3 H3 n3
     exact ⟨m',hm,σ3,H3,I3,w3⟩
   | cont =>
     obtain ⟨σ3,H3,I3,n3⟩:=q3
     obtain ⟨m',hm,w3⟩:=hN σ3 H3 n3
     exact ⟨m',hm,σ3,H3,I3,w3⟩
   | brk=>exact q3
   | ret v=>exact q3
 | false =>
   rw [if_neg Bool.false_ne_true]
   exact wpAny_execs_nil ⟨σ1,H2,I2,q2⟩
end
structure It where
 go:Nat→Hp→Prop
 yld:Nat→Hp→V→Hp→Prop
 stop:Nat→Hp→Prop
def FpOk (X:Cx) (pins:List (Addr×Obj)) (H:Hp) (b:Addr):Prop :=
 H b=none∧b≠X.env.locals∧b∉X.fs∧(b∈X.ex∨X.s₀.heap.objs.size≤b)∧(∀ x c,X.env.cells.lookup x=some c→c≠b)∧∀ p∈X.pn++pins,p.1≠b
theorem Inv.fpOk {X:Cx} {pins:List (Addr×Obj)} {σ:St} {H H':Hp} {s:Shared} {b:Addr} (I:Inv X pins σ H s) (hb:s.heap.objs.size≤b) (hn:H' b=none):FpOk X pins H' b:=by
 refine ⟨hn,Nat.ne_of_gt (Nat.lt_of_lt_of_le I.lt hb),I.nofs hb,.inr (Nat.le_trans I.sz hb),fun x c e z=>?_,fun p hp z=>?_⟩
 · obtain ⟨v,q⟩:=I.cell x c e
   exact absurd (Nat.lt_of_lt_of_le q.lt (by rw [z]; exact hb)) (Nat.lt_irrefl _)
 · exact absurd (Nat.lt_of_lt_of_le (Heap.lt_size (I.pin p hp).1) (by rw [z]; exact hb)) (Nat.lt_irrefl _)
structure Turn (P:Program) (w:World) (K:PySem.W.Frag) (tg:Expr) (J:It) (fp:List Addr) (it:Addr) (tn:Nat→Heap→Prop):Prop where
 mem:it∈fp
 obj:∀ i h,tn i h→∀ b∈fp,∃ o,h.get? b=some o∧∀ v,o.data≠.cell v
 keep:∀ i h h',tn i h→(∀ b∈fp,∀ o,h.get? b=some o→h'.get? b=some o)→tn i h'
 item:∀ (X:Cx),X.prog=P→X.w=w→X.K=K→X.calm=true→∀ (i:Nat) (pins:List (Addr×Obj)) (s:Shared) (σ:St) (H:Hp) (E:Value→Shared→Prop),Inv X pins σ H s→(∀ b∈fp,FpOk X pins H b)→tn i s.heap→J.go i H →
  wpAny (model P w) X.A (pyNext (.ref it)) (fun r s1=>∃ u,r=some u ∧
   wpAny (model P w) X.A (letOwnedTupleGo tg (.ref it) u) (fun _ s2=>∃ x H',Inv X pins σ H' s2∧RelV x u∧J.yld i H x H'∧tn (i+1) s2.heap∧∀ b∈fp,H' b=none) E s1) E s
 done:∀ (X:Cx),X.prog=P→X.w=w→X.K=K→X.calm=true→∀ (i:Nat) (pins:List (Addr×Obj)) (s:Shared) (σ:St) (H:Hp) (E:Value→Shared→Prop),Inv X pins σ H s→(∀ b∈fp,FpOk X pins H b)→tn i s.heap→J.stop i H →
  wpAny (model P w) X.A (pyNext (.ref it)) (fun r s1=>r=none∧Inv X pins σ H s1) E s
 self:∀ (A:Around) (i:Nat) (s:Shared) (Q:Value→Shared→Prop) (E:Value→Shared→Prop),tn i s.heap→Q (.ref it) s→wpAny (model P w) A (pyIter (.ref it)) Q E s
abbrev TI:=St→Hp→(It→Hp→Prop)→Prop
def PIE (X:Cx) (pins:List (Addr×Obj)) (σ:St) (tg:Expr) (R:It→Hp→Prop) (itv:Value) (s2:Shared):Prop :=
 ∃ (it:Addr) (fp:List Addr) (tn:Nat→Heap→Prop) (J:It) (H':Hp),itv=.ref it∧Inv X pins σ H' s2∧Turn X.prog X.w X.K tg J fp it tn∧tn 0 s2.heap∧(∀ b∈fp,FpOk X pins H' b)∧R J H'
def PI (X:Cx) (tg iter:Expr) (wi:TI):Prop :=
 ∀ (pins:List (Addr×Obj)) (s:Shared) (σ:St) (H:Hp) (R:It→Hp→Prop),Inv X pins σ H s→wi σ H R →
   wpAny (model X.prog X.w) X.A (eval iter X.env) (fun v s1=>wpAny (model X.prog X.w) X.A (pyIter v) (PIE X pins σ tg R) X.xe s1) X.xe s
theorem go_of {M:Model} {A:Around} {E:Value→Shared→Prop} {s:Shared} {tg:Expr} {it:Addr} {u:Value} {o:Obj} {n:String} {vs:Array Value} {Q:Unit→Shared→Prop} (ho:s.heap.get? it=some o) (hc:o.cls=.type n) (hd:o.data=.fields vs)
 (hn:["enumerate","zip","dict_itemiterator","dict_reverseitemiterator","odict_iterator","itertools.zip_longest","itertools.pairwise"].contains n=false) (hQ:Q () s):wpAny M A (letOwnedTupleGo tg (.ref it) u) Q E s:=by
 unfold letOwnedTupleGo
 cases tg <;> first
  | exact wpAny_pure hQ
  | (cases u <;> first
      | exact wpAny_pure hQ
      | (refine wpAny_bind (wpAny_load ho ?_)
         rw [hc,hd]
         show wpAny M A (if (["enumerate","zip","dict_itemiterator","dict_reverseitemiterator","odict_iterator","itertools.zip_longest","itertools.pairwise"].contains n && vs[0]? == some (rawInt _))=true then _ else _) Q E s
         rw [if_neg (by intro h; rw [hn,Bool.false_and] at h; cases h)]
         exact wpAny_pure hQ))
def Itl (K:PySem.W.Frag) (a:Addr):It :=
 ⟨fun i H=>∃ xs x,SqL K H a xs∧xs[i]? = some x,fun i H x H'=>H'=H∧∀ xs,SqL K H a xs→xs[i]? = some x,fun i H=>∃ xs,SqL K H a xs∧xs.length≤i⟩
def Itt (K:PySem.W.Frag) (a:Addr):It :=
 ⟨fun i H=>∃ xs x,SqT K H a xs∧xs[i]? = some x,fun i H x H'=>H'=H∧∀ xs,SqT K H a xs→xs[i]? = some x,fun i H=>∃ xs,SqT K H a xs∧xs.length≤i⟩
def Itr (lo:Int) (n:Nat):It:=⟨fun i _=>i < n,fun i H x H'=>H'=H∧x=.int (lo+i),fun i _=>n≤i⟩
theorem turn_list {P:Program} {w:World} {K:PySem.W.Frag} {tg:Expr} (a it:Addr):Turn P w K tg (Itl K a) [it] it (fun i h=>h.IsListIter it a i) where
 mem:=by simp
 obj:=fun i h st b hb=>by
  have e:b=it:=by simpa using hb
  subst e
  obtain ⟨o,e,c,d⟩:=st
  exact ⟨o,e,fun v z=>by rw [d] at z; cases z⟩
 keep:=fun i h h' st k=>st.at fun o e=>k it (by simp) o e
 item:=by
  intro X hP hw hK hc i pins s σ H E I hf st hg
  subst hP hw hK
  obtain ⟨xs,x,hq,hx⟩:=hg
  obtain ⟨its,rv,p,hz⟩:=I.list hq
  obtain ⟨u,hu,ru⟩:=rv.get hx
  obtain ⟨f0,f1,f2,f3,f4,f5⟩:=hf it (by simp)
  refine wpAny_pyNext_list_item st p.isList (x:=u) (by simpa using hu) fun h' st' sb=>?_
  have I1:Inv X pins σ H { s with heap:=h' }:=I.turned (t':=s.toks) (fun b o hb e=>(sb.2 b hb).trans e) f0 f1 f3 f4 f5
  obtain ⟨o,e,c,d⟩:=id st'
  exact ⟨u,rfl,go_of (s:={ s with heap:=h' }) e c d (by decide) ⟨x,H,I1,ru,⟨rfl,fun ys hy=>by rw [I.list_inj hy hq]; exact hx⟩,st',fun b hb=>(hf b hb).1⟩⟩
 done:=by
  intro X hP hw hK hc i pins s σ H E I hf st hg
  subst hP hw hK
  obtain ⟨xs,hq,hx⟩:=hg
  obtain ⟨its,rv,p,hz⟩:=I.list hq
  obtain ⟨f0,f1,f2,f3,f4,f5⟩:=hf it (by simp)
  have hl:=rv.length
  exact wpAny_pyNext_list_end (I.ok.hd hc) st p.isList (by simp; omega) fun h' eb=>⟨rfl,I.turned (t':=s.toks) (fun b o hb e=>eb b o hb e) f0 f1 f3 f4 f5⟩
 self:=fun _ _ _ _ _ st h=>wpAny_pyIter_listiter st h
theorem turn_tuple {P:Program} {w:World} {K:PySem.W.Frag} {tg:Expr} (a it:Addr):Turn P w K tg (Itt K a) [it] it (fun i h=>h.IsTupleIter it a i) where
 mem:=by simp
 obj:=fun i h st b hb=>by
  have e:b=it:=by simpa using hb
  subst e
  obtain ⟨o,e,c,d⟩:=st
  exact ⟨o,e,fun v z=>by rw [d] at z; cases z⟩
 keep:=fun i h h' st k=>st.at fun o e=>k it (by simp) o e
 item:=by
  intro X hP hw hK hc i pins s σ H E I hf st hg
  subst hP hw hK
  obtain ⟨xs,x,hq,hx⟩:=hg
  obtain ⟨its,rv,p,hz⟩:=I.tuple hq
  obtain ⟨u,hu,ru⟩:=rv.get hx
  obtain ⟨f0,f1,f2,f3,f4,f5⟩:=hf it (by simp)
  refine wpAny_pyNext_tuple_item st (show s.heap.IsTuple a its.toArray from p) (x:=u) (by simpa using hu) fun h' st' sb=>?_
  have I1:Inv X pins σ H { s with heap:=h' }:=I.turned (t':=s.toks) (fun b o hb e=>(sb.2 b hb).trans e) f0 f1 f3 f4 f5
  obtain ⟨o,e,c,d⟩:=id st'
  exact ⟨u,rfl,go_of (s:={ s with heap:=h' }) e c d (by decide) ⟨x,H,I1,ru,⟨rfl,fun ys hy=>by rw [I.tuple_inj hy hq]; exact hx⟩,st',fun b hb=>(hf b hb).1⟩⟩
 done:=by
  intro X hP hw hK hc i pins s σ H E I hf st hg
  subst hP hw hK
  obtain ⟨xs,hq,hx⟩:=hg
  obtain ⟨its,rv,p,hz⟩:=I.tuple hq
  obtain ⟨f0,f1,f2,f3,f4,f5⟩:=hf it (by simp)
  have hl:=rv.length
  exact wpAny_pyNext_tuple_end (I.ok.hd hc) st (show s.heap.IsTuple a its.toArray from p) (by simp; omega) fun h' eb=>⟨rfl,I.turned (t':=s.toks) (fun b o hb e=>eb b o hb e) f0 f1 f3 f4 f5⟩
 self:=fun _ _ _ _ _ st h=>wpAny_pyIter_tupleiter st h
theorem turn_range {P:Program} {w:World} {K:PySem.W.Frag} {tg:Expr} (it:Addr) (lo:Int) (n:Nat):Turn P w K tg (Itr lo n) [it] it (fun i h=>IsRangeIter h it (lo+(i:Nat) * 1) ((n:Int) - (i:Nat)) 1) where
 mem:=by simp
 obj:=fun i h st b hb=>by
  have e:b=it:=by simpa using hb
  subst e
  exact ⟨_,st,fun v z=>by
   have z':Data.fields _=Data.cell v:=z
   cases z'⟩
 keep:=fun i h h' st k=>k it (by simp) _ st
 item:=by
  intro X hP hw hK hc i pins s σ H E I hf st hg
  subst hP hw hK
  obtain ⟨f0,f1,f2,f3,f4,f5⟩:=hf it (by simp)
  have W:=Walks.range (prog:=X.prog) (w:=X.w) (I.ok.hd hc) it lo 1 n
  refine W.item i s _ _ hg st fun v h' tk hv st' kk=>?_
  obtain ⟨t,rfl⟩:=hv
  have I1:Inv X pins σ H { s with heap:=h',toks:=tk }:=I.turned (fun b o hb e=>kk b o (by simpa using hb) e) f0 f1 f3 f4 f5
  refine ⟨_,rfl,go_of (s:={ s with heap:=h',toks:=tk }) (n := "range_iterator") st' rfl rfl (by decide) ⟨.int (lo+i),H,I1,⟨t,?_⟩,⟨rfl,rfl⟩,st',fun b hb=>(hf b hb).1⟩⟩
  rw [Int.mul_one]
 done:=by
  intro X hP hw hK hc i pins s σ H E I hf st hg
  subst hP hw hK
  obtain ⟨f0,f1,f2,f3,f4,f5⟩:=hf it (by simp)
  exact wpAny_pyNext_range_end (I.ok.hd hc) st (by have:n≤i:=hg; omega) fun h' eb=>⟨rfl,I.turned (t':=s.toks) (fun b o hb e=>eb b o hb e) f0 f1 f3 f4 f5⟩
 self:=fun _ _ _ _ _ st h=>wpAny_pyIter_rangeiter st h
end L2
namespace L2
open PySem PySem.Spec PyProof.Rows
section
variable {X:Cx} {tg:Expr}
def iList (K:PySem.W.Frag) (tl:TE):TI:=fun σ H R=>tl σ H fun x H1=>∃ a,x=.ref a∧(∃ xs,SqL K H1 a xs)∧R (Itl K a) H1
def iTup (K:PySem.W.Frag) (tl:TE):TI:=fun σ H R=>tl σ H fun x H1=>∃ a,x=.ref a∧(∃ xs,SqT K H1 a xs)∧R (Itt K a) H1
theorem pi_list {l:Expr} {tl:TE} (hl:PE X l tl):PI X tg l (iList X.K tl):=by
 intro pins s σ H R I h
 refine thn (hl pins s σ H _ I h) fun v s1 ⟨x,H1,I1,r1,q1⟩=>?_
 obtain ⟨a,e,⟨xs,hq⟩,q⟩:=q1
 subst e
 cases r1
 obtain ⟨its,rv,p,hz⟩:=I1.list hq
 refine wpAny_pyIter_list p.isList ?_
 refine ⟨s1.heap.objs.size,[s1.heap.objs.size],_,_,H1,rfl,I1.kept (t':=s1.toks) fun b o e=>Heap.get?_push_of_some _ e,turn_list a _,⟨_,Heap.get?_push_size _ rfl,rfl,rfl⟩,fun b hb=>?_,q⟩
 have e:b=s1.heap.objs.size:=by simpa using hb
 subst e
 exact I1.fpOk (Nat.le_refl _) (I1.hok.fresh (Nat.le_refl _))
theorem pi_tup {l:Expr} {tl:TE} (hl:PE X l tl):PI X tg l (iTup X.K tl):=by
 intro pins s σ H R I h
 refine thn (hl pins s σ H _ I h) fun v s1 ⟨x,H1,I1,r1,q1⟩=>?_
 obtain ⟨a,e,⟨xs,hq⟩,q⟩:=q1
 subst e
 cases r1
 obtain ⟨its,rv,p,hz⟩:=I1.tuple hq
 refine wpAny_pyIter_tuple (show s1.heap.IsTuple a its.toArray from p) ?_
 refine ⟨s1.heap.objs.size,[s1.heap.objs.size],_,_,H1,rfl,I1.kept (t':=s1.toks) fun b o e=>Heap.get?_push_of_some _ e,turn_tuple a _,⟨_,Heap.get?_push_size _ rfl,rfl,rfl⟩,fun b hb=>?_,q⟩
 have e:b=s1.heap.objs.size:=by simpa using hb
 subst e
 exact I1.fpOk (Nat.le_refl _) (I1.hok.fresh (Nat.le_refl _))
theorem range_it {pins:List (Addr×Obj)} {σ:St} {H:Hp} {s:Shared} {R:It→Hp→Prop} {E:Value→Shared→Prop} {lo hi:Int} {t u v:Tok} {tk:Nat} (I:Inv X pins σ H s) (h1:-(2 ^ 62)≤lo) (h2:lo < 2 ^ 62) (h3:-(2 ^ 62)≤hi) (h4:hi < 2 ^ 62)
 (q:R (Itr lo (hi - lo).toNat) H):wpAny (model X.prog X.w) X.A (pyIter (.ref s.heap.objs.size)) (PIE X pins σ tg R) E { s with heap:=s.heap.push { cls:=.type "range",data:=.fields #[.int lo t,.int hi u,.int 1 v] },toks:=tk }:=by
 refine wpAny_pyIter_range (IsRange.new ..) (small_one h1 h2 h3 h4) ?_
 have I1:Inv X pins σ H { s with heap:=s.heap.push { cls:=.type "range",data:=.fields #[.int lo t,.int hi u,.int 1 v] },toks:=tk }:=I.kept fun b o e=>Heap.get?_push_of_some _ e
 refine ⟨(s.heap.push { cls:=.type "range",data:=.fields #[.int lo t,.int hi u,.int 1 v] }).objs.size,[(s.heap.push { cls:=.type "range",data:=.fields #[.int lo t,.int hi u,.int 1 v] }).objs.size],_,_,H,rfl,
  I1.kept (t':=tk) fun b o e=>Heap.get?_push_of_some _ e,turn_range _ lo (hi - lo).toNat,?_,fun b hb=>?_,q⟩
 · have e1:lo+((0:Nat):Int) * 1=lo:=by simp
   have e2:(((hi - lo).toNat:Nat):Int) - ((0:Nat):Int)=Builtin.Range.rangeSize lo hi 1:=by rw [rangeSize_one]; split <;> omega
   show IsRangeIter _ _ (lo+((0:Nat):Int) * 1) ((((hi - lo).toNat:Nat):Int) - ((0:Nat):Int)) 1
   rw [e1,e2]
   exact Heap.get?_push_size _ rfl
 · have e:b=(s.heap.push { cls:=.type "range",data:=.fields #[.int lo t,.int hi u,.int 1 v] }).objs.size:=by simpa using hb
   subst e
   exact I1.fpOk (Nat.le_refl _) (I1.hok.fresh (Nat.le_refl _))
def iRng1 (ta:TA):TI:=fun σ H R=>ta σ H fun vs H1=>∃ j:Int,vs=[.int j]∧-(2 ^ 62)≤j∧j < 2 ^ 62∧R (Itr 0 j.toNat) H1
theorem pi_range1 {a:Expr} {ta:TA} {p pos:Pos} (hg:Gl X "range") (hm:X.mg "range" = none) (ha:PA X [a] ta) (hs:starEach [a] X.env=[(false,eval a X.env)]:=by rfl):PI X tg (.Call (.Name "range" p) [a] [] pos) (iRng1 ta):=by
 intro pins s σ H R I h
 refine Call_ (ld_blt I hg hm boot_range (PyProof.Rows.callWith_type1 (thn (ha pos pins s σ H _ I h) fun us s1 ⟨vs,H1,I1,r1,q1⟩=>?_) hs rfl))
 obtain ⟨j,e,q1,q2,q⟩:=q1
 subst e
 cases r1 with
 | cons r rr =>
   cases rr
   obtain ⟨t,rfl⟩:=r
   exact call_range_1 (range_it I1 (by omega) (by omega) q1 q2 (by simpa using q))
def tFor (wi:TI) (g:TG) (tb:TS):TS:=fun D σ H=>wi σ H fun J H1=>∃ W:Nat→Nat→St→Hp→Prop,(∃ m,W 0 m σ H1)∧∀ i m σ H,W i m σ H →
 (J.stop i H∧D.nx σ H)∨(J.go i H∧∃ N:St→Hp→Prop,(∀ σ' H',N σ' H'→∃ m',m' < m∧W (i+1) m' σ' H')∧∀ x H',J.yld i H x H'→g x σ H' fun σ2 H2=>tb { D with nx:=N,ct:=N,bk:=D.nx } σ2 H2)
def pinsAt (fp:List Addr) (h:Heap):List (Addr×Obj):=fp.filterMap fun b=>(h.get? b).map fun o=>(b,o)
theorem mem_pinsAt {fp:List Addr} {h:Heap} {b:Addr} {o:Obj} (hb:b∈fp) (e:h.get? b=some o):(b,o)∈pinsAt fp h:=List.mem_filterMap.mpr ⟨b,hb,by rw [e]; rfl⟩
theorem of_pinsAt {fp:List Addr} {h:Heap} {p:Addr×Obj} (hp:p∈pinsAt fp h):p.1∈fp∧h.get? p.1=some p.2:=by
 obtain ⟨b,hb,e⟩:=List.mem_filterMap.mp hp
 cases q:h.get? b with
 | none=>rw [q] at e; cases e
 | some o =>
   rw [q] at e
   have e':(b,o)=p:=Option.some.inj e
   subst e'
   exact ⟨hb,q⟩
theorem Inv.pinned {pins:List (Addr×Obj)} {σ:St} {H:Hp} {s:Shared} {fp:List Addr} (I:Inv X pins σ H s) (hf:∀ b∈fp,FpOk X pins H b) (ho:∀ b∈fp,∃ o,s.heap.get? b=some o∧∀ v,o.data≠.cell v):Inv X (pins++pinsAt fp s.heap) σ H s :=
 I.pins_of fun p hp=>(List.mem_append.mp hp).elim (fun z=>I.pin p (List.mem_append_right _ z)) fun z=>by
  obtain ⟨hb,e⟩:=of_pinsAt z
  obtain ⟨f0,f1,f2,_⟩:=hf p.1 hb
  obtain ⟨o,e',d⟩:=ho p.1 hb
  rw [e] at e'; cases e'
  exact ⟨e,f0,f1,f2,d⟩
theorem Inv.unpinned {pins pl:List (Addr×Obj)} {σ:St} {H:Hp} {s:Shared} (I:Inv X (pins++pl) σ H s):Inv X pins σ H s:=I.pins_of fun p hp=>I.pin p (List.mem_append_right _ (List.mem_append_left _ hp))
theorem ps_for {iter:Expr} {body:List Stmt} {wi:TI} {g:TG} {tb:TS} {pos:Pos} (hp:PassesOwn (model X.prog X.w) X.A X.env X.xe) (hc:X.calm=true) (hi:PI X tg iter wi) (hg:PG X tg g) (hb:PSs X body tb)
 (hs:∀ x,foldedSetIterable iter X.env x=pure x:=by intro _; rfl):PS X (.For tg iter body [] pos) (tFor wi g tb):=by
 intro pins s σ H D I h
 refine wpAny_For (thn (hi pins s σ H _ I h) fun v s1 h1=>thn h1 fun itv s2 h2=>?_) hs
 obtain ⟨it,fp,tn,J,H2,e,I2,T,st2,f2,W,⟨m0,w0⟩,turn⟩:=h2
 subst e
 have stat:∀ {H':Hp},(∀ b∈fp,H' b=none)→∀ b∈fp,FpOk X pins H' b:=fun hn b hb=>⟨hn b hb,(f2 b hb).2⟩
 refine codeAny_forLoop_any (fun n s'=>∃ i σ' H',Inv X pins σ' H' s'∧tn i s'.heap∧(∀ b∈fp,H' b=none)∧W i n σ' H') ?_ m0 ⟨0,σ,H2,I2,st2,fun b hb=>(f2 b hb).1,w0⟩
 rintro n s3 ⟨i,σ3,H3,I3,st3,fr3,w3⟩
 rcases turn i n σ3 H3 w3 with ⟨stop,qn⟩ | ⟨go,N,hN,step⟩
 · refine wpAny_passesOwn hp (thn (T.done X rfl rfl rfl hc i pins s3 σ3 H3 X.xe I3 (stat fr3) st3 stop) fun r s4 ⟨hr,I4⟩=>?_)
   subst hr
   exact wpAny_execs_nil ⟨σ3,H3,I4,qn⟩
 · refine wpAny_passesOwn hp (thn (T.item X rfl rfl rfl hc i pins s3 σ3 H3 X.xe I3 (stat fr3) st3 go) fun r s4 ⟨u,hr,h4⟩=>?_)
   subst hr
   refine wpAny_passesOwn hp (thn h4 fun _ s5 ⟨x,H5,I5,r5,y5,st5,fr5⟩=>?_)
   have I5':=I5.pinned (stat fr5) (T.obj _ _ st5)
   refine wpAny_passesOwn hp (thn (hg _ s5 σ3 H5 x u _ I5' r5 (step x H5 y5)) fun _ s6 ⟨σ6,H6,I6,q6⟩=>?_)
   refine wpAny_passesOwn hp (thn (hb _ s6 σ6 H6 _ I6 q6) fun f s7 q7=>?_)
   have again:∀ {σ7:St} {H7:Hp},Inv X (pins++pinsAt fp s5.heap) σ7 H7 s7→N σ7 H7→∃ m,m < n∧∃ i σ' H',Inv X pins σ' H' s7∧tn i s7.heap∧(∀ b∈fp,H' b=none)∧W i m σ' H':=fun {σ7 H7} I7 n7=>by
    obtain ⟨m',hm,w7⟩:=hN σ7 H7 n7
    refine ⟨m',hm,i+1,σ7,H7,I7.unpinned,T.keep _ _ _ st5 fun b hb o e=>(I7.pin (b,o) (List.mem_append_right _ (List.mem_append_right _ (mem_pinsAt hb e)))).1,fun b hb=>?_,w7⟩
    obtain ⟨o,e,d⟩:=T.obj _ _ st5 b hb
    exact (I7.pin (b,o) (List.mem_append_right _ (List.mem_append_right _ (mem_pinsAt hb e)))).2.1
   cases f with
   | next=>obtain ⟨σ7,H7,I7,n7⟩:=q7; exact again I7 n7
   | cont=>obtain ⟨σ7,H7,I7,n7⟩:=q7; exact again I7 n7
   | brk=>obtain ⟨σ7,H7,I7,q7⟩:=q7; exact ⟨σ7,H7,I7.unpinned,q7⟩
   | ret v=>obtain ⟨x7,σ7,H7,I7,r7,q7⟩:=q7; exact ⟨x7,σ7,H7,I7.unpinned,r7,q7⟩
end
theorem for_list {K:PySem.W.Frag} {a:Addr} {xs:List V} {g:TG} {tb:TS} {D:Ends} {σ:St} {H:Hp} (Pv:Nat→St→Hp→Prop) (h0:Pv 0 σ H) (hl:∀ i σ H,i≤xs.length→Pv i σ H→SqL K H a xs)
 (hs:∀ i x σ H,xs[i]? = some x→Pv i σ H→g x σ H fun σ2 H2=>tb { D with nx:=Pv (i+1),ct:=Pv (i+1),bk:=D.nx } σ2 H2) (hd:∀ σ H,Pv xs.length σ H→D.nx σ H) :
 ∃ W:Nat→Nat→St→Hp→Prop,(∃ m,W 0 m σ H)∧∀ i m σ H,W i m σ H →
   ((Itl K a).stop i H∧D.nx σ H)∨((Itl K a).go i H∧∃ N:St→Hp→Prop,(∀ σ' H',N σ' H'→∃ m',m' < m∧W (i+1) m' σ' H')∧∀ x H',(Itl K a).yld i H x H'→g x σ H' fun σ2 H2=>tb { D with nx:=N,ct:=N,bk:=D.nx } σ2 H2):=by
 refine ⟨fun i m σ H=>m=xs.length - i∧i≤xs.length∧Pv i σ H,⟨xs.length,by simp,Nat.zero_le _,h0⟩,?_⟩
 rintro i m σ H ⟨rfl,hi,p⟩
 have q:=hl i σ H hi p
 by_cases hlt:i < xs.length
 · refine .inr ⟨⟨xs,xs[i],q,by simp [hlt]⟩,Pv (i+1),fun σ' H' p'=>⟨xs.length - (i+1),by omega,rfl,hlt,p'⟩,fun x H' y=>?_⟩
   obtain ⟨e,y⟩:=y
   subst e
   exact hs i x σ _ (y xs q) p
 · have e:i=xs.length:=by omega
   subst e
   exact .inl ⟨⟨xs,q,Nat.le_refl _⟩,hd σ H p⟩
theorem for_range {lo:Int} {n:Nat} {g:TG} {tb:TS} {D:Ends} {σ:St} {H:Hp} (Pv:Nat→St→Hp→Prop) (h0:Pv 0 σ H)
 (hs:∀ i σ H,i < n→Pv i σ H→g (.int (lo+i)) σ H fun σ2 H2=>tb { D with nx:=Pv (i+1),ct:=Pv (i+1),bk:=D.nx } σ2 H2) (hd:∀ σ H,Pv n σ H→D.nx σ H) :
 ∃ W:Nat→Nat→St→Hp→Prop,(∃ m,W 0 m σ H)∧∀ i m σ H,W i m σ H →
   ((Itr lo n).stop i H∧D.nx σ H)∨((Itr lo n).go i H∧∃ N:St→Hp→Prop,(∀ σ' H',N σ' H'→∃ m',m' < m∧W (i+1) m' σ' H')∧∀ x H',(Itr lo n).yld i H x H'→g x σ H' fun σ2 H2=>tb { D with nx:=N,ct:=N,bk:=D.nx } σ2 H2):=by
 refine ⟨fun i m σ H=>m=n - i∧i≤n∧Pv i σ H,⟨n,by simp,Nat.zero_le _,h0⟩,?_⟩
 rintro i m σ H ⟨rfl,hi,p⟩
 by_cases hlt:i < n
 · refine .inr ⟨hlt,Pv (i+1),fun σ' H' p'=>⟨n - (i+1),by omega,rfl,hlt,p'⟩,fun x H' y=>?_⟩
   obtain ⟨e,y⟩:=y
   subst e y
   exact hs i σ _ hlt p
 · have e:i=n:=by omega
   subst e
   exact .inl ⟨Nat.le_refl _,hd σ H p⟩
theorem while_by {c:TT} {tb:TS} {D:Ends} {σ:St} {H:Hp} (Pv:St→Hp→Prop) (μ:St→Hp→Nat) (h0:Pv σ H)
 (hs:∀ σ H,Pv σ H→c σ H fun b H1=>if b=true then tb { D with nx:=fun σ' H'=>Pv σ' H'∧μ σ' H' < μ σ H,ct:=fun σ' H'=>Pv σ' H'∧μ σ' H' < μ σ H,bk:=D.nx } σ H1 else D.nx σ H1)
 (mono:∀ σ H Q Q',(∀ b H1,Q b H1→Q' b H1)→c σ H Q→c σ H Q'):tWhile c tb D σ H:=by
 refine ⟨fun m σ H=>m=μ σ H∧Pv σ H,⟨_,rfl,h0⟩,?_⟩
 rintro m σ H ⟨rfl,p⟩
 refine mono σ H _ _ (fun b H1 q=>?_) (hs σ H p)
 cases b with
 | true=>exact ⟨_,fun σ' H' ⟨p',l⟩=>⟨_,l,rfl,p'⟩,q⟩
 | false=>exact q
end L2
namespace L2
open PySem PySem.Spec PyProof.Rows
abbrev R2:=V→V→Hp→VK→Prop
def OpR (X:Cx) (f:Value→Value→Sem Value) (r:R2):Prop :=
 ∀ (pins:List (Addr×Obj)) (s:Shared) (σ:St) (H:Hp) (x y:V) (v u:Value) (Q:VK),Inv X pins σ H s→RelV x v→RelV y u→r x y H Q →
   wpAny (model X.prog X.w) X.A (f v u) (EP X pins σ Q) X.xe s
def UnR (X:Cx) (f:Value→Sem Value) (r:V→Hp→VK→Prop):Prop :=
 ∀ (pins:List (Addr×Obj)) (s:Shared) (σ:St) (H:Hp) (x:V) (v:Value) (Q:VK),Inv X pins σ H s→RelV x v→r x H Q →
   wpAny (model X.prog X.w) X.A (f v) (EP X pins σ Q) X.xe s
def CallR (X:Cx) (f:Value) (r:List V→Hp→VK→Prop):Prop :=
 ∀ (pins:List (Addr×Obj)) (s:Shared) (σ:St) (H:Hp) (xs:List V) (us:List Value) (Q:VK),Inv X pins σ H s→Vals xs us→r xs H Q →
   wpAny (model X.prog X.w) X.A (call f us) (EP X pins σ Q) X.xe s
def TruR (X:Cx) (r:V→Hp→(Bool→Hp→Prop)→Prop):Prop :=
 ∀ (pins:List (Addr×Obj)) (s:Shared) (σ:St) (H:Hp) (x:V) (v:Value) (Q:Bool→Hp→Prop),Inv X pins σ H s→RelV x v→r x H Q →
   wpAny (model X.prog X.w) X.A (truthy v) (TP X pins σ Q) X.xe s
def tOp (r:R2) (ta tb:TE):TE:=fun σ H Q=>ta σ H fun x H1=>tb σ H1 fun y H2=>r x y H2 Q
def tUn (r:V→Hp→VK→Prop) (ta:TE):TE:=fun σ H Q=>ta σ H fun x H1=>r x H1 Q
def rI (C:Int→Int→Prop) (g:Int→Int→V):R2:=fun x y H Q=>∃ i j,x=.int i∧y=.int j∧C i j∧Q (g i j) H
def rI0 (g:Int→Int→V):R2:=fun x y H Q=>∃ i j,x=.int i∧y=.int j∧Q (g i j) H
def rU (g:Int→V):V→Hp→VK→Prop:=fun x H Q=>∃ i,x=.int i∧Q (g i) H
section
variable {X:Cx} {a b c:Expr} {ta tb tc:TE} {pos:Pos}
theorem binT (ha:PE X a ta) (hb:PE X b tb) {pins:List (Addr×Obj)} {s:Shared} {σ:St} {H:Hp} {R:V→V→Hp→Prop} (I:Inv X pins σ H s)
 (h:ta σ H fun x H1=>tb σ H1 fun y H2=>R x y H2) {Q:Value→Shared→Prop} {f:Value→Value→Sem Value}
 (hf:∀ v u s2 x y H2,Inv X pins σ H2 s2→RelV x v→RelV y u→R x y H2→wpAny (model X.prog X.w) X.A (f v u) Q X.xe s2) :
 wpAny (model X.prog X.w) X.A (eval a X.env) (fun v s₁=>wpAny (model X.prog X.w) X.A (eval b X.env) (fun u s₂=>wpAny (model X.prog X.w) X.A (f v u) Q X.xe s₂) X.xe s₁) X.xe s:=by
 refine thn (ha pins s σ H _ I h) fun v s1 ⟨x,H1,I1,r1,q1⟩=>?_
 refine thn (hb pins s1 σ H1 _ I1 q1) fun u s2 ⟨y,H2,I2,r2,q2⟩=>?_
 exact hf v u s2 x y H2 I2 r1 r2 q2
theorem pe_op {op:Operator} {r:R2} (ho:OpR X (binaryOp op) r) (ha:PE X a ta) (hb:PE X b tb):PE X (.BinOp a op b pos) (tOp r ta tb):=by
 intro pins s σ H Q I h
 exact wpAny_BinOp (binT ha hb I h fun v u s2 x y H2 I2 rx ry q=>ho pins s2 σ H2 x y v u Q I2 rx ry q)
theorem pe_un {op:UnaryOp} {r:V→Hp→VK→Prop} (ho:UnR X (unaryOp op) r) (ha:PE X a ta):PE X (.UnaryOp op a pos) (tUn r ta):=by
 intro pins s σ H Q I h
 exact UnaryOp_ (thn (ha pins s σ H _ I h) fun v s1 ⟨x,H1,I1,r1,q1⟩=>ho pins s1 σ H1 x v Q I1 r1 q1)
theorem opI {f:Value→Value→Sem Value} {C:Int→Int→Prop} {g:Int→Int→Int}
 (rule:∀ (i j:Int) (t u:Tok) (s:Shared) (Q:Value→Shared→Prop) (E:Value→Shared→Prop),C i j→Q (.int (g i j) s.toks) { s with toks:=s.toks+1 }→wpAny (model X.prog X.w) X.A (f (.int i t) (.int j u)) Q E s) :
 OpR X f (rI C fun i j=>.int (g i j)):=by
 intro pins s σ H x y v u Q I rx ry h
 obtain ⟨i,j,rfl,rfl,hc,q⟩:=h
 obtain ⟨t,rfl⟩:=rx
 obtain ⟨t',rfl⟩:=ry
 exact rule i j t t' s _ _ hc ⟨.int (g i j),H,I.tok _,⟨_,rfl⟩,q⟩
theorem opI0 {f:Value→Value→Sem Value} {g:Int→Int→Int}
 (rule:∀ (i j:Int) (t u:Tok) (s:Shared) (Q:Value→Shared→Prop) (E:Value→Shared→Prop),Q (.int (g i j) s.toks) { s with toks:=s.toks+1 }→wpAny (model X.prog X.w) X.A (f (.int i t) (.int j u)) Q E s) :
 OpR X f (rI0 fun i j=>.int (g i j)):=by
 intro pins s σ H x y v u Q I rx ry h
 obtain ⟨i,j,rfl,rfl,q⟩:=h
 obtain ⟨t,rfl⟩:=rx
 obtain ⟨t',rfl⟩:=ry
 exact rule i j t t' s _ _ ⟨.int (g i j),H,I.tok _,⟨_,rfl⟩,q⟩
theorem opB0 {f:Value→Value→Sem Value} {g:Int→Int→Bool}
 (rule:∀ (i j:Int) (t u:Tok) (s:Shared) (Q:Value→Shared→Prop) (E:Value→Shared→Prop),Q (.bool (g i j)) s→wpAny (model X.prog X.w) X.A (f (.int i t) (.int j u)) Q E s) :
 OpR X f (rI0 fun i j=>.bl (g i j)):=by
 intro pins s σ H x y v u Q I rx ry h
 obtain ⟨i,j,rfl,rfl,q⟩:=h
 obtain ⟨t,rfl⟩:=rx
 obtain ⟨t',rfl⟩:=ry
 exact rule i j t t' s _ _ ⟨.bl (g i j),H,I,rfl,q⟩
def CPow (i j:Int):Prop:=0≤j∧j≤1000000∧i.natAbs < 2 ^ 64
theorem op_add:OpR X (binaryOp .Add) (rI0 fun i j=>.int (i+j)):=opI0 fun _ _ _ _ _ _ _ q=>add_int q
theorem op_sub:OpR X (binaryOp .Sub) (rI0 fun i j=>.int (i - j)):=opI0 fun _ _ _ _ _ _ _ q=>sub_int q
theorem op_modN:OpR X (binaryOp .Mod) (rI (fun _ j=>j≠0) fun i j=>.int (i.fmod j)):=opI fun _ _ _ _ _ _ _ hc q=>mod_int' hc q
theorem op_pow:OpR X (binaryOp .Pow) (rI CPow fun i j=>.int (i ^ j.toNat)):=opI fun _ _ _ _ _ _ _ hc q=>pow_int_small hc.1 hc.2.1 hc.2.2 q
theorem unI {f:Value→Sem Value} {g:Int→Int}
 (rule:∀ (i:Int) (t:Tok) (s:Shared) (Q:Value→Shared→Prop) (E:Value→Shared→Prop),Q (.int (g i) s.toks) { s with toks:=s.toks+1 }→wpAny (model X.prog X.w) X.A (f (.int i t)) Q E s) :
 UnR X f (rU fun i=>.int (g i)):=by
 intro pins s σ H x v Q I rx h
 obtain ⟨i,rfl,q⟩:=h
 obtain ⟨t,rfl⟩:=rx
 exact rule i t s _ _ ⟨.int (g i),H,I.tok _,⟨_,rfl⟩,q⟩
theorem un_neg:UnR X (unaryOp .USub) (rU fun i=>.int (-i)):=unI fun _ _ _ _ _ q=>neg_int q
end
def scal:V→V→Bool
 | .non,.non=>true | .non,.int _=>true | .int _,.non=>true | .non,.bl _=>true | .bl _,.non=>true | .non,.str _=>true | .str _,.non=>true
 | .int _,.int _=>true | .bl _,.bl _=>true | .str _,.str _=>true | .byt _,.byt _=>true
 | .int _,.str _=>true | .str _,.int _=>true | .bl _,.str _=>true | .str _,.bl _=>true
 | _,_=>false
def rEq:R2:=fun x y H Q=>scal x y=true∧Q (.bl (decide (x=y))) H
def rNe:R2:=fun x y H Q=>scal x y=true∧Q (.bl (!decide (x=y))) H
theorem dec_int {i j:Int}:decide (V.int i=V.int j)=(i == j):=by
 rw [Bool.eq_iff_iff]
 simp
theorem dec_bl {i j:Bool}:decide (V.bl i=V.bl j)=(i == j):=by
 rw [Bool.eq_iff_iff]
 simp
theorem dec_str {i j:Str}:decide (V.str i=V.str j)=(i == j):=by
 rw [Bool.eq_iff_iff]
 simp
theorem dec_byt {i j:Array UInt8}:decide (V.byt i=V.byt j)=(i.toList == j.toList):=by
 rw [Bool.eq_iff_iff]
 cases i
 cases j
 simp
section
variable {X:Cx} {a b c:Expr} {ta tb tc:TE} {pos:Pos}
theorem fin_bl {pins:List (Addr×Obj)} {σ:St} {H:Hp} {s:Shared} {Q:VK} {k k':Bool} (I:Inv X pins σ H s) (q:Q (.bl k) H) (e:k=k'):EP X pins σ Q (.bool k') s:=by
 subst e
 exact ⟨.bl k,H,I,rfl,q⟩
theorem op_eq:OpR X (compareOp .Eq) rEq:=by
 intro pins s σ H x y v u Q I rx ry h
 obtain ⟨hs,q⟩:=h
 cases x with
 | non =>
   cases rx
   cases y with
   | non=>cases ry; exact PySem.EqNone.eq_none_none (fin_bl I q (by simp))
   | bl j=>cases ry; exact PySem.EqNone.eq_none_bool (fin_bl I q (by simp))
   | int j=>obtain ⟨t',rfl⟩:=ry; exact PySem.EqNone.eq_none_int (fin_bl I q (by simp))
   | str j=>obtain ⟨t',rfl⟩:=ry; exact PySem.EqNone.eq_none_str (fin_bl I q (by simp))
   | _=>exact absurd (show false=true from hs) Bool.false_ne_true
 | bl i =>
   cases rx
   cases y with
   | non=>cases ry; exact PySem.EqNone.eq_bool_none (fin_bl I q (by simp))
   | bl j=>cases ry; exact eq_bool (fin_bl I q dec_bl)
   | str j=>obtain ⟨t',rfl⟩:=ry; exact PySem.EqMixed.eq_bool_str (fin_bl I q (by simp))
   | _=>exact absurd (show false=true from hs) Bool.false_ne_true
 | int i =>
   obtain ⟨t,rfl⟩:=rx
   cases y with
   | non=>cases ry; exact PySem.EqNone.eq_int_none (fin_bl I q (by simp))
   | int j=>obtain ⟨t',rfl⟩:=ry; exact eq_int (fin_bl I q dec_int)
   | str j=>obtain ⟨t',rfl⟩:=ry; exact PySem.EqMixed.eq_int_str (fin_bl I q (by simp))
   | _=>exact absurd (show false=true from hs) Bool.false_ne_true
 | str i =>
   obtain ⟨t,rfl⟩:=rx
   cases y with
   | non=>cases ry; exact PySem.EqNone.eq_str_none (fin_bl I q (by simp))
   | bl j=>cases ry; exact PySem.EqMixed.eq_str_bool (fin_bl I q (by simp))
   | int j=>obtain ⟨t',rfl⟩:=ry; exact PySem.EqMixed.eq_str_int (fin_bl I q (by simp))
   | str j=>obtain ⟨t',rfl⟩:=ry; exact eq_str (fin_bl I q dec_str)
   | _=>exact absurd (show false=true from hs) Bool.false_ne_true
 | byt i =>
   obtain ⟨t,rfl⟩:=rx
   cases y with
   | byt j=>obtain ⟨t',rfl⟩:=ry; exact PySem.W.eq_bytes (fin_bl I q dec_byt)
   | _=>exact absurd (show false=true from hs) Bool.false_ne_true
 | _=>cases y <;> exact absurd (show false=true from hs) Bool.false_ne_true
theorem op_ne:OpR X (compareOp .NotEq) rNe:=by
 intro pins s σ H x y v u Q I rx ry h
 obtain ⟨hs,q⟩:=h
 cases x with
 | non =>
   cases rx
   cases y with
   | non=>cases ry; exact PySem.EqNone.ne_none_none (fin_bl I q (by simp))
   | bl j=>cases ry; exact PySem.EqNone.ne_none_bool (fin_bl I q (by simp))
   | int j=>obtain ⟨t',rfl⟩:=ry; exact PySem.EqNone.ne_none_int (fin_bl I q (by simp))
   | str j=>obtain ⟨t',rfl⟩:=ry; exact PySem.EqNone.ne_none_str (fin_bl I q (by simp))
   | _=>exact absurd (show false=true from hs) Bool.false_ne_true
 | bl i =>
   cases rx
   cases y with
   | non=>cases ry; exact PySem.EqNone.ne_bool_none (fin_bl I q (by simp))
   | bl j=>cases ry; exact ne_bool (fin_bl I q (congrArg not dec_bl))
   | str j=>obtain ⟨t',rfl⟩:=ry; exact PySem.EqMixed.ne_bool_str (fin_bl I q (by simp))
   | _=>exact absurd (show false=true from hs) Bool.false_ne_true
 | int i =>
   obtain ⟨t,rfl⟩:=rx
   cases y with
   | non=>cases ry; exact PySem.EqNone.ne_int_none (fin_bl I q (by simp))
   | int j=>obtain ⟨t',rfl⟩:=ry; exact ne_int (fin_bl I q (congrArg not dec_int))
   | str j=>obtain ⟨t',rfl⟩:=ry; exact PySem.EqMixed.ne_int_str (fin_bl I q (by simp))
   | _=>exact absurd (show false=true from hs) Bool.false_ne_true
 | str i =>
   obtain ⟨t,rfl⟩:=rx
   cases y with
   | non=>cases ry; exact PySem.EqNone.ne_str_none (fin_bl I q (by simp))
   | bl j=>cases ry; exact PySem.EqMixed.ne_str_bool (fin_bl I q (by simp))
   | int j=>obtain ⟨t',rfl⟩:=ry; exact PySem.EqMixed.ne_str_int (fin_bl I q (by simp))
   | str j=>obtain ⟨t',rfl⟩:=ry; exact ne_str (fin_bl I q (congrArg not dec_str))
   | _=>exact absurd (show false=true from hs) Bool.false_ne_true
 | byt i =>
   obtain ⟨t,rfl⟩:=rx
   cases y with
   | byt j=>obtain ⟨t',rfl⟩:=ry; exact PySem.W.ne_bytes (fin_bl I q (congrArg not dec_byt))
   | _=>exact absurd (show false=true from hs) Bool.false_ne_true
 | _=>cases y <;> exact absurd (show false=true from hs) Bool.false_ne_true
theorem op_lt:OpR X (compareOp .Lt) (rI0 fun i j=>.bl (decide (i < j))):=opB0 fun _ _ _ _ _ _ _ q=>lt_int q
theorem op_gt:OpR X (compareOp .Gt) (rI0 fun i j=>.bl (decide (j < i))):=opB0 fun _ _ _ _ _ _ _ q=>gt_int q
theorem op_ge:OpR X (compareOp .GtE) (rI0 fun i j=>.bl (decide (j≤i))):=opB0 fun _ _ _ _ _ _ _ q=>ge_int q
theorem op_isN:OpR X (compareOp .Is) (fun x y H Q=>y=.non∧Q (.bl (decide (x=.non))) H):=by
 intro pins s σ H x y v u Q I rx ry h
 obtain ⟨rfl,q⟩:=h
 cases ry
 refine is_none_gen (fin_bl I q ?_)
 cases x <;> first
  | (cases rx; rfl)
  | (obtain ⟨t,rfl⟩:=rx; rfl)
theorem op_notin_str:OpR X (compareOp .NotIn) (fun x y H Q=>∃ i j,x=.str i∧y=.str j∧Q (.bl (!(!(Builtin.Str.occurrences j i 0 j.length 1).isEmpty))) H):=by
 intro pins s σ H x y v u Q I rx ry h
 obtain ⟨i,j,rfl,rfl,q⟩:=h
 obtain ⟨t,rfl⟩:=rx
 obtain ⟨t',rfl⟩:=ry
 exact notIn_str (fin_bl I q rfl)
theorem nomark (b:Expr) {op:CmpOp} (h:op≠.In:=by decide) (h2:op≠.NotIn:=by decide):behindInMarks op b=false:=by
 have e1:(op == CmpOp.In)=false:=by cases op <;> first | rfl | exact absurd rfl h
 have e2:(op == CmpOp.NotIn)=false:=by cases op <;> first | rfl | exact absurd rfl h2
 cases b <;> simp [behindInMarks,e1,e2]
theorem pe_cmpR {op:CmpOp} {r:R2} (ho:OpR X (compareOp op) r) (ha:PE X a ta) (hb:PE X b tb) (hm:behindInMarks op b=false):PE X (.Compare a [op] [b] pos) (tOp r ta tb):=by
 intro pins s σ H Q I h
 exact wpAny_Compare1 (binT ha hb I h fun v u s2 x y H2 I2 rx ry q=>ho pins s2 σ H2 x y v u Q I2 rx ry q) hm
def tTest (t:TE):TT:=fun σ H Q=>t σ H fun x H'=>∃ k,x=.bl k∧Q k H'
theorem pt_cmpR {op:CmpOp} {r:R2} (ho:OpR X (compareOp op) r) (ha:PE X a ta) (hb:PE X b tb) (hm:behindInMarks op b=false):PT X (.Compare a [op] [b] pos) (tTest (tOp r ta tb)):=by
 intro pins s σ H Q I h
 refine wpAny_isTrue_Compare1 (thn (ha pins s σ H _ I h) fun v s1 ⟨x,H1,I1,r1,q1⟩=>thn (hb pins s1 σ H1 _ I1 q1) fun u s2 ⟨y,H2,I2,r2,q2⟩ =>
  thn (ho pins s2 σ H2 x y v u _ I2 r1 r2 q2) fun c s3 ⟨z,H3,I3,r3,k,e,q3⟩=>?_) hm
 subst e
 cases r3
 exact wpAny_truthy_bool ⟨H3,I3,q3⟩
def TruV (K:PySem.W.Frag) (x:V) (H:Hp) (k:Bool):Prop :=
 match x with
 | .non=>k=false
 | .bl b=>k=b
 | .int i=>k=(i != 0)
 | .str y=>y.length≤sizeLine∧k=((y.length:Int) != 0)
 | .byt y=>y.size≤sizeLine∧k=((y.size:Int) != 0)
 | .ref p=>(∃ xs,SqL K H p xs∧k = !xs.isEmpty)∨(∃ xs,SqT K H p xs∧k = !xs.isEmpty)∨∃ kvs,H p=some (.dK kvs)∧k = !kvs.isEmpty
 | _=>False
theorem isEmpty_kv {κ:Type} {kvs:List (κ×V)} {vs:List (κ×Value)} (r:KV kvs vs):(!vs.isEmpty) = !kvs.isEmpty:=by
 cases r <;> rfl
theorem isEmpty_of {xs:List V} {its:List Value} (r:Vals xs its):(!its.toArray.isEmpty) = !xs.isEmpty:=by
 cases r <;> simp
theorem line63:(sizeLine:Nat) < 2 ^ 63:=by rw [sizeLine_eq]; decide
theorem tru_ok:TruR X (fun x H Q=>∃ k,TruV X.K x H k∧Q k H):=by
 intro pins s σ H x v Q I rx h
 obtain ⟨k,e,q⟩:=h
 have hl:=line63
 have hs:sizeLine=16777216:=sizeLine_eq
 cases x with
 | non =>
   cases rx
   have e':k=false:=e
   subst e'
   exact truthy_none ⟨H,I,q⟩
 | bl b =>
   cases rx
   have e':k=b:=e
   subst e'
   exact wpAny_truthy_bool ⟨H,I,q⟩
 | int i =>
   obtain ⟨t,rfl⟩:=rx
   have e':k=(i != 0):=e
   subst e'
   exact PySem.P.truthy_int ⟨H,I,q⟩
 | str y =>
   obtain ⟨t,rfl⟩:=rx
   obtain ⟨hy,e'⟩:y.length≤sizeLine∧k=((y.length:Int) != 0):=e
   subst e'
   exact PySem.P.truthy_str (by omega) ⟨H,I.tok _,q⟩
 | byt y =>
   obtain ⟨t,rfl⟩:=rx
   obtain ⟨hy,e'⟩:y.size≤sizeLine∧k=((y.size:Int) != 0):=e
   subst e'
   exact PySem.W.truthy_bytes (by omega) ⟨H,I.tok _,q⟩
 | ref p =>
   cases rx
   have e':(∃ xs,SqL X.K H p xs∧k = !xs.isEmpty)∨(∃ xs,SqT X.K H p xs∧k = !xs.isEmpty)∨∃ kvs,H p=some (.dK kvs)∧k = !kvs.isEmpty:=e
   rcases e' with ⟨xs,hx,e'⟩ | ⟨xs,hx,e'⟩ | ⟨kvs,hx,e'⟩
   · subst e'
     obtain ⟨its,r,pl,hz⟩:=I.list hx
     have hlen:=r.length
     exact wpAny_truthy_list pl.isList (by simp only [List.size_toArray]; omega) ⟨H,I.tok _,by rw [isEmpty_of r]; exact q⟩
   · subst e'
     obtain ⟨its,r,pl,hz⟩:=I.tuple hx
     have hlen:=r.length
     exact truthy_tuple pl (by simp only [List.size_toArray]; omega) ⟨H,I.tok _,by rw [isEmpty_of r]; exact q⟩
   · subst e'
     obtain ⟨hz,hS,vs,r,m⟩:kvs.length≤sizeLine∧(p == sysModules)=false∧∃ vs,KV kvs vs∧s.heap.DictOf (mixKind X.prog X.w) p vs:=I.hok p _ hx
     have hlen:kvs.length=vs.length:=Paired.length r
     exact wpAny_truthy_dict hS m (by omega) ⟨H,I.tok _,by rw [isEmpty_kv r]; exact q⟩
 | _=>exact (show False from e).elim
theorem pt_truth (ha:PE X a ta) (he:∀ whole,isTrue a X.env whole=(do let v ← whole; standAt a.pos; holding [v] (truthy v))) :
 PT X a (fun σ H Q=>ta σ H fun x H'=>∃ k,TruV X.K x H' k∧Q k H'):=by
 intro pins s σ H Q I h
 exact isTrue_plain (thn (ha pins s σ H _ I h) fun v s1 ⟨x,H1,I1,r1,q1⟩=>tru_ok pins s1 σ H1 x v Q I1 r1 q1) (he _)
theorem op_add_str:OpR X (binaryOp .Add) (fun x y H Q=>∃ i j,x=.str i∧y=.str j∧i.length+j.length≤sizeLine∧Q (.str (i++j)) H):=by
 intro pins s σ H x y v u Q I rx ry h
 obtain ⟨i,j,rfl,rfl,hz,q⟩:=h
 obtain ⟨t,rfl⟩:=rx
 obtain ⟨t',rfl⟩:=ry
 exact add_str (fun t' tk=>⟨.str (i++j),H,I.tok _,⟨_,rfl⟩,q⟩) hz
theorem vals1 {x:V} {us:List Value} (r:Vals [x] us):∃ u,us=[u]∧RelV x u:=by
 cases r with
 | cons r1 r2=>cases r2; exact ⟨_,rfl,r1⟩
theorem vals2 {x y:V} {us:List Value} (r:Vals [x,y] us):∃ u w',us=[u,w']∧RelV x u∧RelV y w':=by
 cases r with
 | cons r1 r2 =>
   cases r2 with
   | cons r3 r4=>cases r4; exact ⟨_,_,rfl,r1,r3⟩
theorem call_abs:CallR X (.builtin "abs") (fun xs H Q=>∃ i,xs=[.int i]∧Q (.int (if i < 0 then -i else i)) H):=by
 intro pins s σ H xs us Q I r h
 obtain ⟨i,rfl,q⟩:=h
 obtain ⟨u,rfl,t,rfl⟩:=vals1 r
 exact call_abs_int fun u tk=>⟨.int (if i < 0 then -i else i),H,I.tok _,⟨_,rfl⟩,q⟩
theorem call_max2 (hc:X.calm=true):CallR X (.builtin "max") (fun xs H Q=>∃ i j,xs=[.int i,.int j]∧Q (.int (if j > i then j else i)) H):=by
 intro pins s σ H xs us Q I r h
 obtain ⟨i,j,rfl,q⟩:=h
 obtain ⟨u,w',rfl,⟨t,rfl⟩,⟨t',rfl⟩⟩:=vals2 r
 refine max_two_ints (I.ok.hd hc) fun h' tk k=>⟨_,H,I.kept k,?_,q⟩
 by_cases hj:j > i
 · rw [if_pos hj,if_pos hj]; exact ⟨_,rfl⟩
 · rw [if_neg hj,if_neg hj]; exact ⟨_,rfl⟩
theorem call_min2 (hc:X.calm=true):CallR X (.builtin "min") (fun xs H Q=>∃ i j,xs=[.int i,.int j]∧Q (.int (if j < i then j else i)) H):=by
 intro pins s σ H xs us Q I r h
 obtain ⟨i,j,rfl,q⟩:=h
 obtain ⟨u,w',rfl,⟨t,rfl⟩,⟨t',rfl⟩⟩:=vals2 r
 refine min_two_ints (I.ok.hd hc) fun h' tk k=>⟨_,H,I.kept k,?_,q⟩
 by_cases hj:j < i
 · rw [if_pos hj,if_pos hj]; exact ⟨_,rfl⟩
 · rw [if_neg hj,if_neg hj]; exact ⟨_,rfl⟩
theorem call_int1:CallR X (.type "int") (fun xs H Q=>(∃ i,xs=[.int i]∧Q (.int i) H)∨∃ k,xs=[.bl k]∧Q (.int (if k then 1 else 0)) H):=by
 intro pins s σ H xs us Q I r h
 rcases h with ⟨i,rfl,q⟩ | ⟨k,rfl,q⟩
 · obtain ⟨u,rfl,t,rfl⟩:=vals1 r
   exact call_int_int ⟨.int i,H,I,⟨_,rfl⟩,q⟩
 · obtain ⟨u,rfl,r1⟩:=vals1 r
   cases r1
   exact call_int_bool ⟨.int (if k then 1 else 0),H,I.tok _,⟨_,rfl⟩,q⟩
theorem call_str_int:CallR X (.type "str") (fun xs H Q=>∃ i,xs=[.int i]∧i.natAbs.log2 < 1920∧Q (.str (toString i)) H):=by
 intro pins s σ H xs us Q I r h
 obtain ⟨i,rfl,hz,q⟩:=h
 obtain ⟨u,rfl,t,rfl⟩:=vals1 r
 exact PySem.P.str_of_int hz ⟨.str _,H,I.tok _,⟨_,rfl⟩,q⟩
end
end L2
namespace L2
open PySem PySem.Spec PyProof.Rows
structure ObjM (h:Heap) (x dx C:Addr) (mA:Str→Option Value):Prop where
 obj:h.get? x=some (PySem.W.instObj C dx)
 ns:h.Ns1 dx mA
 ne:dx≠x
theorem lookIn_ns {h:Heap} {dx:Addr} {mA:Str→Option Value} (n:h.Ns1 dx mA):∃ od,h.get? dx=some od∧∀ name,PySem.W.lookIn name od=some (mA name):=by
 obtain ⟨o,es,ep,ho,hd,hk,_,hm⟩:=n
 refine ⟨o,ho,fun name=>?_⟩
 have e:=hm name
 unfold nsFind findBy at e
 rw [← Array.find?_toList] at e
 unfold PySem.W.lookIn
 rw [hd]
 dsimp only
 split
 · rename_i y q
   rw [q] at e
   exact congrArg some e
 · rename_i q
   rw [q] at e
   have a:es.toList.any (·.refKey)=false:=by
    rw [List.any_eq_false]
    intro y hy
    obtain ⟨z,t,hkey⟩:=hk y (Array.mem_toList_iff.mp hy)
    simp [DictEntry.refKey,hkey]
   have a':¬ es.toList.any (·.refKey)=true:=by rw [a]; exact Bool.false_ne_true
   rw [if_neg a']
   exact congrArg some e
theorem ObjM.look {h:Heap} {x dx C:Addr} {mA:Str→Option Value} (I:ObjM h x dx C mA):∃ od,PySem.W.InstAt h x (PySem.W.instObj C dx) C (some od)∧∀ name,PySem.W.lookIn name od=some (mA name) :=
 let ⟨od,ho,hl⟩:=lookIn_ns I.ns
 ⟨od,⟨I.obj,rfl,rfl,ho⟩,hl⟩
section
variable {prog:Program} {w:World} {A:Around} {E:Value→Shared→Prop} {s:Shared} {K:PySem.W.Frag} {x dx C f:Addr} {mA:Str→Option Value} {name:Str} {v:Value}
end
section
variable {P:Program} {w:World} {H H':Hp} {h h':Heap} {a C dx:Addr} {fs fs':List (Str×V)}
theorem ins_get (hok:HOk P w H h) (e:H a=some (.ins C dx fs)):∃ mA,ObjM h a dx C mA∧(∀ f,RelO (fs.lookup f) (mA f))∧PySem.Within mA (fs.map (·.1))∧fs.length≤1000∧H dx=some (.own a):=by
 obtain ⟨d,z,ne,ob,mA,n,r,q⟩:=(show ObjOk P w H h a (.ins C dx fs) from hok a _ e)
 exact ⟨mA,⟨ob,n,ne⟩,r,q,z,d⟩
end
structure Cls (K:PySem.W.Frag) (C:Addr):Prop where
 pg:PySem.W.plainGet K C Str.empty=true
 hd:PySem.W.hasDictIn K C=true
 po:PySem.W.plainOver K C=true
 sa:PySem.W.findIn K (.ref C) "__setattr__" = some (some (.builtin "object.__setattr__"))
theorem Cls.get {K:PySem.W.Frag} {C:Addr} (c:Cls K C) (f:Str):PySem.W.plainGet K C f=true:=c.pg
section
variable {X:Cx} {pins:List (Addr×Obj)} {σ:St} {H:Hp} {s:Shared} {a C dx:Addr} {fs:List (Str×V)} {f:Str} {v:V} {A:Around} {E:Value→Shared→Prop}
theorem attr_of {prog:Program} {w:World} {env:Env} {e:Expr} {f:Str} {pos:Pos} {s:Shared} {Q:Value→Shared→Prop} (hb:attributeBase e f env (eval e env)=eval e env)
 (h:wpAny (model prog w) A (eval e env) (fun o s₁=>wpAny (model prog w) A (getAttr o f true) Q E s₁) E s):wpAny (model prog w) A (eval (.Attribute e f pos) env) Q E s :=
 Attribute_any_ h (by rw [arm_eval_Attribute,hb])
end
section
variable {X:Cx} {o e value:Expr} {f:Str} {pos pos' tpos:Pos} {ta tv:TE}
end
section
variable {X:Cx} {pins:List (Addr×Obj)} {σ:St} {H:Hp} {s:Shared} {A:Around} {E:Value→Shared→Prop} {Q:Value→Shared→Prop} {c:Value} {b:Bool}
inductive TyOf (K:PySem.W.Frag) (H:Hp):V→Value→Prop where
 | non:TyOf K H .non (.type "NoneType")
 | bl (x:Bool):TyOf K H (.bl x) (.type "bool")
 | int (i:Int):TyOf K H (.int i) (.type "int")
 | str (x:Str):TyOf K H (.str x) (.type "str")
 | flt (x:UInt64):TyOf K H (.flt x) (.type "float")
 | lst {a:Addr} {xs:List V} (e:H a=some (.lst xs)):TyOf K H (.ref a) (.type "list")
 | frz {a:Addr} {o:Obj} {xs:List V} (e:H a=some (.frz o (.lst xs))):TyOf K H (.ref a) (.type "list")
 | tup {a:Addr} {xs:List V} (e:H a=some (.tup xs)):TyOf K H (.ref a) (.type "tuple")
 | dK {a:Addr} {kvs:List (Key×V)} (e:H a=some (.dK kvs)):TyOf K H (.ref a) (.type "dict")
 | dT {a:Addr} {kvs:List (List Key×V)} (e:H a=some (.dT kvs)):TyOf K H (.ref a) (.type "dict")
 | ins {a C dx:Addr} {fs:List (Str×V)} (e:H a=some (.ins C dx fs)) (cl:Cls K C) (ha:PySem.W.findIn K (.ref C) "__class__" = some (some (.builtin "object.__class__")))
    (hn:PySem.W.specialIn K (.builtin "object.__class__") "__get__" = some (some (.builtin "getset_descriptor.__get__"))) (htk:PySem.W.takesIn K (.builtin "object.__class__")=some true)
    (hm:PySem.W.mroIn K C (.type "object")=some true):TyOf K H (.ref a) (.ref C)
theorem isinst_ok {x:V} {u t:Value} (I:Inv X pins σ H s) (rx:RelV x u) (ty:TyOf X.K H x t) (e:PySem.W.kitOne X.K t c=some b) (h:∀ tk,Q (.bool b) { s with toks:=tk }) :
 wpAny (model X.prog X.w) A (call (.builtin "isinstance") [u,c]) Q E s:=by
 cases ty with
 | non=>cases (show u=Value.none from rx); exact PySem.W.kia_one PySem.W.kitx_none I.kIn True.intro e (fun z=>nomatch z) h
 | bl y=>cases (show u=Value.bool y from rx); exact PySem.W.kia_one PySem.W.kitx_bool I.kIn True.intro e (fun z=>nomatch z) h
 | int i=>obtain ⟨t,q⟩:=(show ∃ t,u=Value.int i t from rx); cases q; exact PySem.W.kia_one PySem.W.kitx_int I.kIn True.intro e (fun z=>nomatch z) h
 | str y=>obtain ⟨t,q⟩:=(show ∃ t,u=Value.str y t from rx); cases q; exact PySem.W.kia_one PySem.W.kitx_str I.kIn True.intro e (fun z=>nomatch z) h
 | flt y=>obtain ⟨t,q⟩:=(show ∃ t,u=Value.float y t from rx); cases q; exact PySem.W.kia_one PySem.W.kitx_float I.kIn True.intro e (fun z=>nomatch z) h
 | @lst a xs ea =>
   cases (show u=Value.ref a from rx)
   obtain ⟨_,_,n,_,h1⟩:=(show ObjOk X.prog X.w H s.heap a (.lst xs) from I.hok a _ ea)
   exact PySem.W.kia_one PySem.W.kitx_list I.kIn ⟨_,h1,rfl⟩ e (fun z=>nomatch z) h
 | @frz a ob xs ea =>
   cases (show u=Value.ref a from rx)
   obtain ⟨_,_,_,n,_,h1⟩:=(show ObjOk X.prog X.w H s.heap a (.frz ob (.lst xs)) from I.hok a _ ea)
   exact PySem.W.kia_one PySem.W.kitx_list I.kIn ⟨_,h1,rfl⟩ e (fun z=>nomatch z) h
 | @tup a xs ea =>
   cases (show u=Value.ref a from rx)
   obtain ⟨_,_,_,p⟩:=(show ObjOk X.prog X.w H s.heap a (.tup xs) from I.hok a _ ea)
   obtain ⟨o,h1,h2,_⟩:=p
   exact PySem.W.kia_one PySem.W.kitx_tuple I.kIn ⟨o,h1,h2⟩ e (fun z=>nomatch z) h
 | @dK a kvs ea =>
   cases (show u=Value.ref a from rx)
   obtain ⟨_,_,vs,_,p⟩:=(show ObjOk X.prog X.w H s.heap a (.dK kvs) from I.hok a _ ea)
   obtain ⟨o,es,ep,h1,h2,_⟩:=p
   exact PySem.W.kia_one PySem.W.kitx_dict I.kIn ⟨o,h1,h2.1⟩ e (fun z=>nomatch z) h
 | @dT a kvs ea =>
   cases (show u=Value.ref a from rx)
   obtain ⟨_,_,xs,_,o,es,ep,h1,h2,_⟩:=(show ObjOk X.prog X.w H s.heap a (.dT kvs) from I.hok a _ ea)
   exact PySem.W.kia_one PySem.W.kitx_dict I.kIn ⟨o,h1,h2.1⟩ e (fun z=>nomatch z) h
 | @ins a C dx fs ea cl ha hn htk hm =>
   cases (show u=Value.ref a from rx)
   obtain ⟨mA,O,_⟩:=ins_get I.hok ea
   obtain ⟨od,J,_⟩:=O.look
   exact PySem.W.kia_one (PySem.W.kitx_own (cl.get _) cl.hd ha hn htk hm) I.kIn J e (fun z=>nomatch z) h
end
end L2
namespace L2
open PySem PySem.Spec PyProof.Rows
structure Room (k:Nat) (A:Around):Prop where
 hd:A.handled=none
 dp:A.depth+3 * k+5 < recursionLimit
 un:A.units+16 * k+200 < cLine
 gd:A.guards=some []
theorem Room.mono {j k:Nat} {A:Around} (r:Room k A) (h:j≤k):Room j A:=⟨r.hd,by have:=r.dp; omega,by have:=r.un; omega,r.gd⟩
theorem Room.deeper {k:Nat} {A:Around} (r:Room (k+1) A) (env:Env):Room k (A.deeper env) :=
 ⟨r.hd,by have:=r.dp; show A.depth+1+3 * k+5 < _; omega,by have:=r.un; show A.units+3+16 * k+200 < _; omega,r.gd⟩
theorem make_depth {A:Around} {C:Addr} {us:List Value} {kw:List (Str×Value)}:(A.under (.builtin "type.__call__" ⟨.ref C :: us,kw⟩)).depth=A.depth+1:=by
 first | rfl | simp [Around.under,Code.weight,Code.isCreation,Code.isGuard,Code.isCaller,Code.frames,Code.isFrame,guardIds]
theorem make_units {A:Around} {C:Addr} {us:List Value} {kw:List (Str×Value)}:(A.under (.builtin "type.__call__" ⟨.ref C :: us,kw⟩)).units=A.units+1:=by
 first | rfl | simp [Around.under,Code.cUnits,Code.frames,Code.isFrame]
theorem Room.make {k:Nat} {A:Around} (r:Room (k+1) A) (C:Addr) (us:List Value) (kw:List (Str×Value)):Room k (A.under (.builtin "type.__call__" ⟨.ref C :: us,kw⟩)) :=
 ⟨r.hd,by have:=r.dp; rw [make_depth]; omega,by have:=r.un; rw [make_units]; omega,by first | exact r.gd | simpa [Around.under,Code.guards,pushGuards] using r.gd⟩
theorem Room.depth {k:Nat} {A:Around} (r:Room k A):A.depth < recursionLimit:=by have:=r.dp; omega
theorem Room.units {k:Nat} {A:Around} (r:Room k A):A.units+64 < cLine:=by have:=r.un; omega
def tNil:TA:=fun _ H Q=>Q [] H
def tCons (ta:TE) (tr:TA):TA:=fun σ H Q=>ta σ H fun x H1=>tr σ H1 fun xs H2=>Q (x :: xs) H2
section
variable {X:Cx} {e:Expr} {es:List Expr} {te:TE} {t:TA} {pos:Pos}
theorem pa_nil:PA X [] tNil:=fun _ _ _ _ H Q I h=>Calls.spliced_nil ⟨[],H,I,.nil,h⟩
theorem pa_cons (ha:PE X e te) (hr:PA X es t) (hs:starEach (e :: es) X.env=(false,eval e X.env) :: starEach es X.env:=by rfl):PA X (e :: es) (tCons te t):=by
 intro pos pins s σ H Q I h
 rw [hs]
 show wpAny _ _ (spliced ((false,eval e X.env) :: backTo pos (starEach es X.env))) _ _ s
 refine Calls.spliced_cons (thn (ha pins s σ H _ I h) fun u s1 ⟨x,H1,I1,r1,q1⟩=>?_)
 exact thn (hr pos pins s1 σ H1 _ I1 q1) fun us s2 ⟨xs,H2,I2,r2,q2⟩=>⟨x :: xs,H2,I2,.cons r1 r2,q2⟩
def tTup (t:TA):TE:=fun σ H Q=>t σ H fun xs H1=>xs.length≤sizeLine∧∀ p,H1 p=none→Q (.ref p) (upd H1 p (.tup xs))
def tLst (t:TA):TE:=fun σ H Q=>t σ H fun xs H1=>xs.length≤sizeLine∧∀ p,H1 p=none→Q (.ref p) (upd H1 p (.lst xs))
theorem pe_tup {x1} (h:PA X es t):PE X (.Tuple es x1 pos) (tTup t):=by
 intro pins s σ H Q I hq
 refine wpAny_Tuple_spliced (thn (h pos pins s σ H _ I hq) fun us s1 ⟨xs,H1,I1,r,z,q⟩=>⟨by rw [← r.length]; exact z,?_⟩)
 have hf:H1 s1.heap.objs.size=none:=I1.hok.fresh (Nat.le_refl _)
 refine ⟨.ref s1.heap.objs.size,upd H1 s1.heap.objs.size (.tup xs),I1.laid (t':=s1.toks) (fun b u e=>Heap.get?_push_of_some _ e) (Nat.le_refl _) ?_,rfl,q _ hf⟩
 exact ⟨z,us,r,⟨_,Heap.get?_push_size _ rfl,rfl,_,rfl⟩⟩
theorem pe_lst (h:PA X es t):PE X (.List es pos) (tLst t):=by
 intro pins s σ H Q I hq
 refine wpAny_List_spliced (thn (h pos pins s σ H _ I hq) fun us s1 ⟨xs,H1,I1,r,z,q⟩=>⟨by rw [← r.length]; exact z,?_⟩)
 have hf:H1 s1.heap.objs.size=none:=I1.hok.fresh (Nat.le_refl _)
 refine ⟨.ref s1.heap.objs.size,upd H1 s1.heap.objs.size (.lst xs),I1.laid (t':=s1.toks) (fun b u e=>Heap.get?_push_of_some _ e) (Nat.le_refl _) ?_,rfl,q _ hf⟩
 exact ⟨z,us,0,r,Heap.get?_push_size _ rfl⟩
end
abbrev Sp:=List V→Hp→VK→XK→Prop
abbrev CXT:=List Env→Hp→Shared→XK→Value→Shared→Prop
structure Env0 (P:Program) (w:World) (K:PySem.W.Frag) (mg:Str→Option Value) (base:Heap) (A:Around) (outer:List Env) (s:Shared) (H:Hp):Prop where
 frames:A.frames=some outer
 mod:Mod K mg base
 bs:∀ b o,base.get? b=some o→s.heap.get? b=some o∧H b=none
 bsz:base.objs.size≤s.heap.objs.size
 funs:s.heap.FunFrames base outer
 frf:∀ b∈frs outer,H b=none
 hok:HOk P w H s.heap
 bare:AllBare s.gens
def CE (outer:List Env) (P:Program) (w:World) (H:Hp) (s:Shared) (Q:VK) (u:Value) (s':Shared):Prop :=
 ∃ v H',s'.os=s.os∧AllBare s'.gens∧Un (frs outer) [] H H' s.heap s'.heap∧HOk P w H' s'.heap∧RelV v u∧Q v H'
def CR (CX:CXT) (outer:List Env) (P:Program) (w:World) (H:Hp) (s:Shared) (Q:VK) (E:XK) (r:Result) (s':Shared):Prop :=
 match r with
 | .ok (.ret u)=>CE outer P w H s Q u s'
 | .ok _=>False
 | .error e=>CX outer H s E e s'
structure FnOk (P:Program) (w:World) (K:PySem.W.Frag) (mg:Str→Option Value) (base:Heap) (CX:CXT) (k:Nat) (f:Addr) (fd:FuncData) (ps:List Str) (sp:Sp):Prop where
 len:∀ vs H Q E,sp vs H Q E→vs.length=ps.length
 run:∀ (A:Around) (outer:List Env) (s:Shared) (H:Hp) (args:Args) (us:List Value) (vs:List V) (Q:VK) (E:XK),Room k A→Env0 P w K mg base A outer s H→BindsTo s fd args (ps.zip us)→Vals vs us→sp vs H Q E →
  codeAny (model P w) A (.call (.ref f) args) (CR CX outer P w H s Q E) s
theorem Env0.make {P:Program} {w:World} {K:PySem.W.Frag} {mg:Str→Option Value} {base:Heap} {A:Around} {outer:List Env} {s:Shared} {H:Hp} (e:Env0 P w K mg base A outer s H) (C:Addr) (us:List Value) (kw:List (Str×Value)) :
 Env0 P w K mg base (A.under (.builtin "type.__call__" ⟨.ref C :: us,kw⟩)) outer s H:=⟨by first | exact e.frames | (simpa [Around.under,Code.envs,Code.isFrame,pushEnvs] using e.frames),e.mod,e.bs,e.bsz,e.funs,e.frf,e.hok,e.bare⟩
section
variable {X:Cx} {pins:List (Addr×Obj)} {σ:St} {H:Hp} {s s':Shared}
theorem Inv.env0 (I:Inv X pins σ H s):Env0 X.prog X.w X.K X.mg X.base X.A X.stack s H :=
 ⟨I.ok.frames,I.ok.mod,I.bs,Nat.le_trans I.ok.bsz I.sz,I.stack,I.stkFree,I.hok,I.bare⟩
theorem Inv.after {Q:VK} {u:Value} (I:Inv X pins σ H s) (h:CE X.stack X.prog X.w H s Q u s'):EP X pins σ Q u s':=by
 obtain ⟨v,H',os,bare,un,hok,r,q⟩:=h
 obtain ⟨hh,g,d,t,os'⟩:=s'
 obtain rfl:os'=s.os:=os
 exact ⟨v,H',I.call (h':=hh) (g':=g) (d':=d) (t':=t) (ch:=[]) un hok bare (fun b z=>absurd z (by simp)),r,q⟩
end
def tCall (sp:Sp) (dvs:List V) (E:XK) (t:TA):TE:=fun σ H Q=>t σ H fun vs H1=>sp (vs++dvs) H1 Q E
def Binds (K:PySem.W.Frag) (fd:FuncData) (ps:List Str) (ds:List Value):Prop :=
 ∀ (s:Shared) (us:List Value),K.In s.heap→(us++ds).length=ps.length→BindsTo s fd ⟨us,[]⟩ (ps.zip (us++ds))
theorem Binds.all {K:PySem.W.Frag} {fd:FuncData} {ps:List Str} (h:∀ us:List Value,us.length=ps.length→bindArgs fd ⟨us,[]⟩=pure (ps.zip us)):Binds K fd ps []:=fun s us _ hl=>by
 rw [List.append_nil] at hl ⊢
 exact .of_eq (h us hl)
def Passes (CX:CXT) (X:Cx) (E:XK):Prop:=∀ (pins:List (Addr×Obj)) (σ:St) (H:Hp) (s:Shared) (e:Value) (s':Shared),Inv X pins σ H s→CX X.stack H s E e s'→X.xe e s'
section
variable {X:Cx} {CX:CXT} {k:Nat} {f C:Addr} {fd:FuncData} {ps:List Str} {sp:Sp} {dvs:List V} {ds:List Value} {E:XK} {x m:Str} {p pos apos:Pos} {e o:Expr} {es:List Expr} {ta:TE} {t:TA}
theorem run_fn {pins:List (Addr×Obj)} {σ:St} {H:Hp} {s:Shared} {Q:VK} {us:List Value} {vs:List V} (F:FnOk X.prog X.w X.K X.mg X.base CX k f fd ps sp) (hr:Room k X.A) (hb:Binds X.K fd ps ds) (hd:Vals dvs ds) (hx:Passes CX X E)
 (I:Inv X pins σ H s) (r:Vals vs us) (h:sp (vs++dvs) H Q E):wpAny (model X.prog X.w) X.A (call (.ref f) us) (EP X pins σ Q) X.xe s:=by
 have r2:Vals (vs++dvs) (us++ds):=r.append hd
 have hl:(us++ds).length=ps.length:=by rw [← r2.length]; exact F.len _ _ _ _ h
 refine wpAny_call (codeAny_mono (F.run X.A X.stack s H ⟨us,[]⟩ (us++ds) (vs++dvs) Q E hr I.env0 (hb s us I.kIn hl) r2 h) fun r s' hq=>?_)
 cases r with
 | error e=>exact hx pins σ H s e s' I hq
 | ok fl =>
   cases fl with
   | ret u=>exact I.after hq
   | next=>exact False.elim hq
   | brk=>exact False.elim hq
   | cont=>exact False.elim hq
theorem pe_call (F:FnOk X.prog X.w X.K X.mg X.base CX k f fd ps sp) (hr:Room k X.A) (hg:Gl X x) (hm:X.mg x=some (.ref f)) (hk:PySem.W.keepIn X.K (.ref f)=true) (hb:Binds X.K fd ps ds) (hd:Vals dvs ds) (hx:Passes CX X E)
 (ha:PA X (e :: es) t) (hdb:(x == ("__debug__" : Str))=false:=by decide) (he:starEach (e :: es) X.env=(false,eval e X.env) :: starEach es X.env:=by rfl) (hpl:(backTo pos (starEach es X.env)).any (·.1)=false:=by rfl) :
 PE X (.Call (.Name x p) (e :: es) [] pos) (tCall sp dvs E t):=by
 intro pins s σ H Q I h
 refine wpAny_Call_Name_kw (ld_glob I hg hm ?_ hdb)
 refine PySem.W.callWith_K (h₀:=X.base) I.ok.mod.kin hk (thn (ha pos pins s σ H _ I h) fun us s1 ⟨vs,H1,I1,r,q⟩=>⟨I1.kIn,?_⟩) he hpl
 exact run_fn F hr hb hd hx I1 r q
end
def PK (X:Cx) (kws:List Keyword) (t:TA):Prop :=
 ∀ (pos:Pos) (pins:List (Addr×Obj)) (s:Shared) (σ:St) (H:Hp) (Q:List V→Hp→Prop),Inv X pins σ H s→t σ H Q→wpAny (model X.prog X.w) X.A (evalAll ((backToKw pos (keywordEach kws X.env)).map (·.2))) (AP X pins σ Q) X.xe s
section
variable {X:Cx} {CX:CXT} {k:Nat} {f C:Addr} {fd:FuncData} {ps ks:List Str} {sp:Sp} {E:XK} {x m:Str} {p pos apos kpos:Pos} {e o:Expr} {es:List Expr} {kws:List Keyword} {te ta:TE} {t tk:TA} {nm:Option Str}
theorem pk_nil:PK X [] tNil:=fun _ _ _ _ H Q I h=>wpAny_evalAll_nil ⟨[],H,I,.nil,h⟩
theorem pk_cons (ha:PE X e te) (hr:PK X kws t):PK X (⟨nm,e,kpos⟩ :: kws) (tCons te t):=by
 intro pos pins s σ H Q I h
 show wpAny _ _ (evalAll ((do let v ← eval e X.env; standAt pos; pure v) :: (backToKw pos (keywordEach kws X.env)).map (·.2))) _ _ s
 refine wpAny_evalAll_cons (wpAny_bind (thn (ha pins s σ H _ I h) fun u s1 ⟨x,H1,I1,r1,q1⟩=>wpAny_bind (wpAny_standAt (wpAny_pure ?_))))
 exact thn (hr pos pins s1 σ H1 _ I1 q1) fun us s2 ⟨xs,H2,I2,r2,q2⟩=>⟨x :: xs,H2,I2,.cons r1 r2,q2⟩
variable {g:List Value→List Value→List Value} {gV:List V→List V→List V}
end
structure FnScope (N P:List Str) (sc:Scope):Prop where
 kind:sc.kind=.function
 co:sc.isCoroutine=false
 gen:sc.isGenerator=false
 nd:N.Nodup
 pre:N.take P.length=P
 par:∀ x∈P,sc.names.lookup x=some .local∨sc.names.lookup x=some .cell
 nofree:∀ y∈sc.names,y.2≠.free
theorem bindL_out {kindOf:Str→Option NameKind} {x:Str}:∀ {binds:List (Str×Value)} {m:Str→Option Value},(∀ v,(x,v)∉binds)→bindL kindOf binds m x=m x
 | [],_,_=>rfl
 | (n,v) :: r,m,h=>by
   unfold bindL
   rw [bindL_out fun w hw=>h w (List.mem_cons_of_mem _ hw)]
   split
   · have:x≠n:=by rintro rfl; exact h v List.mem_cons_self
     simp [this]
   · rfl
theorem bindC_out {kindOf:Str→Option NameKind} {x:Str}:∀ {binds:List (Str×Value)} {m:Str→Option Value},(∀ v,(x,v)∉binds)→bindC kindOf binds m x=m x
 | [],_,_=>rfl
 | (n,v) :: r,m,h=>by
   unfold bindC
   rw [bindC_out fun w hw=>h w (List.mem_cons_of_mem _ hw)]
   split
   · rfl
   · have:x≠n:=by rintro rfl; exact h v List.mem_cons_self
     simp [this]
theorem bindL_get {kindOf:Str→Option NameKind} {x:Str} {v:Value}:∀ {P:List Str} {vs:List Value} {i:Nat} {m:Str→Option Value},P.Nodup→P[i]? = some x→vs[i]? = some v→kindOf x=some .local →
 bindL kindOf (P.zip vs) m x=some v
 | [],_,_,_,_,h,_,_=>by simp at h
 | _ :: _,[],_,_,_,_,h,_=>by simp at h
 | p :: P,w :: vs,0,m,nd,h1,h2,hk=>by
   simp at h1 h2; subst h1; subst h2
   show bindL kindOf ((p,w) :: P.zip vs) m p=_
   unfold bindL
   rw [bindL_out fun v hv=>(List.nodup_cons.mp nd).1 (List.of_mem_zip hv).1,if_pos hk]
   simp
 | p :: P,w :: vs,i+1,m,nd,h1,h2,hk=>by
   show bindL kindOf ((p,w) :: P.zip vs) m x=_
   unfold bindL
   exact bindL_get (i:=i) (List.nodup_cons.mp nd).2 (by simpa using h1) (by simpa using h2) hk
theorem bindC_get {kindOf:Str→Option NameKind} {x:Str} {v:Value}:∀ {P:List Str} {vs:List Value} {i:Nat} {m:Str→Option Value},P.Nodup→P[i]? = some x→vs[i]? = some v→kindOf x≠some .local →
 bindC kindOf (P.zip vs) m x=some v
 | [],_,_,_,_,h,_,_=>by simp at h
 | _ :: _,[],_,_,_,_,h,_=>by simp at h
 | p :: P,w :: vs,0,m,nd,h1,h2,hk=>by
   simp at h1 h2; subst h1; subst h2
   show bindC kindOf ((p,w) :: P.zip vs) m p=_
   unfold bindC
   rw [bindC_out fun v hv=>(List.nodup_cons.mp nd).1 (List.of_mem_zip hv).1,if_neg hk]
   simp
 | p :: P,w :: vs,i+1,m,nd,h1,h2,hk=>by
   show bindC kindOf ((p,w) :: P.zip vs) m x=_
   unfold bindC
   exact bindC_get (i:=i) (List.nodup_cons.mp nd).2 (by simpa using h1) (by simpa using h2) hk
def start (N:List Str) (vs:List V):St:=vs.map some++List.replicate (N.length - vs.length) none
def cxOf (CX:CXT) (P:Program) (w:World) (K:PySem.W.Frag) (mg:Str→Option Value) (base:Heap) (N:List Str) (qual:Str) (scope:Scope) (f:Addr) (cd:Value) (A:Around) (outer:List Env) (s:Shared) (H:Hp) (E:XK):Cx where
 prog:=P
 w:=w
 K:=K
 mg:=mg
 base:=base
 A:=A.deeper (envOfC qual scope s.heap.objs.size f cd)
 N:=N
 s₀:=s
 H₀:=H
 env:=envOfC qual scope s.heap.objs.size f cd
 outer:=outer
 stack:=envOfC qual scope s.heap.objs.size f cd :: outer
 ex:=[]
 calm:=true
 fn:=fun _=>true
 pn:=[]
 xe:=fun e s'=>wpAny (model P w) (A.deeper (envOfC qual scope s.heap.objs.size f cd)) (leaving (envOfC qual scope s.heap.objs.size f cd) e) (fun _ s''=>CX outer H s E e s'') (fun e' s''=>CX outer H s E e' s'') s'
theorem cell_has {sc:Scope} {n:Nat} {x:Str} (h:sc.names.lookup x=some .cell):∃ c,(cellsFrom n sc.names []).lookup x=some c:=by
 have q:=PySem.W.cellsFrom_some sc.names n [] (.inl h)
 exact Option.isSome_iff_exists.mp q
theorem inv_start {CX:CXT} {P:Program} {w:World} {K:PySem.W.Frag} {mg:Str→Option Value} {base:Heap} {N ps:List Str} {qual:Str} {scope:Scope} {f:Addr} {cd:Value} {A:Around} {outer:List Env} {s s1:Shared} {H:Hp} {E:XK} {us:List Value} {vs:List V}
 (S:FnScope N ps scope) (hd:A.handled=none) (e0:Env0 P w K mg base A outer s H) (hl:vs.length=ps.length) (r:Vals vs us)
 (x:InCallC s s.heap.objs.size (bindL (envOfC qual scope s.heap.objs.size f cd).kindOf (ps.zip us) fun _=>none) (cellsFrom (s.heap.objs.size+1) scope.names []) (bindC (envOfC qual scope s.heap.objs.size f cd).kindOf (ps.zip us) fun _=>none) s1) :
 Inv (cxOf CX P w K mg base N qual scope f cd A outer s H E) [] (start N vs) H s1:=by
 have hpl:ps.length≤N.length:=by have:=congrArg List.length S.pre; rw [List.length_take] at this; omega
 obtain ⟨h1,tk,rfl,hk⟩:=x.done
 have noA:∀ b:Addr,b∉(cxOf CX P w K mg base N qual scope f cd A outer s H E).ex:=fun b z=>absurd (show b∈([]:List Addr) from z) (by simp)
 refine ⟨⟨e0.mod,S.kind,rfl,rfl,Nat.le_refl _,fun y z c h1 h2=>?_,fun y hy=>?_,fun y c _ h=>?_,fun _=>hd,Around.frames_deeper e0.frames,.inr ⟨rfl,rfl⟩,fun b z=>absurd z (noA b),e0.bs,e0.bsz,fun b _ _=>noA b,fun b z=>absurd z (noA b),e0.funs,e0.frf⟩,
  rfl,e0.bare,Un.kept hk,⟨_,x.toInCall.ns,fun i y v h1 h2 h3=>?_⟩,fun y c h=>⟨_,x.cell y c h⟩,e0.hok.fresh (Nat.le_refl _),fun y c h=>?_,fun p hp=>absurd (show p∈([]:List (Addr×Obj)) from hp) (by simp),e0.hok.kept hk,?_⟩
 · exact name_of_addr x.apart (PySem.mem_of_lookup h1) (PySem.mem_of_lookup h2)
 · have hy:scope.names.lookup y=some .cell∨scope.names.lookup y=some .free:=hy
   rcases hy with hy | hy
   · exact cell_has hy
   · exact absurd rfl (S.nofree _ (PySem.mem_of_lookup hy))
 · exact Nat.le_of_lt (x.above y c (PySem.mem_of_lookup h))
 · have hi:i < vs.length:=by
    unfold start at h2
    by_cases hi:i < vs.length
    · exact hi
    · rw [List.getElem?_append_right (by simpa using hi)] at h2
      rw [List.getElem?_replicate] at h2
      split at h2 <;> cases h2
   have ha:vs[i]? = some v:=by
    unfold start at h2
    rw [List.getElem?_append_left (by simpa using hi),List.getElem?_map] at h2
    cases e:vs[i]? with
    | none=>rw [e] at h2; cases h2
    | some a=>rw [e] at h2; cases h2; rfl
   obtain ⟨u,hu,rv⟩:=r.get ha
   have hp:ps[i]? = some y:=by
    rw [← S.pre,List.getElem?_take_of_lt (by omega)]; exact h1
   have ndP:ps.Nodup:=by rw [← S.pre]; exact S.nd.sublist (List.take_sublist _ _)
   refine ⟨u,rv,?_⟩
   rcases S.par y (List.mem_of_getElem? hp) with k | k
   · exact .inl ⟨k,bindL_get ndP hp hu k⟩
   · obtain ⟨c,e⟩:=cell_has (n:=s.heap.objs.size+1) k
     refine .inr ⟨.inl k,c,e,?_⟩
     have q:=x.cell y c e
     rw [bindC_get ndP hp hu (by show scope.names.lookup y≠_; rw [k]; decide)] at q
     exact q
 · exact .inl (e0.hok.fresh (Nat.le_of_lt (x.above y c (PySem.mem_of_lookup h))))
 · unfold start
   show _=N.length
   rw [List.length_append,List.length_map,List.length_replicate]
   omega
theorem fn_of {CX:CXT} {P:Program} {w:World} {K:PySem.W.Frag} {mg:Str→Option Value} {base:Heap} {k:Nat} {f:Addr} {name qual:Str} {params:Arguments} {body:List Stmt} {scope:Scope} {dV kV doc pm cdv ct oc:Value} {an od:Option Addr}
 {osl:Array (Option Value)} {N ps:List Str} {sp:Sp} (lk:K.lookup f=some ⟨oc,od,.func (PySem.W.fnOf name qual params body scope dV kV doc pm an cdv ct),osl⟩) (hcd:PySem.W.codeIn K cdv qual=true) (S:FnScope N ps scope)
 (len:∀ vs H Q E,sp vs H Q E→vs.length=ps.length)
 (hbody:∀ (A:Around) (outer:List Env) (s:Shared) (H:Hp) (vs:List V) (Q:VK) (E:XK),Room k (A.deeper (envOfC qual scope s.heap.objs.size f cdv))→sp vs H Q E →
   ∃ t,PSs (cxOf CX P w K mg base N qual scope f cdv A outer s H E) body t∧t { nx:=fun _ H'=>Q .non H',rt:=Q } (start N vs) H) :
 FnOk P w K mg base CX (k+1) f (PySem.W.fnOf name qual params body scope dV kV doc pm an cdv ct) ps sp:=by
 refine ⟨len,fun A outer s H args us vs Q E hr e0 hb r hsp=>?_⟩
 have hl:=len _ _ _ _ hsp
 have KX:K.In s.heap:=e0.mod.kin.keeps fun b o e=>(e0.bs b o e).1
 have lim:s.heap.NoLimit:=e0.mod.nolimit.keeps fun b o e=>(e0.bs b o e).1
 have hkind:∀ y∈ps.zip us,scope.names.lookup y.1=some .local∨(scope.names.lookup y.1=some .cell∧((cellsFrom (s.heap.objs.size+1) scope.names []).lookup y.1).isSome=true):=fun ⟨n,v⟩ hy=>by
  rcases S.par n (List.of_mem_zip hy).1 with q | q
  · exact .inl q
  · exact .inr ⟨q,PySem.W.cellsFrom_some _ _ _ (.inl q)⟩
 refine codeAny_call_function hr.depth (KX _ _ lk) rfl S.co S.gen rfl (PySem.W.codeRec_of KX hcd) (hb _ _ _ _ ?_)
 refine wpAny_newFunctionEnv_cells S.kind hkind fun env he s1 x=>?_
 subst he
 refine ⟨lim.keeps x.toInCall.keep,codeAny_func ?_⟩
 obtain ⟨t,ht,hq⟩:=hbody A outer s H vs Q E (hr.deeper _) hsp
 have I:Inv (cxOf CX P w K mg base N qual scope f cdv A outer s H E) [] (start N vs) H s1:=inv_start S hr.hd e0 hl r x
 refine wpAny_mono (ht [] s1 (start N vs) H _ I hq) (fun fl s' hs=>?_) fun e s' hs=>hs
 have fin:∀ {σ':St} {H':Hp} {v:V} {u:Value},Inv (cxOf CX P w K mg base N qual scope f cdv A outer s H E) [] σ' H' s'→RelV v u→Q v H'→CE outer P w H s Q u s' :=
  fun {σ' H' v u} J rv q=>⟨v,H',J.os,J.bare,J.base,J.hok,rv,q⟩
 cases fl with
 | ret u =>
   obtain ⟨v,σ',H',J,rv,q⟩:=hs
   exact fin J rv q
 | next =>
   obtain ⟨σ',H',J,q⟩:=hs
   exact fin (v:=V.non) (u:=Value.none) J rfl q
 | brk =>
   obtain ⟨_,_,_,q⟩:=hs
   exact False.elim q
 | cont =>
   obtain ⟨_,_,_,q⟩:=hs
   exact False.elim q
end L2
namespace L2
open PySem PySem.Spec PyProof.Rows
section
variable {X:Cx} {x:Str} {p pos:Pos} {e:Expr} {es:List Expr} {t:TA} {id T:String} {r:List V→Hp→VK→Prop}
def tCB (r:List V→Hp→VK→Prop) (t:TA):TE:=fun σ H Q=>t σ H fun vs H1=>r vs H1 Q
theorem pe_callB (hc:CallR X (.builtin id) r) (hg:Gl X x) (hm:X.mg x=none) (hv:bootBuiltins x=some (.builtin id)) (ha:PA X (e :: es) t) (hn:x ≠ "__name__" := by decide) (hdb:(x == ("__debug__" : Str))=false:=by decide)
 (he:starEach (e :: es) X.env=(false,eval e X.env) :: starEach es X.env:=by rfl) (hpl:(backTo pos (starEach es X.env)).any (·.1)=false:=by rfl):PE X (.Call (.Name x p) (e :: es) [] pos) (tCB r t):=by
 intro pins s σ H Q I h
 refine wpAny_Call_Name_kw (ld_blt I hg hm hv ?_ hn hdb)
 exact PyProof.Rows.callWith_builtin1 (thn (ha pos pins s σ H _ I h) fun us s1 ⟨vs,H1,I1,r1,q1⟩=>hc pins s1 σ H1 vs us Q I1 r1 q1) he hpl
theorem pe_callTy (hc:CallR X (.type T) r) (hg:Gl X x) (hm:X.mg x=none) (hv:bootBuiltins x=some (.type T)) (ha:PA X (e :: es) t) (hn:x ≠ "__name__" := by decide) (hdb:(x == ("__debug__" : Str))=false:=by decide)
 (he:starEach (e :: es) X.env=(false,eval e X.env) :: starEach es X.env:=by rfl) (hpl:(backTo pos (starEach es X.env)).any (·.1)=false:=by rfl):PE X (.Call (.Name x p) (e :: es) [] pos) (tCB r t):=by
 intro pins s σ H Q I h
 refine wpAny_Call_Name_kw (ld_blt I hg hm hv ?_ hn hdb)
 exact PyProof.Rows.callWith_type1 (thn (ha pos pins s σ H _ I h) fun us s1 ⟨vs,H1,I1,r1,q1⟩=>hc pins s1 σ H1 vs us Q I1 r1 q1) he hpl
end
end L2
namespace HT
open PySem PyProof.Rows
section
open PySem.SeqAt
open PySem.AutoSeq1 (wpAny_loadPart')
open PySem.MeetsSeq PySem.MeetsSeq2 PySem.MeetsSeq3
end
section
variable {prog:Program} {w:World} {A:Around} {E:Value→Shared→Prop} {s:Shared}
end
end HT
namespace L2
open PySem PySem.Spec PyProof.Rows
abbrev TO:=St→Hp→(Option Int→Hp→Prop)→Prop
def PO (X:Cx) (e:Option Expr) (t:TO):Prop :=
 ∀ (pins:List (Addr×Obj)) (s:Shared) (σ:St) (H:Hp) (Q:Option Int→Hp→Prop),Inv X pins σ H s→t σ H Q →
   wpAny (model X.prog X.w) X.A (evalPart e X.env) (fun u s'=>∃ o H',Inv X pins σ H' s'∧IsPart u o∧Q o H') X.xe s
def tNoPart:TO:=fun _ H Q=>Q none H
def tPart (t:TE):TO:=fun σ H Q=>t σ H fun x H1=>∃ i,x=.int i∧Q (some i) H1
section
variable {X:Cx} {e:Expr} {te:TE} {lo hi:Option Expr} {tl th:TO} {pos p2:Pos}
theorem po_none:PO X none tNoPart:=by
 intro pins s σ H Q I h
 rw [evalPart_none]
 exact wpAny_pure ⟨none,H,I,.none,h⟩
theorem po_some (h:PE X e te):PO X (some e) (tPart te):=by
 intro pins s σ H Q I hw
 rw [evalPart_some]
 refine thn (h pins s σ H _ I hw) fun u s1 ⟨x,H1,I1,r1,q1⟩=>?_
 obtain ⟨i,rfl,q⟩:=q1
 obtain ⟨t,rfl⟩:=r1
 exact ⟨some i,H1,I1,.int i t,q⟩
def SlR (X:Cx) (r:V→Option Int→Option Int→Hp→VK→Prop):Prop :=
 ∀ (pins:List (Addr×Obj)) (s:Shared) (σ:St) (H:Hp) (x:V) (v vl vu:Value) (lo hi:Option Int) (sl:Addr) (Q:VK),Inv X pins σ H s→RelV x v→s.heap.IsSliceOf sl vl vu .none→IsPart vl lo→IsPart vu hi→r x lo hi H Q →
   ∃ T id,typeLookup (.type T) "__getitem__" = pure (some (.builtin id))∧s.TypeIs v T∧wpAny (model X.prog X.w) X.A (getItem v (.ref sl)) (EP X pins σ Q) X.xe s
def tSl (r:V→Option Int→Option Int→Hp→VK→Prop) (te:TE) (tl th:TO):TE:=fun σ H Q=>te σ H fun x H1=>tl σ H1 fun l H2=>th σ H2 fun u H3=>r x l u H3 Q
theorem pe_slice {r:V→Option Int→Option Int→Hp→VK→Prop} (hr:SlR X r) (he:PE X e te) (hl:PO X lo tl) (hu:PO X hi th):PE X (.Subscript e (.Slice lo hi none p2) pos) (tSl r te tl th):=by
 intro pins s σ H Q I h
 refine Subscript_ (thn (he pins s σ H _ I h) fun v s1 ⟨x,H1,I1,r1,q1⟩=>?_)
 refine wpAny_Slice (thn (hl pins s1 σ H1 _ I1 q1) fun vl s2 ⟨l,H2,I2,pl,q2⟩=>thn (hu pins s2 σ H2 _ I2 q2) fun vu s3 ⟨u,H3,I3,pu,q3⟩=>?_)
 rw [evalPart_none]
 refine wpAny_pure ?_
 have I4:Inv X pins σ H3 { s3 with heap:=s3.heap.push { cls:=.type "slice",data:=.fields #[vl,vu,.none] } }:=I3.kept (t':=s3.toks) fun b ob q=>Heap.get?_push_of_some _ q
 obtain ⟨T,id,hT,ht,hg⟩:=hr pins { s3 with heap:=s3.heap.push { cls:=.type "slice",data:=.fields #[vl,vu,.none] } } σ H3 x v vl vu l u s3.heap.objs.size Q I4 r1 (Heap.IsSliceOf.new ..) pl pu q3
 show wpAny (model X.prog X.w) X.A (subscriptTail e (.Slice lo hi none p2) v (.ref s3.heap.objs.size)) (EP X pins σ Q) X.xe { s3 with heap:=s3.heap.push { cls:=.type "slice",data:=.fields #[vl,vu,.none] } }
 exact tail_any (ops:=[.ref s3.heap.objs.size,v]) ht hT hg (by with_unfolding_all rfl)
end
end L2
namespace L2
open PySem PySem.Spec PyProof.Rows
def ixN (n:Nat) (i:Int):Option Nat:=if 0≤i then (if i < n then some i.toNat else none) else if -(n:Int)≤i then some (i+n).toNat else none
def atI {α:Type} (xs:List α) (i:Int):Option α:=(ixN xs.length i).bind fun j=>xs[j]?
theorem ixN_seq {n:Nat} {i:Int} {j:Nat} (h:ixN n i=some j):seqIndex? i n=some j∧j < n∧-(n:Int)≤i∧i < n:=by
 unfold ixN at h
 by_cases h0:0≤i
 · rw [if_pos h0] at h
   by_cases h1:i < n
   · rw [if_pos h1] at h
     have e:i.toNat=j:=Option.some.inj h
     exact ⟨by rw [seqIndex_of h0 h1,e],by omega,by omega,h1⟩
   · rw [if_neg h1] at h; cases h
 · rw [if_neg h0] at h
   by_cases h1:-(n:Int)≤i
   · rw [if_pos h1] at h
     have e:(i+n).toNat=j:=Option.some.inj h
     exact ⟨by rw [seqIndex_neg (by omega) h1,e],by omega,h1,by omega⟩
   · rw [if_neg h1] at h; cases h
theorem atI_get {α:Type} {xs:List α} {i:Int} {v:α} (h:atI xs i=some v):∃ j,seqIndex? i xs.length=some j∧xs[j]? = some v∧j < xs.length∧-(xs.length:Int)≤i∧i < xs.length:=by
 unfold atI at h
 cases e:ixN xs.length i with
 | none=>rw [e] at h; cases h
 | some j =>
   rw [e] at h
   obtain ⟨h1,h2,h3,h4⟩:=ixN_seq e
   exact ⟨j,h1,h,h2,h3,h4⟩
theorem atI_nat {α:Type} {xs:List α} {j:Nat} {v:α} (h:xs[j]? = some v):atI xs (j:Int)=some v:=by
 have hj:j < xs.length:=(List.getElem?_eq_some_iff.mp h).1
 have e:ixN xs.length (j:Int)=some j:=by
  unfold ixN
  rw [if_pos (by omega),if_pos (by omega)]; simp
 unfold atI; rw [e]; exact h
def PlainIx (b:Expr):Prop:=∀ o i,subscripted b false o i=operate [o,i] (getItem o i)
def IxR (X:Cx) (r:R2):Prop :=
 ∀ (value slice:Expr) (pins:List (Addr×Obj)) (s:Shared) (σ:St) (H:Hp) (x y:V) (v u:Value) (Q:VK),Inv X pins σ H s→RelV x v→RelV y u→r x y H Q →
   subscripted slice false v u=operate [v,u] (getItem v u)→wpAny (model X.prog X.w) X.A (subscriptTail value slice v u) (EP X pins σ Q) X.xe s
def MtR (X:Cx) (id:String) (r:V→List V→Hp→VK→Prop):Prop :=
 ∀ (pins:List (Addr×Obj)) (s:Shared) (σ:St) (H:Hp) (x:V) (xs:List V) (v:Value) (us:List Value) (Q:VK),Inv X pins σ H s→RelV x v→Vals xs us→r x xs H Q →
   wpAny (model X.prog X.w) X.A (call (.builtin id) (v :: us)) (EP X pins σ Q) X.xe s
section
variable {X:Cx} {a b:Expr} {ta tb:TE} {pos:Pos}
theorem pe_ix {r:R2} (hr:IxR X r) (ha:PE X a ta) (hb:PE X b tb) (hs:PlainIx b):PE X (.Subscript a b pos) (tOp r ta tb):=by
 intro pins s σ H Q I h
 exact Subscript_ (binT ha hb I h fun v u s2 x y H2 I2 rx ry q=>hr a b pins s2 σ H2 x y v u Q I2 rx ry q (hs _ _))
def rIxL (K:PySem.W.Frag):R2:=fun x y H Q=>∃ p xs i v,x=.ref p∧y=.int i∧SqL K H p xs∧atI xs i=some v∧Q v H
def rIxT (K:PySem.W.Frag):R2:=fun x y H Q=>∃ p xs i v,x=.ref p∧y=.int i∧SqT K H p xs∧atI xs i=some v∧Q v H
def rIxS:R2:=fun x y H Q=>∃ z i c,x=.str z∧y=.int i∧z.length≤sizeLine∧atI z.cps.toList i=some c∧Q (.str ⟨#[c]⟩) H
theorem ix_list:IxR X (rIxL X.K):=by
 intro value slice pins s σ H x y v u Q I rx ry h hs
 obtain ⟨p,xs,i,z,rfl,rfl,hq,he,q⟩:=h
 cases rx
 obtain ⟨t,rfl⟩:=ry
 obtain ⟨its,r,pl,hz⟩:=I.list hq
 obtain ⟨j,h1,h2,h3,h4,h5⟩:=atI_get he
 obtain ⟨w,ew,rw'⟩:=r.get h2
 have hl:=r.length
 have hn:=line63
 have fin:EP X pins σ Q w s:=⟨z,H,I,rw',q⟩
 by_cases h0:0≤i
 · have hj:i.toNat=j:=by
    rw [seqIndex_of h0 h5] at h1
    exact Option.some.inj h1
   exact item_listR pl.isList h0 (by omega) (by rw [hj]; simpa using ew) fin hs
 · have hj:(i+(its.toArray.size:Int)).toNat=j:=by
    rw [seqIndex_neg (by omega) h4] at h1
    rw [List.size_toArray,← hl]
    exact Option.some.inj h1
   exact subscriptTail_builtinR (x:=w) pl.isList.typeIs slot_list_getitem.lookup
    (wpAny_getItem_list_neg (Q:=fun r s'=>r=w∧EP X pins σ Q r s') pl.isList (by omega) (by rw [List.size_toArray] <;> omega) (by omega) (by rw [hj]; simpa using ew) ⟨rfl,fin⟩) hs
theorem ix_tup:IxR X (rIxT X.K):=by
 intro value slice pins s σ H x y v u Q I rx ry h hs
 obtain ⟨p,xs,i,z,rfl,rfl,hq,he,q⟩:=h
 cases rx
 obtain ⟨t,rfl⟩:=ry
 obtain ⟨its,r,pl,hz⟩:=I.tuple hq
 obtain ⟨j,h1,h2,h3,h4,h5⟩:=atI_get he
 obtain ⟨w,ew,rw'⟩:=r.get h2
 have hl:=r.length
 have hn:=line63
 have fin:EP X pins σ Q w s:=⟨z,H,I,rw',q⟩
 exact subscriptTail_builtinR (x:=w) pl.typeIs slot_tuple_getitem.lookup
  (getItem_tuple (j:=j) (Q:=fun r s'=>r=w∧EP X pins σ Q r s') pl (by omega) (by omega) (by rw [List.size_toArray,← hl]; exact h1) (by simpa using ew) ⟨rfl,fin⟩) hs
theorem ix_str:IxR X rIxS:=by
 intro value slice pins s σ H x y v u Q I rx ry h hs
 obtain ⟨z,i,c,rfl,rfl,hz,he,q⟩:=h
 obtain ⟨t,rfl⟩:=rx
 obtain ⟨t',rfl⟩:=ry
 obtain ⟨j,h1,h2,h3,h4,h5⟩:=atI_get he
 have hl:z.cps.toList.length=z.length:=by simp [Str.length]
 rw [hl] at h1 h4 h5
 have hn:=line63
 exact tail_any (typeIs_str s z t) slot_str_getitem.lookup (getItem_str (c:=c) (by
  have e1:decide (i < -(2 ^ 63:Int))=false:=decide_eq_false (by omega)
  have e2:decide (i ≥ 2 ^ 63)=false:=decide_eq_false (by omega)
  rw [e1,e2,Bool.or_false]) (by rw [h1]; simpa using h2) ⟨.str ⟨#[c]⟩,H,I.tok _,⟨_,rfl⟩,q⟩) hs
theorem mapSeq_set (its:List Value) (n j:Nat) (u:Value):Obj.mapSeq (·.setIfInBounds j u) { cls:=.type "list",data:=.seq its.toArray n }={ cls:=.type "list",data:=.seq (its.set j u).toArray n }:=by
 simp [Obj.mapSeq]
theorem Inv.lst {pins:List (Addr×Obj)} {σ:St} {H:Hp} {s:Shared} {p:Addr} {xs:List V} (I:Inv X pins σ H s) (h:H p=some (.lst xs)) :
 ∃ (its:List Value) (n:Nat),Vals xs its∧s.heap.get? p=some { cls:=.type "list",data:=.seq its.toArray n }∧xs.length≤sizeLine:=by
 obtain ⟨z,its,n,r,e⟩:=I.hok p _ h
 exact ⟨its,n,r,e,z⟩
theorem Inv.lstUpd {pins:List (Addr×Obj)} {σ:St} {H:Hp} {s:Shared} {p:Addr} {xs ys:List V} {its its':List Value} {n n':Nat} {f:Obj→Obj} (I:Inv X pins σ H s) (h:H p=some (.lst xs))
 (ho:s.heap.get? p=some { cls:=.type "list",data:=.seq its.toArray n }) (hf:f { cls:=.type "list",data:=.seq its.toArray n }={ cls:=.type "list",data:=.seq its'.toArray n' }) (r:Vals ys its') (hz:ys.length≤sizeLine) (t:Nat) :
 Inv X pins σ (upd H p (.lst ys)) { s with heap:=s.heap.update p f,toks:=t }:=by
 have e:(s.heap.update p f).get? p=some { cls:=.type "list",data:=.seq its'.toArray n' }:=by
  rw [Heap.get?_update_self f ho (by rw [hf] <;> rfl),hf]
 refine I.write (x:=p) (e:=p) (by rw [h]; trivial) (.inl rfl) (fun b u hb q=>(Heap.get?_update_other _ _ (Ne.symm hb)).trans q) ⟨_,e⟩ ?_
 exact ⟨hz,its',n',r,e⟩
def rSetL:V→V→V→Hp→(Hp→Prop)→Prop:=fun o i v H Q=>∃ p xs k j,o=.ref p∧i=.int k∧H p=some (.lst xs)∧ixN xs.length k=some j∧Q (upd H p (.lst (xs.set j v)))
theorem set_list:PSet X rSetL:=by
 intro pins s σ H o i v ov iv u Q I ro ri rv h
 obtain ⟨p,xs,k,j,rfl,rfl,hp,hj,q⟩:=h
 cases ro
 obtain ⟨t,rfl⟩:=ri
 obtain ⟨its,n,r,ho,hz⟩:=I.lst hp
 obtain ⟨h1,h2,h3,h4⟩:=ixN_seq hj
 have hl:=r.length
 have hn:=line63
 have I':Inv X pins σ (upd H p (.lst (xs.set j v))) { s with heap:=s.heap.update p (Obj.mapSeq (·.setIfInBounds j u)) } :=
  I.lstUpd hp ho (mapSeq_set its n j u) (r.set rv j) (by rw [List.length_set]; exact hz) s.toks
 by_cases h0:0≤k
 · have hk:k.toNat=j:=by
    rw [seqIndex_of h0 h4] at h1
    exact Option.some.inj h1
   exact PySem.W.ki_setAt ho h0 (by omega) (by rw [List.size_toArray,← hl]; exact h4) (by rw [hk]; exact ⟨_,I',q⟩)
 · have hk:(k+(its.toArray.size:Int)).toNat=j:=by
    rw [seqIndex_neg (by omega) h3] at h1
    rw [List.size_toArray,← hl]
    exact Option.some.inj h1
   exact PySem.W.ki_setBack ho (by omega) (by rw [List.size_toArray,← hl]; exact h3) (by omega) (by rw [hk]; exact ⟨_,I',q⟩)
def flatV:V→Bool
 | .non=>true
 | .bl _=>true
 | .int _=>true
 | .str _=>true
 | _=>false
def eqV:V→V→Bool
 | .non,.non=>true
 | .bl a,.bl b=>a == b
 | .bl a,.int b=>(if a then 1 else 0) == b
 | .int a,.bl b=>a == (if b then 1 else 0)
 | .int a,.int b=>a == b
 | .str a,.str b=>a == b
 | _,_=>false
theorem eqAt_V {A:Around} {s:Shared} {y x:V} {u v:Value} (ry:RelV y u) (rx:RelV x v) (fy:flatV y=true) (fx:flatV x=true):SeqAt.EqAt A s u v (eqV y x):=by
 cases y with
 | non =>
   cases ry
   cases x with
   | non=>cases rx; exact SeqAt.EqAt.same _
   | bl b=>cases rx; exact SeqAt.EqAt.none_bool b
   | int b=>obtain ⟨t,rfl⟩:=rx; exact SeqAt.EqAt.none_int b t
   | str b=>obtain ⟨t,rfl⟩:=rx; exact SeqAt.EqAt.none_str b t
   | _=>exact absurd (show false=true from fx) Bool.false_ne_true
 | bl a =>
   cases ry
   cases x with
   | non=>cases rx; exact SeqAt.EqAt.bool_none a
   | bl b=>cases rx; exact SeqAt.EqAt.bool_bool a b
   | int b=>obtain ⟨t,rfl⟩:=rx; exact SeqAt.EqAt.bool_int a b t
   | str b=>obtain ⟨t,rfl⟩:=rx; exact SeqAt.EqAt.bool_str a b t
   | _=>exact absurd (show false=true from fx) Bool.false_ne_true
 | int a =>
   obtain ⟨t',rfl⟩:=ry
   cases x with
   | non=>cases rx; exact SeqAt.EqAt.int_none a t'
   | bl b=>cases rx; exact SeqAt.EqAt.int_bool a t' b
   | int b=>obtain ⟨t,rfl⟩:=rx; exact SeqAt.EqAt.int_int a t' b t
   | str b=>obtain ⟨t,rfl⟩:=rx; exact SeqAt.EqAt.int_str a t' b t
   | _=>exact absurd (show false=true from fx) Bool.false_ne_true
 | str a =>
   obtain ⟨t',rfl⟩:=ry
   cases x with
   | non=>cases rx; exact SeqAt.EqAt.str_none a t'
   | bl b=>cases rx; exact SeqAt.EqAt.str_bool a t' b
   | int b=>obtain ⟨t,rfl⟩:=rx; exact SeqAt.EqAt.str_int a t' b t
   | str b=>obtain ⟨t,rfl⟩:=rx; exact SeqAt.EqAt.str_str a t' b t
   | _=>exact absurd (show false=true from fx) Bool.false_ne_true
 | _=>exact absurd (show false=true from fy) Bool.false_ne_true
def eqU (x:V) (u:Value):Bool:=match u with
 | .none=>eqV .non x
 | .bool b=>eqV (.bl b) x
 | .int i _=>eqV (.int i) x
 | .str z _=>eqV (.str z) x
 | _=>false
theorem eqU_of {x y:V} {u:Value} (r:RelV y u) (f:flatV y=true):eqU x u=eqV y x:=by
 cases y with
 | non=>cases r; rfl
 | bl b=>cases r; rfl
 | int i=>obtain ⟨t,rfl⟩:=r; rfl
 | str z=>obtain ⟨t,rfl⟩:=r; rfl
 | _=>exact absurd (show false=true from f) Bool.false_ne_true
theorem any_eqU {x:V}:∀ {xs:List V} {us:List Value},Vals xs us→xs.all flatV=true→us.any (eqU x)=xs.any fun y=>eqV y x
 | _,_,.nil,_=>rfl
 | y :: xs,u :: us,.cons r t,f=>by
   rw [List.all_cons,Bool.and_eq_true] at f
   rw [List.any_cons,List.any_cons,eqU_of r f.1,any_eqU t f.2]
theorem mem_eqAt {A:Around} {s:Shared} {x:V} {v:Value} (rx:RelV x v) (fx:flatV x=true):∀ {xs:List V} {us:List Value},Vals xs us→xs.all flatV=true→∀ u∈us,SeqAt.EqAt A s u v (eqU x u)
 | _,_,.nil,_=>fun u hu=>by cases hu
 | y :: xs,u :: us,.cons r t,f=>fun u' hu=>by
   rw [List.all_cons,Bool.and_eq_true] at f
   rcases List.mem_cons.mp hu with rfl | hu
   · rw [eqU_of r f.1]; exact eqAt_V r rx f.1 fx
   · exact mem_eqAt rx fx t f.2 u' hu
def inV (x:V) (xs:List V):Bool:=xs.any fun y=>eqV y x
def rIn (K:PySem.W.Frag) (neg:Bool):R2:=fun x y H Q=>∃ p xs,y=.ref p∧(SqL K H p xs∨SqT K H p xs)∧flatV x=true∧xs.all flatV=true∧Q (.bl (if neg then !inV x xs else inV x xs)) H
theorem op_in_seq:OpR X (compareOp .In) (rIn X.K false):=by
 intro pins s σ H x y v u Q I rx ry h
 obtain ⟨p,xs,rfl,hq,fx,fs,q⟩:=h
 cases ry
 rcases hq with hq | hq
 · obtain ⟨its,r,pl,hz⟩:=I.list hq
   refine SeqAt.in_listAt (eqU x) pl.isList (fun w hw=>mem_eqAt rx fx r fs w (by simpa using hw)) ⟨.bl _,H,I,rfl,?_⟩
   rw [show its.toArray.any (eqU x)=its.any (eqU x) by simp,any_eqU r fs]
   exact q
 · obtain ⟨its,r,pl,hz⟩:=I.tuple hq
   refine SeqAt.in_tupleAt (eqU x) pl (fun w hw=>mem_eqAt rx fx r fs w (by simpa using hw)) ⟨.bl _,H,I,rfl,?_⟩
   rw [show its.toArray.any (eqU x)=its.any (eqU x) by simp,any_eqU r fs]
   exact q
theorem call_len_seq:CallR X (.builtin "len") (fun xs H Q=>∃ p ys,xs=[.ref p]∧(SqL X.K H p ys∨SqT X.K H p ys)∧Q (.int ys.length) H):=by
 intro pins s σ H xs us Q I r h
 obtain ⟨p,ys,rfl,hq,q⟩:=h
 obtain ⟨u,rfl,rx⟩:=vals1 r
 cases rx
 have hn:=line63
 rcases hq with hq | hq
 · obtain ⟨its,r',pl,hz⟩:=I.list hq
   have hlen:=r'.length
   exact Calls.call_len_list pl.isList (by simp only [List.size_toArray] <;> omega) ⟨.int ys.length,H,I.tok _,⟨s.toks+1,by rw [List.size_toArray,hlen]⟩,q⟩
 · obtain ⟨its,r',pl,hz⟩:=I.tuple hq
   have hlen:=r'.length
   exact len_tuple pl (by simp only [List.size_toArray] <;> omega) ⟨.int ys.length,H,I.tok _,⟨s.toks+1,by rw [List.size_toArray,hlen]⟩,q⟩
theorem call_len_str:CallR X (.builtin "len") (fun xs H Q=>∃ z,xs=[.str z]∧z.length≤sizeLine∧Q (.int z.length) H):=by
 intro pins s σ H xs us Q I r h
 obtain ⟨z,rfl,hz,q⟩:=h
 obtain ⟨u,rfl,t,rfl⟩:=vals1 r
 have hn:=line63
 exact len_str (by omega) ⟨.int z.length,H,I.tok _,⟨_,rfl⟩,q⟩
theorem call_tuple_of:CallR X (.type "tuple") (fun xs H Q=>∃ p ys,xs=[.ref p]∧((SqL X.K H p ys∧∀ l,H l=none→Q (.ref l) (upd H l (.tup ys)))∨(SqT X.K H p ys∧Q (.ref p) H))):=by
 intro pins s σ H xs us Q I r h
 obtain ⟨p,ys,rfl,h⟩:=h
 obtain ⟨u,rfl,rx⟩:=vals1 r
 cases rx
 rcases h with ⟨hq,q⟩ | ⟨hq,q⟩
 · obtain ⟨its,r',pl,hz⟩:=I.list hq
   have hlen:=r'.length
   refine call_tuple_list pl.isList (fun h' kp=>?_) (by simp only [List.size_toArray] <;> omega)
   have I1:Inv X pins σ H { s with heap:=h' }:=I.kept (t':=s.toks) kp
   have I2:Inv X pins σ (upd H h'.objs.size (.tup ys)) { s with heap:=h'.push { cls:=.type "tuple",data:=.seq its.toArray } } :=
    I1.laid (t':=s.toks) (fun b o e=>Heap.get?_push_of_some _ e) (Nat.le_refl _) (show ObjOk X.prog X.w _ _ _ (.tup ys) from ⟨hz,its,r',IsTup.new _ _⟩)
   exact ⟨.ref h'.objs.size,_,I2,rfl,q _ (I1.hok.fresh (Nat.le_refl _))⟩
 · obtain ⟨its,r',pl,hz⟩:=I.tuple hq
   exact call_tuple_same pl ⟨.ref p,H,I,rfl,q⟩
def tyV (K:PySem.W.Frag) (T:String) (x:V) (H:Hp):Prop:=match x with
 | .str _=>T = "str"
 | .int _=>T = "int"
 | .ref p=>(T = "list" ∧ ∃ xs,SqL K H p xs)∨(T = "tuple" ∧ ∃ o,K.lookup p=some o∧o.cls=.type "tuple" ∧ o.dict=none) ∨
    (T = "dict" ∧ ((∃ kvs,H p=some (.dK kvs))∨∃ kvs,H p=some (.dT kvs)))∨(T = "set" ∧ ∃ S n,H p=some (.set S n))
 | _=>False
theorem tyV_is {pins:List (Addr×Obj)} {σ:St} {H:Hp} {s:Shared} {T:String} {x:V} {v:Value} (I:Inv X pins σ H s) (r:RelV x v) (ty:tyV X.K T x H) :
 s.TypeIs v T∧∀ a,v=.ref a→∃ ob,s.heap.get? a=some ob∧ob.dict=none:=by
 cases x with
 | str z =>
   obtain ⟨t,rfl⟩:=r
   cases (show T = "str" from ty)
   exact ⟨typeIs_str s z t,fun _ e=>nomatch e⟩
 | int i =>
   obtain ⟨t,rfl⟩:=r
   cases (show T = "int" from ty)
   exact ⟨typeIs_int s i t,fun _ e=>nomatch e⟩
 | ref p =>
   cases r
   rcases ty with ⟨rfl,xs,hq⟩ | ⟨rfl,o,hk,hc,hd⟩ | ⟨rfl,hk⟩ | ⟨rfl,S,n,hk⟩
   · obtain ⟨its,_,pl,_⟩:=I.list hq
     refine ⟨pl.isList.typeIs,fun a e=>?_⟩
     cases e
     obtain ⟨o,n,e,c,hd,_⟩:=pl
     exact ⟨o,e,hd⟩
   · refine ⟨⟨o,I.kIn p o hk,hc⟩,fun a e=>?_⟩
     cases e
     exact ⟨o,I.kIn _ o hk,hd⟩
   · have z:∃ o,s.heap.get? p=some o∧o.ExactDict:=by
      rcases hk with ⟨kvs,hk⟩ | ⟨kvs,hk⟩
      · obtain ⟨_,_,_,_,o,_,_,e,ex,_⟩:=I.hok p _ hk
        exact ⟨o,e,ex⟩
      · obtain ⟨_,_,_,_,o,_,_,e,ex,_⟩:=I.hok p _ hk
        exact ⟨o,e,ex⟩
     obtain ⟨o,e,ex⟩:=z
     refine ⟨⟨o,e,ex.1⟩,fun a e2=>?_⟩
     cases e2
     exact ⟨o,e,ex.2.1⟩
   · obtain ⟨o,_,_,_,e,ex,_⟩:=I.hok p _ hk
     refine ⟨⟨o,e,ex.1⟩,fun a e2=>?_⟩
     cases e2
     exact ⟨o,e,ex.2.1⟩
 | _=>exact False.elim ty
def tBM0 (K:PySem.W.Frag) (T:String) (r:V→List V→Hp→VK→Prop) (to:TE):TE:=fun σ H Q=>to σ H fun x H1=>tyV K T x H1∧r x [] H1 Q
def tBM (K:PySem.W.Frag) (T:String) (r:V→List V→Hp→VK→Prop) (to:TE) (t:TA):TE:=fun σ H Q=>to σ H fun x H1=>tyV K T x H1∧t σ H1 fun xs H2=>r x xs H2 Q
variable {o e:Expr} {es:List Expr} {to:TE} {t:TA} {name:Str} {apos cpos:Pos} {T id:String} {r:V→List V→Hp→VK→Prop}
theorem pe_bm0 (pa:PlainAttrs T) (slot:Slot T name id) (hty:typeOf (.builtin id)=pure (.type "method_descriptor")) (hm:MtR X id r) (ho:PE X o to)
 (hbase:attributeBase o name X.env (eval o X.env)=eval o X.env:=by rfl) (hline:(apos.endLine == cpos.line)=true:=by rfl):PE X (.Call (.Attribute o name apos) [] [] cpos) (tBM0 X.K T r to):=by
 intro pins s σ H Q I h
 refine wpAny_Call_method0_late hbase hline (thn (ho pins s σ H _ I h) fun v s1 ⟨x,H1,I1,r1,ty,q1⟩=>?_)
 obtain ⟨h1,h2⟩:=tyV_is I1 r1 ty
 exact ⟨T,id,pa,slot,hty,h1,h2,Calls.callWith_builtin rfl (PySem.evalArgs_none (hm pins s1 σ H1 x [] v [] Q I1 r1 .nil q1))⟩
theorem pe_bm (pa:PlainAttrs T) (slot:Slot T name id) (hty:typeOf (.builtin id)=pure (.type "method_descriptor")) (hm:MtR X id r) (ho:PE X o to) (ha:PA X (e :: es) t)
 (hbase:attributeBase o name X.env (eval o X.env)=eval o X.env:=by rfl)
 (hfew:((backTo cpos (starEach (e :: es) X.env)).all (fun x=>!x.1) && (backToKw cpos (keywordEach [] X.env)).all (fun x=>x.1.isSome)
   && decide ((e :: es).length+([]:List Keyword).length+(if ([]:List Keyword).isEmpty then 0 else 1) < 30))=true:=by rfl)
 (hline:(apos.endLine == cpos.line)=true:=by rfl) (hs:starEach (e :: es) X.env=(false,eval e X.env) :: starEach es X.env:=by rfl) (hplain:(backTo cpos (starEach es X.env)).any (·.1)=false:=by rfl) :
 PE X (.Call (.Attribute o name apos) (e :: es) [] cpos) (tBM X.K T r to t):=by
 intro pins s σ H Q I h
 refine wpAny_Call_method_late hbase hfew hline rfl (thn (ho pins s σ H _ I h) fun v s1 ⟨x,H1,I1,r1,ty,q1⟩=>?_)
 obtain ⟨h1,h2⟩:=tyV_is I1 r1 ty
 refine ⟨T,id,pa,slot,hty,h1,h2,?_⟩
 have hA:=ha cpos pins s1 σ H1 _ I1 q1
 rw [hs] at hA ⊢
 refine Calls.callWith_builtin (by show (false || (backTo cpos (starEach es X.env)).any (·.1))=false; rw [hplain] <;> rfl) (Calls.evalArgs_plain ?_)
 exact thn hA fun us s2 ⟨vs,H2,I2,r2,q2⟩=>hm pins s2 σ H2 x vs v us Q I2 r1 r2 q2
/- xs.append(e),list.index on a module's tuple .. are MtR facts of 06m -/
end
end L2
namespace L2
open PySem PySem.Spec PyProof.Rows
def MtM (X:Cx) (id:String) (r:V→List V→Hp→VK→Prop):Prop :=
 ∀ (pins:List (Addr×Obj)) (s:Shared) (σ:St) (H:Hp) (x:V) (xs:List V) (v:Value) (us:List Value) (Q:VK),Inv X pins σ H s→RelV x v→Vals xs us→r x xs H Q →
   wpAny (model X.prog X.w) X.A (call (.builtin id) (v :: us)) (EP X pins σ Q) X.xe s
theorem Vals.one:∀ {x:V} {us:List Value},Vals [x] us→∃ u,us=[u]∧RelV x u
 | _,_,.cons r .nil=>⟨_,rfl,r⟩
theorem Vals.two:∀ {x y:V} {us:List Value},Vals [x,y] us→∃ u v,us=[u,v]∧RelV x u∧RelV y v
 | _,_,_,.cons r (.cons q .nil)=>⟨_,_,rfl,r,q⟩
section
variable {X:Cx} {pins:List (Addr×Obj)} {σ:St} {H:Hp} {s:Shared} {l b:Addr} {xs ys zs:List V}
theorem Inv.lset {its its':List Value} {n:Nat} {f:Array Value→Array Value} {t':Nat} (I:Inv X pins σ H s) (hH:H l=some (.lst xs))
 (e:s.heap.get? l=some { cls:=.type "list",data:=.seq its.toArray n }) (hf:f its.toArray=its'.toArray) (hv:Vals ys its') (hz:ys.length≤sizeLine) :
 Inv X pins σ (upd H l (.lst ys)) { s with heap:=s.heap.update l (Obj.mapSeq f),toks:=t' }:=by
 have q:=PySem.IsL.update e f
 rw [hf] at q
 refine I.write (x:=l) (e:=l) (by rw [hH]; exact trivial) (.inl rfl) (fun b' u hb hu=>(Heap.get?_update_other s.heap (Obj.mapSeq f) (Ne.symm hb)).trans hu) ⟨_,q⟩ ?_
 exact ⟨hz,its',_,hv,q⟩
theorem Inv.lnew {its:List Value} {t':Nat} (I:Inv X pins σ H s) (hv:Vals ys its) (hz:ys.length≤sizeLine) :
 Inv X pins σ (upd H s.heap.objs.size (.lst ys)) { s with heap:=s.heap.push { cls:=.type "list",data:=.seq its.toArray },toks:=t' } :=
 I.laid (fun _ _ q=>Heap.get?_push_of_some _ q) (Nat.le_refl _) ⟨hz,its,0,hv,Heap.get?_push_size _ rfl⟩
theorem Inv.fresh (I:Inv X pins σ H s):H s.heap.objs.size=none:=I.hok.fresh (Nat.le_refl _)
theorem Inv.lstM (I:Inv X pins σ H s) (hH:H l=some (.lst xs)):xs.length≤sizeLine∧∃ (its:List Value) (n:Nat),Vals xs its∧xs.length=its.length∧s.heap.get? l=some { cls:=.type "list",data:=.seq its.toArray n }:=by
 obtain ⟨z,its,n,r,e⟩:=I.hok l _ hH
 exact ⟨z,its,n,r,r.length,e⟩
end
section
variable {X:Cx}
def rAppend:V→List V→Hp→VK→Prop:=fun x vs H Q=>∃ l xs y,x=.ref l∧vs=[y]∧H l=some (.lst xs)∧xs.length < sizeLine∧Q .non (upd H l (.lst (xs++[y])))
theorem mt_append:MtM X "list.append" rAppend:=by
 intro pins s σ H x vs v us Q I rx rv h
 obtain ⟨l,xs,y,rfl,rfl,hH,hz,q⟩:=h
 cases rx
 obtain ⟨u,rfl,ru⟩:=rv.one
 obtain ⟨z,its,n,r,hl,e⟩:=I.lstM hH
 refine call_meets F.slot_list_append ⟨_,e,rfl⟩ F.entry_list_append (F.args_list_append_2 _ _) (PySem.list_append l its.toArray n u (by rw [List.size_toArray]; omega)) ⟨e,?_⟩
 refine ⟨.non,_,I.lset (its':=its++[u]) hH e (by simp) (r.append (.cons ru .nil)) ?_,rfl,q⟩
 rw [List.length_append,List.length_singleton]
 omega
def rCat:R2:=fun x y H Q=>∃ l b xs zs,x=.ref l∧y=.ref b∧H l=some (.lst xs)∧H b=some (.lst zs)∧xs.length+zs.length≤sizeLine∧∀ p,H p=none→Q (.ref p) (upd H p (.lst (xs++zs)))
theorem op_cat:OpR X (binaryOp .Add) rCat:=by
 intro pins s σ H x y v u Q I rx ry h
 obtain ⟨l,b,xs,zs,rfl,rfl,hH,hB,hz,q⟩:=h
 cases rx
 cases ry
 obtain ⟨z,its,n,r,hl,e⟩:=I.lstM hH
 obtain ⟨z2,its2,n2,r2,hl2,e2⟩:=I.lstM hB
 refine PySem.P.add_list e e2 ?_ (by rw [List.size_toArray,List.size_toArray]; omega)
 have ea:its.toArray++its2.toArray=(its++its2).toArray:=by simp
 rw [ea]
 exact ⟨.ref _,_,I.lnew (t':=s.toks) (r.append r2) (by rw [List.length_append]; omega),rfl,q _ I.fresh⟩
end
section
variable {prog:Program} {w:World} {A:Around} {E:Value→Shared→Prop} {s:Shared}
set_option maxRecDepth 100000 in
end
section
variable {X:Cx}
end
end L2
namespace Att
open PySem PySem.W PySem.Calls PyProof.Rows
theorem ints_of_wellAll {P:Params} {h:Heap}:∀ (ns:List Int) (vs:List Value),WellAll P h vs (ns.map WData.int)→IntsAre vs ns:=by
 intro ns
 induction ns with
 | nil =>
   intro vs w
   rw [List.map_nil] at w
   cases w
   exact .nil
 | cons n ns ih =>
   intro vs w
   rw [List.map_cons] at w
   cases w with
   | cons a b =>
     cases a
     exact .cons _ _ (ih _ b)
theorem script_of {l:OpenLaw} {n:Nat} (hn:l.most=some n) {P:Params} {h:Heap} {args:List WData} {vals:List Value}
 (hpre:l.row.toRowW.claim.pre args=true) (hwl:WellAll P h vals args) :
 ∃ a vs ns,vals=[Value.ref a]∧args=[WData.list (ns.map WData.int)]∧h.get? a=some { cls:=.type "list",data:=.seq vs.toArray }∧IntsAre vs ns∧ns.length≤n:=by
 have hsh:WShape.hasAll [] args [.list .int]=true:=(pre_splitW hpre).1
 have hc:l.pre.holds [] { args:=args }=true:=(pre_splitW hpre).2
 obtain ⟨d,r,rfl,h1,h2⟩:=hasAllW_cons hsh
 obtain rfl:=hasAllW_nil h2
 obtain ⟨xs,rfl,h3⟩:=hasW_list h1
 obtain ⟨ns,rfl⟩:=items_int h3
 have hlen:ns.length≤n:=by
  unfold OpenLaw.pre at hc
  have h4:(WTm.not (.lt (.lit (.int (n:Int))) (.len (.arg 0)))).holds [] { args:=[.list (ns.map .int)] }=true:=by
   have h4:=(holds_andW hc).1
   rw [hn] at h4
   exact h4
  have h5:=condW_of h4 (w_not (w_lt w_lit (w_len_list (w_arg rfl))))
  rw [List.length_map] at h5
  refine Nat.le_of_not_lt fun q=>?_
  have q':(n:Int) < ((ns.length:Nat):Int):=by omega
  first
   | (rw [decide_eq_true q'] at h5; exact absurd h5 (by decide))
   | (simp at h5; omega)
 cases hwl with
 | cons w1 w2 =>
   cases w2
   cases w1 with
   | list ho hall=>exact ⟨_,_,ns,rfl,rfl,ho,ints_of_wellAll ns _ hall,hlen⟩
theorem post_true (l:OpenLaw) (args:List WData):l.row.toRowW.claim.post args (.bool true) args=true :=
 postW_of (r:=l.row.toRowW) (X:=(true == true))
  (show WShape.has [] (.bool true) .bool=true by first | rfl | decide | simp [WShape.has,WShape.arms,WShape.armsAll])
  (show (WTm.eq .res (.lit (.bool true))).value [] { args:=args,res:=some (.bool true),after:=args }=some (.bool (true == true)) from w_eq_bool (w_res rfl) w_lit) rfl
theorem attach_call {l:OpenLaw} {n:Nat} {q:Program} {loose:List Str} {XP:(Str→Option Value)→Heap→Prop} {YP:World→Heap→Prop} {d:DefRec}
 (hn:l.most=some n) (hdf:d.params.defaults=[])
 (call:∀ (w:World) (s₀ s₁:Shared) (mg mb:Str→Option Value) (fa:Addr) (o:Obj) (pm cd doc:Value) (a:Addr) (vs:List Value) (ns:List Int),
   Ground q loose [] XP w s₀ mg mb s₁.heap→YP w s₁.heap →
   s₁.heap.get? fa=some o→o.data=.func (docDef d.name d.params d.body d.scope pm cd doc)→s₁.heap.CodeRec cd d.name→mg d.name=some (.ref fa) →
   s₁.heap.get? a=some { cls:=.type "list",data:=.seq vs.toArray }→IntsAre vs ns→ns.length≤n→s₁.gens=#[] →
   codeAny (model l.prog w) callerA (.call (.ref fa) ⟨[.ref a],[]⟩) (fun r s'=>r=.ok (.ret (.bool true))∧OldK s₁.heap s'.heap∧s'.os=s₁.os∧AllBare s'.gens) s₁) :
 WalkO q loose XP YP l.row.toRowW d [] (fun f vs=>PySem.call f vs):=by
 intro w s₀ s₁ mg mb G Y fa o pm cd doc dV kV ho hd hcd hD hmg hg args vals as hpre hlay hrd hwl hlo
 obtain rfl:dV=.none:=Dflts.none hD hdf
 obtain rfl:kV=.none:=Dflts.noKw hD
 obtain ⟨a,vs,ns,rfl,rfl,hobj,hints,hlen⟩:=script_of hn hpre hwl
 refine enter_call (codeAny_mono (call w s₀ s₁ mg mb fa o pm cd doc a vs ns G Y ho (fd_plain hd) hcd hmg hobj hints hlen hg) fun r s' hq=>?_)
 obtain ⟨rfl,h2,h3,h4⟩:=hq
 exact ⟨.inl ⟨.bool true,.bool true,[],rfl,fun _=>rfl,.bool true,post_true l _,fun _=>⟨List.Pairwise.nil,fun _ hm=>(nomatch hm)⟩⟩,h2,h3,h4⟩
section
variable {prog:Program} {w:World} {A:Around} {E:Value→Shared→Prop} {s:Shared} {K:Frag}
end
end Att
namespace L2
open PySem PySem.Spec PyProof.Rows
theorem vals_ints:∀ {vs:List Value} {ns:List Int},IntsAre vs ns→Vals (ns.map V.int) vs
 | _,_,.nil=>.nil
 | _,_,.cons n t h=>.cons ⟨t,rfl⟩ (vals_ints h)
end L2
namespace L2
open PySem PySem.Spec PyProof.Rows
end L2
namespace L2
open PySem PySem.Spec PyProof.Rows
def defArgs (s:Stmt):Arguments:=match s with
 | .FunctionDef _ a _ _ _ _ _ _ _ _=>a
 | _=>{ posonlyargs:=[],args:=[],vararg:=none,kwonlyargs:=[],kw_defaults:=[],kwarg:=none,defaults:=[] }
def defBody (s:Stmt):List Stmt:=match s with
 | .FunctionDef _ _ b _ _ _ _ _ _ _=>b
 | _=>[]
def defScope (s:Stmt):Scope:=match s with
 | .FunctionDef _ _ _ _ _ _ sc _ _ _=>sc
 | _=>{ kind:=.function,names:=[],isGenerator:=false,isCoroutine:=false }
abbrev CX0:CXT:=fun _ _ _ _ _ _=>False
abbrev E0:XK:=fun _ _ _=>False
theorem pass0 {X:Cx}:Passes CX0 X E0:=fun _ _ _ _ _ _ _ h=>h.elim
structure Fun (K:PySem.W.Frag) (x qual:Str) (st:Stmt) (f:Addr) (fd:FuncData):Prop where
 ex:∃ (oc:Value) (od:Option Addr) (kV doc pm:Value) (an:Option Addr) (cdv ct:Value) (osl:Array (Option Value)),
  fd=PySem.W.fnOf x qual (defArgs st) (defBody st) (defScope st) .none kV doc pm an cdv ct∧K.lookup f=some ⟨oc,od,.func fd,osl⟩∧PySem.W.codeIn K cdv qual=true
 kp:PySem.W.keepIn K (.ref f)=true
section
variable {P:Program} {w:World} {K:PySem.W.Frag} {mg:Str→Option Value} {base:Heap}
theorem Fun.ok {x qual:Str} {st:Stmt} {f:Addr} {fd:FuncData} {N ps:List Str} {k:Nat} {sp:Sp} (F:Fun K x qual st f fd) (S:FnScope N ps (defScope st)) (len:∀ vs H Q E,sp vs H Q E→vs.length=ps.length)
 (hbody:∀ (cdv:Value) (A:Around) (outer:List Env) (s:Shared) (H:Hp) (vs:List V) (Q:VK) (E:XK),Room k (A.deeper (envOfC qual (defScope st) s.heap.objs.size f cdv))→sp vs H Q E →
   ∃ t,PSs (cxOf CX0 P w K mg base N qual (defScope st) f cdv A outer s H E).nox (defBody st) t∧t { nx:=fun _ H'=>Q .non H',rt:=Q } (start N vs) H):FnOk P w K mg base CX0 (k+1) f fd ps sp:=by
 obtain ⟨oc,od,kV,doc,pm,an,cdv,ct,osl,rfl,lk,hcd⟩:=F.ex
 refine fn_of lk hcd S len fun A outer s H vs Q E hr hsp=>?_
 obtain ⟨t,h,q⟩:=hbody cdv A outer s H vs Q E hr hsp
 exact ⟨t,h.nox,q⟩
theorem Fun.binds {x qual:Str} {st:Stmt} {f:Addr} {fd:FuncData} {ps:List Str} (F:Fun K x qual st f fd)
 (h:∀ (kV doc pm:Value) (an:Option Addr) (cdv ct:Value) (us:List Value),us.length=ps.length→bindArgs (PySem.W.fnOf x qual (defArgs st) (defBody st) (defScope st) .none kV doc pm an cdv ct) ⟨us,[]⟩=pure (ps.zip us)):Binds K fd ps []:=by
 obtain ⟨oc,od,kV,doc,pm,an,cdv,ct,osl,rfl,lk,hcd⟩:=F.ex
 exact .all (h kV doc pm an cdv ct)
theorem fun_mk {x qual:Str} {st:Stmt} {f:Addr} {oc:Value} {od an:Option Addr} {osl:Array (Option Value)} {kV doc pm cdv ct:Value} (l:K.lookup f=some ⟨oc,od,.func (PySem.W.fnOf x qual (defArgs st) (defBody st) (defScope st) .none kV doc pm an cdv ct),osl⟩)
 (c:PySem.W.codeIn K cdv qual=true) (k:PySem.W.keepIn K (.ref f)=true):Fun K x qual st f (PySem.W.fnOf x qual (defArgs st) (defBody st) (defScope st) .none kV doc pm an cdv ct):=⟨⟨oc,od,kV,doc,pm,an,cdv,ct,osl,rfl,l,c⟩,k⟩
end
theorem hu_of {A:Around} {k:Nat} (hr:Room k A):A.units+1 < cLine:=Nat.lt_of_le_of_lt (Nat.add_le_add_left (by decide:1≤64) _) hr.units
section
variable {X:Cx}
theorem pv (i:Nat) {x:Str} {pos:Pos} (hN:X.N[i]? = some x:=by rfl) (hv:Vis X.env.scope x:=by first | exact Or.inl rfl | exact Or.inr (Or.inl rfl) | exact Or.inr (Or.inr rfl)) (hd:(x == ("__debug__" : Str))=false:=by decide)
 (hcd:(x == ("__classdict__" : Str))=false:=by decide):PE X (.Name x pos) (tVar i):=pe_var hN hv hd hcd
end
theorem iteF {A B:Prop} (h:B):if false=true then A else B:=by
 rw [if_neg Bool.false_ne_true]
 exact h
theorem iteT {A B:Prop} (h:A):if true=true then A else B:=by
 rw [if_pos rfl]
 exact h
theorem ite2 {c A B:Prop} [Decidable c] (h1:c→A) (h2:¬ c→B):if c then A else B:=by
 by_cases h:c
 · rw [if_pos h]
   exact h1 h
 · rw [if_neg h]
   exact h2 h
def Same (H H':Hp):Prop:=∀ b o,H b=some o→H' b=some o
theorem Same.refl (H:Hp):Same H H:=fun _ _ h=>h
theorem Same.trans {H H1 H2:Hp} (a:Same H H1) (b:Same H1 H2):Same H H2:=fun c o h=>b c o (a c o h)
end L2
namespace FM
def sg (t b:Int):Int:=if b < 0 then -(Int.gcd t b:Int) else (Int.gcd t b:Int)
theorem gcd_ne {t b:Int} (h:b≠0):(Int.gcd t b:Int)≠0:=by
 intro e
 have:=Int.gcd_eq_zero_iff.mp (Int.ofNat.inj e)
 exact h this.2
theorem sg_ne {t b:Int} (h:b≠0):sg t b≠0:=by
 have:=gcd_ne (t:=t) h
 unfold sg; split <;> omega
theorem fdiv_mul {c k:Int} (h:k≠0):(c * k).fdiv k=c:=Int.mul_fdiv_cancel c h
theorem fdiv_num {t b:Int} (h:b≠0):t.fdiv (sg t b)=(Rat.divInt t b).num:=by
 rw [Rat.num_divInt]
 obtain ⟨c,hc⟩:=Int.gcd_dvd_left t b
 have hg:=gcd_ne (t:=t) h
 have e:(b.gcd t:Int)=(t.gcd b:Int):=by rw [Int.gcd_comm]
 rw [e]
 unfold sg
 rcases Int.lt_or_gt_of_ne h with hb | hb
 · rw [if_pos hb,Int.sign_eq_neg_one_of_neg hb]
   generalize (t.gcd b:Int)=g at *
   subst hc
   rw [show g * c=(-c) * (-g) by rw [Int.neg_mul_neg,Int.mul_comm],fdiv_mul (by omega)]
   rw [show (-1:Int) * ((-c) * (-g))=(-c) * g by rw [Int.neg_mul_neg,Int.neg_mul,Int.one_mul,Int.neg_mul],Int.mul_ediv_cancel _ hg]
 · rw [if_neg (by omega),Int.sign_eq_one_of_pos hb,Int.one_mul]
   generalize (t.gcd b:Int)=g at *
   subst hc
   rw [Int.mul_comm,fdiv_mul hg,Int.mul_ediv_cancel _ hg]
theorem fdiv_den {t b:Int} (h:b≠0):b.fdiv (sg t b)=((Rat.divInt t b).den:Int):=by
 rw [Rat.den_divInt,if_neg h]
 obtain ⟨c,hc⟩:=Int.gcd_dvd_right t b
 have hg:=gcd_ne (t:=t) h
 have e:b.gcd t=t.gcd b:=by rw [Int.gcd_comm]
 rw [e,Int.natCast_ediv]
 unfold sg
 rcases Int.lt_or_gt_of_ne h with hb | hb
 · rw [if_pos hb,Int.ofNat_natAbs_of_nonpos (by omega)]
   generalize (t.gcd b:Int)=g at *
   subst hc
   rw [show g * c=(-c) * (-g) by rw [Int.neg_mul_neg,Int.mul_comm],fdiv_mul (by omega)]
   rw [show -((-c) * (-g))=(-c) * g by rw [Int.neg_mul_neg,Int.neg_mul],Int.mul_ediv_cancel _ hg]
 · rw [if_neg (by omega),Int.natAbs_of_nonneg (by omega)]
   generalize (t.gcd b:Int)=g at *
   subst hc
   rw [Int.mul_comm,fdiv_mul hg,Int.mul_ediv_cancel _ hg]
theorem low_num {t b:Int} (h:b≠0):(if 0 < b then t.fdiv (Int.gcd t b:Int) else 0 - t.fdiv (Int.gcd t b:Int))=(Rat.divInt t b).num:=by
 rw [← fdiv_num h]
 have hg:=gcd_ne (t:=t) h
 obtain ⟨c,hc⟩:=Int.gcd_dvd_left t b
 unfold sg
 by_cases hb:0 < b
 · rw [if_pos hb,if_neg (by omega)]
 · rw [if_neg hb,if_pos (by omega)]
   generalize (t.gcd b:Int)=g at *
   subst hc
   rw [show g * c=c * g by simp [Int.mul_comm],fdiv_mul hg]
   rw [show c * g=(-c) * (-g) by rw [Int.neg_mul_neg],fdiv_mul (by omega)]
   omega
theorem low_den {t b:Int} (h:b≠0):(b.natAbs:Int).fdiv (Int.gcd t b:Int)=((Rat.divInt t b).den:Int):=by
 rw [← fdiv_den h]
 have hg:=gcd_ne (t:=t) h
 obtain ⟨c,hc⟩:=Int.gcd_dvd_right t b
 unfold sg
 by_cases hb:b < 0
 · rw [if_pos hb,Int.ofNat_natAbs_of_nonpos (by omega)]
   generalize (t.gcd b:Int)=g at *
   subst hc
   rw [show g * c=(-c) * (-g) by rw [Int.neg_mul_neg,Int.mul_comm],fdiv_mul (by omega)]
   rw [show -((-c) * (-g))=(-c) * g by rw [Int.neg_mul_neg,Int.neg_mul],fdiv_mul hg]
 · rw [if_neg hb,Int.natAbs_of_nonneg (by omega)]
theorem gcd_fmod {a b:Int} (h:b≠0):Int.gcd b (a.fmod b)=Int.gcd a b:=by
 have e:a.fmod b=a - b * a.fdiv b:=by have:=Int.mul_fdiv_add_fmod a b; omega
 rw [e,Int.gcd_comm a b]
 have:=Int.gcd_sub_mul_left_right b a (a.fdiv b)
 first | exact this | (rw [← this]) | simpa using this
theorem fmod_abs_lt {a b:Int} (h:b≠0):(a.fmod b).natAbs < b.natAbs:=by
 rcases Int.lt_or_gt_of_ne h with hb | hb
 · have e:a.fmod b = -((-a).fmod (-b)):=by
    have:=Int.neg_fmod_neg a b
    omega
   have h1:=Int.fmod_nonneg_of_pos (-a) (show (0:Int) < -b by omega)
   have h2:=Int.fmod_lt_of_pos (-a) (show (0:Int) < -b by omega)
   omega
 · have h1:=Int.fmod_nonneg_of_pos a hb
   have h2:=Int.fmod_lt_of_pos a hb
   omega
def B (n:Nat) (q:Rat):Prop:=q.num.natAbs < 2 ^ n∧q.den < 2 ^ n
theorem divInt_num_le (t:Int) {b:Int} (h:b≠0):(Rat.divInt t b).num.natAbs≤t.natAbs:=by
 rw [Rat.num_divInt]
 have hs:(b.sign * t).natAbs≤t.natAbs:=by
  rw [Int.natAbs_mul]
  have:b.sign.natAbs≤1:=by
   rcases Int.lt_trichotomy b 0 with z | z | z
   · rw [Int.sign_eq_neg_one_of_neg z]; decide
   · omega
   · rw [Int.sign_eq_one_of_pos z]; decide
  calc b.sign.natAbs * t.natAbs≤1 * t.natAbs:=Nat.mul_le_mul_right _ this
   _=t.natAbs:=Nat.one_mul _
 obtain ⟨c,hc⟩:∃ c,b.sign * t=(b.gcd t:Int) * c:=by
  obtain ⟨c,hc⟩:=Int.gcd_dvd_right b t
  refine ⟨b.sign * c,?_⟩
  rw [← Int.mul_assoc,Int.mul_comm (b.gcd t:Int) b.sign,Int.mul_assoc,← hc]
 have hg:(b.gcd t:Int)≠0:=by
  intro e
  exact h (Int.gcd_eq_zero_iff.mp (Int.ofNat.inj e)).1
 rw [hc,Int.mul_ediv_cancel_left _ hg]
 have:c.natAbs≤(b.sign * t).natAbs:=by
  rw [hc,Int.natAbs_mul]
  have:1≤(b.gcd t:Int).natAbs:=by omega
  calc c.natAbs=1 * c.natAbs:=(Nat.one_mul _).symm
   _≤_:=Nat.mul_le_mul_right _ this
 omega
theorem divInt_den_le (t:Int) {b:Int} (h:b≠0):(Rat.divInt t b).den≤b.natAbs:=by
 rw [Rat.den_divInt,if_neg h]
 exact Nat.div_le_self _ _
theorem B_divInt {n:Nat} {t b:Int} (h:b≠0) (h1:t.natAbs < 2 ^ n) (h2:b.natAbs < 2 ^ n):B n (Rat.divInt t b) :=
 ⟨Nat.lt_of_le_of_lt (divInt_num_le t h) h1,Nat.lt_of_le_of_lt (divInt_den_le t h) h2⟩
theorem gcd_one (q:Rat):Int.gcd q.num q.den=1:=by
 have:=q.reduced
 unfold Nat.Coprime at this
 simpa [Int.gcd] using this
theorem of_coprime {a b:Int} (hb:0 < b) (h:Int.gcd a b=1):(Rat.divInt a b).num=a∧((Rat.divInt a b).den:Int)=b:=by
 rw [Rat.num_divInt,Rat.den_divInt,if_neg (by omega),Int.gcd_comm b a,h,Int.sign_eq_one_of_pos hb]
 constructor
 · simp
 · simp; omega
theorem whole (a:Int):(Rat.divInt a 1).num=a∧((Rat.divInt a 1).den:Int)=1:=of_coprime (by decide) (by simp)
end FM
namespace L2
open PySem PySem.Spec PyProof.Rows
theorem compLoop_any {prog:Program} {w:World} {A:Around} {R:Result→Shared→Prop} {s:Shared} {elt target iter:Expr} {ifs:List Expr} {scope:Scope} {pos:Pos} {it acc:Value} {env:Env} (I:Nat→Shared→Prop)
 (turn:∀ n s,I n s→wpAny (model prog w) A (pyNext it) (fun r s₁=>match r with
   | none=>R (.ok .next) s₁
   | some v=>wpAny (model prog w) A (letOwnedTupleGo target it v) (fun _ s₀=>wpAny (model prog w) A (assign target env v) (fun _ s₂ =>
      wpAny (model prog w) A (forIn ifs true fun c r=>if r=true then do let ok ← isTrue c env (eval c env); pure (ForInStep.yield ok) else pure (ForInStep.yield r)) (fun ok s₃ =>
       if ok=true then wpAny (model prog w) A (eval elt env) (fun x s₄ =>
        wpAny (model prog w) A (call (.builtin "list.append") [acc,x]) (fun _ s₅=>∃ m,m < n∧I m s₅) (fun _ _=>False) s₄) (fun _ _=>False) s₃
       else ∃ m,m < n∧I m s₃) (fun _ _=>False) s₂) (fun _ _=>False) s₀) (fun _ _=>False) s₁) (fun _ _=>False) s)
 (n:Nat) (h:I n s) :
 codeAny (model prog w) A (.compLoop (.ListComp elt [⟨target,iter,ifs,0⟩] scope pos) 0 it acc env) R s:=by
 refine codeAny_loop rfl I (fun n s hI=>?_) n h
 show wpAny _ A ((compTurn (.ListComp elt [⟨target,iter,ifs,0⟩] scope pos) 0 it acc env).onRaise (fun x=>do noteFrame x env; theTreesLotGoes x)) _ _ s
 refine wpAny_noted ?_
 rw [compTurn_list]
 refine wpAny_bind (wpAny_standAt (wpAny_bind (wpAny_mono (turn n s hI) (fun r s₁ h₁=>?_) fun _ _ h'=>h'.elim)))
 cases r with
 | none=>exact wpAny_pure h₁
 | some v =>
   refine wpAny_bind (wpAny_mono h₁ (fun _ s₀ h₀=>?_) fun _ _ h'=>h'.elim)
   refine wpAny_bind (wpAny_mono h₀ (fun _ s₂ h₂=>wpAny_bind (wpAny_mono h₂ (fun ok s₃ h₃=>?_) fun _ _ h'=>h'.elim)) fun _ _ h'=>h'.elim)
   cases ok with
   | false=>exact wpAny_pure ⟨rfl,h₃⟩
   | true =>
     exact wpAny_bind (wpAny_bind (wpAny_mono h₃ (fun x s₄ h₄=>wpAny_bind (wpAny_mono h₄ (fun _ s₅ h₅=>wpAny_pure (wpAny_pure ⟨rfl,h₅⟩)) fun _ _ h'=>h'.elim)) fun _ _ h'=>h'.elim))
theorem cellsFrom_app:∀ (names:List (Str×NameKind)) (n:Nat) (acc:List (Str×Addr)),cellsFrom n names acc=cellsFrom n names []++acc
 | [],_,_=>rfl
 | (x,k) :: r,n,acc=>by
   unfold cellsFrom
   split
   · rw [cellsFrom_app r (n+1) ((x,n) :: acc),cellsFrom_app r (n+1) [(x,n)],List.append_assoc]; rfl
   · exact cellsFrom_app r n acc
theorem cellsFrom_mem {x:Str} {c:Addr}:∀ (names:List (Str×NameKind)) (n:Nat),(x,c)∈cellsFrom n names []→(x,NameKind.cell)∈names
 | [],_,h=>by simp [cellsFrom] at h
 | (y,k) :: r,n,h=>by
   unfold cellsFrom at h
   split at h
   · rename_i hk
     rw [cellsFrom_app] at h
     rcases List.mem_append.mp h with h | h
     · exact List.mem_cons_of_mem _ (cellsFrom_mem r _ h)
     · cases List.mem_singleton.mp h
       rw [show k=.cell by simpa using hk]
       exact List.mem_cons_self
   · exact List.mem_cons_of_mem _ (cellsFrom_mem r _ h)
theorem own_look {names:List (Str×NameKind)} {n:Nat} {cl:List (Str×Addr)} {x:Str} {c:Addr} (h:(cellsFrom n names cl).lookup x=some c):(cellsFrom n names []).lookup x=some c∨cl.lookup x=some c:=by
 rw [cellsFrom_app,List.lookup_append] at h
 cases e:(cellsFrom n names []).lookup x with
 | none=>rw [e] at h; exact .inr h
 | some c'=>rw [e] at h; exact .inl h
theorem newEnv_own {M:Model} {A:Around} {E:Value→Shared→Prop} {s:Shared} {scope:Scope} {globals:Addr} {cl:List (Str×Addr)} {qual:Str} {env:Env} {Q:Env→Shared→Prop}
 (hQ:∀ h',h'.Ns s.heap.objs.size (fun _=>none)→(∀ b o,s.heap.get? b=some o→h'.get? b=some o)→CellsOk h' (s.heap.objs.size+1) (cellsFrom (s.heap.objs.size+1) scope.names []) →
   Q (newEnv scope s.heap.objs.size globals (cellsFrom (s.heap.objs.size+1) scope.names cl) qual none .none (some env) builtinsNs) { s with heap:=h' }) :
 wpAny M A (newFunctionEnv scope globals cl [] qual none .none (some env)) Q E s:=by
 simp only [newFunctionEnv,Option.isSome_some,if_true]
 refine wpAny_bind (wpAny_alloc ?_)
 refine wpAny_bind (wpAny_layCells _ (fun name kind cells=>by cases hkc:kind == NameKind.cell <;> simp [hkc]) _ _ _ _ ?_)
 have ok:=cellsFrom_ok scope.names (s.heap.push { cls:=.type "dict",data:=.dict #[] }) (s.heap.objs.size+1) [] ⟨fun _ _ hm=>(nomatch hm),List.Pairwise.nil⟩ (by rw [Heap.size_push]; exact Nat.le_refl _)
 rw [Heap.size_push] at ok
 rw [show ({ s with heap:=s.heap.push { cls:=.type "dict",data:=.dict #[] } }:Shared).heap.objs.size=s.heap.objs.size+1 from Heap.size_push ..]
 rw [List.forIn_nil]
 exact wpAny_bind (wpAny_pure (wpAny_pure (hQ _ ((Heap.Ns.new s.heap (.type "dict")).keeps (pushCells_keeps _ _)) (fun b o e=>pushCells_keeps _ _ b o (Heap.get?_push_of_some _ e)) ok)))
def blk (X:Cx) (scope:Scope) (cl:List (Str×Addr)) (C:Addr) (N:List Str) (s3:Shared) (H3:Hp) (fp:List Addr):Cx where
 prog:=X.prog
 w:=X.w
 K:=X.K
 mg:=X.mg
 base:=X.base
 A:=X.A
 N:=N
 s₀:=s3
 H₀:=H3
 env:=compEnvC scope (cellsFrom (C+1) scope.names cl) C X.env
 outer:=X.stack
 stack:=X.stack
 ex:=fp
 fn:=fun x=>scope.names.lookup x == some .cell
 calm:=X.calm
 pn:=[]
 xe:=fun _ _=>False
structure LcO (X:Cx) (scope:Scope) (cl:List (Str×Addr)) (N:List Str) (fr:List (Option Nat)):Prop where
 clos:closureFor scope X.env=pure cl
 sub:∀ x c,cl.lookup x=some c→X.env.cells.lookup x=some c
 has:∀ x,((relabel scope X.env).names.lookup x=some .cell∨(relabel scope X.env).names.lookup x=some .free)→scope.names.lookup x=some .cell∨∃ c,cl.lookup x=some c
 kind:scope.kind=.function
 names:∀ y∈scope.names,y.2=.local→scope.names.lookup y.1=some .local
 len:fr.length=N.length
 from':∀ (i j:Nat),fr[i]? = some (some j)→∃ x,N[i]? = some x∧X.N[j]? = some x∧(X.env.scope.names.lookup x=some .cell∨X.env.scope.names.lookup x=some .free)∧((relabel scope X.env).names.lookup x=some .cell∨(relabel scope X.env).names.lookup x=some .free)∧(∃ c,cl.lookup x=some c)∧(x,NameKind.cell)∉scope.names
def lcStart (fr:List (Option Nat)) (σ:St):St:=fr.map fun o=>match o with
 | some j=>match σ[j]? with
   | some v=>v
   | none=>none
 | none=>none
theorem hok_but {P:Program} {w:World} {H:Hp} {h h':Heap} {a:Addr} (ok:HOk P w H h) (hfree:H a=none) (hs:Heap.SameBut a h h'):HOk P w H h':=fun b ob e=>by
 refine (ok b ob e).stay (fun c w' hc q=>(hs.2 c ?_).trans q) (fun _ q=>q) fun _ _ q=>q
 rintro rfl
 rcases hc with rfl | hc
 · rw [hfree] at e; cases e
 · rw [hfree] at hc; cases hc
theorem blk_ok {X:Cx} {pins:List (Addr×Obj)} {σ:St} {H:Hp} {s3:Shared} {h1:Heap} {scope:Scope} {cl:List (Str×Addr)} {N:List Str} {fr:List (Option Nat)} {fp:List Addr} (L:LcO X scope cl N fr) (I:Inv X pins σ H s3) (co:CellsOk h1 (s3.heap.objs.size+1) (cellsFrom (s3.heap.objs.size+1) scope.names []))
 (hf:∀ b∈fp,FpOk X pins H b) (hlt:∀ b∈fp,b < s3.heap.objs.size):(blk X scope cl s3.heap.objs.size N s3 H fp).Ok where
 mod:=I.ok.mod
 kind:=L.kind
 glob:=I.ok.glob
 blt:=I.ok.blt
 above:=Nat.le_refl _
 inj:=fun x y c h1 h2=>by
  have old:∀ z,cl.lookup z=some c→c < s3.heap.objs.size:=fun z e=>let ⟨_,k⟩:=I.cell z c (L.sub z c e); k.lt
  have new:∀ z,(cellsFrom (s3.heap.objs.size+1) scope.names []).lookup z=some c→s3.heap.objs.size+1≤c:=fun z e=>(co.empty z c (PySem.mem_of_lookup e)).2
  rcases own_look h1 with a | a <;> rcases own_look h2 with b | b
  · exact name_of_addr co.apart (PySem.mem_of_lookup a) (PySem.mem_of_lookup b)
  · exact absurd (Nat.lt_of_lt_of_le (old y b) (Nat.le_of_succ_le (new x a))) (Nat.lt_irrefl _)
  · exact absurd (Nat.lt_of_lt_of_le (old x a) (Nat.le_of_succ_le (new y b))) (Nat.lt_irrefl _)
  · exact I.ok.inj x y c (L.sub x c a) (L.sub y c b)
 has:=fun x h=>by
  refine Option.isSome_iff_exists.mp (PySem.W.cellsFrom_some scope.names (s3.heap.objs.size+1) cl ?_)
  rcases L.has x h with z | ⟨c,z⟩
  · exact .inl z
  · exact .inr (by rw [z]; rfl)
 cab:=fun x c h e=>by
  obtain ⟨c',e'⟩:=cell_has (sc:=scope) (n:=s3.heap.objs.size+1) (beq_iff_eq.mp (show (scope.names.lookup x == some .cell)=true from h))
  have e2:(cellsFrom (s3.heap.objs.size+1) scope.names cl).lookup x=some c:=e
  rw [cellsFrom_app,List.lookup_append,e'] at e2
  have e3:c'=c:=Option.some.inj e2
  subst e3
  exact Nat.le_of_succ_le (co.empty x c' (PySem.mem_of_lookup e')).2
 hd:=I.ok.hd
 frames:=I.ok.frames
 stk:=.inl rfl
 exf:=fun b hb=>⟨Nat.ne_of_lt (hlt b hb),fun x c h=>by
  rcases own_look h with a | a
  · exact Nat.ne_of_gt (Nat.lt_of_lt_of_le (hlt b hb) (Nat.le_of_succ_le (co.empty x c (PySem.mem_of_lookup a)).2))
  · exact (hf b hb).2.2.2.2.1 x c (L.sub x c a)⟩
 bs:=I.bs
 bsz:=Nat.le_trans I.ok.bsz I.sz
 noex:=fun b o e hb=>by
  rcases (hf b hb).2.2.2.1 with z | z
  · exact I.ok.noex b o e z
  · exact absurd (Nat.lt_of_lt_of_le (Heap.lt_size e) (Nat.le_trans I.ok.bsz z)) (Nat.lt_irrefl _)
 exfs:=fun b hb z=>by
  rcases List.mem_cons.mp (I.stkSub b z) with e | e
  · exact (hf b hb).2.1 e
  · exact (hf b hb).2.2.1 e
 funs:=I.stack
 frf:=I.stkFree
theorem blk_start {X:Cx} {pins:List (Addr×Obj)} {σ:St} {H:Hp} {s3:Shared} {h1:Heap} {t:Nat} {scope:Scope} {cl:List (Str×Addr)} {N:List Str} {fr:List (Option Nat)} {fp:List Addr} (L:LcO X scope cl N fr) (I:Inv X pins σ H s3) (co:CellsOk h1 (s3.heap.objs.size+1) (cellsFrom (s3.heap.objs.size+1) scope.names []))
 (hf:∀ b∈fp,FpOk X pins H b) (hlt:∀ b∈fp,b < s3.heap.objs.size) {m0:Str→Option Value} (hns:h1.Ns s3.heap.objs.size m0) (hk:∀ b o,s3.heap.get? b=some o→h1.get? b=some o) :
 Inv (blk X scope cl s3.heap.objs.size N s3 H fp) [] (lcStart fr σ) H { s3 with heap:=h1,toks:=t } where
 ok:=blk_ok L I co hf hlt
 os:=rfl
 bare:=I.bare
 base:=Un.kept hk
 loc:=⟨m0,hns,fun i x v e1 e2 e3=>by
  unfold lcStart at e2
  rw [List.getElem?_map] at e2
  cases q:fr[i]? with
  | none=>rw [q] at e2; cases e2
  | some o =>
    rw [q] at e2
    cases o with
    | none=>cases e2
    | some j =>
      obtain ⟨y,n1,n2,n3,n4,⟨c,hc⟩,n6⟩:=L.from' i j q
      have e1':N[i]? = some x:=e1
      rw [n1] at e1'
      cases e1'
      have e2':(match σ[j]? with | some v=>v | none=>none)=some v:=Option.some.inj e2
      have e2'':σ[j]? = some (some v):=by
       cases z:σ[j]? with
       | none=>rw [z] at e2'; cases e2'
       | some w'=>rw [z] at e2'; rw [show w'=some v from e2']
      obtain ⟨m,_,hl⟩:=I.loc
      obtain ⟨u,r,lk⟩:=hl j x v n2 e2'' (.inr n3)
      refine ⟨u,r,.inr ⟨n4,c,?_,?_⟩⟩
      · show (cellsFrom (s3.heap.objs.size+1) scope.names cl).lookup x=some c
        rw [cellsFrom_app,List.lookup_append]
        cases z:(cellsFrom (s3.heap.objs.size+1) scope.names []).lookup x with
        | none=>exact hc
        | some c'=>exact absurd (cellsFrom_mem _ _ (PySem.mem_of_lookup z)) n6
      rcases lk with ⟨k,_⟩ | ⟨k,c',hc',z⟩
      · exfalso
        have k':X.env.scope.names.lookup x=some .local:=k
        rcases n3 with z | z <;> rw [k'] at z <;> cases z
      · rw [L.sub x c hc] at hc'
        cases hc'
        obtain ⟨o,ho,hd⟩:=z
        exact ⟨o,hk _ _ ho,hd⟩⟩
 cell:=fun x c e=>by
  rcases own_look e with a | a
  · exact ⟨none,(co.empty x c (PySem.mem_of_lookup a)).1⟩
  · obtain ⟨v,o,ho,hd⟩:=I.cell x c (L.sub x c a)
    exact ⟨v,o,hk _ _ ho,hd⟩
 free:=I.hok.fresh (Nat.le_refl _)
 freeC:=fun x c e=>by
  rcases own_look e with a | a
  · exact .inl (I.hok.fresh (Nat.le_of_succ_le (co.empty x c (PySem.mem_of_lookup a)).2))
  · refine (I.freeC x c (L.sub x c a)).imp id fun ⟨_,z⟩=>⟨Bool.eq_false_iff.mpr fun q=>?_,z⟩
    obtain ⟨v,oc,hoc,_⟩:=I.cell x c (L.sub x c a)
    obtain ⟨c',e'⟩:=cell_has (sc:=scope) (n:=s3.heap.objs.size+1) (beq_iff_eq.mp (show (scope.names.lookup x == some .cell)=true from q))
    have e2:(cellsFrom (s3.heap.objs.size+1) scope.names cl).lookup x=some c:=e
    rw [cellsFrom_app,List.lookup_append,e'] at e2
    cases e2
    exact absurd (Nat.lt_of_lt_of_le (Heap.lt_size hoc) (Nat.le_of_succ_le (co.empty x c (PySem.mem_of_lookup e')).2)) (Nat.lt_irrefl _)
 pin:=fun p hp=>absurd (show p∈([]:List (Addr×Obj)) from hp) (by simp)
 hok:=I.hok.kept hk
 len:=by
  unfold lcStart
  rw [List.length_map]
  exact L.len
def PIfs (X:Cx) (ifs:List Expr) (t:TT):Prop :=
 ∀ (pins:List (Addr×Obj)) (s:Shared) (σ:St) (H:Hp) (Q:Bool→Hp→Prop),Inv X pins σ H s→t σ H Q →
   wpAny (model X.prog X.w) X.A (forIn ifs true fun c r=>if r=true then do let ok ← isTrue c X.env (eval c X.env); pure (ForInStep.yield ok) else pure (ForInStep.yield r)) (TP X pins σ Q) X.xe s
def tYes:TT:=fun _ H Q=>Q true H
theorem gName_yes {i:Nat} {x:V} {σ:St} {H:Hp} {A B:St→Hp→Prop} (h:A (σ.set i (some x)) H):gName i x σ H fun σ4 H4=>tYes σ4 H4 fun b H5=>if b=true then A σ4 H5 else B σ4 H5:=h
theorem pifs_nil {X:Cx}:PIfs X [] tYes:=fun _ _ _ H _ I h=>wpAny_tests_nil ⟨H,I,h⟩
theorem pifs_one {X:Cx} {c:Expr} {t:TT} (h:PT X c t):PIfs X [c] t:=fun pins s σ H Q I hw=>wpAny_tests_one (h pins s σ H Q I hw)
def LcGo (J:It) (g:TG) (tt:TT) (te:TE) (σ0:St) (H1:Hp) (D:Addr) (Q:VK):Prop:=∃ W:Nat→Nat→St→Hp→Prop,(∃ m,W 0 m σ0 (upd H1 D (.lst []))) ∧
 ∀ i m σ2 H2,W i m σ2 H2→(J.stop i H2∧Q (.ref D) H2)∨(J.go i H2∧∀ x H3,J.yld i H2 x H3→g x σ2 H3 fun σ4 H4=>tt σ4 H4 fun b H5=>if b=true then te σ4 H5 fun y H6=>∃ ys,H6 D=some (.lst ys)∧ys.length < sizeLine ∧
   ∃ m',m' < m∧W (i+1) m' σ4 (upd H6 D (.lst (ys++[y]))) else ∃ m',m' < m∧W (i+1) m' σ4 H5)
def tLC (wi:TI) (g:TG) (tt:TT) (te:TE) (fr:List (Option Nat)):TE:=fun σ H Q=>wi σ H fun J H1=>∀ D,H1 D=none→LcGo J g tt te (lcStart fr σ) H1 D Q
abbrev NoX:Value→Shared→Prop:=fun _ _=>False
theorem cmp_close {X:Cx} {pins:List (Addr×Obj)} {σ σ7:St} {H3 H7:Hp} {s3 s7:Shared} {scope:Scope} {cl:List (Str×Addr)} {N:List Str} {fp:List Addr} (I3:Inv X pins σ H3 s3) (f3:∀ b∈fp,FpOk X pins H3 b) (I7:Inv (blk X scope cl s3.heap.objs.size N s3 H3 fp) [] σ7 H7 s7) :
 ∃ m7,s7.heap.Ns s3.heap.objs.size m7∧∀ h8,Heap.SameBut s3.heap.objs.size s7.heap h8→Inv X pins σ H7 { s7 with heap:=h8 }:=by
 obtain ⟨m7,hn7,_⟩:=I7.loc
 refine ⟨m7,hn7,fun h8 sb8=>?_⟩
 have un:=I7.base
 have neC:∀ b o,s3.heap.get? b=some o→b≠s3.heap.objs.size:=fun b o e=>Nat.ne_of_lt (Heap.lt_size e)
 refine I3.call' (s':={ s7 with heap:=h8 }) (ch:=fp) I7.os ?_ (hok_but I7.hok I7.free sb8) I7.bare (fun b hb=>⟨(f3 b hb).2.2.2.1,(f3 b hb).2.1,(f3 b hb).2.2.2.2.1,(f3 b hb).2.2.2.2.2⟩)
 refine ⟨fun b o e n' hb hx=>?_,fun b o e n' hb hx=>?_,un.free,fun b o e hx=>?_,un.tups,un.frzs,un.tbls⟩
 · exact sb8.extBut b o (neC b o e) (un.keep b o e n' hb hx)
 · obtain ⟨sl,q⟩:=un.slot b o e n' hb hx
   exact ⟨sl,sb8.extBut b _ (neC b o e) q⟩
 · obtain ⟨o',q⟩:=un.there b o e hx
   exact ⟨o',sb8.extBut b _ (neC b o e) q⟩
def CTurn (M:Model) (A:Around) (tg:Expr) (it:Value) (env:Env) (R:Result→Shared→Prop) (B:Nat→Shared→Prop) (n:Nat) (s:Shared):Prop :=
 wpAny M A (pyNext it) (fun r s1=>match r with
  | none=>R (.ok .next) s1
  | some v=>wpAny M A (letOwnedTupleGo tg it v) (fun _ s0=>wpAny M A (assign tg env v) (fun _ s2=>B n s2) NoX s0) NoX s1) NoX s
theorem cmp_core {X:Cx} {pins:List (Addr×Obj)} {σ:St} {H2:Hp} {s2:Shared} {scope:Scope} {cl:List (Str×Addr)} {N:List Str} {fr:List (Option Nat)} {tg:Expr} {g:TG} {J:It} {fp:List Addr} {it:Addr} {tn:Nat→Heap→Prop} {ac:HO} {o0:Obj} {W:Nat→Nat→St→Hp→Prop} {m0:Nat} {Qn:Hp→Prop} {Kn:Nat→Nat→St→Hp→Prop} {c:Expr} {R:Addr→Result→Shared→Prop} {B:(Nat→Shared→Prop)→Nat→Shared→Prop} {s3:Shared}
 (hs3:s3={ s2 with heap:=s2.heap.push o0 }) (hc:X.calm=true) (L:LcO X scope cl N fr) (hg:∀ C s3 H3 fp,PG (blk X scope cl C N s3 H3 fp) tg g)
 (I2:Inv X pins σ H2 s2) (T:Turn X.prog X.w X.K tg J fp it tn) (st2:tn 0 s2.heap) (f2:∀ b∈fp,FpOk X pins H2 b)
 (ok0:ObjOk X.prog X.w (upd H2 s2.heap.objs.size ac) (s2.heap.push o0) s2.heap.objs.size ac) (w0:W 0 m0 (lcStart fr σ) (upd H2 s2.heap.objs.size ac))
 (turn:∀ i m σ2 H2,W i m σ2 H2→(J.stop i H2∧Qn H2)∨(J.go i H2∧∀ x H3,J.yld i H2 x H3→g x σ2 H3 (Kn i m)))
 (start:∀ env s4,codeAny (model X.prog X.w) X.A (.compLoop c 0 (.ref it) (.ref s2.heap.objs.size) env) (R s3.heap.objs.size) s4→(∀ E,wpAny (model X.prog X.w) X.A (pyIter (.ref it)) (fun it' s'=>codeAny (model X.prog X.w) X.A (.compLoop c 0 it' (.ref s2.heap.objs.size) env) (R s3.heap.objs.size) s') E s4)→codeAny (model X.prog X.w) X.A (.compStart c 0 (.ref it) (.ref s2.heap.objs.size) env) (R s3.heap.objs.size) s4)
 (loop:∀ (LI:Nat→Shared→Prop) s4,(∀ n s,LI n s→CTurn (model X.prog X.w) X.A tg (.ref it) (blk X scope cl s3.heap.objs.size N s3 (upd H2 s2.heap.objs.size ac) fp).env (R s3.heap.objs.size) (B LI) n s)→∀ n,LI n s4→codeAny (model X.prog X.w) X.A (.compLoop c 0 (.ref it) (.ref s2.heap.objs.size) (blk X scope cl s3.heap.objs.size N s3 (upd H2 s2.heap.objs.size ac) fp).env) (R s3.heap.objs.size) s4)
 (stop:∀ H7 s7,Qn H7→Inv X pins σ (upd H2 s2.heap.objs.size ac) s3→H7 s3.heap.objs.size=none→(∃ m7,s7.heap.Ns s3.heap.objs.size m7∧∀ h8,Heap.SameBut s3.heap.objs.size s7.heap h8→Inv X pins σ H7 { s7 with heap:=h8 })→R s3.heap.objs.size (.ok .next) s7)
 (body:∀ (LI:Nat→Shared→Prop) n i σ9 H9 s9 ps,Inv (blk X scope cl s3.heap.objs.size N s3 (upd H2 s2.heap.objs.size ac) fp) ps σ9 H9 s9→Kn i n σ9 H9→(∀ {s11:Shared} {σ11:St} {H11:Hp} {m':Nat},Inv (blk X scope cl s3.heap.objs.size N s3 (upd H2 s2.heap.objs.size ac) fp) ps σ11 H11 s11→m' < n→W (i+1) m' σ11 H11→∃ m,m < n∧LI m s11)→B LI n s9) :
 wpAny (model X.prog X.w) X.A (newFunctionEnv scope X.env.globals cl [] X.env.qual none .none (some X.env)) (fun cenv s4=>codeAny (model X.prog X.w) X.A (.compStart c 0 (.ref it) (.ref s2.heap.objs.size) { cenv with scope:=relabel scope X.env }) (R cenv.locals) s4) X.xe s3:=by
 have fplt:∀ b∈fp,b < s2.heap.objs.size:=fun b hb=>by
  obtain ⟨o,q,_⟩:=T.obj _ _ st2 b hb
  exact Heap.lt_size q
 have k3:∀ b o,s2.heap.get? b=some o→s3.heap.get? b=some o:=fun b o e=>by rw [hs3]; exact Heap.get?_push_of_some _ e
 have I3:Inv X pins σ (upd H2 s2.heap.objs.size ac) s3:=by rw [hs3]; exact I2.laid (t':=s2.toks) (fun b o e=>Heap.get?_push_of_some _ e) (Nat.le_refl _) ok0
 have f3:∀ b∈fp,FpOk X pins (upd H2 s2.heap.objs.size ac) b:=fun b hb=>⟨by rw [upd_ne (Nat.ne_of_lt (fplt b hb))]; exact (f2 b hb).1,(f2 b hb).2⟩
 have st3:tn 0 s3.heap:=T.keep _ _ _ st2 fun b hb o e=>k3 b o e
 have fplt3:∀ b∈fp,b < s3.heap.objs.size:=fun b hb=>by
  obtain ⟨o,q,_⟩:=T.obj _ _ st2 b hb
  exact Heap.lt_size (k3 _ _ q)
 generalize upd H2 s2.heap.objs.size ac=H3 at *
 refine newEnv_own fun h1 hns1 k4 ok3=>?_
 have I4:=blk_start (t:=s3.toks) L I3 ok3 f3 fplt3 hns1 k4
 have st4:tn 0 h1:=T.keep _ _ _ st3 fun b hb o e=>k4 b o e
 have fpB:∀ {H':Hp} (b:Addr),b∈fp→H' b=none→FpOk (blk X scope cl s3.heap.objs.size N s3 H3 fp) [] H' b:=fun b hb hn =>
  ⟨hn,Nat.ne_of_lt (fplt3 b hb),fun z=>(blk_ok L I3 ok3 f3 fplt3).exfs b hb z,.inl hb,fun x c e=>((blk_ok L I3 ok3 f3 fplt3).exf b hb).2 x c e,fun p hp=>absurd (show p∈([]:List (Addr×Obj)) from hp) (by simp)⟩
 have lp:=loop (fun n s'=>∃ i σ' H',Inv (blk X scope cl s3.heap.objs.size N s3 H3 fp) [] σ' H' s'∧tn i s'.heap∧(∀ b∈fp,H' b=none)∧W i n σ' H') { s3 with heap:=h1 } (fun n s6=>?_) m0 ⟨0,_,_,I4,st4,fun b hb=>(f3 b hb).1,w0⟩
 · exact start _ _ lp fun E=>T.self _ 0 _ _ _ st4 lp
 · rintro ⟨i,σ6,H6,I6,st6,fr6,w6⟩
   unfold CTurn
   rcases turn i n σ6 H6 w6 with ⟨sp,qn⟩ | ⟨go,step⟩
   · refine thn (T.done (blk X scope cl s3.heap.objs.size N s3 H3 fp) rfl rfl rfl hc i [] s6 σ6 H6 (fun _ _=>False) I6 (fun b hb=>fpB b hb (fr6 b hb)) st6 sp) fun r s7 ⟨hr,I7⟩=>?_
     subst hr
     exact stop _ _ qn I3 I7.free (cmp_close I3 f3 I7)
   · refine thn (T.item (blk X scope cl s3.heap.objs.size N s3 H3 fp) rfl rfl rfl hc i [] s6 σ6 H6 (fun _ _=>False) I6 (fun b hb=>fpB b hb (fr6 b hb)) st6 go) fun r s7 ⟨u,hr,h7⟩=>?_
     subst hr
     refine thn h7 fun _ s8 ⟨x,H8,I8,r8,y8,st8,fr8⟩=>?_
     have I8':=I8.pinned (fun b hb=>fpB b hb (fr8 b hb)) (T.obj _ _ st8)
     refine thn (hg _ _ _ _ _ s8 σ6 H8 x u _ I8' r8 (step x H8 y8)) fun _ s9 ⟨σ9,H9,I9,q9⟩=>?_
     refine body _ n i σ9 H9 s9 _ I9 q9 fun {s11 σ11 H11 m'} I11 hm w11=>?_
     refine ⟨m',hm,i+1,σ11,H11,I11.unpinned,T.keep _ _ _ st8 fun b hb o e=>(I11.pin (b,o) (List.mem_append_right _ (List.mem_append_right _ (mem_pinsAt hb e)))).1,fun b hb=>?_,w11⟩
     obtain ⟨o,e,d⟩:=T.obj _ _ st8 b hb
     exact (I11.pin (b,o) (List.mem_append_right _ (List.mem_append_right _ (mem_pinsAt hb e)))).2.1
theorem lc_body {X:Cx} {scope:Scope} {cl:List (Str×Addr)} {N:List Str} {ifs:List Expr} {elt:Expr} {tt:TT} {te:TE} {D:Addr} {W:Nat→Nat→St→Hp→Prop} {C0:Addr} {s30:Shared} {H30:Hp} {fp0:List Addr}
 (ht:∀ C s3 H3 fp,PIfs (blk X scope cl C N s3 H3 fp) ifs tt) (he:∀ C s3 H3 fp,PE (blk X scope cl C N s3 H3 fp) elt te) (LI:Nat→Shared→Prop) (n i:Nat) (σ9:St) (H9:Hp) (s9:Shared) (ps:List (Addr×Obj)) (I9:Inv (blk X scope cl C0 N s30 H30 fp0) ps σ9 H9 s9)
 (q9:tt σ9 H9 fun b H5=>if b=true then te σ9 H5 fun y H6=>∃ ys,H6 D=some (.lst ys)∧ys.length < sizeLine∧∃ m',m' < n∧W (i+1) m' σ9 (upd H6 D (.lst (ys++[y]))) else ∃ m',m' < n∧W (i+1) m' σ9 H5)
 (again:∀ {s11:Shared} {σ11:St} {H11:Hp} {m':Nat},Inv (blk X scope cl C0 N s30 H30 fp0) ps σ11 H11 s11→m' < n→W (i+1) m' σ11 H11→∃ m,m < n∧LI m s11) :
 wpAny (model X.prog X.w) X.A (forIn ifs true fun c r=>if r=true then do let ok ← isTrue c (blk X scope cl C0 N s30 H30 fp0).env (eval c (blk X scope cl C0 N s30 H30 fp0).env); pure (ForInStep.yield ok) else pure (ForInStep.yield r)) (fun ok s₃ =>
  if ok=true then wpAny (model X.prog X.w) X.A (eval elt (blk X scope cl C0 N s30 H30 fp0).env) (fun x s₄ =>
   wpAny (model X.prog X.w) X.A (call (.builtin "list.append") [.ref D,x]) (fun _ s₅=>∃ m,m < n∧LI m s₅) (fun _ _=>False) s₄) (fun _ _=>False) s₃
  else ∃ m,m < n∧LI m s₃) (fun _ _=>False) s9:=by
 refine thn (ht _ _ _ _ ps s9 σ9 H9 _ I9 q9) fun b s10 ⟨H10,I10,q10⟩=>?_
 cases b with
 | false =>
   obtain ⟨m',hm,w11⟩:=q10
   exact again I10 hm w11
 | true =>
   refine thn (he _ _ _ _ ps s10 σ9 H10 _ I10 q10) fun y s11 ⟨yv,H11,I11,r11,ys,hys,hz,m',hm,w11⟩=>?_
   have ap:=mt_append (X:=blk X scope cl C0 N s30 H30 fp0) _ s11 σ9 H11 (.ref D) [yv] (.ref D) [y] (fun _ H'=>W (i+1) m' σ9 H') I11 rfl (.cons r11 .nil)
    ⟨_,ys,yv,rfl,rfl,hys,hz,w11⟩
   exact thn ap fun _ s12 ⟨_,H12,I12,_,q12⟩=>again I12 hm q12
theorem stop_ep {X:Cx} {pins:List (Addr×Obj)} {σ:St} {Q:VK} {H7:Hp} {s7:Shared} {C D:Addr} (qn:Q (.ref D) H7) (c:∃ m7,s7.heap.Ns C m7∧∀ h8,Heap.SameBut C s7.heap h8→Inv X pins σ H7 { s7 with heap:=h8 }):compPost (model X.prog X.w) X.A X.xe none (EP X pins σ Q) (.ref D) C (.ok .next) s7 :=
 let ⟨m7,hn7,c7⟩:=c
 ⟨m7,hn7,fun h8 sb8=>⟨.ref _,H7,c7 h8 sb8,rfl,qn⟩⟩
theorem pe_lc {X:Cx} {tg elt iter:Expr} {ifs:List Expr} {scope:Scope} {cl:List (Str×Addr)} {N:List Str} {fr:List (Option Nat)} {pos:Pos} {wi:TI} {g:TG} {tt:TT} {te:TE}
 (hc:X.calm=true) (L:LcO X scope cl N fr) (hi:PI X tg iter wi) (hg:∀ C s3 H3 fp,PG (blk X scope cl C N s3 H3 fp) tg g)
 (ht:∀ C s3 H3 fp,PIfs (blk X scope cl C N s3 H3 fp) ifs tt) (he:∀ C s3 H3 fp,PE (blk X scope cl C N s3 H3 fp) elt te)
 (hs:∀ x,foldedSetIterable iter X.env x=pure x:=by intro _; rfl):PE X (.ListComp elt [⟨tg,iter,ifs,0⟩] scope pos) (tLC wi g tt te fr):=by
 intro pins s σ H Q I h
 rw [eval_ListComp]
 refine wpAny_comprehension_free (use:=none) rfl hs L.clos L.kind L.names (thn (hi pins s σ H _ I h) fun v s1 h1=>thn h1 fun itv s2 h2=>?_)
 obtain ⟨it,fp,tn,J,H2,e,I2,T,st2,f2,h⟩:=h2
 subst e
 obtain ⟨W,⟨m0,w0⟩,turn⟩:=h s2.heap.objs.size (I2.hok.fresh (Nat.le_refl _))
 refine wpAny_newObj_type ?_
 refine cmp_core (ac:=.lst []) rfl hc L hg I2 T st2 f2 ⟨Nat.zero_le _,[],_,.nil,Heap.get?_push_size _ rfl⟩ w0 turn (fun _ _ a b=>codeAny_compStart_list a (b _)) (fun LI s4 t n h=>compLoop_any LI t n h) (fun H7 s7 qn _ _ c=>stop_ep qn c) (lc_body ht he)
def LcN (n:Nat) (Pv:Nat→St→Hp→Prop) (i m:Nat) (σ:St) (H:Hp):Prop:=i≤n∧m=n - i∧Pv i σ H
theorem lcN_push {n i:Nat} {Pv:Nat→St→Hp→Prop} {σ:St} {H:Hp} {D:Addr} {ys:List V} {y:V} (hi:i < n) (hD:H D=some (.lst ys)) (hl:ys.length < sizeLine) (p:Pv (i+1) σ (upd H D (.lst (ys++[y])))) :
 ∃ ys,H D=some (.lst ys)∧ys.length < sizeLine∧∃ m',m' < n - i∧LcN n Pv (i+1) m' σ (upd H D (.lst (ys++[y]))):=⟨ys,hD,hl,n - (i+1),by omega,by omega,rfl,p⟩
end L2
namespace L2
open PySem PySem.Spec PyProof.Rows
section
variable {X:Cx}
def CDivB (i j:Int):Prop:=j≠0∧j.natAbs < 2 ^ 8999
theorem log_lt {a n:Nat} (h:a < 2 ^ n) (hn:0 < n):a.log2 < n:=by
 rcases Nat.eq_zero_or_pos a with rfl | hp
 · simpa using hn
 · exact (Nat.log2_lt (Nat.ne_of_gt hp)).mpr h
theorem op_fdivB:OpR X (binaryOp .FloorDiv) (rI CDivB fun i j=>.int (i.fdiv j)):=opI fun _ _ _ _ _ _ _ hc q=>floordiv_int hc.1 q (.inl (PyProof.noPylong_of_log2 (Nat.lt_trans (log_lt hc.2 (by decide)) (by decide))))
def CMulB (i j:Int):Prop:=i.natAbs < 2 ^ 1000000∧j.natAbs < 2 ^ 1000000
theorem bits_le {i:Int} {n:Nat} (h:i.natAbs < 2 ^ n) (hn:0 < n):Builtin.Int.intBits i≤n:=by
 unfold Builtin.Int.intBits
 split
 · exact Nat.zero_le _
 · exact log_lt h hn
theorem CMulB.ok {i j:Int} (h:CMulB i j):IntMulOk i j:=by
 unfold IntMulOk
 have h1:=bits_le h.1 (by decide)
 have h2:=bits_le h.2 (by decide)
 have:Builtin.Int.intTooBig (Builtin.Int.intBits i+Builtin.Int.intBits j:Nat)=false:=by
  unfold Builtin.Int.intTooBig bitsLine
  refine decide_eq_false ?_
  omega
 intro z
 rw [Bool.and_eq_true] at z
 rw [show ((Builtin.Int.intBits i:Int)+(Builtin.Int.intBits j:Int))=((Builtin.Int.intBits i+Builtin.Int.intBits j:Nat):Int) by omega,this] at z
 exact absurd z.2 (by decide)
theorem op_mulB:OpR X (binaryOp .Mult) (rI CMulB fun i j=>.int (i * j)):=opI fun _ _ _ _ _ _ _ hc q=>mul_int q hc.ok
theorem valsI_at:∀ {ns:List Int} {us:List Value},Vals (ns.map V.int) us→∀ j (h:j < us.length),∃ t,us[j]=Value.int (ns.getD j 0) t
 | [],_,.nil,j,h=>absurd h (by simp)
 | n :: ns,u :: us,.cons r t,0,h=>by
   obtain ⟨k,rfl⟩:=(show ∃ k,u=Value.int n k from r)
   exact ⟨k,rfl⟩
 | n :: ns,u :: us,.cons r t,j+1,h=>by
   obtain ⟨k,e⟩:=valsI_at t j (by simpa using h)
   exact ⟨k,by simpa using e⟩
def eqNs (ns ms:List Int):Bool:=(List.range (min ns.length ms.length)).all (fun j=>ns.getD j 0 == ms.getD j 0) && ns.length == ms.length
theorem eqNs_iff {ns ms:List Int}:eqNs ns ms=decide (ns=ms):=by
 unfold eqNs
 by_cases h:ns=ms
 · subst h
   simp
 · rw [decide_eq_false h]
   rw [Bool.and_eq_false_iff]
   by_cases hl:ns.length=ms.length
   · left
     rw [Bool.eq_false_iff]
     intro z
     rw [List.all_eq_true] at z
     apply h
     apply List.ext_getElem hl
     intro i h1 h2
     have:=z i (by simp; omega)
     simpa [h1,h2] using this
   · right
     simpa using hl
def rEqT (K:PySem.W.Frag) (neg:Bool):R2:=fun x y H Q=>∃ (a b:Addr) (ns ms:List Int),x=.ref a∧y=.ref b∧SqT K H a (ns.map V.int)∧SqT K H b (ms.map V.int)∧Q (.bl (if neg then !decide (ns=ms) else decide (ns=ms))) H
theorem eqT_items {A:Around} {s:Shared} {ns ms:List Int} {us ws:List Value} (r1:Vals (ns.map V.int) us) (r2:Vals (ms.map V.int) ws) (j:Nat) (h1:j < us.toArray.size) (h2:j < ws.toArray.size):SeqAt.EqAt A s us.toArray[j] ws.toArray[j] (ns.getD j 0 == ms.getD j 0):=by
 simp only [List.size_toArray] at h1 h2
 simp only [List.getElem_toArray]
 obtain ⟨t,e⟩:=valsI_at r1 j h1
 obtain ⟨t',e'⟩:=valsI_at r2 j h2
 rw [e,e']
 exact SeqAt.EqAt.int_int _ _ _ _
theorem op_eqT (hu:X.A.units < cLine):OpR X (compareOp .Eq) (rEqT X.K false):=by
 intro pins s σ H x y v u Q I rx ry h
 obtain ⟨a,b,ns,ms,rfl,rfl,h1,h2,q⟩:=h
 cases rx; cases ry
 obtain ⟨us,r1,p1,_⟩:=I.tuple h1
 obtain ⟨ws,r2,p2,_⟩:=I.tuple h2
 refine SeqAt.eq_tupleAt (e:=fun j=>ns.getD j 0 == ms.getD j 0) p1 p2 hu (fun j h1 h2=>eqT_items r1 r2 j h1 h2) ⟨.bl _,H,I,rfl,?_⟩
 have l1:=r1.length
 have l2:=r2.length
 rw [List.length_map] at l1 l2
 rw [List.size_toArray,List.size_toArray,← l1,← l2]
 rw [show ((List.range (min ns.length ms.length)).all (fun j=>ns.getD j 0 == ms.getD j 0) && ns.length == ms.length)=eqNs ns ms from rfl,eqNs_iff]
 exact q
theorem call_isi:CallR X (.builtin "isinstance") (fun xs H Q=>∃ x T t b,xs=[x,.ty T]∧TyOf X.K H x t∧PySem.W.kitOne X.K t (.type T)=some b∧Q (.bl b) H):=by
 intro pins s σ H xs us Q I r h
 obtain ⟨x,T,t,b,rfl,ty,e,q⟩:=h
 cases r with
 | cons rx r =>
   cases r with
   | cons ry r =>
     cases r
     cases (show _=Value.type T from ry)
     exact isinst_ok I rx ty e fun tk=>⟨.bl b,H,I.tok _,rfl,q⟩
theorem vals_bools:∀ {bs:List Bool} {us:List Value} {i:Nat} {v:Value},Vals (bs.map V.bl) us→us[i]? = some v→∃ b,bs[i]? = some b∧v=Value.bool b
 | [],_,i,v,.nil,e=>by simp at e
 | b :: bs,u :: us,0,v,.cons r t,e=>by
   simp at e; subst e
   exact ⟨b,rfl,r⟩
 | b :: bs,u :: us,i+1,v,.cons r t,e=>by
   obtain ⟨c,h1,h2⟩:=vals_bools t (by simpa using e)
   exact ⟨c,by simpa using h1,h2⟩
theorem range_allB:∀ (bs:List Bool),((List.range bs.length).all fun i=>(bs[i]?).getD true)=bs.all id
 | []=>rfl
 | b :: bs=>by
   rw [List.length_cons,List.range_succ_eq_map,List.all_cons,List.all_map,List.all_cons,← range_allB bs]
   rfl
theorem kept_it {s:Shared} {h':Heap} {o:Obj} (hk:∀ b x,b∉[s.heap.objs.size]→(s.heap.push o).get? b=some x→h'.get? b=some x):∀ b x,s.heap.get? b=some x→h'.get? b=some x :=
 fun b x e=>hk b x (fun hm=>by rw [List.mem_singleton.mp hm] at e; exact Nat.lt_irrefl _ (Heap.lt_size e)) (Heap.get?_push_of_some _ e)
theorem call_allB (hc:X.calm=true):CallR X (.builtin "all") (fun xs H Q=>∃ (p:Addr) (bs:List Bool),xs=[.ref p]∧SqL X.K H p (bs.map V.bl)∧Q (.bl (bs.all id)) H):=by
 intro pins s σ H xs us Q I r h
 obtain ⟨p,bs,rfl,hq,q⟩:=h
 cases r with
 | cons rx r =>
   cases r
   cases (show _=Value.ref p from rx)
   obtain ⟨its,rv,pl,hz⟩:=I.list hq
   have hl:=pl.isList
   have hlt:p < s.heap.objs.size:=by obtain ⟨_,e,_⟩:=hl; exact Heap.lt_size e
   have hh:X.A.handled=none:=I.ok.hd hc
   refine call_all_walk (wpAny_pyIter_list hl ?_)
   refine ⟨s.heap.objs.size,[s.heap.objs.size,p],[s.heap.objs.size],its.toArray.size,_,_,fun i=>(bs[i]?).getD true,rfl,Walks.list (A:=X.A.in1) hh _ p (Nat.ne_of_lt hlt) its.toArray,
    ⟨⟨_,Heap.get?_push_size _ rfl,rfl,rfl⟩,hl.push _⟩,fun i v s' Q' E' hP hQ=>?_,fun h' tk hk=>?_⟩
   · obtain ⟨b,e,rfl⟩:=vals_bools rv (show its[i]? = some v by simpa using hP)
     simp only [e,Option.getD_some] at hQ
     exact wpAny_truthy_bool hQ
   · have e:((List.range its.toArray.size).all fun i=>(bs[i]?).getD true)=bs.all id:=by
      rw [List.size_toArray,← rv.length,List.length_map]; exact range_allB bs
     rw [e]
     exact ⟨.bl _,H,I.kept (kept_it hk),rfl,q⟩
def rCountB:V→List V→Hp→VK→Prop:=fun x vs H Q=>∃ (l:Addr) (bs:List Bool) (c:Bool),x=.ref l∧vs=[.bl c]∧H l=some (.lst (bs.map V.bl))∧Q (.int (bs.countP (· == c):Nat)) H
theorem count_eqU {c:Bool}:∀ {bs:List Bool} {us:List Value},Vals (bs.map V.bl) us→us.countP (eqU (.bl c))=bs.countP (· == c)
 | [],_,.nil=>rfl
 | b :: bs,u :: us,.cons r t=>by
   rw [List.countP_cons,List.countP_cons,count_eqU t,eqU_of r rfl]
   rfl
theorem all_flat:∀ (bs:List Bool),(bs.map V.bl).all flatV=true
 | []=>rfl
 | _ :: bs=>by rw [List.map_cons,List.all_cons,all_flat bs]; rfl
theorem mt_countB:MtR X "list.count" rCountB:=by
 intro pins s σ H x vs v us Q I rx rv h
 obtain ⟨l,bs,c,rfl,rfl,hH,q⟩:=h
 cases rx
 obtain ⟨u,rfl,ru⟩:=rv.one
 obtain ⟨its,n,r,e,hz⟩:=I.lst hH
 refine call_meets F.slot_list_count ⟨_,e,rfl⟩ F.entry_list_count (F.args_list_count_2 _ _) (SeqAt.list_countAt l its.toArray n none #[] u (eqU (.bl c))) ⟨e,fun y hy=>mem_eqAt ru rfl r (all_flat bs) y (by simpa using hy),?_⟩
 refine ⟨.int _,H,I.tok _,⟨_,rfl⟩,?_⟩
 have z:(its.toArray.toList.countP (eqU (.bl c)))=bs.countP (· == c):=count_eqU r
 rw [z]
 exact q
end
structure Cal (P:Program) (w:World) (K:PySem.W.Frag) (mg:Str→Option Value) (base:Heap) (x:Str) (k:Nat) (ps:List Str) (sp:Sp):Prop where
 ex:∃ (f:Addr) (fd:FuncData),FnOk P w K mg base CX0 k f fd ps sp∧mg x=some (.ref f)∧PySem.W.keepIn K (.ref f)=true∧Binds K fd ps []
theorem pe_cal {X:Cx} {x:Str} {k j:Nat} {ps:List Str} {sp:Sp} {p pos:Pos} {e:Expr} {es:List Expr} {t:TA} (C:Cal X.prog X.w X.K X.mg X.base x k ps sp) (hr:Room j X.A) (hj:k≤j) (hg:Gl X x) (ha:PA X (e :: es) t)
 (hdb:(x == ("__debug__" : Str))=false:=by decide) (he:starEach (e :: es) X.env=(false,eval e X.env) :: starEach es X.env:=by rfl) (hpl:(backTo pos (starEach es X.env)).any (·.1)=false:=by rfl) :
 PE X (.Call (.Name x p) (e :: es) [] pos) (fun σ H Q=>t σ H fun vs H1=>sp vs H1 Q E0):=by
 obtain ⟨f,fd,F,hm,hk,hb⟩:=C.ex
 have h:=pe_call (dvs:=[]) (E:=E0) (p:=p) F (hr.mono hj) hg hm hk hb .nil pass0 ha hdb he hpl
 intro pins s σ H Q I hw
 refine h pins s σ H Q I ?_
 unfold tCall
 simpa only [List.append_nil] using hw
end L2
namespace L2
open PySem PySem.Spec PyProof.Rows
section
variable {P:Program} {w:World} {K:PySem.W.Frag} {mg:Str→Option Value} {base:Heap}
end
def Keep (l:Addr) (H H':Hp):Prop:=∀ b o,b≠l→H b=some o→H' b=some o
theorem Keep.trans {l:Addr} {H H1 H2:Hp} (a:Keep l H H1) (b:Keep l H1 H2):Keep l H H2:=fun c o n h=>b c o n (a c o n h)
theorem Keep.new {l p:Addr} {H:Hp} {o:HO} (h:H p=none):Keep l H (upd H p o):=fun b u _ e=>by rw [upd_ne (ne_of_none e h)]; exact e
theorem Keep.upd {l:Addr} {H:Hp} {o:HO}:Keep l H (upd H l o):=fun b u n e=>by rw [upd_ne n]; exact e
theorem Same.new {p:Addr} {H:Hp} {o:HO} (h:H p=none):Same H (upd H p o):=fun b u e=>by rw [upd_ne (ne_of_none e h)]; exact e
theorem Same.keep {l:Addr} {H H':Hp} (s:Same H H'):Keep l H H':=fun b o _ e=>s b o e
end L2
namespace L2
open PySem PySem.Spec PyProof.Rows
theorem sum_shown:∀ (xs:List PyData),(PyData.shownAll xs).length=xs.length
 | []=>rfl
 | _ :: xs=>by simp only [PyData.shownAll,List.length_cons,sum_shown xs]
section
variable {X:Cx}
end
end L2
namespace L2
open PySem PySem.Spec PyProof.Rows
end L2
namespace L2
open PySem PySem.Spec PyProof.Rows
def lcCells (cells:List (Str×Addr)) (names:List (Str×NameKind)):List (Str×Addr):=((names.filter (fun y=>y.2 == .free)).map fun y=>(y.1,(cells.lookup y.1).getD 0)).reverse
theorem closure_loop {env:Env}:∀ (names:List (Str×NameKind)) (acc:List (Str×Addr)),(∀ y∈names,y.2=.free→∃ c,env.cells.lookup y.1=some c) →
 (forIn names acc (fun (x:Str×NameKind) (r:List (Str×Addr))=>do
   if x.2 == .free then do
    let a ← cellOf env x.1
    pure (ForInStep.yield ((x.1,a) :: r))
   else pure (ForInStep.yield r)):Sem (List (Str×Addr)))=pure (lcCells env.cells names++acc)
 | [],acc,_=>rfl
 | (n,k) :: rest,acc,h=>by
   have ih:=fun acc=>closure_loop rest acc fun y hy=>h y (List.mem_cons_of_mem _ hy)
   rw [List.forIn_cons]
   by_cases hk:k=.free
   · subst hk
     obtain ⟨c,hc⟩:=h (n,.free) List.mem_cons_self rfl
     have e:cellOf env n=pure c:=by unfold cellOf; rw [hc]
     have e2:lcCells env.cells ((n,.free) :: rest)=lcCells env.cells rest++[(n,c)]:=by
      unfold lcCells
      rw [List.filter_cons_of_pos (by rfl),List.map_cons,List.reverse_cons,hc]
      rfl
     simp only [beq_self_eq_true,if_true,e,pure_bind]
     rw [ih,e2,List.append_assoc]
     rfl
   · have b:(k == NameKind.free)=false:=by simpa using hk
     have e2:lcCells env.cells ((n,k) :: rest)=lcCells env.cells rest:=by
      unfold lcCells
      rw [List.filter_cons_of_neg (by simpa using hk)]
     simp only [b,Bool.false_eq_true,if_false,pure_bind]
     rw [ih,e2]
theorem closureFor_cells {scope:Scope} {env:Env} (h:∀ y∈scope.names,y.2=.free→∃ c,env.cells.lookup y.1=some c):closureFor scope env=pure (lcCells env.cells scope.names):=by
 have e:=closure_loop scope.names [] h
 rw [List.append_nil] at e
 unfold closureFor
 first
  | (rw [← e]; rfl)
  | (simp only [bind_pure]; exact e)
  | simpa using e
end L2
namespace L2
open PySem PySem.Spec PyProof.Rows
mutual
inductive Dt (N:Addr→Prop) (H:Hp) (k:Nat):V→PyData→Prop
 | non:Dt N H k .non .none
 | bl (b:Bool):Dt N H k (.bl b) (.bool b)
 | int {i:Int}:i.natAbs < 2 ^ k→Dt N H k (.int i) (.int i)
 | str (x:Str):Dt N H k (.str x) (.str x)
 | tup {a:Addr} {xs:List V} {ds:List PyData}:H a=some (.tup xs)→Dts N H k xs ds→Dt N H k (.ref a) (.tuple ds)
 | lst {a:Addr} {xs:List V} {ds:List PyData}:H a=some (.lst xs)→¬ N a→a≠sysModules→Dts N H k xs ds→Dt N H k (.ref a) (.list ds)
 | dic {a:Addr}:H a=some (.dK [])→Dt N H k (.ref a) (.dict [])
inductive Dts (N:Addr→Prop) (H:Hp) (k:Nat):List V→List PyData→Prop
 | nil:Dts N H k [] []
 | cons {x:V} {xs:List V} {d:PyData} {ds:List PyData}:Dt N H k x d→Dts N H k xs ds→Dts N H k (x :: xs) (d :: ds)
end
variable {N:Addr→Prop} {k:Nat}
mutual
theorem Dt.reads {X:Cx} {pins:List (Addr×Obj)} {σ:St} {H:Hp} {s:Shared} (I:Inv X pins σ H s):∀ {v:V} {d:PyData} {u:Value},Dt N H k v d→RelV v u→∃ as,Reads s.heap u d as∧sysModules∉as
 | _,_,_,.non,r=>by cases r; exact ⟨_,.none,by simp⟩
 | _,_,_,.bl b,r=>by cases r; exact ⟨_,.bool b,by simp⟩
 | _,_,_,.int (i:=i) _,r=>by obtain ⟨t,rfl⟩:=r; exact ⟨_,.int i t,by simp⟩
 | _,_,_,.str x,r=>by obtain ⟨t,rfl⟩:=r; exact ⟨_,.str x t,by simp⟩
 | _,_,_,.tup (a:=a) (xs:=xs) h rs,r=>by
   cases r
   obtain ⟨_,its,rv,o,e,hc,n,hd⟩:=(show ObjOk X.prog X.w H s.heap a (.tup xs) from I.hok a _ h)
   obtain ⟨as,ra,na⟩:=Dts.reads I rs rv
   exact ⟨_,.tuple e hc hd (by simpa using ra),na⟩
 | _,_,_,.lst (a:=a) (xs:=xs) h _ ns rs,r=>by
   cases r
   obtain ⟨_,its,n,rv,e⟩:=(show ObjOk X.prog X.w H s.heap a (.lst xs) from I.hok a _ h)
   obtain ⟨as,ra,na⟩:=Dts.reads I rs rv
   exact ⟨_,.list e rfl rfl (by simpa using ra),by
    intro hm
    rcases List.mem_cons.mp hm with e | e
    · exact ns e.symm
    · exact na e⟩
 | _,_,_,.dic (a:=a) h,r=>by
   cases r
   obtain ⟨_,hS,vs,rel,o,es,ep,e,ex,hd,_,he,_⟩:=(show ObjOk X.prog X.w H s.heap a (.dK []) from I.hok a _ h)
   cases rel
   have hes:es.toList=[]:=by
    generalize es.toList=z at he
    cases he
    rfl
   refine ⟨_,.dict (kvs:=[]) (as:=[]) (bs:=[]) e ex.1 hd (by rw [hes]; exact .nil) (by rw [hes]; exact .nil),?_⟩
   intro hm
   have:sysModules=a:=by simpa using hm
   rw [this] at hS
   simp at hS
theorem Dts.reads {X:Cx} {pins:List (Addr×Obj)} {σ:St} {H:Hp} {s:Shared} (I:Inv X pins σ H s):∀ {vs:List V} {ds:List PyData} {us:List Value},Dts N H k vs ds→Vals vs us→∃ as,ReadsAll s.heap us ds as∧sysModules∉as
 | _,_,_,.nil,.nil=>⟨_,.nil,by simp⟩
 | _,_,_,.cons r rs,.cons q qs=>by
   obtain ⟨as,ra,na⟩:=Dt.reads I r q
   obtain ⟨bs,rb,nb⟩:=Dts.reads I rs qs
   exact ⟨_,.cons ra rb,by
    intro hm
    rcases List.mem_append.mp hm with e | e
    · exact na e
    · exact nb e⟩
end
mutual
theorem Dt.same {H H':Hp} (s:Same H H'):∀ {v:V} {d:PyData},Dt N H k v d→Dt N H' k v d
 | _,_,.non=>.non
 | _,_,.bl b=>.bl b
 | _,_,.int h=>.int h
 | _,_,.str x=>.str x
 | _,_,.tup h r=>.tup (s _ _ h) (Dts.same s r)
 | _,_,.lst h n m r=>.lst (s _ _ h) n m (Dts.same s r)
 | _,_,.dic h=>.dic (s _ _ h)
theorem Dts.same {H H':Hp} (s:Same H H'):∀ {vs:List V} {ds:List PyData},Dts N H k vs ds→Dts N H' k vs ds
 | _,_,.nil=>.nil
 | _,_,.cons r rs=>.cons (Dt.same s r) (Dts.same s rs)
end
mutual
theorem Dt.keep {H H':Hp} {l:Addr} {ys:List V} (hN:N l) (hl:H l=some (.lst ys)) (s:Keep l H H'):∀ {v:V} {d:PyData},Dt N H k v d→Dt N H' k v d
 | _,_,.non=>.non
 | _,_,.bl b=>.bl b
 | _,_,.int h=>.int h
 | _,_,.str x=>.str x
 | _,_,.tup h r=>.tup (s _ _ (ne_of h hl (by intro z; cases z)) h) (Dts.keep hN hl s r)
 | _,_,.lst h n m r=>.lst (s _ _ (fun z=>n (z ▸ hN)) h) n m (Dts.keep hN hl s r)
 | _,_,.dic h=>.dic (s _ _ (ne_of h hl (by intro z; cases z)) h)
theorem Dts.keep {H H':Hp} {l:Addr} {ys:List V} (hN:N l) (hl:H l=some (.lst ys)) (s:Keep l H H'):∀ {vs:List V} {ds:List PyData},Dts N H k vs ds→Dts N H' k vs ds
 | _,_,.nil=>.nil
 | _,_,.cons r rs=>.cons (Dt.keep hN hl s r) (Dts.keep hN hl s rs)
end
mutual
theorem Dt.up {H:Hp} {k':Nat} (hk:k≤k'):∀ {v:V} {d:PyData},Dt N H k v d→Dt N H k' v d
 | _,_,.non=>.non
 | _,_,.bl b=>.bl b
 | _,_,.int h=>.int (Nat.lt_of_lt_of_le h (Nat.pow_le_pow_right (by decide) hk))
 | _,_,.str x=>.str x
 | _,_,.tup h r=>.tup h (Dts.up hk r)
 | _,_,.lst h n m r=>.lst h n m (Dts.up hk r)
 | _,_,.dic h=>.dic h
theorem Dts.up {H:Hp} {k':Nat} (hk:k≤k'):∀ {vs:List V} {ds:List PyData},Dts N H k vs ds→Dts N H k' vs ds
 | _,_,.nil=>.nil
 | _,_,.cons r rs=>.cons (Dt.up hk r) (Dts.up hk rs)
end
theorem Dts.len {H:Hp}:∀ {xs:List V} {ds:List PyData},Dts N H k xs ds→xs.length=ds.length
 | _,_,.nil=>rfl
 | _,_,.cons _ rs=>by rw [List.length_cons,List.length_cons,Dts.len rs]
theorem Dts.get {H:Hp}:∀ {xs:List V} {ds:List PyData} {n:Nat} {v:V},Dts N H k xs ds→xs[n]? = some v→∃ d,ds[n]? = some d∧Dt N H k v d
 | _,_,_,_,.nil,h=>by simp at h
 | _,_,0,_,.cons r rs,h=>by simp at h; subst h; exact ⟨_,rfl,r⟩
 | _,_,n+1,_,.cons r rs,h=>by
   obtain ⟨d,e,q⟩:=Dts.get rs (by simpa using h)
   exact ⟨d,by simpa using e,q⟩
mutual
def nz:PyData→Nat
 | .none=>1
 | .bool _=>1
 | .int _=>1
 | .str x=>(reprText x).length
 | .list xs=>1+nzAll xs
 | .tuple xs=>1+nzAll xs
 | .dict _=>1
def nzAll:List PyData→Nat
 | []=>0
 | x :: xs=>nz x+1+nzAll xs
end
section
variable {X:Cx}
end
end L2
namespace HT
open PySem PyProof.Rows
section
variable {prog:Program} {w:World} {A:Around} {E:Value→Shared→Prop} {s:Shared}
end
end HT
namespace L2
open PySem PySem.Spec PyProof.Rows
section
variable {X:Cx} {e:Expr} {es:List Expr} {te:TE} {t:TA} {pos p2:Pos}
theorem pe_m1 {j:Nat} {pa pb:Pos}:PE X (.UnaryOp .USub (.Constant (.int 1) j pa) pb) (fun _ H Q=>Q (.int (-1)) H):=fun pins s σ H Q I h=>pe_un un_neg pe_int pins s σ H Q I ⟨1,rfl,h⟩
theorem pe_never:PE X e (fun _ _ _=>False):=fun _ _ _ _ _ _ h=>h.elim
theorem big_sys {pins:List (Addr×Obj)} {σ:St} {H:Hp} {s:Shared} (I:Inv X pins σ H s):sysModules < s.heap.objs.size:=by
 have h:mainGlobals < s.heap.objs.size:=(I.mod.glob.keeps I.bk).lt
 exact Nat.lt_trans (by decide) h
def tLstN (t:TA):TE:=fun σ H Q=>t σ H fun xs H1=>xs.length≤sizeLine∧∀ p,H1 p=none→p≠sysModules→Q (.ref p) (upd H1 p (.lst xs))
theorem pe_lstN (h:PA X es t):PE X (.List es pos) (tLstN t):=by
 intro pins s σ H Q I hq
 refine wpAny_List_spliced (thn (h pos pins s σ H _ I hq) fun us s1 ⟨xs,H1,I1,r,z,q⟩=>⟨by rw [← r.length]; exact z,?_⟩)
 have hf:H1 s1.heap.objs.size=none:=I1.hok.fresh (Nat.le_refl _)
 refine ⟨.ref s1.heap.objs.size,upd H1 s1.heap.objs.size (.lst xs),I1.laid (t':=s1.toks) (fun b u e=>Heap.get?_push_of_some _ e) (Nat.le_refl _) ?_,rfl,q _ hf (Nat.ne_of_gt (big_sys I1))⟩
 exact ⟨z,us,0,r,Heap.get?_push_size _ rfl⟩
theorem call_listN:CallR X (.type "list") (fun xs H Q=>∃ p ys,xs=[.ref p]∧(SqL X.K H p ys∨SqT X.K H p ys)∧∀ l,H l=none→l≠sysModules→Q (.ref l) (upd H l (.lst ys))):=by
 intro pins s σ H xs us Q I r h
 obtain ⟨p,ys,rfl,hq,q⟩:=h
 obtain ⟨u,rfl,rx⟩:=vals1 r
 cases rx
 have fin:∀ (its:List Value),Vals ys its→ys.length≤sizeLine→∀ (h':Heap) (c':Nat),(∀ b o',s.heap.get? b=some o'→h'.get? b=some o') →
  h'.get? s.heap.objs.size=some { cls:=.type "list",dict:=none,data:=.seq its.toArray c',slots:=#[] }→EP X pins σ Q (.ref s.heap.objs.size) { s with heap:=h' }:=fun its r' hz h' c' kp e =>
  ⟨.ref s.heap.objs.size,_,I.laid (t':=s.toks) kp (Nat.le_refl _) (show ObjOk X.prog X.w _ h' _ (.lst ys) from ⟨hz,its,c',r',e⟩),rfl,q _ (I.hok.fresh (Nat.le_refl _)) (Nat.ne_of_gt (big_sys I))⟩
 rcases hq with hq | hq
 · obtain ⟨its,r',pl,hz⟩:=I.list hq
   have hlen:=r'.length
   obtain ⟨o,ho,hc,n,hd⟩:=pl.isList
   exact call_list_seq p (.inl rfl) ho hc hd (fun h' c' kp e=>fin its r' hz h' c' kp e) (by simp only [List.size_toArray] <;> omega)
 · obtain ⟨its,r',pl,hz⟩:=I.tuple hq
   have hlen:=r'.length
   obtain ⟨o,ho,hc,n,hd⟩:=pl
   exact call_list_seq p (.inr rfl) ho hc hd (fun h' c' kp e=>fin its r' hz h' c' kp e) (by simp only [List.size_toArray] <;> omega)
def tDic0:TE:=fun _ H Q=>∀ p,H p=none→Q (.ref p) (upd H p (.dK []))
theorem pe_dic0:PE X (.Dict [] [] pos) tDic0:=fun pins s σ H Q I h =>
 wpAny_Dict_empty ⟨.ref s.heap.objs.size,_,I.laid (a:=s.heap.objs.size) (o:=.dK []) (t':=s.toks) (fun _ _ q=>Heap.get?_push_of_some _ q) (Nat.le_refl _)
  ⟨Nat.zero_le _,beq_eq_false_iff_ne.mpr (Ne.symm (Nat.ne_of_lt (big_sys I))),[],.nil,Heap.DictOf.new s.heap⟩,rfl,h _ (I.hok.fresh (Nat.le_refl _))⟩
end
theorem lc_tup {K:PySem.W.Frag} {a D:Addr} {xs:List V} {g:TG} {tt:TT} {te:TE} {σ0:St} {H:Hp} {Q:VK} (Pv:Nat→St→Hp→Prop) (h0:Pv 0 σ0 (upd H D (.lst []))) (hx:∀ i σ H,i≤xs.length→Pv i σ H→SqT K H a xs)
 (hs:∀ i x σ2 H2,xs[i]? = some x→Pv i σ2 H2→g x σ2 H2 fun σ4 H4=>tt σ4 H4 fun b H5=>if b=true then te σ4 H5 fun y H6=>∃ ys,H6 D=some (.lst ys)∧ys.length < sizeLine ∧
   ∃ m',m' < xs.length - i∧LcN xs.length Pv (i+1) m' σ4 (upd H6 D (.lst (ys++[y]))) else ∃ m',m' < xs.length - i∧LcN xs.length Pv (i+1) m' σ4 H5)
 (hd:∀ σ2 H2,Pv xs.length σ2 H2→Q (.ref D) H2) :
 LcGo (Itt K a) g tt te σ0 H D Q:=by
 refine ⟨LcN xs.length Pv,⟨_,Nat.zero_le _,rfl,h0⟩,?_⟩
 rintro i m σ2 H2 ⟨hi,rfl,p⟩
 have sq:=hx i σ2 H2 hi p
 by_cases hlt:i < xs.length
 · right
   refine ⟨⟨xs,xs[i],sq,List.getElem?_eq_getElem hlt⟩,?_⟩
   rintro x H3 ⟨rfl,hy⟩
   exact hs i x σ2 H3 (hy xs sq) p
 · left
   have e:i=xs.length:=by omega
   subst e
   exact ⟨⟨xs,sq,Nat.le_refl _⟩,hd σ2 H2 p⟩
end L2
namespace L2
open PySem PySem.Spec PyProof.Rows
def isI:PyData→Bool
 | .int _=>true
 | _=>false
def isT:PyData→Bool
 | .tuple _=>true
 | _=>false
def isFr:PyData→Bool
 | .tuple [.int a,.int b]=>decide (1≤b) && decide (Int.gcd a b=1)
 | _=>false
section
variable {K:PySem.W.Frag} {N:Addr→Prop} {k:Nat} {H:Hp} {v:V} {d:PyData}
theorem Dt.isI (h:Dt N H k v d):(∃ i,v=.int i∧d=.int i∧i.natAbs < 2 ^ k)∨L2.isI d=false:=by
 cases h with
 | int hi=>exact .inl ⟨_,rfl,rfl,hi⟩
 | _=>exact .inr rfl
theorem Dt.isT (h:Dt N H k v d):(∃ a xs ds,v=.ref a∧d=.tuple ds∧H a=some (.tup xs)∧Dts N H k xs ds)∨L2.isT d=false:=by
 cases h with
 | tup h r=>exact .inl ⟨_,_,_,rfl,rfl,h,r⟩
 | _=>exact .inr rfl
theorem Dt.ty (h:Dt N H k v d):∃ t,TyOf K H v t∧PySem.W.kitOne K t (.type "tuple")=some (L2.isT d):=by
 cases h with
 | non=>exact ⟨_,TyOf.non,rfl⟩
 | bl b=>exact ⟨_,TyOf.bl b,rfl⟩
 | int hi=>exact ⟨_,TyOf.int _,rfl⟩
 | str x=>exact ⟨_,TyOf.str x,rfl⟩
 | tup h r=>exact ⟨_,TyOf.tup h,rfl⟩
 | lst h n m r=>exact ⟨_,TyOf.lst h,rfl⟩
 | dic h=>exact ⟨_,TyOf.dK h,rfl⟩
theorem Dts.len0 {xs:List V} {ds:List PyData} (h:Dts N H k xs ds) (hl:xs.length≠2):L2.isFr (.tuple ds)=false:=by
 have e:=h.len
 match ds,e with
 | [],_=>rfl
 | [d],_=>cases d <;> rfl
 | [_,_],e=>exact absurd e hl
 | d :: d2 :: _ :: _,_=>cases d <;> cases d2 <;> rfl
theorem fr_1 {d e:PyData} (h:L2.isI d=false):L2.isFr (.tuple [d,e])=false:=by
 cases d <;> first | rfl | (cases h)
theorem fr_2 {d e:PyData} (h:L2.isI e=false):L2.isFr (.tuple [d,e])=false:=by
 cases d <;> cases e <;> first | rfl | (cases h)
theorem fr_low {i j:Int} (hj:0 < j):decide ([(Rat.divInt i j).num,((Rat.divInt i j).den:Int)]=[i,j])=(decide (1≤j) && decide (Int.gcd i j=1)):=by
 rw [decide_eq_true (show 1≤j by omega),Bool.true_and]
 refine decide_eq_decide.mpr ⟨fun h=>?_,fun h=>?_⟩
 · injection h with h1 h2
   injection h2 with h2 _
   have:=FM.gcd_one (Rat.divInt i j)
   rw [h1,h2] at this
   exact this
 · have hb:j≠0:=by omega
   have a:=FM.low_num (t:=i) hb
   have b:=FM.low_den (t:=i) hb
   rw [if_pos hj,h] at a
   rw [h] at b
   rw [← a,← b]
   have e1:Int.fdiv i ((1:Nat):Int)=i:=by simp
   have e2:Int.fdiv (j.natAbs:Int) ((1:Nat):Int)=j:=by
    rw [show ((1:Nat):Int)=1 from rfl,Int.fdiv_one]; omega
   rw [e1,e2]
theorem atI_mem {xs:List V} {r:Int} (h0:0≤r) (h1:r < xs.length):∃ v,atI xs r=some v∧v∈xs:=by
 obtain ⟨n,rfl⟩:=Int.eq_ofNat_of_zero_le h0
 have hn:n < xs.length:=by omega
 exact ⟨xs[n],atI_nat (List.getElem?_eq_getElem hn),List.getElem_mem hn⟩
def Dom (N:Addr→Prop) (H:Hp):Prop:=∀ b,N b→∃ o,H b=some o
theorem Dom.same {H':Hp} (h:Dom N H) (s:Same H H'):Dom N H':=fun b z=>let ⟨o,e⟩:=h b z; ⟨o,s b o e⟩
theorem Dom.new {p:Addr} (h:Dom N H) (n:H p=none):¬ N p:=fun z=>by
 obtain ⟨o,e⟩:=h p z
 rw [n] at e; cases e
def Tg (N:Addr→Prop) (H:Hp) (k n m:Nat) (v:V):Prop:=∃ d,Dt N H k v d∧d.depth≤n∧nz d≤m
def Tgs (N:Addr→Prop) (H:Hp) (k n m:Nat) (xs:List V):Prop:=∀ v∈xs,Tg N H k n m v
variable {n m:Nat}
theorem Tg.keep {H':Hp} {l:Addr} {ys:List V} (hN:N l) (hl:H l=some (.lst ys)) (s:Keep l H H') (h:Tg N H k n m v):Tg N H' k n m v:=let ⟨d,a,b⟩:=h; ⟨d,a.keep hN hl s,b⟩
theorem Tgs.nil:Tgs N H k n m []:=fun v h=>by cases h
theorem Tgs.cons {xs:List V} (h:Tg N H k n m v) (t:Tgs N H k n m xs):Tgs N H k n m (v :: xs):=fun w z=>by
 rcases List.mem_cons.mp z with rfl | z
 · exact h
 · exact t w z
theorem Tgs.app {xs ys:List V} (h:Tgs N H k n m xs) (t:Tgs N H k n m ys):Tgs N H k n m (xs++ys):=fun w z=>(List.mem_append.mp z).elim (h w) (t w)
theorem get_parts:∀ {ds:List PyData} {r:Nat} {d:PyData},ds[r]? = some d→nzAll ds=nzAll (ds.take r)+(nz d+1)+nzAll (ds.drop (r+1))∧d.depth≤PyData.depthAll ds
 | [],_,_,h=>by simp at h
 | x :: xs,0,d,h=>by
   simp at h; subst h
   refine ⟨by simp [nzAll],?_⟩
   simp only [PyData.depthAll]; omega
 | x :: xs,r+1,d,h=>by
   obtain ⟨a,b⟩:=get_parts (ds:=xs) (r:=r) (d:=d) (by simpa using h)
   refine ⟨?_,?_⟩
   · simp only [List.take_succ_cons,List.drop_succ_cons,nzAll]; omega
   · simp only [PyData.depthAll]; omega
theorem len_nz:∀ (ds:List PyData),ds.length≤nzAll ds
 | []=>Nat.le_refl _
 | x :: xs=>by have:=len_nz xs; simp only [List.length_cons,nzAll]; omega
end
end L2
namespace L2
open PySem PySem.Spec PyProof.Rows
section
variable {N:Addr→Prop} {k n m:Nat} {H:Hp} {p:Addr}
end
end L2
namespace L2
open PySem PySem.Spec PyProof.Rows
section
variable {X:Cx}
theorem mt_bits:MtR X "int.bit_length" (fun x vs H Q=>∃ i:Int,x=.int i∧vs=[]∧Q (.int (Builtin.Int.intBits i)) H):=by
 intro pins s σ H x vs v us Q I rx rv h
 obtain ⟨i,rfl,rfl,q⟩:=h
 obtain ⟨t,rfl⟩:=rx
 cases rv
 exact call_int_bit_length ⟨.int _,H,I.tok _,⟨_,rfl⟩,q⟩
theorem pe_gint {x:Str} {i:Int} {pos:Pos} (h:∃ t,X.mg x=some (.int i t)) (hg:Gl X x) (hd:(x == ("__debug__" : Str))=false:=by decide):PE X (.Name x pos) (tC (.int i)):=by
 obtain ⟨t,h⟩:=h
 exact pe_glob hg h ⟨t,rfl⟩ hd
end
end L2
namespace L2
open PySem PySem.Spec PyProof.Rows
section
variable {X:Cx} {pins:List (Addr×Obj)} {σ:List (Option V)} {H:Hp} {s:Shared} {h':Heap}
end
inductive SK where
 | l
 | t
section
variable {prog:Program} {w:World} {A:Around} {E:Value→Shared→Prop} {s:Shared}
end
end L2
namespace L2
open PySem PySem.Spec PyProof.Rows
open AutoSeq1 (wpAny_loadPart')
section
variable {prog:Program} {w:World} {A:Around} {E:Value→Shared→Prop} {s:Shared} {k:SK}
end
section
variable {X:Cx} {es:List Expr} {x1:Nat} {tp:Pos}
end
theorem lc_gen {J:It} {n:Nat} {D:Addr} {g:TG} {tt:TT} {te:TE} {σ0:St} {H:Hp} {Q:VK} (Pv:Nat→St→Hp→Prop) (h0:Pv 0 σ0 (upd H D (.lst [])))
 (hx:∀ i σ H,i < n→Pv i σ H→J.go i H) (hz:∀ σ H,Pv n σ H→J.stop n H)
 (hs:∀ i x σ2 H2 H3,i < n→J.yld i H2 x H3→Pv i σ2 H2→g x σ2 H3 fun σ4 H4=>tt σ4 H4 fun b H5=>if b=true then te σ4 H5 fun y H6=>∃ ys,H6 D=some (.lst ys)∧ys.length < sizeLine ∧
   ∃ m',m' < n - i∧LcN n Pv (i+1) m' σ4 (upd H6 D (.lst (ys++[y]))) else ∃ m',m' < n - i∧LcN n Pv (i+1) m' σ4 H5)
 (hd:∀ σ2 H2,Pv n σ2 H2→Q (.ref D) H2):LcGo J g tt te σ0 H D Q:=by
 refine ⟨LcN n Pv,⟨_,Nat.zero_le _,rfl,h0⟩,?_⟩
 rintro i m σ2 H2 ⟨hi,rfl,p⟩
 by_cases hlt:i < n
 · exact .inr ⟨hx i σ2 H2 hlt p,fun x H3 y=>hs i x σ2 H2 H3 hlt y p⟩
 · have e:i=n:=by omega
   subst e
   exact .inl ⟨hz σ2 H2 p,hd σ2 H2 p⟩
theorem for_gen {J:It} {n:Nat} {g:TG} {tb:TS} {D:Ends} {σ:St} {H:Hp} (Pv:Nat→St→Hp→Prop) (h0:Pv 0 σ H)
 (hx:∀ i σ H,i < n→Pv i σ H→J.go i H) (hz:∀ σ H,Pv n σ H→J.stop n H)
 (hs:∀ i x σ H H',i < n→J.yld i H x H'→Pv i σ H→g x σ H' fun σ2 H2=>tb { D with nx:=Pv (i+1),ct:=Pv (i+1),bk:=D.nx } σ2 H2) (hd:∀ σ H,Pv n σ H→D.nx σ H) :
 ∃ W:Nat→Nat→St→Hp→Prop,(∃ m,W 0 m σ H)∧∀ i m σ H,W i m σ H →
   (J.stop i H∧D.nx σ H)∨(J.go i H∧∃ N:St→Hp→Prop,(∀ σ' H',N σ' H'→∃ m',m' < m∧W (i+1) m' σ' H')∧∀ x H',J.yld i H x H'→g x σ H' fun σ2 H2=>tb { D with nx:=N,ct:=N,bk:=D.nx } σ2 H2):=by
 refine ⟨fun i m σ H=>m=n - i∧i≤n∧Pv i σ H,⟨n,by simp,Nat.zero_le _,h0⟩,?_⟩
 rintro i m σ H ⟨rfl,hi,p⟩
 by_cases hlt:i < n
 · exact .inr ⟨hx i σ H hlt p,Pv (i+1),fun σ' H' p'=>⟨n - (i+1),by omega,rfl,hlt,p'⟩,fun x H' y=>hs i x σ H H' hlt y p⟩
 · have e:i=n:=by omega
   subst e
   exact .inl ⟨hz σ H p,hd σ H p⟩
end L2
namespace L2
open PySem PySem.Spec PyProof.Rows
open AutoSeq1 (wpAny_loadPart')
section
variable {X:Cx} {pins:List (Addr×Obj)} {σ:List (Option V)} {H H':Hp} {s:Shared} {h':Heap}
theorem Inv.turnGen {t':Nat} {ch:List Addr} (I:Inv X pins σ H s) (k:∀ b u,b∉ch→s.heap.get? b=some u→h'.get? b=some u) (hf:∀ b∈ch,FpOk X pins H b)
 (old:∀ b u,H b=some u→H' b=some u) (non:∀ b u,s.heap.get? b=some u→H b=none→H' b=none) (new:∀ b u,H b=none→H' b=some u→ObjOk X.prog X.w H' h' b u):Inv X pins σ H' { s with heap:=h',toks:=t' }:=by
 have nc:∀ b u,H b=some u→b∉ch:=fun b u e z=>by rw [(hf b z).1] at e; cases e
 refine I.step (g':=s.gens) (d':=s.drawn) (ch:=ch) (fun b hb=>?_) (fun b u _ _ hc e _=>k b u hc e) (fun b u _ _ hc e _=>⟨u.slots,k b u hc e⟩) (fun b u _ e n=>non b u e n)
  (fun b u hc e=>⟨u,k b u hc e⟩) (fun b xs e=>old b _ e) (fun b u v e=>old b _ e) (fun b ps e=>⟨#[],by rw [old b _ e]; simp⟩) (fun m hm=>?_) (fun b u e=>?_) I.bare
 · obtain ⟨f0,f1,f2,f3,f4,f5⟩:=hf b hb
   exact ⟨f3,f1,f4,f5⟩
 · obtain ⟨u,es,ep,hu,r⟩:=hm
   exact ⟨u,es,ep,k _ u (fun z=>(hf _ z).2.1 rfl) hu,r⟩
 · cases hb:H b with
   | none=>exact new b u hb e
   | some v =>
     rw [old b v hb] at e
     cases e
     refine (I.hok b _ hb).stay (fun c w hc q=>k c w ?_ q) (fun c q=>old c _ q) fun c xs q=>old c _ q
     rcases hc with z | z
     · rw [z]; exact nc b _ hb
     · exact nc c _ z
end
section
variable {X:Cx} {es:List Expr} {x1:Nat} {tp:Pos}
end
end L2
namespace L2
open PySem PySem.Spec PyProof.Rows
def Tk (H H':Hp):Prop:=∀ a xs,H a=some (.tup xs)→H' a=some (.tup xs)
theorem Tk.trans {H H1 H2:Hp} (a:Tk H H1) (b:Tk H1 H2):Tk H H2:=fun p xs e=>b p xs (a p xs e)
theorem Same.tk {H H':Hp} (s:Same H H'):Tk H H':=fun a xs e=>s a _ e
theorem Tk.of_keep {H H':Hp} {l:Addr} {ys:List V} (k:Keep l H H') (e:H l=some (.lst ys)):Tk H H':=fun a xs q=>k a _ (ne_of q e (by intro z; cases z)) q
theorem Tk.upd_lst {H:Hp} {D:Addr} {ys zs:List V} (e:H D=some (.lst ys)):Tk H (upd H D (.lst zs)):=fun a xs q=>by rw [upd_ne (ne_of q e (by intro z; cases z))]; exact q
def Al {α:Type} (R:V→α→Prop) (vs:List V) (xs:List α):Prop:=vs.length=xs.length∧∀ (i:Nat) (v:V) (x:α),vs[i]? = some v→xs[i]? = some x→R v x
theorem Al.nil {α:Type} {R:V→α→Prop}:Al R [] []:=⟨rfl,fun i v x e=>by simp at e⟩
theorem Al.snoc {α:Type} {R:V→α→Prop} {vs:List V} {xs:List α} {v:V} {x:α} (h:Al R vs xs) (r:R v x):Al R (vs++[v]) (xs++[x]):=by
 refine ⟨by simp [h.1],fun i w y e1 e2=>?_⟩
 by_cases hi:i < vs.length
 · rw [List.getElem?_append_left hi] at e1
   rw [List.getElem?_append_left (by rw [← h.1]; exact hi)] at e2
   exact h.2 i w y e1 e2
 · have:i=vs.length:=by
    have:=(List.getElem?_eq_some_iff.mp e1).1
    simp at this; omega
   subst this
   rw [List.getElem?_append_right (Nat.le_refl _)] at e1
   rw [h.1,List.getElem?_append_right (Nat.le_refl _)] at e2
   simp at e1 e2
   subst e1; subst e2
   exact r
theorem Al.imp {α:Type} {R S:V→α→Prop} {vs:List V} {xs:List α} (h:Al R vs xs) (f:∀ v x,R v x→S v x):Al S vs xs:=⟨h.1,fun i v x e1 e2=>f v x (h.2 i v x e1 e2)⟩
theorem Al.get {α:Type} {R:V→α→Prop} {vs:List V} {xs:List α} {i:Nat} {v:V} (h:Al R vs xs) (e:vs[i]? = some v):∃ x,xs[i]? = some x∧R v x:=by
 have hi:i < xs.length:=by rw [← h.1]; exact (List.getElem?_eq_some_iff.mp e).1
 exact ⟨xs[i],List.getElem?_eq_getElem hi,h.2 i v _ e (List.getElem?_eq_getElem hi)⟩
theorem Al.got {α:Type} {R:V→α→Prop} {vs:List V} {xs:List α} {i:Nat} {x:α} (h:Al R vs xs) (e:xs[i]? = some x):∃ v,vs[i]? = some v∧R v x:=by
 have hi:i < vs.length:=by rw [h.1]; exact (List.getElem?_eq_some_iff.mp e).1
 exact ⟨vs[i],List.getElem?_eq_getElem hi,h.2 i _ x (List.getElem?_eq_getElem hi) e⟩
theorem Al.cons {α:Type} {R:V→α→Prop} {v:V} {vs:List V} {x:α} {xs:List α} (r:R v x) (h:Al R vs xs):Al R (v :: vs) (x :: xs):=by
 refine ⟨by simp [h.1],fun i w y e1 e2=>?_⟩
 cases i with
 | zero=>simp at e1 e2; subst e1; subst e2; exact r
 | succ i=>exact h.2 i w y (by simpa using e1) (by simpa using e2)
theorem Al.bls {vs:List V} {bs:List Bool} (h:Al (fun v b=>v=V.bl b) vs bs):vs=bs.map V.bl:=by
 refine List.ext_getElem? fun i=>?_
 rw [List.getElem?_map]
 cases e:bs[i]? with
 | none =>
   have:=List.getElem?_eq_none_iff.mp e
   rw [List.getElem?_eq_none (by rw [h.1]; exact this)]; rfl
 | some b =>
   obtain ⟨v,ev,rfl⟩:=h.got e
   rw [ev]; rfl
theorem Al.of_ints (ns:List Int):Al (fun v n=>v=V.int n) (ns.map V.int) ns:=⟨by simp,fun i v n e1 e2=>by rw [List.getElem?_map,e2] at e1; exact (Option.some.inj e1).symm⟩
theorem lc_map {J:It} {n:Nat} {D:Addr} {g:TG} {te:TE} {σ0:St} {H:Hp} {Q:VK} {α:Type} (R:Hp→V→α→Prop) (hR:∀ H1 H2 v x,Tk H1 H2→R H1 v x→R H2 v x) (ys_:List α) (hn:ys_.length=n) (hz:n≤1000) (ok:St→Prop) (h0:ok σ0) (hD:H D=none)
 (hgo:∀ i H2,Same H H2→i < n→J.go i H2) (hstop:∀ H2,Same H H2→J.stop n H2)
 (hs:∀ i x σ2 H2 H3 (C:St→V→Hp→Prop),i < n→Same H H2→J.yld i H2 x H3→ok σ2→(∀ σ4 y H5 z,ok σ4→Same H2 H5→ys_[i]? = some z→R H5 y z→C σ4 y H5)→g x σ2 H3 fun σ4 H4=>te σ4 H4 (C σ4))
 (hd:∀ H2 vs,Same H H2→H2 D=some (.lst vs)→Al (R H2) vs ys_→Q (.ref D) H2):LcGo J g tYes te σ0 H D Q:=by
 refine lc_gen (n:=n) (fun i σ H2=>Same H H2∧ok σ∧∃ vs,H2 D=some (.lst vs)∧Al (R H2) vs (ys_.take i)) ⟨Same.new hD,h0,[],upd_same,by rw [List.take_zero]; exact .nil⟩ (fun i σ H2 hi p=>hgo i H2 p.1 hi) (fun σ H2 p=>hstop H2 p.1) (fun i x σ2 H2 H3 hi y p=>?_) (fun σ2 H2 p=>?_)
 · obtain ⟨s2,o2,vs,e2,a2⟩:=p
   have:=hs i x σ2 H2 H3 (fun σ4 y H6=>∃ ys,H6 D=some (.lst ys)∧ys.length < sizeLine∧∃ m',m' < n - i∧LcN n (fun i σ H2=>Same H H2∧ok σ∧∃ vs,H2 D=some (.lst vs)∧Al (R H2) vs (ys_.take i)) (i+1) m' σ4 (upd H6 D (.lst (ys++[y])))) hi s2 y o2 ?_
   · exact this
   · intro σ4 v H5 z o4 s5 ez rz
     have e5:H5 D=some (.lst vs):=s5 _ _ e2
     refine ⟨vs,e5,?_,n - (i+1),by omega,by omega,rfl,fun b o e=>?_,o4,vs++[v],upd_same,?_⟩
     · rw [a2.1,List.length_take,sizeLine_eq]; omega
     · rw [upd_ne (ne_of_none e hD)]; exact s5 _ _ (s2 _ _ e)
     · have tk:Tk H5 (upd H5 D (.lst (vs++[v]))):=Tk.upd_lst e5
       have hi':i < ys_.length:=by omega
       rw [List.take_succ_eq_append_getElem hi']
       rw [List.getElem?_eq_getElem hi'] at ez
       cases ez
       exact (a2.imp fun v x r=>hR _ _ v x tk (hR _ _ v x s5.tk r)).snoc (hR _ _ _ _ tk rz)
 · obtain ⟨s2,_,vs,e2,a2⟩:=p
   rw [List.take_of_length_le (by omega)] at a2
   exact hd H2 vs s2 e2 a2
end L2
namespace L2
open PySem PySem.Spec PyProof.Rows
def SK.At (H:Hp) (a:Addr) (vs:List V):SK→Prop
 | .l=>H a=some (.lst vs)
 | .t=>H a=some (.tup vs)
theorem SK.At.same {k:SK} {H H':Hp} {a:Addr} {vs:List V} (h:k.At H a vs) (s:Same H H'):k.At H' a vs:=by
 cases k with
 | l=>exact s _ _ h
 | t=>exact s _ _ h
def SK.Itk (K:PySem.W.Frag) (a:Addr):SK→L2.It
 | .l=>Itl K a
 | .t=>Itt K a
theorem itk_go {k:SK} {K:PySem.W.Frag} {a:Addr} {H:Hp} {vs:List V} {i:Nat} (h:k.At H a vs) (hi:i < vs.length):(k.Itk K a).go i H:=by
 cases k with
 | l=>exact ⟨vs,vs[i],SqL.of h,List.getElem?_eq_getElem hi⟩
 | t=>exact ⟨vs,vs[i],SqT.of h,List.getElem?_eq_getElem hi⟩
theorem itk_stop {k:SK} {K:PySem.W.Frag} {a:Addr} {H:Hp} {vs:List V} {i:Nat} (h:k.At H a vs) (hi:vs.length≤i):(k.Itk K a).stop i H:=by
 cases k with
 | l=>exact ⟨vs,SqL.of h,hi⟩
 | t=>exact ⟨vs,SqT.of h,hi⟩
theorem itk_yld {k:SK} {K:PySem.W.Frag} {a:Addr} {H H':Hp} {vs:List V} {i:Nat} {x:V} (h:k.At H a vs) (y:(k.Itk K a).yld i H x H'):H'=H∧vs[i]? = some x:=by
 cases k with
 | l=>exact ⟨y.1,y.2 vs (SqL.of h)⟩
 | t=>exact ⟨y.1,y.2 vs (SqT.of h)⟩
theorem lc_T {k:SK} {K:PySem.W.Frag} {a D:Addr} {vs:List V} {te:TE} {u0:Option V} {rest:St} {H:Hp} {Q:VK} {α:Type} (R:Hp→V→α→Prop) (hR:∀ H1 H2 v x,Tk H1 H2→R H1 v x→R H2 v x) (ys:List α) (hn:ys.length=vs.length) (hz:vs.length≤1000) (hD:H D=none) (ha:k.At H a vs)
 (hs:∀ (i:Nat) (w:V) (H2:Hp) (C:V→Hp→Prop),vs[i]? = some w→Same H H2→(∀ y H5 z,Same H2 H5→ys[i]? = some z→R H5 y z→C y H5)→te (some w :: rest) H2 C)
 (hd:∀ H2 us,Same H H2→H2 D=some (.lst us)→Al (R H2) us ys→Q (.ref D) H2):LcGo (k.Itk K a) (gName 0) tYes te (u0 :: rest) H D Q:=by
 refine lc_map R hR ys hn hz (fun σ=>∃ u,σ=u :: rest) ⟨_,rfl⟩ hD (fun i H2 s hi=>itk_go (ha.same s) hi) (fun H2 s=>itk_stop (ha.same s) (Nat.le_refl _)) (fun i x σ2 H2 H3 C hi s y o c=>?_) hd
 obtain ⟨u,rfl⟩:=o
 obtain ⟨rfl,e⟩:=itk_yld (ha.same s) y
 exact hs i x H3 (C (some x :: rest)) e s fun y H5 z s5 ez rz=>c _ y H5 z ⟨_,rfl⟩ s5 ez rz
def IsTup' {α:Type} (R:Hp→V→α→Prop) (H:Hp) (v:V) (xs:List α):Prop:=∃ a vs,v=.ref a∧H a=some (.tup vs)∧Al (R H) vs xs
end L2
namespace L2
open PySem PySem.Spec PyProof.Rows
abbrev Nms:=List (Str×NameKind)
def relN (sc:Nms) (dn:Nms):Nms:=sc.map fun y=>if y.2 == .free && dn.lookup y.1 == some .cell then (y.1,.cell) else y
def chk (sc dn:Nms) (N XN:List Str) (fr:List (Option Nat)):Bool :=
 sc.all (fun y=>y.2 != .free || dn.lookup y.1 == some .cell) && sc.all (fun y=>y.2 != .local || sc.lookup y.1 == some .local) && sc.all (fun y=>y.2 != .cell || sc.lookup y.1 == some .cell) && (fr.length == N.length) &&
  (List.range fr.length).all fun i=>match fr[i]? with
    | some (some j)=>match N[i]? with
      | some x=>XN[j]? == some x && dn.lookup x == some .cell && (relN sc dn).lookup x == some .cell && sc.all (fun y=>y.1 != x || y.2 != .cell) && sc.any (fun y=>y.1 == x && y.2 == .free)
      | none=>false
    | _=>true
theorem lcCells_has {cells:List (Str×Addr)} {sc:Nms} {x:Str} (key:(x,NameKind.free)∈sc):∃ c,(lcCells cells sc).lookup x=some c:=by
 have hm:(x,(cells.lookup x).getD 0)∈lcCells cells sc:=by
  unfold lcCells
  exact List.mem_reverse.mpr (List.mem_map.mpr ⟨(x,.free),List.mem_filter.mpr ⟨key,rfl⟩,rfl⟩)
 cases q:(lcCells cells sc).lookup x with
 | some c'=>exact ⟨c',rfl⟩
 | none =>
   have z:=(List.lookup_eq_none_iff.mp q) _ hm
   simp at z
theorem relN_mem {sc dn:Nms} {x:Str} {k:NameKind} (hk:k=.cell∨k=.free) (h:(relN sc dn).lookup x=some k):(x,NameKind.free)∈sc∨(x,NameKind.cell)∈sc:=by
 have m:=PySem.mem_of_lookup h
 obtain ⟨⟨n,k'⟩,hm,e⟩:=List.mem_map.mp m
 by_cases hf:k'=.free
 · subst hf
   have:n=x:=by
    dsimp only at e
    split at e <;> (injection e)
   subst this
   exact .inl hm
 · have b:(k' == NameKind.free)=false:=by simpa using hf
   simp only [b,Bool.false_and,Bool.false_eq_true,if_false] at e
   injection e with e1 e2
   subst e1 e2
   rcases hk with rfl | rfl
   · exact .inr hm
   · exact absurd rfl hf
theorem relabel_names {scope:Scope} {env:Env} {dn:Nms} (hn:env.scope.names=dn) (hk:env.scope.kind=.function):(relabel scope env).names=relN scope.names dn:=by
 unfold relabel relN
 show scope.names.map _=scope.names.map _
 refine List.map_congr_left fun y _=>?_
 obtain ⟨n,k⟩:=y
 have e:(env.scope.kind == ScopeKind.function)=true:=by rw [hk]; rfl
 have e2:env.kindOf n=dn.lookup n:=by rw [← hn]; rfl
 simp only [e,e2,Bool.and_true]
theorem lcs_gen {X:Cx} {scope:Scope} {N XN:List Str} {fr:List (Option Nat)} (dn:Nms) (hn:X.env.scope.names=dn) (hk:X.env.scope.kind=.function) (hX:X.N=XN) (hc:∀ x,dn.lookup x=some .cell→∃ c,X.env.cells.lookup x=some c)
 (h:chk scope.names dn N XN fr=true) (hs:scope.kind=.function):LcO X scope (lcCells X.env.cells scope.names) N fr:=by
 unfold chk at h
 simp only [Bool.and_eq_true] at h
 obtain ⟨⟨⟨⟨h1,h2⟩,h3⟩,h4⟩,h5⟩:=h
 have hf:∀ y∈scope.names,y.2=.free→∃ c,X.env.cells.lookup y.1=some c:=fun y hy e=>by
  have:=List.all_eq_true.mp h1 y hy
  rw [e] at this
  exact hc _ (by simpa using this)
 refine ⟨closureFor_cells hf,fun x c e=>?_,fun x e=>?_,hs,fun y hy e=>?_,by simpa using h4,fun i j e=>?_⟩
 · have m:=PySem.mem_of_lookup e
   unfold lcCells at m
   obtain ⟨⟨n,k⟩,hm,e2⟩:=List.mem_map.mp (List.mem_reverse.mp m)
   obtain ⟨h1',h2'⟩:=List.mem_filter.mp hm
   obtain ⟨c',hc'⟩:=hf _ h1' (by simpa using h2')
   injection e2 with e3 e4
   subst e3
   rw [hc'] at e4
   rw [hc',← e4]
   rfl
 · rw [relabel_names hn hk] at e
   have:(x,NameKind.free)∈scope.names∨(x,NameKind.cell)∈scope.names:=e.elim (relN_mem (.inl rfl)) (relN_mem (.inr rfl))
   rcases this with m | m
   · exact .inr (lcCells_has m)
   · have:=List.all_eq_true.mp h3 _ m
     exact .inl (by simpa using this)
 · have:=List.all_eq_true.mp h2 y hy
   rw [e] at this
   simpa using this
 · have hi:i < fr.length:=(List.getElem?_eq_some_iff.mp e).1
   have:=List.all_eq_true.mp h5 i (List.mem_range.mpr hi)
   rw [e] at this
   cases hx:N[i]? with
   | none=>rw [hx] at this; cases this
   | some x =>
     rw [hx] at this
     simp only [Bool.and_eq_true,beq_iff_eq] at this
     obtain ⟨⟨⟨⟨t1,t2⟩,t3⟩,t4⟩,t5⟩:=this
     obtain ⟨⟨z1,z2⟩,m1,m2⟩:=List.any_eq_true.mp t5
     simp only [Bool.and_eq_true,beq_iff_eq] at m2
     obtain ⟨rfl,rfl⟩:=m2
     refine ⟨z1,rfl,by rw [hX]; exact t1,.inl (by rw [hn]; exact t2),.inl (by rw [relabel_names hn hk]; exact t3),lcCells_has m1,fun m=>?_⟩
     have:=List.all_eq_true.mp t4 _ m
     simp at this
theorem lcs_plain {X:Cx} {scope:Scope} {N:List Str} {fr:List (Option Nat)} (h:scope.names.all (fun y=>y.2 != .cell && y.2 != .free)=true) (hk:scope.kind=.function)
 (hn:∀ y∈scope.names,y.2=.local→scope.names.lookup y.1=some .local) (hl:fr.length=N.length) (hf:fr.all (·.isNone)=true):LcO X scope [] N fr:=by
 have no:∀ y∈scope.names,y.2≠.cell∧y.2≠.free:=fun y hy=>by
  have:=List.all_eq_true.mp h y hy
  rw [Bool.and_eq_true] at this
  simpa using this
 refine ⟨closureFor_none fun x hx=>(no x hx).2,fun x c e=>by simp at e,fun x e=>?_,hk,hn,hl,fun i j e=>?_⟩
 · exfalso
   have key:∀ k,(relabel scope X.env).names.lookup x=some k→k≠.cell∧k≠.free:=fun k e=>by
    obtain ⟨⟨n,k'⟩,hm,e2⟩:=List.mem_map.mp (PySem.mem_of_lookup e)
    have b:(k' == NameKind.free)=false:=by simpa using (no _ hm).2
    simp only [b,Bool.false_and,Bool.false_eq_true,if_false] at e2
    cases e2
    exact no _ hm
   rcases e with e | e
   · exact (key _ e).1 rfl
   · exact (key _ e).2 rfl
 · have:=List.all_eq_true.mp hf _ (List.mem_of_getElem? e)
   cases this
end L2
namespace L2
open PySem PySem.Spec PyProof.Rows
theorem ps_lcS {X:Cx} {x:Str} {pos' spos:Pos} {tg elt iter:Expr} {ifs:List Expr} {scope:Scope} {cl:List (Str×Addr)} {N:List Str} {fr:List (Option Nat)} {pos:Pos} {wi:TI} {g g':TG} {tt:TT} {te:TE}
 (hw:swapsWith (.ListComp elt [⟨tg,iter,ifs,0⟩] scope pos) (some (.Name x pos')) spos.line X.env=pure true)
 (hc:X.calm=true) (hg':PG X (.Name x pos') g') (L:LcO X scope cl N fr) (hi:PI X tg iter wi) (hg:∀ C s3 H3 fp,PG (blk X scope cl C N s3 H3 fp) tg g)
 (ht:∀ C s3 H3 fp,PIfs (blk X scope cl C N s3 H3 fp) ifs tt) (he:∀ C s3 H3 fp,PE (blk X scope cl C N s3 H3 fp) elt te)
 (hs:∀ x,foldedSetIterable iter X.env x=pure x:=by intro _; rfl):PS X (.Assign [.Name x pos'] (.ListComp elt [⟨tg,iter,ifs,0⟩] scope pos) spos) (tAsg (tLC wi g tt te fr) g'):=by
 intro pins s σ H D I h
 rw [exec_Assign_Name_used _ _ _ _ hw]
 refine wpAny_bind (wpAny_standAt (wpAny_bind ?_))
 rw [arm_evalThenUse_ListComp]
 refine wpAny_bind (wpAny_comprehension_free (Q:=fun _ s'=>wpAny (model X.prog X.w) X.A (pure ()) (fun _ s''=>wpAny (model X.prog X.w) X.A (pure Flow.next) (SP X pins D) X.xe s'') X.xe s') (use:=some (assign (.Name x pos') X.env)) rfl hs L.clos L.kind L.names (thn (hi pins s σ H _ I h) fun v s1 h1=>thn h1 fun itv s2 h2=>?_))
 obtain ⟨it,fp,tn,J,H2,e,I2,T,st2,f2,h⟩:=h2
 subst e
 obtain ⟨W,⟨m0,w0⟩,turn⟩:=h s2.heap.objs.size (I2.hok.fresh (Nat.le_refl _))
 refine wpAny_newObj_type ?_
 generalize hs3:({ s2 with heap:=s2.heap.push { cls:=.type "list",dict:=none,data:=.seq ([]:List Value).toArray } }:Shared)=s3
 refine cmp_core (ac:=.lst []) hs3.symm hc L hg I2 T st2 f2 ⟨Nat.zero_le _,[],_,.nil,Heap.get?_push_size _ rfl⟩ w0 turn (fun _ _ a b=>codeAny_compStart_list a (b _)) (fun LI s4 t n h=>compLoop_any LI t n h) (fun H6 s7 qn I3 fr7 c=>?_) (lc_body ht he)
 obtain ⟨m7,hn7,c7⟩:=c
 have I8:Inv X pins σ H6 s7:=c7 s7.heap (Heap.SameBut.refl ..)
 have fpC:∀ {H6:Hp},H6 s3.heap.objs.size=none→∀ b∈[s3.heap.objs.size],FpOk X pins H6 b:=fun fr b hb=>by
  rw [List.mem_singleton] at hb
  subst hb
  exact I3.fpOk (Nat.le_refl _) fr
 obtain ⟨oC,esC,epC,geC,dC,skC,nfC⟩:=hn7
 have I9:=I8.pinned (fpC fr7) (fun b hb=>by
  rw [List.mem_singleton] at hb
  subst hb
  exact ⟨oC,geC,fun v z=>by rw [dC] at z; cases z⟩)
 refine thn (hg' _ s7 σ H6 (.ref s2.heap.objs.size) (.ref s2.heap.objs.size) _ I9 rfl qn) fun _ s9 ⟨σ9,H9,I10,q9⟩=>?_
 have pC:=I10.pin (s3.heap.objs.size,oC) (List.mem_append_right _ (List.mem_append_right _ (mem_pinsAt (List.mem_singleton.mpr rfl) geC)))
 refine ⟨m7,⟨oC,esC,epC,pC.1,dC,skC,nfC⟩,fun h' sb=>?_⟩
 refine wpAny_pure (wpAny_pure ?_)
 exact ⟨σ9,H9,I10.unpinned.turnGen (t':=s9.toks) (ch:=[s3.heap.objs.size]) (fun b u nb e=>(sb.2 b (fun z=>nb (by rw [z]; exact List.mem_singleton.mpr rfl))).trans e) (fpC pC.2.1) (fun _ _ e=>e) (fun _ _ _ e=>e) (fun b u e1 e2=>by rw [e1] at e2; cases e2),q9⟩
end L2
namespace L2
open PySem PySem.Spec PyProof.Rows
open AutoSeq1 (wpAny_loadPart')
section
variable {X:Cx}
def EqT {α:Type} [DecidableEq α] (X:Cx) (d:Nat) (R:Hp→V→α→Prop):Prop:=∀ (A:Around) (pins:List (Addr×Obj)) (σ:St) (H:Hp) (s:Shared) (v u:V) (a b:Value) (x y:α),A.units+d < cLine→Inv X pins σ H s→R H v x→R H u y→RelV v a→RelV u b→SeqAt.EqAt A s a b (decide (x=y))
theorem eqT_int:EqT X 0 (fun _ v (i:Int)=>v=.int i):=by
 intro A pins σ H s v u a b x y hu I h1 h2 r1 r2
 subst h1 h2
 obtain ⟨t,rfl⟩:=r1
 obtain ⟨t',rfl⟩:=r2
 have:=SeqAt.EqAt.int_int (A:=A) (s:=s) x t y t'
 rw [show decide (x=y)=(x == y) by rw [Bool.eq_iff_iff]; simp]
 exact this
theorem all_dec {α:Type} [DecidableEq α] [Inhabited α] (xs ys:List α):((List.range (min xs.length ys.length)).all (fun j=>decide (xs.getD j default=ys.getD j default)) && xs.length == ys.length)=decide (xs=ys):=by
 by_cases h:xs=ys
 · subst h
   simp
 · rw [decide_eq_false h,Bool.and_eq_false_iff]
   by_cases hl:xs.length=ys.length
   · left
     rw [Bool.eq_false_iff]
     intro z
     rw [List.all_eq_true] at z
     apply h
     apply List.ext_getElem hl
     intro i h1 h2
     have:=z i (by simp; omega)
     simpa [h1,h2] using this
   · right
     simpa using hl
theorem al_items {α:Type} [DecidableEq α] [Inhabited α] {d:Nat} {R:Hp→V→α→Prop} (E:EqT X d R) {A:Around} {pins:List (Addr×Obj)} {σ:St} {H:Hp} {s:Shared} (hu:A.units+d < cLine) (I:Inv X pins σ H s) {vs us:List V} {xs ys:List α} (h1:Al (R H) vs xs) (h2:Al (R H) us ys) {as bs:List Value} (r1:Vals vs as) (r2:Vals us bs) (j:Nat) (z1:j < as.toArray.size) (z2:j < bs.toArray.size):SeqAt.EqAt A s as.toArray[j] bs.toArray[j] (decide (xs.getD j default=ys.getD j default)):=by
 simp only [List.size_toArray] at z1 z2
 simp only [List.getElem_toArray]
 have l1:=r1.length
 have l2:=r2.length
 have g1:vs[j]? = some vs[j]:=List.getElem?_eq_getElem (by omega)
 have g2:us[j]? = some us[j]:=List.getElem?_eq_getElem (by omega)
 obtain ⟨a,e1,ra⟩:=r1.get g1
 obtain ⟨b,e2,rb⟩:=r2.get g2
 obtain ⟨x,ex,rx⟩:=h1.get g1
 obtain ⟨y,ey,ry⟩:=h2.get g2
 rw [List.getElem?_eq_getElem z1] at e1
 rw [List.getElem?_eq_getElem z2] at e2
 cases e1
 cases e2
 rw [List.getD_eq_getElem?_getD,List.getD_eq_getElem?_getD,ex,ey]
 exact E A pins σ H s _ _ _ _ x y hu I rx ry ra rb
theorem eqT_tup {α:Type} [DecidableEq α] [Inhabited α] {d:Nat} {R:Hp→V→α→Prop} (E:EqT X d R) (inj:∀ H v x y,R H v x→R H v y→x=y):EqT X (d+1) (IsTup' R):=by
 intro A pins σ H s v u a b xs ys hu I h1 h2 r1 r2
 obtain ⟨p,vs,rfl,e1,a1⟩:=h1
 obtain ⟨q,us,rfl,e2,a2⟩:=h2
 cases r1
 cases r2
 by_cases hpq:p=q
 · subst hpq
   rw [e1] at e2
   cases e2
   have:xs=ys:=by
    apply List.ext_getElem (by rw [← a1.1,← a2.1])
    intro i z1 z2
    obtain ⟨v,ev,rv⟩:=a1.got (List.getElem?_eq_getElem z1)
    exact inj H v _ _ rv (a2.2 i v _ ev (List.getElem?_eq_getElem z2))
   rw [decide_eq_true this]
   exact SeqAt.EqAt.same _
 · obtain ⟨as,q1,p1,_⟩:=I.tuple (SqT.of e1)
   obtain ⟨bs,q2,p2,_⟩:=I.tuple (SqT.of e2)
   have l1:=q1.length
   have l2:=q2.length
   have h:=SeqAt.RcAt.tuples (A:=A) (e:=fun j=>decide (xs.getD j default=ys.getD j default)) p1 p2 (by omega) fun j z1 z2=>al_items E (A:=A.in1) (by rw [Around.in1_units]; omega) I a1 a2 q1 q2 j z1 z2
   rw [List.size_toArray,List.size_toArray,← l1,← l2,a1.1,a2.1,all_dec] at h
   exact SeqAt.EqAt.of_refs hpq h
def rEqG {α:Type} [DecidableEq α] (R:Hp→V→α→Prop) (neg:Bool):R2:=fun x y H Q=>∃ xs ys:List α,IsTup' R H x xs∧IsTup' R H y ys∧Q (.bl (if neg then !decide (xs=ys) else decide (xs=ys))) H
theorem op_neG {α:Type} [DecidableEq α] [Inhabited α] {d:Nat} {R:Hp→V→α→Prop} (E:EqT X d R) (hu:X.A.units+d+1 < cLine):OpR X (compareOp .NotEq) (rEqG R true):=by
 intro pins s σ H x y v u Q I rx ry h
 obtain ⟨xs,ys,⟨p,vs,rfl,e1,a1⟩,⟨q,us,rfl,e2,a2⟩,k⟩:=h
 cases rx
 cases ry
 obtain ⟨as,q1,p1,_⟩:=I.tuple (SqT.of e1)
 obtain ⟨bs,q2,p2,_⟩:=I.tuple (SqT.of e2)
 have l1:=q1.length
 have l2:=q2.length
 refine SeqAt.RcNeAt.tuples (e:=fun j=>decide (xs.getD j default=ys.getD j default)) p1 p2 (by omega) (fun j z1 z2=>al_items E (A:=X.A.in1) (by rw [Around.in1_units]; omega) I a1 a2 q1 q2 j z1 z2) _ _ _ _ ⟨.bl _,H,I,rfl,?_⟩
 rw [List.size_toArray,List.size_toArray,← l1,← l2,a1.1,a2.1,all_dec]
 exact k
def rNeLG {α:Type} [DecidableEq α] (R:Hp→V→α→Prop) (neg:Bool):R2:=fun x y H Q=>∃ (a b:Addr) (vs us:List V) (xs ys:List α),x=.ref a∧y=.ref b∧H a=some (.lst vs)∧H b=some (.lst us)∧Al (R H) vs xs∧Al (R H) us ys∧Q (.bl (if neg then !decide (xs=ys) else decide (xs=ys))) H
theorem all_dec2 {α:Type} [DecidableEq α] [Inhabited α] (xs ys:List α) (hl:xs.length=ys.length):((List.range xs.length).all (fun j=>decide (xs.getD j default=ys.getD j default)))=decide (xs=ys):=by
 rw [← all_dec xs ys,← hl,Nat.min_self,beq_self_eq_true,Bool.and_true]
theorem op_neLG {α:Type} [DecidableEq α] [Inhabited α] {d:Nat} {R:Hp→V→α→Prop} (E:EqT X d R) (hu:X.A.units+d+1 < cLine):OpR X (compareOp .NotEq) (rNeLG R true):=by
 intro pins s σ H x y v u Q I rx ry h
 obtain ⟨p,q,vs,us,xs,ys,rfl,rfl,e1,e2,a1,a2,k⟩:=h
 cases rx
 cases ry
 obtain ⟨as,q1,p1,_⟩:=I.list (SqL.of e1)
 obtain ⟨bs,q2,p2,_⟩:=I.list (SqL.of e2)
 have l1:=q1.length
 have l2:=q2.length
 by_cases hl:xs.length=ys.length
 · refine SeqAt.RcNeAt.lists (e:=fun j=>decide (xs.getD j default=ys.getD j default)) p1.isList p2.isList (by rw [List.size_toArray,List.size_toArray,← l1,← l2,a1.1,a2.1,hl]) (by omega) (fun j z1 z2=>al_items E (A:=X.A.in1) (by rw [Around.in1_units]; omega) I a1 a2 q1 q2 j z1 z2) _ _ _ _ ⟨.bl _,H,I,rfl,?_⟩
   rw [List.size_toArray,← l1,a1.1,all_dec2 xs ys hl]
   exact k
 · refine SeqAt.RcNeAt.lists_lengths p1.isList p2.isList (by rw [List.size_toArray,List.size_toArray,← l1,← l2,a1.1,a2.1]; simpa using hl) (by omega) _ _ _ _ ⟨.bl true,H,I,rfl,?_⟩
   have:¬ xs=ys:=fun z=>hl (by rw [z])
   rw [decide_eq_false this] at k
   exact k
end
end L2
namespace L2
open PySem PySem.Spec PyProof.Rows
theorem relV_abs {v:V} {u:Value} (h:RelV v u):absV u=some v:=by
 cases v <;> simp only [RelV] at h <;> first | (subst h; rfl) | (obtain ⟨_,rfl⟩:=h; rfl)
theorem relV_inj {v v':V} {u:Value} (h:RelV v u) (h':RelV v' u):v=v':=Option.some.inj ((relV_abs h).symm.trans (relV_abs h'))
section
variable {X:Cx} {α:Type} [DecidableEq α] {R:Hp→V→α→Prop} {d:Nat}
noncomputable def eqOf (R:Hp→V→α→Prop) (H:Hp) (a:α) (y:Value):Bool:=@decide (∃ v,RelV v y∧R H v a) (Classical.propDecidable _)
theorem eqOf_at {H:Hp} {v:V} {y:Value} {x a:α} (inj:∀ v x y,R H v x→R H v y→x=y) (rv:RelV v y) (r:R H v x):eqOf R H a y=decide (x=a):=by
 unfold eqOf
 rw [Bool.eq_iff_iff]
 simp only [decide_eq_true_iff]
 refine ⟨fun ⟨v',h1,h2⟩=>?_,fun h=>⟨v,rv,h ▸ r⟩⟩
 rw [relV_inj h1 rv] at h2
 exact inj v x a r h2
theorem mem_at {A:Around} {pins:List (Addr×Obj)} {σ:St} {H:Hp} {s:Shared} (E:EqT X d R) (inj:∀ v x y,R H v x→R H v y→x=y) (hu:A.units+d < cLine) (I:Inv X pins σ H s) {vs:List V} {us:List Value} {xs:List α} (r:Vals vs us) (al:Al (R H) vs xs) {x:V} {v:Value} {a:α} (rx:RelV x v) (ra:R H x a) :
 ∀ y∈us.toArray,SeqAt.EqAt A s y v (eqOf R H a y):=fun y hy=>by
 obtain ⟨i,hi,e⟩:=List.getElem_of_mem (show y∈us by simpa using hy)
 have l1:=r.length
 obtain ⟨u,eu,ru⟩:=r.get (List.getElem?_eq_getElem (show i < vs.length by omega))
 rw [List.getElem?_eq_getElem hi,e] at eu
 cases eu
 obtain ⟨z,ez,rz⟩:=al.get (List.getElem?_eq_getElem (show i < vs.length by omega))
 rw [eqOf_at inj ru rz]
 exact E A pins σ H s _ _ _ _ z a hu I rz ra ru rx
theorem mt_indexG (E:EqT X d R) (inj:∀ H v x y,R H v x→R H v y→x=y) (hu:X.A.units+d+1 < cLine):MtR X "list.index" (fun x xs H Q=>∃ (p:Addr) (vs:List V) (ys:List α) (v:V) (a:α) (j:Nat),x=.ref p∧xs=[v]∧H p=some (.lst vs)∧Al (R H) vs ys∧R H v a∧ys[j]? = some a∧(∀ m,m < j→ys[m]?≠some a)∧ys.length≤1000∧Q (.int j) H):=by
 intro pins s σ H x xs v us Q I rx rv h
 obtain ⟨p,vs,ys,y,a,j,rfl,rfl,e,al,ra,ej,hno,hz,q⟩:=h
 cases rx
 obtain ⟨u,rfl,ru⟩:=rv.one
 obtain ⟨its,r,pl,_⟩:=I.list (SqL.of e)
 obtain ⟨⟨cls,dd,data,sl⟩,ho,hc,n,hd⟩:=id pl.isList
 simp only at hc hd
 subst hc hd
 have l1:=r.length
 have l2:=al.1
 have hj:j < ys.length:=(List.getElem?_eq_some_iff.mp ej).1
 have at_:∀ m (hm:m < its.toArray.size) z,ys[m]? = some z→eqOf R H a its.toArray[m]=decide (z=a):=fun m hm z ez=>by
  have hm':m < its.length:=by simpa using hm
  obtain ⟨w,ew,rw'⟩:=r.get (List.getElem?_eq_getElem (show m < vs.length by omega))
  rw [List.getElem?_eq_getElem hm'] at ew
  cases ew
  simp only [List.getElem_toArray]
  exact eqOf_at (inj H) rw' (al.2 m _ z (List.getElem?_eq_getElem (by omega)) ez)
 refine call_meets F.slot_list_index ⟨_,ho,rfl⟩ F.entry_list_index (F.args_list_index_2 _ _) (SeqAt.list_indexAt p its.toArray n dd sl u (eqOf R H a) j (by simp; omega) (by omega) ?_ ?_) ⟨ho,mem_at E (inj H) (by rw [Around.in1_units]; omega) I r al ru ra,?_⟩
 · rw [at_ j (by simp; omega) a ej]; exact decide_eq_true rfl
 · intro m hm hlt
   have hm':m < ys.length:=by omega
   rw [at_ m hm ys[m] (List.getElem?_eq_getElem hm')]
   exact decide_eq_false fun z=>hno m hlt (by rw [List.getElem?_eq_getElem hm',z])
 · exact ⟨.int j,H,I.tok _,⟨_,rfl⟩,q⟩
end
end L2
namespace L2
open PySem PySem.Spec PyProof.Rows PySem.W
variable {k:Nat}
section
variable {X:Cx} {pins:List (Addr×Obj)} {σ:St} {H:Hp} {s:Shared}
end
section
variable {X:Cx}
end
structure Cal1 (P:Program) (w:World) (K:PySem.W.Frag) (mg:Str→Option Value) (base:Heap) (x:Str) (k:Nat) (p1:Str) (sp:Sp):Prop where
 ex:∃ (f:Addr) (fd:FuncData),FnOk P w K mg base CX0 k f fd [p1] sp∧mg x=some (.ref f)∧PySem.W.keepIn K (.ref f)=true ∧
  ∀ (s:Shared) (u:Value),K.In s.heap→BindsTo s fd ⟨[],[(p1,u)]⟩ [(p1,u)]
theorem pe_cal1 {X:Cx} {x p1:Str} {k j:Nat} {sp:Sp} {p pos:Pos} {kws:List Keyword} {tk:TA} (C:Cal1 X.prog X.w X.K X.mg X.base x k p1 sp) (hr:Room j X.A) (hj:k≤j) (hg:Gl X x) (hkw:PK X kws tk)
 (hks:(backToKw pos (keywordEach kws X.env)).filterMap (·.1)=[p1]:=by rfl) (hall:(backToKw pos (keywordEach kws X.env)).all (·.1.isSome)=true:=by rfl)
 (hdb:(x == ("__debug__" : Str))=false:=by decide) (hpl:((backTo pos (starEach [] X.env)).any (·.1) || (backToKw pos (keywordEach kws X.env)).any (·.1.isNone))=false:=by rfl) :
 PE X (.Call (.Name x p) [] kws pos) (fun σ H Q=>tk σ H fun zs H1=>∃ v,zs=[v]∧sp [v] H1 Q E0):=by
 intro pins s σ H Q I h
 obtain ⟨f,fd,F,hm,hk,hb⟩:=C.ex
 refine wpAny_Call_Name_kw (ld_glob I hg hm ?_ hdb)
 refine PySem.W.callWith_KW0 (h₀:=X.base) I.ok.mod.kin hk hall (thn (hkw pos pins s σ H _ I h) fun ws s2 ⟨zs,H2,I2,rz,v,e,q2⟩=>⟨I2.kIn,?_⟩) hpl
 subst e
 obtain ⟨wv,rfl,rv⟩:=rz.one
 rw [hks]
 refine wpAny_call (codeAny_mono (F.run X.A X.stack s2 H2 ⟨[],[(p1,wv)]⟩ [wv] [v] Q E0 (hr.mono hj) I2.env0 (hb s2 wv I2.kIn) (.cons rv .nil) q2) fun r s' hq=>?_)
 cases r with
 | error e=>exact (show False from hq).elim
 | ok fl =>
   cases fl with
   | ret u=>exact I2.after hq
   | next=>exact False.elim hq
   | brk=>exact False.elim hq
   | cont=>exact False.elim hq
section
variable {N:Addr→Prop} {H:Hp}
end
end L2
namespace L2
open PySem PySem.Spec PyProof.Rows PySem.W
theorem fsc {N P:List Str} {sc:Scope} (h:sc.kind=.function∧sc.isCoroutine=false∧sc.isGenerator=false∧N.Nodup∧N.take P.length=P∧(∀ x∈P,sc.names.lookup x=some .local∨sc.names.lookup x=some .cell)∧∀ y∈sc.names,y.2≠.free):FnScope N P sc:=let ⟨a,b,c,d,e,f,g⟩:=h; ⟨a,b,c,d,e,f,g⟩
end L2
/- repr of tuples with ints of more than 640 figures: nobody has set the limit of figures -/
namespace L2
open PySem PySem.Spec PyProof.Rows
mutual
def shN:PyData→Bool
 | .none=>true
 | .bool _=>true
 | .str _=>true
 | .int i=>decide (i.natAbs.log2 < 3999)
 | .tuple xs=>shNs xs
 | .list _=>false
 | .dict _=>false
def shNs:List PyData→Bool
 | []=>true
 | x :: xs=>shN x && shNs xs
end
section
variable {prog:Program} {w:World} {A:Around} {E:Value→Shared→Prop} {s:Shared}
theorem lt_dig {a:Int} (h:a.natAbs.log2 < 3999):a.natAbs < 10 ^ 4300 :=
 Nat.lt_of_lt_of_le (lt_of_log2 (Nat.lt_trans h (by decide:3999 < 12900))) pow_lo
theorem pyReprObj_intN {a:Int} {t:Tok} {Q:Value→Shared→Prop} (hn:s.heap.NoDigits) (ha:a.natAbs.log2 < 3999) (h:Q (.str (toString a) s.toks) { s with toks:=s.toks+1 }):wpAny (model prog w) A (pyReprObj (.int a t)) Q E s:=by
 have hv:[Value.int a t].any Value.onHeap=false:=rfl
 unfold pyReprObj
 simp only [cRoomFor,hv,Bool.false_eq_true,if_false,pure_bind]
 refine wpAny_bind (wpAny_specialOf (name:=Str.ofString "__repr__") (typeIs_int s a t) F.slot_int_repr.lookup ?_)
 refine wpAny_bind (m:=callSpecialIfBound? (.int a t) (Str.ofString "__repr__")) (wpAny_callSpecialIfBound?_slot (name:=Str.ofString "__repr__") (typeIs_int s a t) F.slot_int_repr (wpAny_call_entry F.slot_int_repr (typeIs_int s a t) F.entry_int_repr ?_ (F.args_int_repr_1 _)))
 unfold Builtin.«int.__repr__»
 show wpAny _ _ (do let r ← Builtin.overDigitLimit? a; _) _ _ s
 refine wpAny_bind (overDigitLimit_any hn (fun hlt=>?_) (fun hge=>absurd (lt_dig ha) (Nat.not_lt.mpr hge)))
 exact wpAny_bind (wpAny_mkStr (wpAny_pure ⟨_,rfl,wpAny_bind (wpAny_isInstance (T := "str") (b:=true) rfl isSubtype_str_str (wpAny_pure h))⟩) (int_text_fits10 hlt))
end
section
variable {prog:Program} {w:World} {h₀:Heap}
theorem reprK_intN {a:Int} (t:Tok) (hn:h₀.NoDigits) (ha:a.natAbs.log2 < 3999) (as:List Addr) (d:Nat):ReprK prog w as h₀ d (.int a t) (toString a):=by
 intro base hb A g E s Q hg hcl hu hk hQ
 rw [pyReprUnder_leaf (v:=.int a t) (by omega) (fun _ e=>nomatch e)]
 unfold pyRepr
 exact wpAny_bind (pyReprObj_intN (hn.keeps hk) ha (wpAny_pure (hQ s.heap _ fun _ _ e=>e)))
mutual
theorem reprK_ofN (hn:h₀.NoDigits):∀ {v:Value} {d:PyData} {as:List Addr},Reads h₀ v d as→shN d=true→d.shown.length≤sizeLine→∃ bs,ReadAtMost h₀ d.depth bs∧ReprK prog w bs h₀ d.depth v d.shown
 | _,_,_,.none,_,_=>⟨[],(fun _ h=>nomatch h),by simp only [PyData.shown]; exact .of_is ReprIs.none _ _ _⟩
 | _,_,_,.bool b,_,_=>⟨[],(fun _ h=>nomatch h),by simp only [PyData.shown]; exact .of_is (ReprIs.bool b) _ _ _⟩
 | _,_,_,.int i t,hs,_=>⟨[],(fun _ h=>nomatch h),by simp only [PyData.shown]; exact reprK_intN t hn (of_decide_eq_true hs) _ _⟩
 | _,_,_,.str x t,_,hz=>⟨[],(fun _ h=>nomatch h),by simp only [PyData.shown]; exact .of_is (ReprIs.str x t (by simpa only [PyData.shown] using hz)) _ _ _⟩
 | _,_,_,.list (xs:=xs) h1 h2 h3 h4,hs,_=>absurd (show shN (.list xs)=true from hs) (fun z=>by cases (show false=true from z))
 | _,_,_,.tuple (a:=a) (xs:=xs) h1 h2 h3 h4,hs,hz=>by
   have hz':(tupleText (PyData.shownAll xs)).length≤sizeLine:=by simpa only [PyData.shown] using hz
   obtain ⟨bs,hb,hk⟩:=reprAllK_ofN hn h4 (show shNs xs=true from hs) (fun t ht=>Nat.le_trans (tupleText_mem_le ht) hz')
   have r:Reads h₀ (.ref a) (.tuple xs) _:=.tuple h1 h2 h3 h4
   have hna:a∉bs:=not_mem_of_deeper r (by simp only [PyData.depth]; omega) hb
   refine ⟨a :: bs,ReadAtMost.cons r (by simp only [PyData.depth]; omega) hb,?_⟩
   simp only [PyData.depth,PyData.shown]
   exact ReprK.tuple h1 h2 h3 hna hk
 | _,_,_,.dict (kvs:=kvs) h1 h2 h3 h4 h5,hs,_=>absurd (show shN (.dict kvs)=true from hs) (fun z=>by cases (show false=true from z))
theorem reprAllK_ofN (hn:h₀.NoDigits):∀ {vs:List Value} {ds:List PyData} {as:List Addr},ReadsAll h₀ vs ds as→shNs ds=true→(∀ t∈PyData.shownAll ds,t.length≤sizeLine) →
 ∃ bs,ReadAtMost h₀ (PyData.depthAll ds) bs∧ReprAllK prog w bs h₀ (PyData.depthAll ds) vs (PyData.shownAll ds)
 | _,_,_,.nil,_,_=>⟨[],(fun _ h=>nomatch h),by simp only [PyData.shownAll]; exact .nil⟩
 | _,_,_,.cons (d:=d) (ds:=ds) r rs,hs,hz=>by
   have hs':shN d=true∧shNs ds=true:=by
    have z:(shN d && shNs ds)=true:=hs
    exact ⟨(Bool.and_eq_true _ _ ▸ z).1,(Bool.and_eq_true _ _ ▸ z).2⟩
   obtain ⟨b1,hb1,k1⟩:=reprK_ofN hn r hs'.1 (hz _ (by simp only [PyData.shownAll]; exact List.mem_cons_self ..))
   obtain ⟨b2,hb2,k2⟩:=reprAllK_ofN hn rs hs'.2 (fun t ht=>hz t (by simp only [PyData.shownAll]; exact List.mem_cons_of_mem _ ht))
   refine ⟨b1++b2,?_,?_⟩
   · intro b hm
     simp only [PyData.depthAll]
     rcases List.mem_append.mp hm with hm | hm
     · obtain ⟨d',as',r',hd'⟩:=hb1 b hm
       exact ⟨d',as',r',Nat.le_trans hd' (Nat.le_max_left _ _)⟩
     · obtain ⟨d',as',r',hd'⟩:=hb2 b hm
       exact ⟨d',as',r',Nat.le_trans hd' (Nat.le_max_right _ _)⟩
   · simp only [PyData.depthAll,PyData.shownAll]
     exact .cons ((k1.more fun b hb=>List.mem_append_left _ hb).level_le (Nat.le_max_left _ _)) (k2.more_le (fun b hb=>List.mem_append_right _ hb) (Nat.le_max_right _ _))
end
theorem repr_tupN {A:Around} {E:Value→Shared→Prop} {s:Shared} {Q:Value→Shared→Prop} {a:Addr} {xs:List PyData} {as:List Addr} (hn:h₀.NoDigits) (r:Reads h₀ (.ref a) (.tuple xs) as) (hs:shNs xs=true) (hg:A.guards=some []) (hu:A.units+(PyData.depthAll xs+2) < cLine) (hk0:∀ b o,h₀.get? b=some o→s.heap.get? b=some o)
 (hQ:∀ h' u tk,(∀ b o,s.heap.get? b=some o→h'.get? b=some o)→Q (.str (PyData.tuple xs).shown u) { s with heap:=h',toks:=tk })
 (hsz:(PyData.tuple xs).shown.length≤sizeLine):wpAny (model prog w) A (call (.builtin "repr") [.ref a]) Q E s:=by
 cases r with
 | tuple h1 h2 h3 h4 =>
   have hz':(tupleText (PyData.shownAll xs)).length≤sizeLine:=by simpa only [PyData.shown] using hsz
   obtain ⟨bs,hb,hk⟩:=reprAllK_ofN (prog:=prog) (w:=w) hn h4 hs (fun t ht=>Nat.le_trans (tupleText_mem_le ht) hz')
   have hna:a∉bs:=not_mem_of_deeper (.tuple h1 h2 h3 h4) (by simp only [PyData.depth]; omega) hb
   simp only [PyData.shown] at hQ
   exact call_repr_slot (by omega) ⟨_,hk0 _ _ h1,h2⟩ F.slot_tuple_repr (call_tuple_reprK h1 h2 h3 hna hk hg (fun b _=>Clear.nil b) (by show A.units+1+(_+1) < cLine; omega) hk0 (fun h' u tk hk=>⟨_,_,rfl,hQ h' u tk hk⟩) hz')
end
mutual
def noL:PyData→Bool
 | .none=>true
 | .bool _=>true
 | .str _=>true
 | .int _=>true
 | .tuple xs=>noLs xs
 | .list _=>false
 | .dict _=>false
def noLs:List PyData→Bool
 | []=>true
 | x :: xs=>noL x && noLs xs
end
theorem noLs_iff:∀ {xs:List PyData},noLs xs=true↔∀ x∈xs,noL x=true
 | []=>⟨fun _ _ h=>(by cases h),fun _=>rfl⟩
 | x :: xs=>by
   show (noL x && noLs xs)=true↔_
   rw [Bool.and_eq_true,noLs_iff,List.forall_mem_cons]
theorem log2_smallN {i:Int} {n:Nat} (h:i.natAbs < 2 ^ n) (hn:n < 3999):i.natAbs.log2 < 3999:=by
 by_cases h0:i.natAbs=0
 · rw [h0]; decide
 · exact Nat.lt_trans ((Nat.log2_lt h0).mpr h) hn
variable {N:Addr→Prop} {k:Nat}
mutual
theorem Dt.shN {H:Hp} (hk:k < 3999):∀ {v:V} {d:PyData},Dt N H k v d→noL d=true→L2.shN d=true∧d.shown.length≤4001 * nz d
 | _,_,.non,_=>⟨rfl,by decide +kernel⟩
 | _,_,.bl true,_=>⟨rfl,by decide +kernel⟩
 | _,_,.bl false,_=>⟨rfl,by decide +kernel⟩
 | _,_,.int (i:=i) h,_=>⟨decide_eq_true (log2_smallN h hk),by
   have:=int_text_length_le (by decide) (log2_smallN h hk)
   show (Str.ofString (toString i)).length≤4001 * 1
   rw [PySem.ofString_length]
   omega⟩
 | _,_,.str x,_=>⟨rfl,by
   show (reprText x).length≤4001 * (reprText x).length
   omega⟩
 | _,_,.tup (ds:=ds) h r,n=>by
   obtain ⟨a,b⟩:=Dts.shN hk r n
   have z:=tupleText_len_le (PyData.shownAll ds)
   rw [sum_shown] at z
   refine ⟨a,?_⟩
   show (tupleText (PyData.shownAll ds)).length≤4001 * (1+nzAll ds)
   omega
 | _,_,.lst (ds:=ds) h n m r,z=>by cases (show false=true from z)
 | _,_,.dic h,z=>by cases (show false=true from z)
theorem Dts.shN {H:Hp} (hk:k < 3999):∀ {vs:List V} {ds:List PyData},Dts N H k vs ds→noLs ds=true→shNs ds=true∧((PyData.shownAll ds).map (·.length)).sum+2 * ds.length≤4001 * nzAll ds
 | _,_,.nil,_=>⟨rfl,by simp [PyData.shownAll,nzAll]⟩
 | _,_,.cons (d:=d) (ds:=ds) r rs,n=>by
   have n':(noL d && noLs ds)=true:=n
   rw [Bool.and_eq_true] at n'
   obtain ⟨a1,a2⟩:=Dt.shN hk r n'.1
   obtain ⟨b1,b2⟩:=Dts.shN hk rs n'.2
   refine ⟨by show (_ && _)=true; rw [a1,b1]; rfl,?_⟩
   simp only [PyData.shownAll,nzAll,List.map_cons,List.sum_cons,List.length_cons]
   omega
end
section
variable {X:Cx}
theorem call_reprN {j:Nat} (hr:Room j X.A):CallR X (.builtin "repr") (fun xs H Q=>∃ N k v ds,xs=[v]∧Dt N H k v (.tuple ds)∧k < 3999∧noLs ds=true∧(PyData.tuple ds).depth≤20∧nz (.tuple ds)≤4000∧Q (.str (PyData.tuple ds).shown) H):=by
 intro pins s σ H xs us Q I r h
 obtain ⟨N,k,v,ds,rfl,rd,hk,hn,h3,h4,q⟩:=h
 obtain ⟨h1,h2⟩:=rd.shN hk hn
 have hz:(PyData.tuple ds).shown.length≤sizeLine:=by
  have e:sizeLine=16777216:=sizeLine_eq
  omega
 cases r with
 | cons rx r =>
   cases r
   have hu:=hr.un
   cases rd with
   | tup h rs =>
     cases (show _=Value.ref _ from rx)
     obtain ⟨as,ra,na⟩:=Dt.reads I (.tup h rs) rx
     have h3':PyData.depthAll ds+1≤20:=h3
     exact repr_tupN I.digits ra h1 hr.gd (by omega) (fun _ _ e=>e) (fun h' u tk hk=>⟨.str _,H,I.kept hk,⟨_,rfl⟩,q⟩) hz
end
end L2
set_option maxHeartbeats 4000000
namespace L2
open PySem PySem.Spec PyProof.Rows
section
variable {M:Model} {A:Around} {E:Value→Shared→Prop} {s:Shared}
def FO (h:Heap) (a:Addr) (C:Value) (d:Option Addr) (vs:Array Value):Prop:=∃ o:Obj,h.get? a=some o∧o.cls=C∧o.dict=d∧o.data=.fields vs
theorem dict_mapF {o:Obj} {f:Array Value→Array Value}:(Obj.mapFields f o).dict=o.dict:=by
 obtain ⟨c,d,dt,sl⟩:=o
 cases dt <;> rfl
theorem FO.set {h:Heap} {a:Addr} {C:Value} {d:Option Addr} {vs:Array Value} (x:FO h a C d vs) (f:Array Value→Array Value):FO (h.update a (Obj.mapFields f)) a C d (f vs) :=
 let ⟨o,e,hc,hd,hv⟩:=x
 ⟨_,Heap.get?_update_self _ e (Obj.isFreed_of_fields (Obj.data_mapFields hv f)),(Obj.cls_mapFields _ _).trans hc,dict_mapF.trans hd,Obj.data_mapFields hv f⟩
theorem FO.keep {h h':Heap} {a:Addr} {C:Value} {d:Option Addr} {vs:Array Value} (x:FO h a C d vs) (k:∀ o,h.get? a=some o→h'.get? a=some o):FO h' a C d vs :=
 let ⟨o,e,r⟩:=x
 ⟨o,k o e,r⟩
theorem up_ne {h:Heap} {a b:Addr} {o:Obj} {g:Obj→Obj} (n:b≠a) (e:h.get? b=some o):(h.update a g).get? b=some o:=(Heap.get?_update_other h g (Ne.symm n)).trans e
def Fly (h:Heap) (G:Heap) (e T:Addr) (C:Value) (d:Option Addr):Prop :=
 G.get? e=none∧G.get? T=none∧T≠e∧(∃ vs,FO h e C d vs∧vs[1]? = some (.ref T))∧∃ cT dT ts,FO h T cT dT ts∧ts[3]? = some .none
theorem Fly.lo {h G G':Heap} {e T:Addr} {C:Value} {d:Option Addr} (f:Fly h G e T C d) (l:∀ b,G.get? b=none→G'.get? b=none):Fly h G' e T C d:=⟨l _ f.1,l _ f.2.1,f.2.2⟩
def Fly0 (h:Heap) (G:Heap) (e:Addr) (C:Value) (d:Option Addr):Prop:=G.get? e=none∧∃ vs,FO h e C d vs∧vs[1]? = some .none
def LftX (fs:List Addr) (S:Addr→Prop) (h h':Heap):Prop :=
 (∀ b o,¬ S b→b∉fs→h.get? b=some o→h'.get? b=some o)∧∀ b o,b∈fs→h.get? b=some o→∃ sl,h'.get? b=some { o with slots:=sl }
theorem FO.ne_frame {base h:Heap} {l:List Env} {a:Addr} {C:Value} {d:Option Addr} {vs:Array Value} (x:FO h a C d vs) (hl:h.FunFrames base l):a∉frs l:=fun hm=>by
 obtain ⟨o,e,_,_,hv⟩:=x
 obtain ⟨_,o',e',nf⟩:=hl.mem hm
 rw [e] at e'; cases e'; exact nf vs hv
theorem lv_new {base:Heap} {env:Env} {outer:List Env} {L e:Addr} {C head:Value} {vs:Array Value} {hadNext:Bool} {G:Heap} {d:Option Addr} {Q:Unit→Shared→Prop}
 (hfr:A.frames=some (env :: outer)) (hl:s.heap.FunFrames base (env :: outer)) (hf:env.frame=some L) (x:FO s.heap e C d vs) (hG:G.get? e=none) (hsz:1 < vs.size) (hz:G.get? s.heap.objs.size=none)
 (h:∀ h',LftX (frs (env :: outer)) (· = e) s.heap h'→Fly h' G e s.heap.objs.size C d→Q () { s with heap:=h' }) :
 wpAny M A (do let a ← frameOf env; let pl ← entryPlaceOf L hadNext; let b ← EntryCells.newEntry head a .none (rawInt L) .none pl; setField (.ref e) 1 b) (fun _ s'=>wpAny M A (setFlight (.ref e) none) Q E s') E s:=by
 have nf:=x.ne_frame hl
 refine wpAny_bind (wpAny_frameOf_fun hfr hl hf fun g ⟨gz,gk,gs⟩=>wpAny_bind (wpAny_entryPlaceOf fun pl hpl=>wpAny_bind ?_))
 refine wpAny_newObj_type ?_ (hpl.sizeOk5 _ _ _ _ _)
 generalize hts:(([head,Value.ref L,.none,rawInt L,.none]++(if pl.isEmpty then List.replicate 6 Value.none else pl)).toArray:Array Value)=ts
 have hts3:3 < ts.size:=by
  rw [← hts]; simp only [List.size_toArray,List.length_append,List.length_cons,List.length_nil]; omega
 have x1:FO g e C d vs:=x.keep fun o q=>(gk e nf).trans q
 have ne:g.objs.size≠e:=Nat.ne_of_gt (let ⟨_,q,_⟩:=x1; Heap.lt_size q)
 have y1:FO (g.push { cls:=.type "traceback",dict:=none,data:=.fields ts }) g.objs.size (.type "traceback") none ts:=⟨_,Heap.get?_push_size g rfl,rfl,rfl,rfl⟩
 have x2:=x1.keep (h':=g.push { cls:=.type "traceback",dict:=none,data:=.fields ts }) fun o q=>Heap.get?_push_of_some _ q
 have x3:=x2.set (·.setIfInBounds 1 (.ref g.objs.size))
 have y3:=y1.keep (h':=(g.push { cls:=.type "traceback",dict:=none,data:=.fields ts }).update e (Obj.mapFields (·.setIfInBounds 1 (.ref g.objs.size)))) fun o q=>up_ne ne q
 obtain ⟨o2,a2,_,_,v2⟩:=id x2
 obtain ⟨o3,a3,_,_,v3⟩:=id x3
 obtain ⟨p3,b3,_,_,w3⟩:=id y3
 have one:(vs.setIfInBounds 1 (.ref g.objs.size))[1]? = some (.ref g.objs.size):=by simp [hsz]
 refine wpAny_setField a2 v2 hsz (wpAny_bind (wpAny_field a3 v3 one ?_))
 rw [if_pos (by simp)]
 refine wpAny_setField b3 w3 hts3 ?_
 have y4:=y3.set (·.setIfInBounds 3 ((none:Option Addr).elim Value.none fun f=>rawInt f))
 have x4:=x3.keep fun o q=>up_ne (g:=Obj.mapFields (·.setIfInBounds 3 ((none:Option Addr).elim Value.none fun f=>rawInt f))) (Ne.symm ne) q
 have keep:∀ b o,b≠e→g.get? b=some o→_:=fun b o n q=>up_ne (g:=Obj.mapFields (·.setIfInBounds 3 ((none:Option Addr).elim Value.none fun f=>rawInt f))) (Nat.ne_of_lt (Heap.lt_size q)) (up_ne (g:=Obj.mapFields (·.setIfInBounds 1 (.ref g.objs.size))) n (Heap.get?_push_of_some { cls:=.type "traceback",dict:=none,data:=.fields ts } q))
 refine h _ ⟨fun b o n hb q=>keep b o n ((gk b hb).trans q),fun b o hb q=>?_⟩ ?_
 · obtain ⟨sl,q2⟩:=gs b o q
   exact ⟨sl,keep b _ (fun z=>nf (z ▸ hb)) q2⟩
 · rw [← gz]
   exact ⟨hG,by rw [gz]; exact hz,ne,⟨_,x4,one⟩,_,_,_,y4,by simp [hts3]⟩
theorem lv_first {base:Heap} {env:Env} {outer:List Env} {L e:Addr} {C:Value} {G:Heap} {d:Option Addr} {Q:Unit→Shared→Prop}
 (hfr:A.frames=some (env :: outer)) (hl:s.heap.FunFrames base (env :: outer)) (hf:env.frame=some L) (f:Fly0 s.heap G e C d) (hz:G.get? s.heap.objs.size=none)
 (h:∀ h',LftX (frs (env :: outer)) (· = e) s.heap h'→Fly h' G e s.heap.objs.size C d→Q () { s with heap:=h' }):wpAny M A (leaving env (.ref e)) Q E s:=by
 obtain ⟨hG,vs,x,h1⟩:=f
 obtain ⟨oe,he,_,_,hd⟩:=id x
 unfold leaving noteFrame
 simp only [hf]
 refine wpAny_bind (wpAny_bind (wpAny_field he hd h1 ?_))
 rw [if_neg (by decide)]
 exact lv_new hfr hl hf x hG (Array.getElem?_eq_some_iff.mp h1).1 hz h
theorem lv_note {base:Heap} {env:Env} {outer:List Env} {L e T:Addr} {C:Value} {G:Heap} {d:Option Addr} {Q:Unit→Shared→Prop}
 (hfr:A.frames=some (env :: outer)) (hl:s.heap.FunFrames base (env :: outer)) (hf:env.frame=some L) (f:Fly s.heap G e T C d) (hz:G.get? s.heap.objs.size=none)
 (h:∀ h',LftX (frs (env :: outer)) (fun b=>b=e∨b=T) s.heap h'→Fly h' G e s.heap.objs.size C d→Q () { s with heap:=h' }) :
 wpAny M A (noteFrame (.ref e) env) (fun _ s'=>wpAny M A (setFlight (.ref e) none) Q E s') E s:=by
 obtain ⟨hG,hT,ne,⟨vs,x,h1⟩,cT,dT,ts,y,h3⟩:=f
 obtain ⟨oe,he,_,_,hd⟩:=id x
 obtain ⟨oT,eT,_,_,hdT⟩:=id y
 have nT:=y.ne_frame hl
 unfold noteFrame
 simp only [hf]
 refine wpAny_bind (wpAny_field he hd h1 ?_)
 rw [if_pos (by simp)]
 refine wpAny_bind (wpAny_field eT hdT h3 ?_)
 rw [if_neg (by simp [rawInt])]
 refine wpAny_bind (wpAny_setField eT hdT (Array.getElem?_eq_some_iff.mp h3).1 ?_)
 have sz:(s.heap.update T (Obj.mapFields (·.setIfInBounds 3 .none))).objs.size=s.heap.objs.size:=Heap.size_after_update ..
 have hl':(s.heap.update T (Obj.mapFields (·.setIfInBounds 3 .none))).FunFrames base (env :: outer):=hl.of_keeps fun b o q nf=>⟨o,up_ne (fun z=>by rw [z,eT] at q; cases q; exact nf ts hdT) q,rfl⟩
 refine lv_new (s:={ s with heap:=s.heap.update T (Obj.mapFields (·.setIfInBounds 3 .none)) }) hfr hl' hf (x.keep fun o q=>up_ne (Ne.symm ne) q) hG (Array.getElem?_eq_some_iff.mp h1).1 (by rw [sz]; exact hz) fun h' ⟨k1,k2⟩ k3=>?_
 exact h h' ⟨fun b o n hb q=>k1 b o (fun z=>n (.inl z)) hb (up_ne (fun z=>n (.inr z)) q),fun b o hb q=>k2 b o hb (up_ne (fun z=>nT (z ▸ hb)) q)⟩ (by rw [← sz]; exact k3)
theorem lv_next {base:Heap} {env:Env} {outer:List Env} {L e T:Addr} {C:Value} {G:Heap} {d:Option Addr} {Q:Unit→Shared→Prop}
 (hfr:A.frames=some (env :: outer)) (hl:s.heap.FunFrames base (env :: outer)) (hf:env.frame=some L) (f:Fly s.heap G e T C d) (hz:G.get? s.heap.objs.size=none)
 (h:∀ h',LftX (frs (env :: outer)) (fun b=>b=e∨b=T) s.heap h'→Fly h' G e s.heap.objs.size C d→Q () { s with heap:=h' }):wpAny M A (leaving env (.ref e)) Q E s:=by
 unfold leaving
 exact wpAny_bind (lv_note hfr hl hf f hz h)
def CX1 (P:Program) (w:World):CXT:=fun outer H s E e s'=>∃ ea T C d H',e=.ref ea∧s'.os=s.os∧AllBare s'.gens∧Un (frs outer) [] H H' s.heap s'.heap∧HOk P w H' s'.heap∧Fly s'.heap s.heap ea T (.ref C) d∧H' ea=none∧H' T=none∧E (.ref C) d H'
end
structure XeOk (X:Cx) (E:XK):Prop where
 st:X.stack=X.env :: X.outer
 fr:X.env.frame=some X.env.locals
 ex:X.ex=[]
 xe:∀ e s',wpAny (model X.prog X.w) X.A (leaving X.env e) (fun _ s''=>CX1 X.prog X.w X.outer X.H₀ X.s₀ E e s'') (fun _ _=>False) s'→X.xe e s'
section
variable {X:Cx} {E:XK} {pins:List (Addr×Obj)} {σ:St} {H:Hp} {s:Shared} {ea T C:Addr} {d:Option Addr}
theorem Inv.newX (I:Inv X pins σ H s) {b:Addr} (z:s.heap.get? b=none) (hx:b∉X.ex):X.s₀.heap.get? b=none:=by
 cases q:X.s₀.heap.get? b with
 | none=>rfl
 | some o =>
   obtain ⟨o',e⟩:=I.base.there b o q hx
   rw [z] at e; cases e
theorem Inv.new0 (I:Inv X pins σ H s) {b:Addr} (z:s.heap.objs.size≤b):X.s₀.heap.get? b=none:=Heap.get?_none_of_le (Nat.le_trans I.sz z)
theorem Inv.fsIn (I:Inv X pins σ H s):∀ b∈X.fs,b∈frs X.stack:=fun b hb=>by
 rcases I.ok.stk with e | ⟨e,hf⟩
 · rw [e]; exact hb
 · rw [e]
   show b∈List.filterMap _ (_ :: X.outer)
   rw [List.filterMap_cons]
   split
   · exact hb
   · exact List.mem_cons_of_mem _ hb
theorem Inv.oldOut (I:Inv X pins σ H s) {b:Addr} {o:Obj} (e:X.s₀.heap.get? b=some o) (hb:b∉X.fs):b∉frs X.stack:=fun z=>by
 rcases List.mem_cons.mp (I.stkSub b z) with q | q
 · exact absurd (Heap.lt_size e) (Nat.not_lt.mpr (by rw [q]; exact I.ok.above))
 · exact hb q
theorem xe_end (o:XeOk X E) (I:Inv X pins σ H s) {h':Heap} (k1:∀ b o,(X.s₀.heap.get? b≠none∨H b≠none)→b∉frs X.stack→s.heap.get? b=some o→h'.get? b=some o)
 (k2:∀ b o,b∈frs X.stack→s.heap.get? b=some o→∃ sl,h'.get? b=some { o with slots:=sl }) (k3:Fly h' X.s₀.heap ea s.heap.objs.size (.ref C) d) (n1:H ea=none) (hE:E (.ref C) d H) :
 CX1 X.prog X.w X.outer X.H₀ X.s₀ E (.ref ea) { s with heap:=h' }:=by
 have hx:∀ {b:Addr},b∉([]:List Addr)→b∉X.ex:=fun z=>by rw [o.ex]; exact z
 refine ⟨ea,s.heap.objs.size,C,d,H,rfl,I.os,I.bare,⟨fun b u q n hb z=>?_,fun b u q n hb z=>?_,fun b u q n z=>I.base.free b u q n (hx z),fun b u q z=>?_,I.base.tups,I.base.frzs,I.base.tbls⟩,fun b u e=>?_,k3,n1,I.hok.fresh (Nat.le_refl _),hE⟩
 · exact k1 b u (.inl (by rw [q]; simp)) (I.oldOut q hb) (I.base.keep b u q n hb (hx z))
 · obtain ⟨sl,e1⟩:=I.base.slot b u q n hb (hx z)
   obtain ⟨sl',e2⟩:=k2 b _ (I.fsIn b hb) e1
   exact ⟨sl',e2⟩
 · obtain ⟨o',e1⟩:=I.base.there b u q (hx z)
   by_cases hb:b∈frs X.stack
   · obtain ⟨sl',e2⟩:=k2 b _ hb e1
     exact ⟨_,e2⟩
   · exact ⟨o',k1 b o' (.inl (by rw [q]; simp)) hb e1⟩
 · refine (I.hok b u e).stay (fun c v hc q=>k1 c v ?_ ?_ q) (fun _ q=>q) fun _ _ q=>q
   · rcases hc with z | z
     · rw [z]; exact .inr (by rw [e]; simp)
     · exact .inr (by rw [z]; simp)
   · intro hm
     have:=I.stkFree c hm
     rcases hc with z | z
     · rw [z,e] at this; cases this
     · rw [z] at this; cases this
theorem xe_first (o:XeOk X E) (I:Inv X pins σ H s) (f0:Fly0 s.heap X.s₀.heap ea (.ref C) d) (n1:H ea=none) (hE:E (.ref C) d H):X.xe (.ref ea) s:=by
 refine o.xe _ _ (lv_first (G:=X.s₀.heap) (I.ok.frames.trans (congrArg some o.st)) (o.st ▸ I.stack) o.fr f0 (I.new0 (Nat.le_refl _)) fun h' k k3=>?_)
 rw [← o.st] at k
 refine xe_end o I (fun b u hb hf e=>k.1 b u ?_ hf e) k.2 k3 n1 hE
 rintro rfl
 rcases hb with z | z
 · exact z f0.1
 · exact z n1
theorem xe_next (o:XeOk X E) (I:Inv X pins σ H s) (f1:Fly s.heap X.s₀.heap ea T (.ref C) d) (n1:H ea=none) (n2:H T=none) (hE:E (.ref C) d H):X.xe (.ref ea) s:=by
 refine o.xe _ _ (lv_next (G:=X.s₀.heap) (I.ok.frames.trans (congrArg some o.st)) (o.st ▸ I.stack) o.fr f1 (I.new0 (Nat.le_refl _)) fun h' k k3=>?_)
 rw [← o.st] at k
 refine xe_end o I (fun b u hb hf e=>k.1 b u ?_ hf e) k.2 k3 n1 hE
 rintro (rfl | rfl)
 · rcases hb with z | z
   · exact z f1.1
   · exact z n1
 · rcases hb with z | z
   · exact z f1.2.1
   · exact z n2
theorem XeOk.passes (o:XeOk X E):Passes (CX1 X.prog X.w) X E:=by
 rintro pins σ H s e s' I ⟨ea,T,C,d,H',rfl,os,bare,un,hok,fly,n1,n2,hE⟩
 exact xe_next o (I.call' (ch:=[]) os un hok bare (fun b z=>absurd z (by simp))) (fly.lo fun b z=>I.newX z (by rw [o.ex]; simp)) n1 n2 hE
end
section
variable {P:Program} {w:World} {K:PySem.W.Frag} {mg:Str→Option Value} {base:Heap} {N:List Str} {qual:Str} {scope:Scope} {f:Addr} {cd:Value} {A:Around} {outer:List Env} {s₀:Shared} {H₀:Hp} {E:XK}
theorem xeOk1:XeOk (cxOf (CX1 P w) P w K mg base N qual scope f cd A outer s₀ H₀ E) E:=⟨rfl,rfl,rfl,fun _ _ h=>wpAny_mono h (fun _ _ z=>z) fun _ _ z=>z.elim⟩
end
end L2
namespace L2
open PySem PySem.Spec PyProof.Rows
theorem exc_obj {K:PySem.W.Frag} {h:Heap} {C:Addr} {bmB:List Value} {newId:String} (X:K.In h) (q:PySem.W.excIn K C bmB newId=true) :
 ∃ (bm:List Value) (N:Addr) (nm qn:Str) (bs:List Value) (hd:Bool) (sn:List Str) (sub:List Value) (ab:Bool) (col:Option Bool) (dd:Option Addr) (k0 k1 k2 k3 k5:Option Value) (mN:Str→Option Value),
   h.get? C=some (excClassObj nm qn C N bs bm hd sn sub ab col dd k0 k1 k2 k3 k5 newId)∧h.Ns N mN∧mN "__init__" = none∧OwnTail h bmB bm:=by
 unfold PySem.W.excIn at q
 split at q
 · rename_i dd cd sl ho
   split at q
   · rename_i C' bm k0 k1 k2 k3 n k5 hm hs
     simp only [Bool.and_eq_true,beq_iff_eq,Bool.not_eq_true'] at q
     obtain ⟨⟨⟨⟨⟨rfl,rfl⟩,hdel⟩,ht⟩,hok⟩,hni⟩:=q
     obtain ⟨nm,bs,mro,ns,qn,hd,sn,sub,ab,col,del⟩:=cd
     dsimp only at hm hdel hok hni
     subst hm hdel
     have hsl:sl=#[k0,k1,k2,k3,some (.builtin n),k5]:=by
      obtain ⟨l⟩:=sl
      simp only at hs
      rw [hs]
     subst hsl
     exact ⟨bm,ns,nm,qn,bs,hd,sn,sub,ab,col,dd,k0,k1,k2,k3,k5,_,X _ _ ho,.of_isNs (PySem.W.isNs_of_in X hok),PySem.W.nsMap_none_of_in X hok hni,PySem.W.tail_of_in X ht⟩
   · cases q
 · cases q
structure ExcK (K:PySem.W.Frag) (C:Addr):Prop where
 ex:∃ (bmB:List Value) (newId initId:String),ExcBaseFacts "ValueError" newId initId bmB∧PySem.W.excIn K C bmB newId=true
theorem ObjOk.there {P:Program} {w:World} {H:Hp} {h:Heap} {a:Addr} {o:HO} (x:ObjOk P w H h a o):∃ ob,h.get? a=some ob:=by
 cases o with
 | lst xs=>obtain ⟨_,_,_,_,e⟩:=x; exact ⟨_,e⟩
 | tup xs=>obtain ⟨_,_,_,_,e,_⟩:=x; exact ⟨_,e⟩
 | dK kvs=>obtain ⟨_,_,_,_,o,_,_,e,_⟩:=x; exact ⟨_,e⟩
 | dT kvs=>obtain ⟨_,_,_,_,o,_,_,e,_⟩:=x; exact ⟨_,e⟩
 | set S n=>obtain ⟨o,_,_,_,e,_⟩:=x; exact ⟨_,e⟩
 | ins C dx fs=>obtain ⟨_,_,_,e,_⟩:=x; exact ⟨_,e⟩
 | own y=>exact x
 | xd fs=>obtain ⟨_,⟨o,_,_,e,_⟩,_⟩:=x; exact ⟨_,e⟩
 | rng lo hi=>obtain ⟨_,_,_,e⟩:=x; exact ⟨_,e⟩
 | frz o u=>exact ⟨_,x.1⟩
 | tbl ps=>exact ⟨_,show h.get? a=some _ from x⟩
 | met f y=>exact ⟨_,show h.get? a=some _ from x⟩
 | ext φ=>exact x.2.1
def tRaise (E:XK) (C:Addr):TS:=fun _ _ H=>E (.ref C) none H
section
variable {X:Cx} {E:XK}
theorem ps_raise {x t:Str} {j:Nat} {np sp cpos pos:Pos} {C:Addr} (hx:XeOk X E) (hc:X.calm=true) (hg:Gl X x) (hm:X.mg x=some (.ref C)) (Z:ExcK X.K C) (hd:(x == ("__debug__" : Str))=false:=by decide) :
 PS X (.Raise (some (.Call (.Name x np) [.Constant (.str t) j sp] [] cpos)) none pos) (tRaise E C):=by
 intro pins s σ H D I h
 obtain ⟨bmB,newId,initId,F,q⟩:=Z.ex
 obtain ⟨bm,N,nm,qn,bs,hd',sn,sub,ab,col,dd,k0,k1,k2,k3,k5,mN,hC,hN,hni,TL⟩:=exc_obj I.mod.kin q
 refine wpAny_Raise_call_subT (C:=C) (nm:=nm) (q:=qn) (N:=N) (bs:=bs) (bm:=bm) (bmB:=bmB) (hdct:=hd') (sn:=sn) (sub:=sub) (ab:=ab) (col:=col) (dd:=dd) (k0:=k0) (k1:=k1) (k2:=k2) (k3:=k3) (k5:=k5) (mN:=mN) F (TL.hasType F.hasBase) (I.ok.hd hc) rfl hni (ld_glob I hg hm ⟨rfl,?_⟩ hd)
 have ha:PA X [.Constant (.str t) j sp] _:=pa_cons pe_str pa_nil rfl
 refine Calls.evalArgs_plain (thn (ha cpos pins s σ H (fun vs H1=>H1=H∧vs.length=1) I ⟨rfl,rfl⟩) fun us s1 ⟨vs,H1,I1,r,eH,hl⟩=>?_)
 subst eH
 refine ⟨rfl,by rw [← r.length,hl]; decide,I1.bk _ _ hC,hN.keeps I1.bk,TL.keeps I1.bk,fun h' e hm'=>?_⟩
 obtain ⟨kp,nw,t',e1,_,_⟩:=hm'
 have I2:Inv X pins σ H1 { s1 with heap:=h' }:=I1.kept (t':=s1.toks) kp
 refine xe_first hx I2 ⟨I1.newX nw (by rw [hx.ex]; simp),_,⟨_,e1,rfl,rfl,rfl⟩,rfl⟩ ?_ h
 cases z:H1 e with
 | none=>rfl
 | some u =>
   obtain ⟨o,e2⟩:=(I1.hok e u z).there
   rw [show s1.heap.get? e=none from nw] at e2; cases e2
end
section
variable {P:Program} {w:World} {K:PySem.W.Frag} {mg:Str→Option Value} {base:Heap}
theorem Fun.okX {x qual:Str} {st:Stmt} {f:Addr} {fd:FuncData} {N ps:List Str} {k:Nat} {sp:Sp} (F:Fun K x qual st f fd) (S:FnScope N ps (defScope st)) (len:∀ vs H Q E,sp vs H Q E→vs.length=ps.length)
 (hbody:∀ (cdv:Value) (A:Around) (outer:List Env) (s:Shared) (H:Hp) (vs:List V) (Q:VK) (E:XK),Room k (A.deeper (envOfC qual (defScope st) s.heap.objs.size f cdv))→sp vs H Q E →
   ∃ t,PSs (cxOf (CX1 P w) P w K mg base N qual (defScope st) f cdv A outer s H E) (defBody st) t∧t { nx:=fun _ H'=>Q .non H',rt:=Q } (start N vs) H):FnOk P w K mg base (CX1 P w) (k+1) f fd ps sp:=by
 obtain ⟨oc,od,kV,doc,pm,an,cdv,ct,osl,rfl,lk,hcd⟩:=F.ex
 exact fn_of lk hcd S len fun A outer s H vs Q E hr hsp=>hbody cdv A outer s H vs Q E hr hsp
structure CalX (P:Program) (w:World) (K:PySem.W.Frag) (mg:Str→Option Value) (base:Heap) (x:Str) (k:Nat) (ps:List Str) (sp:Sp):Prop where
 ex:∃ (f:Addr) (fd:FuncData),FnOk P w K mg base (CX1 P w) k f fd ps sp∧mg x=some (.ref f)∧PySem.W.keepIn K (.ref f)=true∧Binds K fd ps []
theorem pe_calX {X:Cx} {x:Str} {k j:Nat} {ps:List Str} {sp:Sp} {E:XK} {p pos:Pos} {e:Expr} {es:List Expr} {t:TA} (C:CalX X.prog X.w X.K X.mg X.base x k ps sp) (hx:Passes (CX1 X.prog X.w) X E) (hr:Room j X.A) (hj:k≤j) (hg:Gl X x) (ha:PA X (e :: es) t)
 (hdb:(x == ("__debug__" : Str))=false:=by decide) (he:starEach (e :: es) X.env=(false,eval e X.env) :: starEach es X.env:=by rfl) (hpl:(backTo pos (starEach es X.env)).any (·.1)=false:=by rfl) :
 PE X (.Call (.Name x p) (e :: es) [] pos) (fun σ H Q=>t σ H fun vs H1=>sp vs H1 Q E):=by
 obtain ⟨f,fd,F,hm,hk,hb⟩:=C.ex
 have h:=pe_call (dvs:=[]) (E:=E) (p:=p) F (hr.mono hj) hg hm hk hb .nil hx ha hdb he hpl
 intro pins s σ H Q I hw
 refine h pins s σ H Q I ?_
 unfold tCall
 simpa only [List.append_nil] using hw
end
end L2
namespace L2
open PySem PySem.Spec PyProof.Rows
section
variable {X:Cx} {pins:List (Addr×Obj)} {σ:St} {H:Hp} {s:Shared}
theorem Inv.left {h':Heap} {S:Addr→Prop} (I:Inv X pins σ H s) (k:LftX (frs X.stack) S s.heap h') (tk:Nat)
 (hS:∀ b,S b→H b=none∧X.s₀.heap.get? b=none∧(∀ p∈X.pn++pins,p.1≠b)∧∃ C d vs,FO s.heap b C d vs):Inv X pins σ H { s with heap:=h',toks:=tk }:=by
 obtain ⟨k1,k2⟩:=k
 have nS:∀ b o,s.heap.get? b=some o→(∀ vs,o.data≠.fields vs)→¬ S b:=fun b o e nf z=>by
  obtain ⟨_,_,_,_,_,vs,o',e',_,_,hv⟩:=hS b z
  rw [e] at e'; cases e'; exact nf vs hv
 have any:∀ b o,s.heap.get? b=some o→(∀ vs,o.data≠.fields vs)→∃ sl,h'.get? b=some { o with slots:=sl }:=fun b o e nf=>by
  by_cases hb:b∈frs X.stack
  · exact k2 b o hb e
  · exact ⟨o.slots,k1 b o (nS b o e nf) hb e⟩
 have old:∀ b o,X.s₀.heap.get? b=some o→¬ S b:=fun b o e z=>by rw [(hS b z).2.1] at e; cases e
 have ce:∀ c v,s.heap.IsCell c v→h'.IsCell c v:=fun c v ⟨o,e,hd⟩=>by
  obtain ⟨sl,q⟩:=any c o e fun vs z=>by rw [hd] at z; cases z
  exact ⟨_,q,hd⟩
 refine ⟨I.ok,I.os,I.bare,⟨fun b o e n hb hx=>?_,fun b o e n hb hx=>?_,I.base.free,fun b o e hx=>?_,I.base.tups,I.base.frzs,I.base.tbls⟩,?_,fun x c e=>?_,I.free,I.freeC,fun p hp=>?_,fun b u e=>?_,I.len⟩
 · exact k1 b o (old b o e) (I.oldOut e hb) (I.base.keep b o e n hb hx)
 · obtain ⟨sl,e1⟩:=I.base.slot b o e n hb hx
   obtain ⟨sl',e2⟩:=k2 b _ (I.fsIn b hb) e1
   exact ⟨sl',e2⟩
 · obtain ⟨o',e1⟩:=I.base.there b o e hx
   by_cases hb:b∈frs X.stack
   · obtain ⟨sl',e2⟩:=k2 b _ hb e1
     exact ⟨_,e2⟩
   · exact ⟨o',k1 b o' (old b o e) hb e1⟩
 · obtain ⟨m,⟨o,es,ep,ho,hd,r⟩,hl⟩:=I.loc
   obtain ⟨sl,q⟩:=any _ o ho fun vs z=>by rw [hd] at z; cases z
   refine ⟨m,⟨_,es,ep,q,hd,r⟩,fun i x v e1 e2 e3=>?_⟩
   obtain ⟨u,ru,l⟩:=hl i x v e1 e2 e3
   refine ⟨u,ru,?_⟩
   rcases l with l | ⟨kk,c,e,z⟩
   · exact .inl l
   · exact .inr ⟨kk,c,e,ce c _ z⟩
 · obtain ⟨v,z⟩:=I.cell x c e
   exact ⟨v,ce c v z⟩
 · obtain ⟨e,n,ne,nf,d⟩:=I.pin p hp
   refine ⟨k1 p.1 p.2 (fun z=>(hS _ z).2.2.1 p hp rfl) (fun z=>?_) e,n,ne,nf,d⟩
   rcases List.mem_cons.mp (I.stkSub _ z) with q | q
   · exact ne q
   · exact nf q
 · refine (I.hok b u e).stay (fun c v hc q=>k1 c v (fun z=>?_) (fun z=>?_) q) (fun _ q=>q) fun _ _ q=>q
   · have:=(hS c z).1
     rcases hc with r | r
     · rw [r,e] at this; cases this
     · rw [r] at this; cases this
   · have:=I.stkFree c z
     rcases hc with r | r
     · rw [r,e] at this; cases this
     · rw [r] at this; cases this
theorem Inv.track {a C:Addr} {C':Value} {d:Option Addr} {vs:Array Value} {o:HO} (I:Inv X pins σ H s) (x:FO s.heap a C' d vs) (n:H a=none) (n0:X.s₀.heap.get? a=none) (np:∀ p∈X.pn++pins,p.1≠a)
 (new:ObjOk X.prog X.w (upd H a o) s.heap a o):Inv X pins σ (upd H a o) s:=by
 obtain ⟨oa,ea,_,_,hv⟩:=id x
 have ne:∀ b u,H b=some u→b≠a:=fun b u e z=>by rw [z,n] at e; cases e
 have un:∀ b,b≠a→(upd H a o) b=H b:=fun b hb=>upd_ne hb
 have isr:∀ b o',s.heap.get? b=some o'→(∀ vs,o'.data≠.fields vs)→b≠a:=fun b o' e nf z=>by
  rw [z,ea] at e; cases e; exact nf vs hv
 refine ⟨I.ok,I.os,I.bare,⟨I.base.keep,I.base.slot,fun b u e q hx=>?_,I.base.there,fun b xs e=>?_,fun b w' u e=>?_,fun b ps e=>?_⟩,I.loc,I.cell,?_,fun y c e=>?_,fun p hp=>?_,fun b u e=>?_,I.len⟩
 · rw [un b fun z=>by rw [z,n0] at e; cases e]; exact I.base.free b u e q hx
 · have q:=I.base.tups b xs e; rw [un b (ne b _ q)]; exact q
 · have q:=I.base.frzs b w' u e; rw [un b (ne b _ q)]; exact q
 · obtain ⟨m,q⟩:=I.base.tbls b ps e; exact ⟨m,by rw [un b (ne b _ q)]; exact q⟩
 · obtain ⟨m,⟨ol,es,ep,ho,hd,_⟩,_⟩:=I.loc
   rw [un _ (isr _ ol ho fun vs z=>by rw [hd] at z; cases z)]; exact I.free
 · obtain ⟨v,oc,ho,hd⟩:=I.cell y c e
   rw [un _ (isr _ oc ho fun vs z=>by rw [hd] at z; cases z)]; exact I.freeC y c e
 · obtain ⟨e,q,r⟩:=I.pin p hp
   exact ⟨e,by rw [un _ (np p hp)]; exact q,r⟩
 · by_cases hb:b=a
   · subst hb
     rw [upd_same] at e; cases e; exact new
   · rw [un b hb] at e
     refine (I.hok b u e).stay (fun c v _ q=>q) (fun c q=>?_) fun c xs q=>?_
     · rw [un c (ne c _ q)]; exact q
     · rw [un c (ne c _ q)]; exact q
def nones (N:List Str):St:=List.replicate N.length none
theorem Inv.gone {h':Heap} {m':Str→Option Value} (I:Inv X pins σ H s) (hn:h'.Ns X.env.locals m') (hs:Heap.SameBut X.env.locals s.heap h') (tk:Nat):Inv X pins (nones X.N) H { s with heap:=h',toks:=tk }:=by
 have ne:∀ b o,X.s₀.heap.get? b=some o→b≠X.env.locals:=fun b o e=>Nat.ne_of_lt (Nat.lt_of_lt_of_le (Heap.lt_size e) I.ok.above)
 have ce:∀ x c,X.env.cells.lookup x=some c→∀ v,s.heap.IsCell c v→h'.IsCell c v:=fun x c e v z=>z.sameBut hs (I.cne x c e)
 refine ⟨I.ok,I.os,I.bare,⟨fun b o e n hb hx=>(hs.2 b (ne b o e)).trans (I.base.keep b o e n hb hx),fun b o e n hb hx=>?_,I.base.free,fun b o e hx=>?_,I.base.tups,I.base.frzs,I.base.tbls⟩,⟨m',hn,fun i x v _ e2 _=>?_⟩,fun x c e=>?_,I.free,I.freeC,fun p hp=>?_,fun b u e=>?_,by simp [nones]⟩
 · obtain ⟨sl,e1⟩:=I.base.slot b o e n hb hx
   exact ⟨sl,(hs.2 b (ne b o e)).trans e1⟩
 · obtain ⟨o',e1⟩:=I.base.there b o e hx
   exact ⟨o',(hs.2 b (ne b o e)).trans e1⟩
 · unfold nones at e2
   rw [List.getElem?_replicate] at e2
   split at e2 <;> cases e2
 · obtain ⟨v,z⟩:=I.cell x c e
   exact ⟨v,ce x c e v z⟩
 · obtain ⟨e,n,nl,r⟩:=I.pin p hp
   exact ⟨(hs.2 p.1 nl).trans e,n,nl,r⟩
 · refine (I.hok b u e).stay (fun c v hc q=>(hs.2 c fun z=>?_).trans q) (fun _ q=>q) fun _ _ q=>q
   have:=I.free
   rcases hc with r | r
   · rw [← z,r,e] at this; cases this
   · rw [← z,r] at this; cases this
def excA (ea C:Addr) (d:Option Addr:=none):HO:=.ext fun h=>∃ vs,FO h ea (.ref C) d vs
theorem excA_ok {P:Program} {w:World} {h:Heap} {ea C:Addr} {d:Option Addr} {vs:Array Value} (x:FO h ea (.ref C) d vs):ObjOk P w H h ea (excA ea C d) :=
 ⟨⟨vs,x⟩,let ⟨o,e,_⟩:=x; ⟨o,e⟩,fun _ _ ⟨v,y⟩ k=>⟨v,y.keep k⟩⟩
abbrev Cx.hdl (X:Cx) (ea:Addr):Cx:={ X with A:=X.A.mark (some (.ref ea)),calm:=false,xe:=fun _ _=>False }
theorem Inv.hdl (I:Inv X pins σ H s) (ea:Addr):Inv (X.hdl ea) pins σ H s :=
 let ok:=I.ok
 ⟨⟨ok.mod,ok.kind,ok.glob,ok.blt,ok.above,ok.inj,ok.has,ok.cab,fun z=>(nomatch z),ok.frames,ok.stk,ok.exf,ok.bs,ok.bsz,ok.noex,ok.exfs,ok.funs,ok.frf⟩,I.os,I.bare,I.base,I.loc,I.cell,I.free,I.freeC,I.pin,I.hok,I.len⟩
theorem Inv.unhdl {ea:Addr} (ok:X.Ok) (I:Inv (X.hdl ea) pins σ H s):Inv X pins σ H s:=⟨ok,I.os,I.bare,I.base,I.loc,I.cell,I.free,I.freeC,I.pin,I.hok,I.len⟩
def xeT (X:Cx) (pins:List (Addr×Obj)) (E:XK):Value→Shared→Prop:=fun e s'=>∃ ea T C d H' σ',e=.ref ea∧Inv X pins σ' H' s'∧Fly s'.heap X.s₀.heap ea T (.ref C) d∧H' ea=none∧H' T=none∧(∀ p∈X.pn++pins,p.1≠ea∧p.1≠T)∧E (.ref C) d H'
abbrev Cx.tryB (X:Cx) (pins:List (Addr×Obj)) (E:XK):Cx:={ X with pn:=X.pn++pins,xe:=xeT X pins E }
theorem Inv.tryB (I:Inv X pins σ H s) (E:XK):Inv (X.tryB pins E) [] σ H s :=
 let ok:=I.ok
 ⟨⟨ok.mod,ok.kind,ok.glob,ok.blt,ok.above,ok.inj,ok.has,ok.cab,ok.hd,ok.frames,ok.stk,ok.exf,ok.bs,ok.bsz,ok.noex,ok.exfs,ok.funs,ok.frf⟩,I.os,I.bare,I.base,I.loc,I.cell,I.free,I.freeC,fun p hp=>I.pin p (by simpa using hp),I.hok,I.len⟩
theorem Inv.untry {E:XK} {pins':List (Addr×Obj)} (I:Inv (X.tryB pins E) pins' σ H s):Inv X pins σ H s :=
 let ok:=I.ok
 ⟨⟨ok.mod,ok.kind,ok.glob,ok.blt,ok.above,ok.inj,ok.has,ok.cab,ok.hd,ok.frames,ok.stk,ok.exf,ok.bs,ok.bsz,ok.noex,ok.exfs,ok.funs,ok.frf⟩,I.os,I.bare,I.base,I.loc,I.cell,I.free,I.freeC,fun p hp=>I.pin p (List.mem_append_left _ hp),I.hok,I.len⟩
theorem passesT {E:XK} (hx:X.ex=[]):Passes (CX1 X.prog X.w) (X.tryB pins E) E:=by
 rintro pins' σ H s e s' I ⟨ea,T,C,d,H',rfl,os,bare,un,hok,fly,n1,n2,hE⟩
 have I1:=I.call' (ch:=[]) os un hok bare (fun b z=>absurd z (by simp))
 refine ⟨ea,T,C,d,H',σ,rfl,I1.untry,fly.lo fun b z=>I.untry.newX z (by rw [hx]; simp),n1,n2,fun p hp=>?_,hE⟩
 have q:=(I.untry.pin p hp).1
 exact ⟨fun z=>(by rw [z,fly.1] at q; cases q),fun z=>(by rw [z,fly.2.1] at q; cases q)⟩
theorem SP.untry {E:XK} {D:Ends} {f:Flow} (h:SP (X.tryB pins E) [] D f s):SP X pins D f s:=by
 cases f with
 | next=>obtain ⟨σ',H',I,q⟩:=h; exact ⟨σ',H',I.untry,q⟩
 | brk=>obtain ⟨σ',H',I,q⟩:=h; exact ⟨σ',H',I.untry,q⟩
 | cont=>obtain ⟨σ',H',I,q⟩:=h; exact ⟨σ',H',I.untry,q⟩
 | ret u=>obtain ⟨v,σ',H',I,r,q⟩:=h; exact ⟨v,σ',H',I.untry,r,q⟩
def offE (N:List Str) (D:Ends):Ends:={ nx:=fun _ H'=>D.nx (nones N) H',rt:=D.rt,bk:=fun _ H'=>D.bk (nones N) H',ct:=fun _ H'=>D.ct (nones N) H' }
def hE (K:PySem.W.Frag) (PE:Addr) (N:List Str) (i:Nat) (th:TS) (D:Ends):XK:=fun c d H1=>∃ C,c=.ref C∧PySem.W.exmOne K (.ref C) (.ref PE)=some true∧∀ (σ:St) (ea:Addr),σ.length=N.length→H1 ea=none→th (offE N D) (σ.set i (some (.ref ea))) (upd H1 ea (excA ea C d))
def tTry (K:PySem.W.Frag) (PE:Addr) (N:List Str) (i:Nat) (tb:XK→TS) (th:TS):TS:=fun D σ H=>tb (hE K PE N i th D) D σ H
theorem off_end {D:Ends} {f:Flow} {ea:Addr} {n:Str} {pos:Pos} {E:Value→Shared→Prop} (ok:X.Ok) (hl:X.env.kindOf n=some .local) (h:SP (X.hdl ea) pins (offE X.N D) f s) :
 wpAny (model X.prog X.w) X.A (do bindName X.env n .none; unbindBehindTheSuite X.env n pos) (fun _ s'=>SP X pins D f s') E s:=by
 have hp:(X.env.scope.kind == .class || (X.env.scope.kind == .module && X.env.locals != X.env.globals))=false:=by rw [ok.kind]; rfl
 cases f with
 | next=>obtain ⟨σ',H',I,q⟩:=h; obtain ⟨m,hn,_⟩:=id I.loc; exact wpAny_nameGoes hl hn hp fun h' m' n' sb=>⟨_,H',(I.unhdl ok).gone n' sb _,q⟩
 | brk=>obtain ⟨σ',H',I,q⟩:=h; obtain ⟨m,hn,_⟩:=id I.loc; exact wpAny_nameGoes hl hn hp fun h' m' n' sb=>⟨_,H',(I.unhdl ok).gone n' sb _,q⟩
 | cont=>obtain ⟨σ',H',I,q⟩:=h; obtain ⟨m,hn,_⟩:=id I.loc; exact wpAny_nameGoes hl hn hp fun h' m' n' sb=>⟨_,H',(I.unhdl ok).gone n' sb _,q⟩
 | ret u=>obtain ⟨v,σ',H',I,r,q⟩:=h; obtain ⟨m,hn,_⟩:=id I.loc; exact wpAny_nameGoes hl hn hp fun h' m' n' sb=>⟨v,_,H',(I.unhdl ok).gone n' sb _,r,q⟩
theorem ps_try {body suite:List Stmt} {b₀:Stmt} {x n:Str} {i:Nat} {np hpos pos:Pos} {PE:Addr} {tb:XK→TS} {th:TS} (hst:X.stack=X.env :: X.outer) (hfr:X.env.frame=some X.env.locals)
 (hb:∀ pins E,PSs (X.tryB pins E) body (tb E)) (hh:∀ ea,PSs (X.hdl ea) (b₀ :: suite) th) (hg:Gl X x) (hm:X.mg x=some (.ref PE))
 (hN:X.N.Nodup) (hi:X.N[i]? = some n) (hl:X.env.kindOf n=some .local) (hd:(x == ("__debug__" : Str))=false:=by decide) :
 PS X (.Try body [.ExceptHandler (some (.Name x np)) (some n) (b₀ :: suite) hpos] [] [] pos) (tTry X.K PE X.N i tb th):=by
 intro pins s σ H D I h
 refine wpAny_Try_except (wpAny_mono (hb pins _ [] s σ H D (I.tryB _) h) (fun f s1 q=>?_) fun e s1 q=>?_)
 · have q':=SP.untry q
   cases f with
   | next=>exact wpAny_execs_nil q'
   | brk=>exact q'
   | cont=>exact q'
   | ret u=>exact q'
 · obtain ⟨ea,T,C,d,H1,σ1,rfl,I1,fly,n1,n2,np1,hw⟩:=q
   obtain ⟨C',eC,hx,k⟩:=hw
   cases eC
   obtain ⟨vsE,xE,_⟩:=fly.2.2.2.1
   refine lv_note (G:=X.s₀.heap) (I1.ok.frames.trans (congrArg some hst)) (hst ▸ I1.stack) hfr fly (I1.new0 (Nat.le_refl _)) fun h2 lf fly2=>?_
   have I2:Inv X pins σ1 H1 { s1 with heap:=h2 }:=I1.left (hst ▸ lf) s1.toks fun b hb=>by
    rcases hb with rfl | rfl
    · exact ⟨n1,fly.1,fun p hp=>(np1 p hp).1,_,_,_,xE⟩
    · obtain ⟨cT,dT,ts,y,_⟩:=fly.2.2.2.2
      exact ⟨n2,fly.2.1,fun p hp=>(np1 p hp).2,_,_,_,y⟩
   have nT:H1 s1.heap.objs.size=none:=I1.hok.fresh (Nat.le_refl _)
   have npT:∀ p∈X.pn++pins,p.1≠s1.heap.objs.size:=fun p hp z=>by
    have q:=(I1.pin p hp).1
    exact absurd (Heap.lt_size q) (by rw [z]; exact Nat.lt_irrefl _)
   obtain ⟨g1,g2,g3,⟨vs2,x2,v2⟩,cT,dT,ts,y2,t3⟩:=id fly2
   refine wpAny_handleBy_cons (codeAny_handlers_test ((ld_glob (X:=X.hdl ea) (I2.hdl ea) hg hm ?_ hd))) (by intro q; cases q)
   have LT:PySem.W.Looks (model X.prog X.w) h2 (typeOf (.ref ea)) (.ref C):=by
    obtain ⟨o,e1,e2,_⟩:=x2
    exact e2 ▸ (PySem.W.Looks.ld e1).andThen .now
   refine (PySem.W.exm_one I2.kIn LT hx).here ?_
   show codeAny _ _ _ _ _
   refine codeAny_handlers_suite_as ?_
   obtain ⟨oE,aE,_,_,wE⟩:=id x2
   obtain ⟨oT,aT,_,_,wT⟩:=id y2
   refine wpAny_setFlight_none aE wE v2 aT wT (Array.getElem?_eq_some_iff.mp t3).1 ?_
   have I3:Inv X pins σ1 H1 { s1 with heap:=h2.update s1.heap.objs.size (Obj.mapFields (·.setIfInBounds 3 .none)) } :=
    I2.left (S:=(· = s1.heap.objs.size)) ⟨fun b o n _ e=>up_ne n e,fun b o hb e=>⟨o.slots,up_ne (fun z=>y2.ne_frame I2.stack (z ▸ hb)) e⟩⟩ s1.toks fun b hb=>by
     subst hb
     exact ⟨nT,g2,npT,_,_,_,y2⟩
   have x3:FO (h2.update s1.heap.objs.size (Obj.mapFields (·.setIfInBounds 3 .none))) ea (.ref C) d vs2:=x2.keep fun o e=>up_ne (Ne.symm g3) e
   have I4:=(I3.track (C:=C) (o:=excA ea C d) x3 n1 g1 (fun p hp=>(np1 p hp).1) (excA_ok x3)).hdl ea
   refine store_ok (X:=X.hdl ea) (v:=.ref ea) I4 hN hi (Or.inl hl) rfl (fun s5 I5=>?_) (.inr hl)
   refine wpAny_mono (hh ea pins s5 _ _ (offE X.N D) I5 (k σ1 ea I1.len n1)) (fun f s6 q6=>?_) fun _ _ z=>z.elim
   exact off_end I.ok hl q6
end
end L2
namespace L2
open PySem PySem.Spec PyProof.Rows
def fzO (o:Obj):HO:=.frz o (.own 0)
theorem fz_ok {P:Program} {w:World} {H:Hp} {h:Heap} {a:Addr} {o:Obj} (e:h.get? a=some o):ObjOk P w H h a (fzO o):=⟨e,o,e⟩
def CellF (H:Hp) (c:Addr) (v:V):Prop:=∃ (o:Obj) (u:Value),H c=some (fzO o)∧o.data=.cell (some u)∧RelV v u
def del (H:Hp) (c:Addr):Hp:=fun a=>if a=c then none else H a
theorem del_ne {H:Hp} {c a:Addr} (h:a≠c):del H c a=H a:=if_neg h
theorem del_self {H:Hp} {c:Addr}:del H c c=none:=if_pos rfl
section
variable {X:Cx} {pins:List (Addr×Obj)} {σ:St} {H:Hp} {s:Shared}
abbrev Cx.fix (X:Cx) (x:Str):Cx:={ X with fn:=fun y=>X.fn y && y != x }
theorem Cx.Ok.fix (ok:X.Ok) (x:Str):(X.fix x).Ok :=
 ⟨ok.mod,ok.kind,ok.glob,ok.blt,ok.above,ok.inj,ok.has,fun y c h e=>ok.cab y c (Bool.and_eq_true_iff.mp h).1 e,ok.hd,ok.frames,ok.stk,ok.exf,ok.bs,ok.bsz,ok.noex,ok.exfs,ok.funs,ok.frf⟩
def tFix (i:Nat) (c:Addr) (t:TE):TE:=fun σ H Q=>∃ v,σ[i]? = some (some v)∧∀ o u,o.data=.cell (some u)→RelV v u→H c=none→t σ (upd H c (fzO o)) fun w H'=>Q w (del H' c)
theorem Inv.fixOn {i:Nat} {x:Str} {c:Addr} {v:V} (I:Inv X pins σ H s) (hN:X.N[i]? = some x) (hk:X.env.scope.names.lookup x=some .cell) (hc:X.env.cells.lookup x=some c) (hf:X.fn x=true) (hv:σ[i]? = some (some v)) :
 H c=none∧(∀ o u,X.H₀ c≠some (.frz o u))∧∃ o u,o.data=.cell (some u)∧RelV v u∧Inv (X.fix x) pins σ (upd H c (fzO o)) s:=by
 obtain ⟨m,hn,hl⟩:=id I.loc
 obtain ⟨u,ru,lk⟩:=hl i x v hN hv (.inr (.inl hk))
 have hH:H c=none:=(I.freeC x c hc).elim id fun z=>by rw [hf] at z; cases z.1
 obtain ⟨o,ho,hd⟩:s.heap.IsCell c (some u):=by
  rcases lk with ⟨k,_⟩ | ⟨_,c',e,z⟩
  · rw [show X.env.kindOf x=some .cell from hk] at k; cases k
  · rw [hc] at e; cases e; exact z
 have hcs:X.s₀.heap.objs.size≤c:=I.ok.cab x c hf hc
 have un:∀ b,b≠c→(upd H c (fzO o)) b=H b:=fun b hb=>upd_ne hb
 have ne:∀ b q,H b=some q→b≠c:=fun b q e z=>by rw [z,hH] at e; cases e
 refine ⟨hH,fun o' u' z=>(by have:=I.base.frzs c o' u' z; rw [hH] at this; cases this),o,u,hd,ru,?_⟩
 refine ⟨I.ok.fix x,I.os,I.bare,⟨I.base.keep,I.base.slot,fun b q e n hx=>?_,I.base.there,fun b xs e=>?_,fun b w' q e=>?_,fun b ps e=>?_⟩,I.loc,I.cell,?_,fun y c' e=>?_,fun p hp=>?_,fun b q e=>?_,I.len⟩
 · rw [un b fun z=>absurd (Heap.lt_size e) (Nat.not_lt.mpr (by rw [z]; exact hcs))]; exact I.base.free b q e n hx
 · have q:=I.base.tups b xs e; rw [un b (ne b _ q)]; exact q
 · have q':=I.base.frzs b w' q e; rw [un b (ne b _ q')]; exact q'
 · obtain ⟨m,q⟩:=I.base.tbls b ps e; exact ⟨m,by rw [un b (ne b _ q)]; exact q⟩
 · rw [un _ (Ne.symm (I.cne x c hc))]; exact I.free
 · by_cases hcc:c'=c
   · have hy:y=x:=I.ok.inj y x c (hcc ▸ e) hc
     exact .inr ⟨by show (X.fn y && y != x)=false; rw [hy]; simp,o,_,by rw [hcc,upd_same]; rfl⟩
   · rw [un c' hcc]
     exact (I.freeC y c' e).imp id fun ⟨z,q⟩=>⟨by show (X.fn y && y != x)=false; rw [z]; rfl,q⟩
 · obtain ⟨e,n,r1,r2,d⟩:=I.pin p hp
   have nc:p.1≠c:=fun z=>by
    rw [z,ho] at e
    exact d (some u) (by rw [← Option.some.inj e]; exact hd)
   exact ⟨e,(un _ nc).trans n,r1,r2,d⟩
 · by_cases hb:b=c
   · subst hb
     rw [upd_same] at e; cases e; exact fz_ok ho
   · rw [un b hb] at e
     refine (I.hok b q e).stay (fun _ _ _ z=>z) (fun d z=>?_) fun d xs z=>?_
     · rw [un d (ne d _ z)]; exact z
     · rw [un d (ne d _ z)]; exact z
theorem Inv.fixOff {x:Str} {c:Addr} (ok:X.Ok) (hc:X.env.cells.lookup x=some c) (n0:∀ o u,X.H₀ c≠some (.frz o u)) (I2:Inv (X.fix x) pins σ H s):Inv X pins σ (del H c) s:=by
 have kind:H c=none∨∃ o u,H c=some (.frz o u):=(I2.freeC x c hc).imp id fun z=>z.2
 have nt:∀ b q,H b=some q→(∀ o u,q≠.frz o u)→b≠c:=fun b q e n z=>by
  rw [z] at e
  rcases kind with k | ⟨o,u,k⟩
  · rw [k] at e; cases e
  · rw [k] at e; cases e; exact n _ _ rfl
 refine ⟨ok,I2.os,I2.bare,⟨I2.base.keep,I2.base.slot,fun b q e n hx=>?_,I2.base.there,fun b xs e=>?_,fun b w' q e=>?_,fun b ps e=>?_⟩,I2.loc,I2.cell,?_,fun y c' e=>?_,fun p hp=>?_,fun b q e=>?_,I2.len⟩
 · by_cases hb:b=c
   · rw [hb]; exact del_self
   · rw [del_ne hb]; exact I2.base.free b q e n hx
 · have q:=I2.base.tups b xs e; rw [del_ne (nt b _ q (by intro _ _ z; cases z))]; exact q
 · have q':=I2.base.frzs b w' q e
   have nb:b≠c:=fun z=>n0 w' q (by rw [← z]; exact e)
   rw [del_ne nb]; exact q'
 · obtain ⟨m,q⟩:=I2.base.tbls b ps e; exact ⟨m,by rw [del_ne (nt b _ q (by intro _ _ z; cases z))]; exact q⟩
 · by_cases hb:X.env.locals=c
   · rw [hb]; exact del_self
   · rw [del_ne hb]; exact I2.free
 · by_cases hcc:c'=c
   · rw [hcc]; exact .inl del_self
   · rw [del_ne hcc]
     refine (I2.freeC y c' e).imp id fun ⟨z,q⟩=>⟨?_,q⟩
     have hy:y≠x:=fun w=>hcc (Option.some.inj ((w ▸ e).symm.trans hc))
     have z':(X.fn y && y != x)=false:=z
     rw [Bool.and_eq_false_iff] at z'
     exact z'.elim id fun t=>absurd (bne_eq_false_iff_eq.mp t) hy
 · obtain ⟨e,n,r⟩:=I2.pin p hp
   refine ⟨e,?_,r⟩
   by_cases hb:p.1=c
   · rw [hb]; exact del_self
   · rw [del_ne hb]; exact n
 · have hb:b≠c:=fun z=>by rw [z,del_self] at e; cases e
   rw [del_ne hb] at e
   refine (I2.hok b q e).stay (fun _ _ _ z=>z) (fun d z=>?_) fun d xs z=>?_
   · rw [del_ne (nt d _ z (by intro _ _ t; cases t))]; exact z
   · rw [del_ne (nt d _ z (by intro _ _ t; cases t))]; exact z
theorem pe_fix {i:Nat} {x:Str} {c:Addr} {e:Expr} {t:TE} (hN:X.N[i]? = some x) (hk:X.env.scope.names.lookup x=some .cell) (hc:X.env.cells.lookup x=some c) (hf:X.fn x=true) (he:PE (X.fix x) e t):PE X e (tFix i c t):=by
 intro pins s σ H Q I h
 obtain ⟨v,hv,h⟩:=h
 obtain ⟨hH,n0,o,u,hd,ru,I1⟩:=I.fixOn hN hk hc hf hv
 refine wpAny_mono (he pins s σ _ _ I1 (h o u hd ru hH)) (fun r s' q=>?_) fun _ _ z=>z
 obtain ⟨w',H',I2,rw',q⟩:=q
 exact ⟨w',del H' c,I2.fixOff I.ok hc n0,rw',q⟩
def CodeF (H:Hp) (c:Addr) (q:Str):Prop:=∃ (o:Obj) (vs:Array Value) (t:Tok),H c=some (fzO o)∧o.data=.fields vs∧vs[1]? = some (.str q t)
def TabF (H:Hp) (P:Addr) (q:Str):Prop:=∃ ps:Array Value,H P=some (.tbl ps)∧TriplesOk ps.toList∧∀ pos cv,codeAmong pos ps.toList=some cv→∃ c,cv=.ref c∧CodeF H c q
def BltK (K:PySem.W.Frag) (mg:Str→Option Value):Prop:=∃ (bm:Addr) (o:Obj),mg "__builtins__" = some (.ref bm)∧bm≠builtinsNs∧bm≠mainGlobals∧K.lookup bm=some o∧o.cls=.type "module" ∧ o.dict=some builtinsNs∧o.data=.plain
def LamF (H:Hp) (a:Addr) (q:Str) (params:Arguments) (body:Expr) (scope:Scope) (clos:List (Str×Addr)) (pm:Value):Prop :=
 ∃ (c:Addr) (ct:Value),H a=some (fzO { cls:=.type "function",data:=.func (PySem.W.kla_fn "<lambda>" q params body scope clos pm (.ref c) ct) })∧CodeF H c q
def KeepP (P:Addr) (H H':Hp):Prop:=∀ b o,b≠P→H b=some o→H' b=some o
theorem CodeF.keep {P c:Addr} {H':Hp} {q:Str} (x:CodeF H c q) (k:KeepP P H H') (n:c≠P):CodeF H' c q:=let ⟨o,vs,t,e,r⟩:=x; ⟨o,vs,t,k _ _ n e,r⟩
theorem CodeF.neP {P c:Addr} {q:Str} {ps:Array Value} (x:CodeF H c q) (e:H P=some (.tbl ps)):c≠P:=fun z=>by
 obtain ⟨o,vs,t,e',_⟩:=x
 rw [z,e] at e'; cases e'
theorem among_snoc {p:Pos} {a b:Int} {c v:Value}:∀ l:List Value,TriplesOk l→codeAmong p (l++[rawInt a,rawInt b,c])=some v→codeAmong p l=some v∨v=c
 | [],_,h=>by
   right
   simp only [List.nil_append,rawInt,codeAmong] at h
   split at h
   · exact (Option.some.inj h).symm
   · cases h
 | .int x t :: .int y u :: z :: r,ht,h=>by
   simp only [List.cons_append,codeAmong] at h ⊢
   split at h
   · rename_i q; left; rw [if_pos q]; exact h
   · rename_i q; rw [if_neg q]; exact among_snoc r ht h
def tLam (mg:Str→Option Value) (P:Addr) (q:Str) (params:Arguments) (body:Expr) (scope:Scope) (clos:List (Str×Addr)):TE:=fun _ H Q=>TabF H P q∧∀ a H',KeepP P H H'→TabF H' P q→H a=none→a≠P→LamF H' a q params body scope clos ((mg "__name__").getD .none)→Q (.ref a) H'
theorem pe_lam {params:Arguments} {body:Expr} {scope:Scope} {pos:Pos} {clos:List (Str×Addr)} {cc P:Addr} {q:Str} (hdef:defaultsOf params X.env=([],[])) (hcl:closureFor scope X.env=pure clos) (hcode:X.env.code=.ref cc)
 (hq:X.env.qual ++ "<lambda>" = q) (CK:∀ h,X.K.In h→PySem.W.CodeHd h cc P) (BK:BltK X.K X.mg):PE X (.Lambda params body scope pos) (tLam X.mg P q params body scope clos):=by
 intro pins s σ H Q I h
 obtain ⟨⟨ps,hP,ht,hcs⟩,k⟩:=h
 have tab:s.heap.get? P=some (PySem.W.tabObj ps):=I.hok P _ hP
 have g:s.heap.Ns mainGlobals X.mg:=I.mod.glob.keeps I.bk
 have nB:∀ b o,X.base.get? b=some o→b≠P:=fun b o e z=>by
  have:=(I.bs b o e).2
  rw [z,hP] at this; cases this
 have gP:mainGlobals≠P:=by
  obtain ⟨o,_,_,e,_⟩:=I.mod.glob
  exact nB _ o e
 have bat:s.heap.BuiltinsAt X.mg P:=by
  obtain ⟨bm,o,h1,h2,h3,h4,h5⟩:=BK
  exact ⟨bm,o,h1,h2,h3,nB _ o (I.mod.kin _ _ h4),I.kIn _ _ h4,h5⟩
 refine PySem.W.kla_eval hdef ?_
 rw [hq]
 cases hc:codeAmong pos ps.toList with
 | some cv =>
   obtain ⟨c,rfl,cf⟩:=hcs pos cv hc
   refine PySem.W.kla_makeFunctionHit (mg:=X.mg) hcl I.ok.glob g hcode (CK _ I.kIn) tab ht hc bat fun ctv h' tk kp sz=>?_
   have na:H h'.objs.size=none:=I.hok.fresh sz
   have un:∀ b o,H b=some o→b≠h'.objs.size:=fun b o e z=>by rw [z,na] at e; cases e
   refine ⟨.ref h'.objs.size,upd H h'.objs.size (fzO _),I.laid (t':=tk) (fun b u e=>Heap.get?_push_of_some _ (kp b u e)) sz (fz_ok (Heap.get?_push_size h' rfl)),rfl,?_⟩
   have kk:KeepP P H (upd H h'.objs.size (fzO { cls:=.type "function",data:=.func (PySem.W.kla_fn "<lambda>" q params body scope clos ((X.mg "__name__").getD .none) (.ref c) ctv) })):=fun b o _ e=>by rw [upd_ne (un b o e)]; exact e
   have cf':∀ {d:Addr},CodeF H d q→CodeF (upd H h'.objs.size (fzO { cls:=.type "function",data:=.func (PySem.W.kla_fn "<lambda>" q params body scope clos ((X.mg "__name__").getD .none) (.ref c) ctv) })) d q:=fun x=>x.keep kk (x.neP hP)
   refine k _ _ kk ⟨ps,by rw [upd_ne (un _ _ hP)]; exact hP,ht,fun p v e=>?_⟩ na (fun z=>un _ _ hP z.symm) ⟨c,ctv,upd_same,cf' cf⟩
   obtain ⟨d,e1,e2⟩:=hcs p v e
   exact ⟨d,e1,cf' e2⟩
 | none =>
   refine PySem.W.kla_makeFunction (mg:=X.mg) hcl I.ok.glob g hcode (CK _ I.kIn) tab ht hc gP bat fun c ctv h' tk ext hge hlt hrec htab=>?_
   obtain ⟨c0,oc,vs,tq,ec,hoc,hdc,hqc⟩:=hrec
   cases ec
   generalize hfo:({ cls:=.type "function",data:=.func (PySem.W.kla_fn "<lambda>" q params body scope clos ((X.mg "__name__").getD .none) (.ref c) ctv) }:Obj)=fo
   have ff:fo.isFreed=false:=by rw [← hfo]; rfl
   have nc:H c=none:=I.hok.fresh hge
   have sz:s.heap.objs.size≤h'.objs.size:=Nat.le_trans hge (Nat.le_of_lt hlt)
   have na:H h'.objs.size=none:=I.hok.fresh sz
   have cP:c≠P:=fun z=>by rw [z,hP] at nc; cases nc
   have aP:h'.objs.size≠P:=fun z=>by rw [z,hP] at na; cases na
   have ac:h'.objs.size≠c:=Nat.ne_of_gt hlt
   have kp:∀ b o,b≠P→s.heap.get? b=some o→(h'.push fo).get? b=some o:=fun b o n e=>Heap.get?_push_of_some _ (ext b o n e)
   have nP:∀ b,H b=none→b≠P:=fun b n z=>by rw [z,hP] at n; cases n
   generalize hps:ps++#[rawInt pos.line,rawInt pos.col,.ref c]=ps' at htab
   generalize hH':upd (upd (upd H P (.tbl ps')) c (fzO oc)) h'.objs.size (fzO fo)=H'
   have atP:H' P=some (.tbl ps'):=by rw [← hH',upd_ne (Ne.symm aP),upd_ne (Ne.symm cP)]; exact upd_same
   have atc:H' c=some (fzO oc):=by rw [← hH',upd_ne (Ne.symm ac)]; exact upd_same
   have ata:H' h'.objs.size=some (fzO fo):=by rw [← hH']; exact upd_same
   have oth:∀ b,b≠P→b≠c→b≠h'.objs.size→H' b=H b:=fun b h1 h2 h3=>by rw [← hH',upd_ne h3,upd_ne h2,upd_ne h1]
   have tr:∀ b o,b≠P→H b=some o→H' b=some o:=fun b o n e=>by
    rw [oth b n (fun z=>by rw [z,nc] at e; cases e) (fun z=>by rw [z,na] at e; cases e)]; exact e
   have I1:Inv X pins σ H' { s with heap:=h'.push fo,toks:=tk }:=by
    refine I.step (g':=s.gens) (d':=s.drawn) (ch:=[]) (fun _ z=>nomatch z) (fun b o _ _ _ e n=>kp b o (nP b n) e) (fun b o _ _ _ e n=>⟨o.slots,kp b o (nP b n) e⟩) (fun b o _ e n=>?_) (fun b o _ e=>?_) (fun b xs e=>tr b _ ?_ e) (fun b o u e=>tr b _ ?_ e)
     (fun b qs e=>?_) (fun m hm=>?_) (fun b u e=>?_) I.bare
    · have lb:=Heap.lt_size e
      rw [oth b (nP b n) (Nat.ne_of_lt (Nat.lt_of_lt_of_le lb hge)) (Nat.ne_of_lt (Nat.lt_of_lt_of_le lb sz))]; exact n
    · by_cases hb:b=P
      · exact ⟨_,hb ▸ Heap.get?_push_of_some _ htab⟩
      · exact ⟨o,kp b o hb e⟩
    · intro z; rw [z,hP] at e; cases e
    · intro z; rw [z,hP] at e; cases e
    · by_cases hb:b=P
      · subst hb; rw [hP] at e; cases e
        exact ⟨_,by rw [hps]; exact atP⟩
      · exact ⟨#[],by rw [Array.append_empty]; exact tr b _ hb e⟩
    · obtain ⟨o,es,ep,ho,r⟩:=hm
      exact ⟨o,es,ep,kp _ o (nP _ I.free) ho,r⟩
    · by_cases h1:b=P
      · subst h1; rw [atP] at e; cases e
        exact Heap.get?_push_of_some _ htab
      · by_cases h2:b=c
        · subst h2; rw [atc] at e; cases e
          exact fz_ok (Heap.get?_push_of_some _ hoc)
        · by_cases h3:b=h'.objs.size
          · subst h3; rw [ata] at e; cases e
            exact fz_ok (Heap.get?_push_size h' ff)
          · rw [oth b h1 h2 h3] at e
            refine (I.hok b u e).stay (fun d v hd z=>kp d v ?_ z) (fun d z=>tr d _ ?_ z) fun d xs z=>tr d _ ?_ z
            · rcases hd with r | r
              · rw [r]; exact h1
              · intro z'; rw [z',hP] at r; cases r
            · intro z'; rw [z',hP] at z; cases z
            · intro z'; rw [z',hP] at z; cases z
   have cfc:CodeF H' c q:=⟨oc,vs,tq,atc,hdc,hqc⟩
   subst hfo
   refine ⟨.ref h'.objs.size,H',I1,rfl,k _ _ tr ⟨ps',atP,?_,fun p v e=>?_⟩ na aP ⟨c,ctv,ata,cfc⟩⟩
   · rw [← hps,Array.toList_append]
     exact TriplesOk_snoc _ _ _ _ ht
   · rw [← hps,Array.toList_append] at e
     rcases among_snoc ps.toList ht e with e' | e'
     · obtain ⟨d,e1,e2⟩:=hcs p v e'
       exact ⟨d,e1,e2.keep tr (e2.neP hP)⟩
     · exact ⟨c,e',cfc⟩
end
end L2
namespace L2
open PySem PySem.Spec PyProof.Rows
section
variable {P:Program} {w:World} {K:PySem.W.Frag} {mg:Str→Option Value} {base:Heap}
def LamOk (P:Program) (w:World) (K:PySem.W.Frag) (mg:Str→Option Value) (base:Heap) (k:Nat) (a:Addr) (sp:Hp→VK→XK→Prop):Prop :=
 ∀ (A:Around) (outer:List Env) (s:Shared) (H:Hp) (Q:VK) (E:XK),Room k A→Env0 P w K mg base A outer s H→sp H Q E→codeAny (model P w) A (.call (.ref a) ⟨[],[]⟩) (CR (CX1 P w) outer P w H s Q E) s
abbrev lamEnv (scope:Scope) (L:Addr) (clos:List (Str×Addr)) (q:Str) (a:Addr) (cd:Value):Env:=newEnv scope L mainGlobals clos (q ++ ".<locals>.") (some a) cd none builtinsNs
def cxL (P:Program) (w:World) (K:PySem.W.Frag) (mg:Str→Option Value) (base:Heap) (N:List Str) (env:Env) (A:Around) (outer:List Env) (s:Shared) (H:Hp) (E:XK):Cx where
 prog:=P
 w:=w
 K:=K
 mg:=mg
 base:=base
 A:=A.deeper env
 N:=N
 s₀:=s
 H₀:=H
 env:=env
 outer:=outer
 stack:=env :: outer
 ex:=[]
 calm:=true
 fn:=fun _=>false
 pn:=[]
 xe:=fun e s'=>wpAny (model P w) (A.deeper env) (leaving env e) (fun _ s''=>CX1 P w outer H s E e s'') (fun e' s''=>CX1 P w outer H s E e' s'') s'
theorem xeOkL {N:List Str} {scope:Scope} {L:Addr} {clos:List (Str×Addr)} {q:Str} {a:Addr} {cd:Value} {A:Around} {outer:List Env} {s:Shared} {H:Hp} {E:XK}:XeOk (cxL P w K mg base N (lamEnv scope L clos q a cd) A outer s H E) E :=
 ⟨rfl,rfl,rfl,fun _ _ h=>wpAny_mono h (fun _ _ z=>z) fun _ _ z=>z.elim⟩
theorem lam_of {q:Str} {params:Arguments} {body:Expr} {scope:Scope} {clos:List (Str×Addr)} {pm:Value} {N:List Str} {k:Nat} {a:Addr} {sp:Hp→VK→XK→Prop} (hk:scope.kind=.function) (hco:scope.isCoroutine=false) (hgen:scope.isGenerator=false)
 (hnc:∀ x∈scope.names,x.2≠.cell) (hb:∀ cd ct,bindArgs (PySem.W.kla_fn "<lambda>" q params body scope clos pm cd ct) ⟨[],[]⟩=pure []) (inj:∀ x y c,clos.lookup x=some c→clos.lookup y=some c→x=y)
 (has:∀ x,scope.names.lookup x=some .free→∃ c,clos.lookup x=some c) (hfree:∀ (i:Nat) x,N[i]? = some x→scope.names.lookup x=some .free)
 (hf:∀ H Q E,sp H Q E→LamF H a q params body scope clos pm∧∀ x c,clos.lookup x=some c→∃ o v,H c=some (fzO o)∧o.data=.cell v)
 (h:∀ (A:Around) (outer:List Env) (s:Shared) (H:Hp) (Q:VK) (E:XK) (cd:Value),Room k (A.deeper (lamEnv scope s.heap.objs.size clos q a cd))→sp H Q E →
   ∃ (σ:St) (t:TE),σ.length=N.length∧(∀ (i:Nat) x v,N[i]? = some x→σ[i]? = some (some v)→∃ c,clos.lookup x=some c∧CellF H c v)∧PE (cxL P w K mg base N (lamEnv scope s.heap.objs.size clos q a cd) A outer s H E) body t∧t σ H Q) :
 LamOk P w K mg base (k+1) a sp:=by
 intro A outer s H Q E hr e0 hs
 obtain ⟨⟨c,ct,hA,oc,vs,tq,hc,hdc,hqc⟩,hcl⟩:=hf H Q E hs
 obtain ⟨σ,t,hσ,hloc,pe,ht⟩:=h A outer s H Q E (.ref c) (hr.deeper _) hs
 have lim:s.heap.NoLimit:=e0.mod.nolimit.keeps fun b o e=>(e0.bs b o e).1
 refine PySem.W.kla_callFunE hr.depth (e0.hok a _ hA).1 rfl hco hgen rfl ⟨c,oc,vs,tq,rfl,(e0.hok c _ hc).1,hdc,hqc⟩ ?_
 rw [hb]
 refine wpAny_pure (wpAny_newFunctionEnv hnc (fun x hx=>nomatch hx) (fun h1 hn sb=>?_) hk)
 have kp:∀ b o,s.heap.get? b=some o→h1.get? b=some o:=fun b o e=>(sb.2 b (Nat.ne_of_lt (Heap.lt_size e))).trans (Heap.get?_push_of_some _ e)
 have cel:∀ {x:Str} {d:Addr},clos.lookup x=some d→∃ v,h1.IsCell d v:=fun {x d} e=>by
  obtain ⟨o,v,h1',h2⟩:=hcl x d e
  exact ⟨v,o,kp _ _ (e0.hok d _ h1').1,h2⟩
 have nil:∀ b:Addr,b∉([]:List Addr):=fun b z=>by simp at z
 have I:Inv (cxL P w K mg base N (lamEnv scope s.heap.objs.size clos q a (.ref c)) A outer s H E) [] σ H { s with heap:=h1,toks:=s.toks+([]:List (Str×Value)).length }:=by
  refine ⟨⟨e0.mod,hk,rfl,rfl,Nat.le_refl _,inj,fun x hx=>?_,fun x d z _=>(nomatch z),fun _=>hr.hd,Around.frames_deeper e0.frames,.inr ⟨rfl,rfl⟩,fun b z=>absurd z (nil b),e0.bs,e0.bsz,fun b _ _=>nil b,fun b z=>absurd z (nil b),e0.funs,e0.frf⟩,
   rfl,e0.bare,Un.kept kp,⟨_,hn,fun i x v e1 e2 _=>?_⟩,fun x d e=>cel e,e0.hok.fresh (Nat.le_refl _),fun x d e=>?_,fun p hp=>absurd (show p∈([]:List (Addr×Obj)) from hp) (by simp),e0.hok.kept kp,hσ⟩
  · rcases hx with z | z
    · exact absurd rfl (hnc _ (PySem.mem_of_lookup (show scope.names.lookup x=some .cell from z)))
    · exact has x z
  · obtain ⟨d,e3,o,u,e4,e5,r⟩:=hloc i x v e1 e2
    exact ⟨u,r,.inr ⟨.inr (hfree i x e1),d,e3,o,kp _ _ (e0.hok d _ e4).1,e5⟩⟩
  · obtain ⟨o,v,e1,_⟩:=hcl x d e
    exact .inr ⟨rfl,o,_,e1⟩
 refine ⟨lim.keeps kp,PySem.W.kla_codeExpr ?_⟩
 refine wpAny_mono (pe [] _ σ H _ I ht) (fun u s' hq=>?_) fun e s' hq=>hq
 obtain ⟨v,H',J,r,q'⟩:=hq
 exact ⟨v,H',J.os,J.bare,J.base,J.hok,r,q'⟩
end
section
variable {X:Cx}
theorem pe_callL {i k j:Nat} {x:Str} {E:XK} {p pos:Pos} (P:Program) (w:World) (K:PySem.W.Frag) (mg:Str→Option Value) (base:Heap) (hp:X.prog=P∧X.w=w∧X.K=K∧X.mg=mg∧X.base=base) (hN:X.N[i]? = some x) (hv:Vis X.env.scope x) (hx:Passes (CX1 X.prog X.w) X E) (hr:Room j X.A) (hj:k≤j) (hd:(x == ("__debug__" : Str))=false:=by decide) (hcd:(x == ("__classdict__" : Str))=false:=by decide) :
 PE X (.Call (.Name x p) [] [] pos) (fun σ H Q=>∃ a sp o fd,σ[i]? = some (some (.ref a))∧H a=some (fzO o)∧o.data=.func fd∧LamOk P w K mg base k a sp∧sp H Q E):=by
 obtain ⟨rfl,rfl,rfl,rfl,rfl⟩:=hp
 rintro pins s σ H Q I ⟨a,sp,o,fd,ha,hA,hf,L,hs⟩
 refine wpAny_Call_Name_kw (thn (pe_var (pos:=p) hN hv hd hcd pins s σ H (fun v H1=>v=.ref a∧H1=H) I ⟨_,ha,rfl,rfl⟩) fun f s1 ⟨v,H1,I1,r,e1,e2⟩=>?_)
 subst e1 e2
 obtain rfl:f=.ref a:=r
 refine Calls.callWith_function (first:=[]) (PySem.evalArgs_none ⟨⟨(I1.hok a _ hA).1,hf⟩,?_⟩)
 refine wpAny_call (codeAny_mono (L X.A X.stack s1 H1 Q E (hr.mono hj) I1.env0 hs) fun r s' hq=>?_)
 cases r with
 | error e=>exact hx pins σ H1 s1 e s' I1 hq
 | ok fl =>
   cases fl with
   | ret u=>exact I1.after hq
   | next=>exact False.elim hq
   | brk=>exact False.elim hq
   | cont=>exact False.elim hq
end
end L2
namespace L2
open PySem PySem.Spec PyProof.Rows
structure RoomH (k:Nat) (A:Around):Prop where
 dp:A.depth+3 * k+5 < recursionLimit
 un:A.units+16 * k+200 < cLine
 gd:A.guards=some []
theorem RoomH.mono {j k:Nat} {A:Around} (r:RoomH k A) (h:j≤k):RoomH j A:=⟨by have:=r.dp; omega,by have:=r.un; omega,r.gd⟩
theorem RoomH.deeper {k:Nat} {A:Around} (r:RoomH (k+1) A) (env:Env):RoomH k (A.deeper env) :=
 ⟨by have:=r.dp; show A.depth+1+3 * k+5 < _; omega,by have:=r.un; show A.units+3+16 * k+200 < _; omega,r.gd⟩
theorem Room.marked {k:Nat} {A:Around} (r:Room k A) (e:Option Value):RoomH k (A.mark e):=⟨r.dp,r.un,r.gd⟩
structure FnOkH (P:Program) (w:World) (K:PySem.W.Frag) (mg:Str→Option Value) (base:Heap) (k:Nat) (f:Addr) (fd:FuncData) (ps:List Str) (sp:Sp):Prop where
 len:∀ vs H Q E,sp vs H Q E→vs.length=ps.length
 run:∀ (A:Around) (outer:List Env) (s:Shared) (H:Hp) (args:Args) (us:List Value) (vs:List V) (Q:VK),RoomH k A→Env0 P w K mg base A outer s H→BindsTo s fd args (ps.zip us)→Vals vs us→sp vs H Q E0 →
  codeAny (model P w) A (.call (.ref f) args) (CR CX0 outer P w H s Q E0) s
def cxH (P:Program) (w:World) (K:PySem.W.Frag) (mg:Str→Option Value) (base:Heap) (N:List Str) (qual:Str) (scope:Scope) (f:Addr) (cd:Value) (A:Around) (outer:List Env) (s:Shared) (H:Hp):Cx :=
 { cxOf CX0 P w K mg base N qual scope f cd A outer s H E0 with calm:=false,xe:=fun _ _=>False }
section
variable {P:Program} {w:World} {K:PySem.W.Frag} {mg:Str→Option Value} {base:Heap}
theorem Fun.okH {x qual:Str} {st:Stmt} {f:Addr} {fd:FuncData} {N ps:List Str} {k:Nat} {sp:Sp} (F:Fun K x qual st f fd) (S:FnScope N ps (defScope st)) (len:∀ vs H Q E,sp vs H Q E→vs.length=ps.length)
 (hbody:∀ (cdv:Value) (A:Around) (outer:List Env) (s:Shared) (H:Hp) (vs:List V) (Q:VK),RoomH k (A.deeper (envOfC qual (defScope st) s.heap.objs.size f cdv))→sp vs H Q E0 →
   ∃ t,PSs (cxH P w K mg base N qual (defScope st) f cdv A outer s H) (defBody st) t∧t { nx:=fun _ H'=>Q .non H',rt:=Q } (start N vs) H):FnOkH P w K mg base (k+1) f fd ps sp:=by
 obtain ⟨oc,od,kV,doc,pm,an,cdv,ct,osl,rfl,lk,hcd⟩:=F.ex
 refine ⟨len,fun A outer s H args us vs Q hr e0 hb r hsp=>?_⟩
 have hl:=len _ _ _ _ hsp
 have KX:K.In s.heap:=e0.mod.kin.keeps fun b o e=>(e0.bs b o e).1
 have lim:s.heap.NoLimit:=e0.mod.nolimit.keeps fun b o e=>(e0.bs b o e).1
 have hkind:∀ y∈ps.zip us,(defScope st).names.lookup y.1=some .local∨((defScope st).names.lookup y.1=some .cell∧((cellsFrom (s.heap.objs.size+1) (defScope st).names []).lookup y.1).isSome=true):=fun ⟨n,v⟩ hy=>by
  rcases S.par n (List.of_mem_zip hy).1 with q | q
  · exact .inl q
  · exact .inr ⟨q,PySem.W.cellsFrom_some _ _ _ (.inl q)⟩
 refine codeAny_call_function (by have:=hr.dp; omega) (KX _ _ lk) rfl S.co S.gen rfl (PySem.W.codeRec_of KX hcd) (hb _ _ _ _ ?_)
 refine wpAny_newFunctionEnv_cells S.kind hkind fun env he s1 x=>?_
 subst he
 refine ⟨lim.keeps x.toInCall.keep,codeAny_func ?_⟩
 obtain ⟨t,ht,hq⟩:=hbody cdv A outer s H vs Q (hr.deeper _) hsp
 have e1:Env0 P w K mg base { A with handled:=none } outer s H:=⟨e0.frames,e0.mod,e0.bs,e0.bsz,e0.funs,e0.frf,e0.hok,e0.bare⟩
 have I0:Inv (cxOf CX0 P w K mg base N qual (defScope st) f cdv { A with handled:=none } outer s H E0) [] (start N vs) H s1:=inv_start S rfl e1 hl r x
 have I:Inv (cxH P w K mg base N qual (defScope st) f cdv A outer s H) [] (start N vs) H s1 :=
  let ok:=I0.ok
  ⟨⟨ok.mod,ok.kind,ok.glob,ok.blt,ok.above,ok.inj,ok.has,ok.cab,fun z=>(nomatch z),Around.frames_deeper e0.frames,ok.stk,ok.exf,ok.bs,ok.bsz,ok.noex,ok.exfs,ok.funs,ok.frf⟩,I0.os,I0.bare,I0.base,I0.loc,I0.cell,I0.free,I0.freeC,I0.pin,I0.hok,I0.len⟩
 refine wpAny_mono (ht [] s1 (start N vs) H _ I hq) (fun fl s' hs=>?_) fun e s' hs=>hs.elim
 have fin:∀ {σ':St} {H':Hp} {v:V} {u:Value},Inv (cxH P w K mg base N qual (defScope st) f cdv A outer s H) [] σ' H' s'→RelV v u→Q v H'→CE outer P w H s Q u s' :=
  fun {σ' H' v u} J rv q=>⟨v,H',J.os,J.bare,J.base,J.hok,rv,q⟩
 cases fl with
 | ret u =>
   obtain ⟨v,σ',H',J,rv,q⟩:=hs
   exact fin J rv q
 | next =>
   obtain ⟨σ',H',J,q⟩:=hs
   exact fin (v:=V.non) (u:=Value.none) J rfl q
 | brk =>
   obtain ⟨_,_,_,q⟩:=hs
   exact False.elim q
 | cont =>
   obtain ⟨_,_,_,q⟩:=hs
   exact False.elim q
structure CalH (P:Program) (w:World) (K:PySem.W.Frag) (mg:Str→Option Value) (base:Heap) (x:Str) (k:Nat) (ps:List Str) (sp:Sp):Prop where
 ex:∃ (f:Addr) (fd:FuncData),FnOkH P w K mg base k f fd ps sp∧mg x=some (.ref f)∧PySem.W.keepIn K (.ref f)=true∧Binds K fd ps []
theorem pe_calH {X:Cx} {x:Str} {k j:Nat} {ps:List Str} {sp:Sp} {p pos:Pos} {e:Expr} {es:List Expr} {t:TA} (C:CalH X.prog X.w X.K X.mg X.base x k ps sp) (hr:RoomH j X.A) (hj:k≤j) (hg:Gl X x) (ha:PA X (e :: es) t)
 (hdb:(x == ("__debug__" : Str))=false:=by decide) (he:starEach (e :: es) X.env=(false,eval e X.env) :: starEach es X.env:=by rfl) (hpl:(backTo pos (starEach es X.env)).any (·.1)=false:=by rfl) :
 PE X (.Call (.Name x p) (e :: es) [] pos) (fun σ H Q=>t σ H fun vs H1=>sp vs H1 Q E0):=by
 obtain ⟨f,fd,F,hm,hk,hb⟩:=C.ex
 intro pins s σ H Q I h
 refine wpAny_Call_Name_kw (ld_glob I hg hm ?_ hdb)
 refine PySem.W.callWith_K (h₀:=X.base) I.ok.mod.kin hk (thn (ha pos pins s σ H _ I h) fun us s1 ⟨vs,H1,I1,r,q⟩=>⟨I1.kIn,?_⟩) he hpl
 have hl:us.length=ps.length:=by rw [← r.length]; exact F.len _ _ _ _ q
 have hb':=hb s1 us I1.kIn (by rw [List.append_nil]; exact hl)
 rw [List.append_nil] at hb'
 refine wpAny_call (codeAny_mono (F.run X.A X.stack s1 H1 ⟨us,[]⟩ us vs Q (hr.mono hj) I1.env0 hb' r q) fun r s' hq=>?_)
 cases r with
 | error e=>exact False.elim hq
 | ok fl =>
   cases fl with
   | ret u=>exact I1.after hq
   | next=>exact False.elim hq
   | brk=>exact False.elim hq
   | cont=>exact False.elim hq
end
end L2
namespace L2
open PySem PySem.Spec PyProof.Rows
section
variable {X:Cx}
theorem eqT_bl:EqT X 0 (fun _ v (b:Bool)=>v=.bl b):=by
 intro A pins σ H s v u a b x y hu I h1 h2 r1 r2
 subst h1 h2
 obtain rfl:a=.bool x:=r1
 obtain rfl:b=.bool y:=r2
 have e:(x == y)=decide (x=y):=by cases x <;> cases y <;> rfl
 exact e ▸ SeqAt.EqAt.bool_bool x y
theorem al_bl {H:Hp}:∀ (bs:List Bool),Al (fun v b=>v=V.bl b) (bs.map V.bl) bs:=fun bs=>⟨by rw [List.length_map],fun i v b e1 e2=>by
 rw [List.getElem?_map,e2] at e1
 exact (Option.some.inj e1).symm⟩
theorem mt_indexB (hu:X.A.units+1 < cLine):MtR X "list.index" (fun x xs H Q=>∃ (p:Addr) (bs:List Bool) (j:Nat),x=.ref p∧xs=[.bl true]∧H p=some (.lst (bs.map V.bl))∧bs[j]? = some true∧(∀ m,m < j→bs[m]?≠some true)∧bs.length≤1000∧Q (.int j) H):=by
 intro pins s σ H x xs v us Q I rx rv h
 obtain ⟨p,bs,j,rfl,rfl,e,h1,h2,h3,q⟩:=h
 exact mt_indexG (eqT_bl (X:=X)) (fun _ _ _ _ a b=>by rw [a] at b; exact V.bl.inj b) (by omega) pins s σ H _ _ v us Q I rx rv ⟨p,_,bs,_,true,j,rfl,rfl,e,al_bl (H:=H) bs,rfl,h1,h2,h3,q⟩
structure ExcLook (K:PySem.W.Frag) (C:Addr):Prop where
 cls:(PySem.W.clsIn K C).isSome=true
 ga:PySem.W.findIn K (.ref C) "__getattribute__" = some (some (.builtin "BaseException.__getattribute__"))
 gt:PySem.W.findIn K (.ref C) "__getattr__" = some none
 find:∀ od,PySem.W.findObj K C od "__class__" = some (.bind (.builtin "getset_descriptor.__get__") (.builtin "object.__class__"))
 mro:PySem.W.mroIn K C (.type "object")=some true
 bas:PySem.W.mroIn K C (.type "BaseException")=some true
section
variable {prog:Program} {w:World} {A:Around} {E:Value→Shared→Prop} {h:Heap} {g:Array GenState} {d:PySem.Drawn} {t:Nat} {os:OsState} {x C:Addr} {ox:Obj} {od:Option Obj} {K:PySem.W.Frag}
theorem exc_entry {tk:Tok} {Q:Fin→Shared→Prop} (X:K.In h) (I:PySem.W.InstAt h x ox C od) (Z:ExcLook K C) (hq:Q (.done (.ret (.ref C))) ⟨h,g,d,t,os⟩) :
 wpAny (model prog w) A (Builtin.«object.__getattribute__» ⟨[.ref x,.str "__class__" tk],[]⟩) Q E ⟨h,g,d,t,os⟩:=by
 have L0:=I.type (M:=model prog w)
 have L1:=PySem.W.looks_find (M:=model prog w) X I (Z.find od)
 unfold Builtin.«object.__getattribute__»
 repeat (any_goals (first | assumption | with_reducible refine L0.at ?_ | with_reducible refine L1.at ?_ | wp_step))
 refine PySem.W.class_get (s:=⟨h,g,d,t,os⟩) (ox:=ox) (od:=od) X I Z.mro ?_
 repeat (any_goals (first | assumption | wp_step))
theorem exc_check {M:Model} {nameV:Value} {Q:Unit→Shared→Prop} (X:K.In h) (I:PySem.W.InstAt h x ox C od) (Z:ExcLook K C) (hq:Q () ⟨h,g,d,t,os⟩):wpAny M A (checkBuiltinCall "BaseException.__getattribute__" ⟨[.ref x,nameV],[]⟩) Q E ⟨h,g,d,t,os⟩:=by
 have two:(builtinKind "BaseException.__getattribute__",splitId "BaseException.__getattribute__")=(some .slot,some ("BaseException","__getattribute__")):=by decide +kernel
 obtain ⟨z1,z2⟩:=Prod.mk.inj two
 have fits:=F.args_bexc_ga (.ref x) nameV
 have L0:=I.type (M:=M)
 have L1:=PySem.W.looks_mroIn (M:=M) X Z.bas
 simp only [checkBuiltinCall,z1,z2]
 refine wpAny_bind ?_
 · unfold isInstance
   repeat (first | with_reducible refine L0.at ?_ | with_reducible refine L1.at ?_ | wp_step)
   exact hq
theorem exc_class {Q:Option Value→Shared→Prop} (X:K.In h) (I:PySem.W.InstAt h x ox C od) (Z:ExcLook K C) (hq:Q (some (.ref C)) ⟨h,g,d,t+1,os⟩) :
 wpAny (model prog w) A (getAttr? (.ref x) "__class__") Q E ⟨h,g,d,t,os⟩:=by
 have L0:=I.type (M:=model prog w)
 have L1:=PySem.W.looks_findIn (M:=model prog w) X Z.ga
 have L2:=PySem.W.looks_findIn (M:=model prog w) X Z.gt
 have f3:=F.attr_ValueError.ga.bind (.ref x)
 have un:(Value.builtin "BaseException.__getattribute__" == .builtin "object.__getattribute__")=false:=by decide +kernel
 have off:(onTheHeap (.ref C) && Value.builtin "BaseException.__getattribute__" == .builtin "object.__getattribute__")=false:=by rw [un]; rfl
 unfold getAttr? getAttrBy? getAttrBy
 repeat (any_goals (first | assumption | with_reducible refine L0.at ?_ | with_reducible refine L1.at ?_ | with_reducible refine L2.at ?_ | wp_step))
 refine codeAny_call_builtin F.attr_ValueError.ga.plain F.entry_bexc_ga (exc_check X I Z (exc_entry X I Z ?_))
 repeat (any_goals (first | assumption | wp_step))
end
theorem kitx_exc {K:PySem.W.Frag} {ea C:Addr} {dx:Option Addr} (Z:ExcLook K C):PySem.W.KitX K (.ref ea) (.ref C) (fun h=>(∃ vs,FO h ea (.ref C) dx vs)∧∀ D,dx=some D→∃ o,h.get? D=some o) where
 ty:=fun M h _ ⟨⟨vs,o,e,ec,_⟩,_⟩=>ec ▸ (PySem.W.Looks.ld e).andThen .now
 it:=fun M h XK _=>by
  obtain ⟨cd,hc⟩:=Option.isSome_iff_exists.mp Z.cls
  unfold PySem.W.clsIn at hc
  split at hc
  · rename_i c' d' cd' sl' ho
    intro A' Q' E' s' k q
    unfold isType loadHead
    exact wpAny_bind (wpAny_loadPart (k _ _ (XK _ _ ho)) (wpAny_pure q))
  · cases hc
 ne:=fun h tp dd its n sl XK htp=>Bool.eq_false_iff.mpr fun q=>by
  have e:C=tp:=Value.ref.inj (beq_iff_eq.mp q)
  obtain ⟨cd,hc⟩:=Option.isSome_iff_exists.mp Z.cls
  unfold PySem.W.clsIn at hc
  split at hc
  · rename_i c' d' cd' sl' ho
    have z:=(XK _ _ ho).symm.trans (e ▸ htp)
    cases z
  · cases hc
 ca:=fun {prog w A E Q s} XK ⟨⟨vs,o,e,ec,ed,ev⟩,hD⟩ k=>by
  obtain ⟨od,I⟩:∃ od,PySem.W.InstAt s.heap ea o C od:=by
   cases dx with
   | none=>exact ⟨none,e,ec,by unfold PySem.W.notCls; rw [ev],by rw [ed]; trivial⟩
   | some D =>
     obtain ⟨oD,eD⟩:=hD D rfl
     exact ⟨some oD,e,ec,by unfold PySem.W.notCls; rw [ev],by rw [ed]; exact eD⟩
  obtain ⟨h,g,d,t,os⟩:=s
  exact exc_class XK I Z k
theorem call_isiE:CallR X (.builtin "isinstance") (fun xs H Q=>∃ (ea C:Addr) (dx:Option Addr) (d:V) (b:Bool),xs=[.ref ea,d]∧H ea=some (excA ea C dx)∧(∀ D,dx=some D→∃ o,H D=some o)∧ExcLook X.K C∧((∃ D,d=.ref D∧PySem.W.kitOne X.K (.ref C) (.ref D)=some b)∨∃ T,d=.ty T∧PySem.W.kitOne X.K (.ref C) (.type T)=some b)∧Q (.bl b) H):=by
 intro pins s σ H xs us Q I r h
 obtain ⟨ea,C,dx,d,b,rfl,hA,hD,Z,hd,q⟩:=h
 obtain ⟨u,v,rfl,r1,r2⟩:=r.two
 cases (show u=.ref ea from r1)
 have ob:=(show ObjOk X.prog X.w H s.heap ea (excA ea C dx) from I.hok ea _ hA).1
 have ob:=And.intro ob fun D e=>let ⟨o,z⟩:=hD D e; (I.hok D o z).there
 rcases hd with ⟨D,rfl,hk⟩ | ⟨T,rfl,hk⟩
 · cases (show v=.ref D from r2)
   exact PySem.W.kia_one (kitx_exc Z) I.kIn ob hk (by simp) fun tk=>⟨.bl b,H,I.tok _,rfl,q⟩
 · cases (show v=.type T from r2)
   exact PySem.W.kia_one (kitx_exc Z) I.kIn ob hk (by simp) fun tk=>⟨.bl b,H,I.tok _,rfl,q⟩
end
end L2
namespace L2
open PySem PySem.Spec PyProof.Rows
section
variable {P:Program} {w:World} {K:PySem.W.Frag} {mg:Str→Option Value} {base:Heap}
theorem Fun.okC {x qual:Str} {st:Stmt} {f:Addr} {fd:FuncData} {N ps:List Str} {k:Nat} {sp:Sp} (F:Fun K x qual st f fd) (S:FnScope N ps (defScope st)) (len:∀ vs H Q E,sp vs H Q E→vs.length=ps.length)
 (hbody:∀ (cdv:Value),fd.code=cdv→∀ (A:Around) (outer:List Env) (s:Shared) (H:Hp) (vs:List V) (Q:VK) (E:XK),Room k (A.deeper (envOfC qual (defScope st) s.heap.objs.size f cdv))→sp vs H Q E →
   ∃ t,PSs (cxOf CX0 P w K mg base N qual (defScope st) f cdv A outer s H E).nox (defBody st) t∧t { nx:=fun _ H'=>Q .non H',rt:=Q } (start N vs) H):FnOk P w K mg base CX0 (k+1) f fd ps sp:=by
 obtain ⟨oc,od,kV,doc,pm,an,cdv,ct,osl,rfl,lk,hcd⟩:=F.ex
 refine fn_of lk hcd S len fun A outer s H vs Q E hr hsp=>?_
 obtain ⟨t,h,q⟩:=hbody cdv rfl A outer s H vs Q E hr hsp
 exact ⟨t,h.nox,q⟩
end
theorem hu_ofH {A:Around} {k:Nat} (hr:RoomH k A):A.units+1 < cLine:=by have:=hr.un; omega
section
variable {X:Cx}
theorem eqT_str:EqT X 0 (fun _ v (x:Str)=>v=.str x):=by
 intro A pins σ H s v u a b x y hu I h1 h2 r1 r2
 subst h1 h2
 obtain ⟨t,rfl⟩:=r1
 obtain ⟨t',rfl⟩:=r2
 have e:(x == y)=decide (x=y):=by
  by_cases h:x=y
  · rw [h,decide_eq_true rfl]; exact beq_self_eq_true y
  · rw [decide_eq_false h]; exact beq_eq_false_iff_ne.mpr h
 exact e ▸ SeqAt.EqAt.str_str x t y t'
end
end L2
namespace L2
open PySem PySem.Spec PyProof.Rows
variable {N:Addr→Prop} {k:Nat}
mutual
theorem Dt.keepP {H H':Hp} {l:Addr} {o:HO} (h1:∀ xs,o≠.tup xs) (h2:∀ xs,o≠.lst xs) (h3:o≠.dK []) (hl:H l=some o) (s:Keep l H H'):∀ {v:V} {d:PyData},Dt N H k v d→Dt N H' k v d
 | _,_,.non=>.non
 | _,_,.bl b=>.bl b
 | _,_,.int h=>.int h
 | _,_,.str x=>.str x
 | _,_,.tup h r=>.tup (s _ _ (fun z=>by rw [z,hl] at h; exact h1 _ (Option.some.inj h)) h) (Dts.keepP h1 h2 h3 hl s r)
 | _,_,.lst h n m r=>.lst (s _ _ (fun z=>by rw [z,hl] at h; exact h2 _ (Option.some.inj h)) h) n m (Dts.keepP h1 h2 h3 hl s r)
 | _,_,.dic h=>.dic (s _ _ (fun z=>by rw [z,hl] at h; exact h3 (Option.some.inj h)) h)
theorem Dts.keepP {H H':Hp} {l:Addr} {o:HO} (h1:∀ xs,o≠.tup xs) (h2:∀ xs,o≠.lst xs) (h3:o≠.dK []) (hl:H l=some o) (s:Keep l H H'):∀ {vs:List V} {ds:List PyData},Dts N H k vs ds→Dts N H' k vs ds
 | _,_,.nil=>.nil
 | _,_,.cons r rs=>.cons (Dt.keepP h1 h2 h3 hl s r) (Dts.keepP h1 h2 h3 hl s rs)
end
theorem Dt.keepT {H H':Hp} {P:Addr} {q:Str} {v:V} {d:PyData} (t:TabF H P q) (s:KeepP P H H') (h:Dt N H k v d):Dt N H' k v d:=let ⟨_,e,_⟩:=t; h.keepP (by intro _ z; cases z) (by intro _ z; cases z) (by intro z; cases z) e s
section
variable {H H':Hp} {P c c1:Addr} {q:Str}
theorem CodeF.mv (x:CodeF H c q) (k:∀ o,H c=some (fzO o)→H' c=some (fzO o)):CodeF H' c q:=let ⟨o,vs,t,e,r⟩:=x; ⟨o,vs,t,k o e,r⟩
theorem CodeF.neC (x:CodeF H c q) {o1:Obj} {u:Option Value} (e:H c1=some (fzO o1)) (hd:o1.data=.cell u):c≠c1:=fun z=>by
 obtain ⟨o,vs,t,e',hv,_⟩:=x
 rw [z,e] at e'; cases e'; rw [hd] at hv; cases hv
theorem CodeF.neL (x:CodeF H c q) {L:Addr} {xs:List V} (e:H L=some (.lst xs)):c≠L:=fun z=>by
 obtain ⟨o,vs,t,e',_⟩:=x
 rw [z,e] at e'; cases e'
theorem TabF.mv (x:TabF H P q) (k0:∀ ps,H P=some (.tbl ps)→H' P=some (.tbl ps)) (k:∀ c,CodeF H c q→CodeF H' c q):TabF H' P q :=
 let ⟨ps,e,t,h⟩:=x
 ⟨ps,k0 _ e,t,fun p v z=>let ⟨d,e1,e2⟩:=h p v z; ⟨d,e1,k _ e2⟩⟩
theorem TabF.same (x:TabF H P q) (s:Same H H'):TabF H' P q:=x.mv (fun _ e=>s _ _ e) fun _ c=>c.mv fun _ e=>s _ _ e
theorem TabF.keepL (x:TabF H P q) {L:Addr} {xs:List V} (e:H L=some (.lst xs)) (s:Keep L H H'):TabF H' P q :=
 x.mv (fun _ z=>s _ _ (fun w=>by rw [w,e] at z; cases z) z) fun _ c=>c.mv fun _ z=>s _ _ (c.neL e) z
theorem TabF.del (x:TabF H P q) {o1:Obj} {u:Option Value} (e:H c1=some (fzO o1)) (hd:o1.data=.cell u):TabF (del H c1) P q :=
 x.mv (fun _ z=>by rw [del_ne fun w=>by rw [w,e] at z; cases z]; exact z) fun _ c=>c.mv fun _ z=>by rw [del_ne (c.neC e hd)]; exact z
variable {a:Addr} {params:Arguments} {body:Expr} {scope:Scope} {clos:List (Str×Addr)} {pm:Value}
end
variable {N:Addr→Prop} {k:Nat}
def Gv (P1 P2:Addr) (H H':Hp):Prop:=∀ b o,b≠P1→b≠P2→H b=some o→H' b=some o
section
variable {P1 P2:Addr} {H H1 H2:Hp} {q:Str}
theorem Gv.trans (a:Gv P1 P2 H H1) (b:Gv P1 P2 H1 H2):Gv P1 P2 H H2:=fun c o n m e=>b c o n m (a c o n m e)
theorem Same.gv (s:Same H H1):Gv P1 P2 H H1:=fun b o _ _ e=>s b o e
theorem TabF.gvP {P P':Addr} (t:TabF H P q) {q':Str} (t':TabF H P' q') (n:P≠P') (s:KeepP P' H H1):TabF H1 P q:=by
 obtain ⟨ps,e',_⟩:=t'
 exact t.mv (fun _ e=>s _ _ n e) fun _ c=>c.mv fun _ e=>s _ _ (fun z=>by rw [z,e'] at e; cases e) e
end
theorem sqL_gv {K:PySem.W.Frag} {P1 P2 a:Addr} {H H':Hp} {xs:List V} {q1 q2:Str} (h:SqL K H a xs) (g:Gv P1 P2 H H') (t1:TabF H P1 q1) (t2:TabF H P2 q2):SqL K H' a xs:=by
 obtain ⟨p1,e1,_⟩:=t1
 obtain ⟨p2,e2,_⟩:=t2
 rcases h with (h | ⟨o,h⟩) | h
 · exact .inl (.inl (g _ _ (fun z=>by rw [z,e1] at h; cases h) (fun z=>by rw [z,e2] at h; cases h) h))
 · exact .inl (.inr ⟨o,g _ _ (fun z=>by rw [z,e1] at h; cases h) (fun z=>by rw [z,e2] at h; cases h) h⟩)
 · exact .inr h
end L2
namespace L2
open PySem PySem.Spec PyProof.Rows
theorem tabF_nil {H:Hp} {P:Addr} {q:Str} (e:H P=some (.tbl #[])):TabF H P q:=⟨#[],e,by first | trivial | exact .nil | simp [TriplesOk],fun p v z=>by have z':codeAmong p []=some v:=z; first | (cases z'; done) | simp [codeAmong] at z'⟩
theorem law_callT {P:Program} {w:World} {K:PySem.W.Frag} {mg mb:Str→Option Value} {k:Nat} {fa a:Addr} {fd:FuncData} {x:Str} {sp:Sp} {s₁:Shared} {vs:List Value} {ns:List Int} {c1 c2 P1 P2:Addr}
 (KX:K.In s₁.heap) (hns:s₁.heap.Ns mainGlobals mg) (hb:s₁.heap.Ns builtinsNs mb) (hbb:∀ x:Str,x ≠ "__name__" → mb x=bootBuiltins x) (hlim:s₁.heap.NoLimit) (hsr:s₁.heap.NoSeer) (hdg:s₁.heap.NoDigits) (hg:s₁.gens=#[])
 (ha:s₁.heap.get? a=some { cls:=.type "list",data:=.seq vs.toArray }) (hi:IntsAre vs ns) (hl:ns.length≤sizeLine) (hr:Room k callerA)
 (C1:PySem.W.CodeHd s₁.heap c1 P1) (C2:PySem.W.CodeHd s₁.heap c2 P2) (T1:s₁.heap.get? P1=some (PySem.W.tabObj #[])) (T2:s₁.heap.get? P2=some (PySem.W.tabObj #[])) (k1:K.lookup P1=none) (k2:K.lookup P2=none)
 (F:∀ base:Heap,K.In base→base.Ns mainGlobals mg→FnOk P w K mg base CX0 k fa fd [x] sp) (hbind:∀ (s:Shared) (u:Value),BindsTo s fd ⟨[u],[]⟩ [(x,u)])
 (hsp:∀ H:Hp,SqL K H a (ns.map V.int)→H P1=some (.tbl #[])→H P2=some (.tbl #[])→sp [.ref a] H (fun v _=>v=.bl true) fun _ _ _=>False) :
 codeAny (model P w) callerA (.call (.ref fa) ⟨[.ref a],[]⟩) (fun r s'=>r=.ok (.ret (.bool true))∧OldK s₁.heap s'.heap∧s'.os=s₁.os∧AllBare s'.gens) s₁:=by
 have rv:=vals_ints hi
 have lenV:=hi.length
 have a1:a≠P1:=fun z=>by rw [z,T1] at ha; cases ha
 have a2:a≠P2:=fun z=>by rw [z,T2] at ha; cases ha
 have core:∀ H:Hp,SqL K H a (ns.map V.int)→HOk P w H s₁.heap→(∀ b u,H b=some u→(b=a∧(∃ o xs,u=.frz o (.lst xs))∧K.lookup a=none)∨((b=P1∨b=P2)∧u=.tbl #[]))→H P1=some (.tbl #[])→H P2=some (.tbl #[]) →
  codeAny (model P w) callerA (.call (.ref fa) ⟨[.ref a],[]⟩) (fun r s'=>r=.ok (.ret (.bool true))∧OldK s₁.heap s'.heap∧s'.os=s₁.os∧AllBare s'.gens) s₁:=by
  intro H hS hok hA h1 h2
  have base_of:∀ {b:Addr} {o:Obj},s₁.heap.get? b=some o→H b=none→(hidT s₁.heap H).get? b=some o:=fun e n=>hidT_get e n
  have noA:∀ {b:Addr} {o:Obj} {es:Array DictEntry} {ep:Nat},s₁.heap.get? b=some o→o.data=.dict es ep→H b=none:=fun {b o es ep} e d=>by
   cases q:H b with
   | none=>rfl
   | some u =>
     rcases hA b u q with ⟨rfl,_⟩ | ⟨rfl | rfl,_⟩
     · rw [ha] at e; cases e; cases d
     · rw [T1] at e; cases e; cases d
     · rw [T2] at e; cases e; cases d
  have nsK:∀ {b:Addr} {m:Str→Option Value},s₁.heap.Ns b m→(hidT s₁.heap H).Ns b m:=fun {b m} ⟨o,es,ep,e,d,r⟩=>⟨o,es,ep,base_of e (noA e d),d,r⟩
  have hKb:K.In (hidT s₁.heap H):=fun b o e=>base_of (KX b o e) (by
   cases q:H b with
   | none=>rfl
   | some u =>
     rcases hA b u q with ⟨rfl,_,z⟩ | ⟨rfl | rfl,_⟩
     · rw [z] at e; cases e
     · rw [k1] at e; cases e
     · rw [k2] at e; cases e)
  have sK:(hidT s₁.heap H).NoSeer:=⟨let ⟨mc,a,b⟩:=hsr.statics; ⟨mc,nsK a,b⟩,let ⟨mc,a,b⟩:=hsr.mods; ⟨mc,nsK a,b⟩,let ⟨mb,a,b⟩:=hsr.imp; ⟨mb,nsK a,b⟩,let ⟨mg',bm,ob,a,b,c,d,e⟩:=hsr.main; ⟨mg',bm,ob,nsK a,b,base_of c (by
   cases q:H bm with
   | none=>rfl
   | some u =>
     rcases hA bm u q with ⟨rfl,_⟩ | ⟨rfl | rfl,_⟩
     · rw [ha] at c; cases c; exact absurd d (by simp)
     · rw [T1] at c; cases c; exact absurd d (by simp [PySem.W.tabObj])
     · rw [T2] at c; cases c; exact absurd d (by simp [PySem.W.tabObj])),d,e⟩⟩
  have hM:Mod K mg (hidT s₁.heap H):=⟨hKb,nsK hns,⟨mb,nsK hb,hbb⟩,(let ⟨mc,h1,h2⟩:=hlim; ⟨mc,nsK h1,h2⟩),sK,(let ⟨mc,h1,h2⟩:=hdg; ⟨mc,nsK h1,h2⟩)⟩
  have e0:Env0 P w K mg (hidT s₁.heap H) callerA [] s₁ H:=⟨rfl,hM,fun b o e=>of_hidT e,Nat.le_of_eq (hidT_size _ _),trivial,fun b hb=>absurd (show b∈([]:List Addr) from hb) (by simp),hok,.of_eq hg⟩
  refine codeAny_mono ((F _ hKb (nsK hns)).run callerA [] s₁ H ⟨[.ref a],[]⟩ [.ref a] [.ref a] _ _ hr e0 (hbind s₁ (.ref a)) (.cons rfl .nil) (hsp H hS h1 h2)) fun r s' h=>?_
  cases r with
  | error e=>exact False.elim h
  | ok fl =>
    cases fl with
    | next=>exact False.elim h
    | brk=>exact False.elim h
    | cont=>exact False.elim h
    | ret u =>
      obtain ⟨v,H',os,bare,un,hok',r',q⟩:=h
      have q':v=.bl true:=q
      subst q'
      obtain rfl:u=Value.bool true:=r'
      have tb:∀ (c b:Addr) (o:Obj),PySem.W.CodeHd s₁.heap c b→s₁.heap.get? b=some (PySem.W.tabObj #[])→H b=some (.tbl #[])→s₁.heap.get? b=some o→asItWas s₁.heap s'.heap b o∧∃ o',s'.heap.get? b=some o':=fun c b o hc ht hb e=>by
       obtain ⟨more,e'⟩:=un.tbls b _ hb
       have z:s'.heap.get? b=some { cls:=.none,data:=.fields (#[]++more) }:=hok' b _ e'
       rw [ht] at e
       cases e
       exact ⟨.inr (.inl ⟨(hc.tab ht).isCodeTable,rfl,#[],more,rfl,z⟩),_,z⟩
      have all:∀ b o,s₁.heap.get? b=some o→asItWas s₁.heap s'.heap b o∧∃ o',s'.heap.get? b=some o':=fun b o e=>by
       cases q:H b with
       | none =>
         have z:=un.keep b o e q (by intro z; exact absurd (show b∈([]:List Addr) from z) (by simp)) (by simp)
         exact ⟨.inl z,_,z⟩
       | some u =>
         rcases hA b u q with ⟨rfl,⟨ob,xs,rfl⟩,_⟩ | ⟨rfl | rfl,rfl⟩
         · have z2:=un.frzs _ ob _ q
           obtain ⟨e1,_⟩:=hok _ _ q
           obtain ⟨e2,_⟩:=hok' _ _ z2
           rw [e] at e1; cases e1
           exact ⟨.inl e2,_,e2⟩
         · exact tb c1 _ _ C1 T1 h1 e
         · exact tb c2 _ _ C2 T2 h2 e
      exact ⟨rfl,⟨fun b o e=>(all b o e).1,fun b o e=>(all b o e).2⟩,os,bare⟩
 have kT:∀ (H:Hp) b,s₁.heap.get? b=some (PySem.W.tabObj #[])→ObjOk P w H s₁.heap b (.tbl #[]):=fun H b e=>e
 cases hk:K.lookup a with
 | some o =>
   have e:=KX a o hk
   rw [ha] at e
   cases e
   refine core (fun b=>if b=P1∨b=P2 then some (.tbl #[]) else none) (.inr ⟨_,vs.toArray,_,hk,rfl,rfl,rfl,by rw [List.size_toArray,lenV]; exact hl,by simpa using rv⟩) (fun b u z=>?_) (fun b u z=>?_) (if_pos (.inl rfl)) (if_pos (.inr rfl))
   · by_cases hb:b=P1∨b=P2
     · have z':=(if_pos hb).symm.trans z
       cases z'
       rcases hb with rfl | rfl
       · exact T1
       · exact T2
     · have z':=(if_neg hb).symm.trans z
       cases z'
   · by_cases hb:b=P1∨b=P2
     · have z':=(if_pos hb).symm.trans z
       cases z'
       exact .inr ⟨hb,rfl⟩
     · have z':=(if_neg hb).symm.trans z
       cases z'
 | none =>
   refine core (fun b=>if b=a then some (.frz { cls:=.type "list",data:=.seq vs.toArray } (.lst (ns.map V.int))) else if b=P1∨b=P2 then some (.tbl #[]) else none) (.inl (.inr ⟨{ cls:=.type "list",data:=.seq vs.toArray },if_pos rfl⟩)) (fun b u z=>?_) (fun b u z=>?_) ((if_neg (Ne.symm a1)).trans (if_pos (.inl rfl))) ((if_neg (Ne.symm a2)).trans (if_pos (.inr rfl)))
   · by_cases ha':b=a
     · have z':=(if_pos ha').symm.trans z
       cases z'
       subst ha'
       exact ⟨ha,by rw [List.length_map]; exact hl,vs,_,rv,ha⟩
     · have z:=(if_neg ha').symm.trans z
       by_cases hb:b=P1∨b=P2
       · have z':=(if_pos hb).symm.trans z
         cases z'
         rcases hb with rfl | rfl
         · exact T1
         · exact T2
       · have z':=(if_neg hb).symm.trans z
         cases z'
   · by_cases ha':b=a
     · have z':=(if_pos ha').symm.trans z
       cases z'
       exact .inl ⟨ha',⟨_,_,rfl⟩,hk⟩
     · have z:=(if_neg ha').symm.trans z
       by_cases hb:b=P1∨b=P2
       · have z':=(if_pos hb).symm.trans z
         cases z'
         exact .inr ⟨hb,rfl⟩
       · have z':=(if_neg hb).symm.trans z
         cases z'
theorem walk_ofT {l:PySem.W.OpenLaw} {n k:Nat} {q:Program} {loose:List Str} {XP:(Str→Option Value)→Heap→Prop} {YP:World→Heap→Prop} {d:DefRec} {K:Params→PySem.W.Frag} {sp:World→Sp} {x:Str} {c1 c2 P1 P2:Addr}
 (hn:l.most=some n) (hn2:n≤sizeLine) (hdf:d.params.defaults=[]) (hr:Room k callerA)
 (hY:∀ (w:World) (h:Heap),YP w h→(K w.params).In h∧h.get? P1=some (PySem.W.tabObj #[])∧h.get? P2=some (PySem.W.tabObj #[]))
 (hc:∀ P,PySem.W.codeHdIn (K P) c1 P1=true∧PySem.W.codeHdIn (K P) c2 P2=true∧(K P).lookup P1=none∧(K P).lookup P2=none)
 (F:∀ (w:World) (mg:Str→Option Value) (fa:Addr) (h:Heap),(K w.params).In h→h.Ns mainGlobals mg→mg d.name=some (.ref fa) →
   ∃ fd:FuncData,(∀ (s:Shared) (u:Value),BindsTo s fd ⟨[u],[]⟩ [(x,u)]) ∧
     ∀ base:Heap,(K w.params).In base→base.Ns mainGlobals mg→FnOk l.prog w (K w.params) mg base CX0 k fa fd [x] (sp w))
 (hsp:∀ (w:World) (H:Hp) (a:Addr) (ns:List Int),ns.length≤n→SqL (K w.params) H a (ns.map V.int)→H P1=some (.tbl #[])→H P2=some (.tbl #[])→sp w [.ref a] H (fun v _=>v=.bl true) fun _ _ _=>False) (him:importsNone q=true:=by decide +kernel) :
 PySem.W.WalkO q loose XP YP l.row.toRowW d [] (fun f vs=>PySem.call f vs):=by
 refine Att.attach_call hn hdf fun w s₀ s₁ mg mb fa o pm cd doc a vs ns G Y ho hd hcd hmg hobj hints hlen hg=>?_
 obtain ⟨KX,T1,T2⟩:=hY w _ Y
 obtain ⟨q1,q2,q3,q4⟩:=hc w.params
 obtain ⟨fd,hb,hF⟩:=F w mg fa _ KX G.T.g hmg
 exact law_callT KX G.T.g G.T.b G.T.builtins G.T.nolimit (G.T.seer him) G.T.nodigits hg hobj hints (Nat.le_trans hlen hn2) hr (PySem.W.codeHd_of_K KX q1) (PySem.W.codeHd_of_K KX q2) T1 T2 q3 q4 hF hb (fun H hS=>hsp w H a ns hlen hS)
end L2
namespace PySem
open Sem (wp)
section
variable {prog:Program} {w:World} {A:Around} {E:Value→Shared→Prop} {h:Heap} {g:Array GenState} {d:Drawn} {t:Nat} {os:OsState}
variable {nm q:Str} {C N:Addr} {bs bm bmB:List Value} {hdct:Bool} {sn:List Str} {sub:List Value} {ab:Bool} {col:Option Bool} {dd:Option Addr} {k0 k1 k2 k3 k5:Option Value} {B newId initId:String}
theorem tc_exc_initT (F:ExcBaseFacts B newId initId bmB) (T:OwnTail h bmB bm) {mN:Str→Option Value} {rest:List Value} {fI:Addr} {oI:Obj} {Q:Fin→Shared→Prop}
 (hC:h.get? C=some (excClassObj nm q C N bs bm hdct sn sub ab col dd k0 k1 k2 k3 k5 newId)) (hn:h.Ns N mN) (hi:mN "__init__" = some (.ref fI))
 (hfI:h.get? fI=some oI) (hfc:oI.cls=.type "function")
 (hq:∀ h' e,Heap.MadeExcOf h h' e (.ref C) rest →
   wpAny (model prog w) A (call (.ref fI) (.ref e :: rest)) (fun r s'=>r=.none∧Q (.done (.ret (.ref e))) s') E ⟨h',g,d,t,os⟩) (hrest:rest.length≤sizeLine:=by size_fits) :
 wpAny (model prog w) A (Builtin.«type.__call__» ⟨.ref C :: rest,[]⟩) Q E ⟨h,g,d,t,os⟩:=by
 repeat (first | with_reducible refine wpAny_loadPart_at hC ?_ | with_reducible refine wpAny_madeBy_exc hC ?_ | wp_step)
 refine codeAny_call_builtin_code (Code.quiet_builtin _ F.quiet) (wpAny_check_new_subT F T hC ?_)
 refine codeAny_exc_new_subT F T hC ?_ hrest
 show wpAny _ _ _ _ _ _
 have hC₁:=Heap.get?_push_of_some { cls:=.ref C,data:=.fields #[.ref h.objs.size,.none,.none,.none,.bool false,.none] }
  (Heap.get?_push_of_some { cls:=.type "tuple",data:=.seq rest.toArray } hC)
 have hfI₁:=Heap.get?_push_of_some { cls:=.ref C,data:=.fields #[.ref h.objs.size,.none,.none,.none,.bool false,.none] }
  (Heap.get?_push_of_some { cls:=.type "tuple",data:=.seq rest.toArray } hfI)
 have hn₁:((h.push { cls:=.type "tuple",data:=.seq rest.toArray }).push { cls:=.ref C,data:=.fields #[.ref h.objs.size,.none,.none,.none,.bool false,.none] }).Ns N mN :=
  let ⟨o,es,ep,e,r⟩:=hn; ⟨o,es,ep,Heap.get?_push_of_some _ (Heap.get?_push_of_some _ e),r⟩
 have hget:((h.push { cls:=.type "tuple",data:=.seq rest.toArray }).push
  { cls:=.ref C,data:=.fields #[.ref h.objs.size,.none,.none,.none,.bool false,.none] }).get? (h.objs.size+1)=some
  { cls:=.ref C,data:=.fields #[.ref h.objs.size,.none,.none,.none,.bool false,.none] }:=by heap_get
 have hcC:(Value.ref C :: bm).contains (.ref C)=true:=by simp
 have T₁:=T.keeps (h':=(h.push { cls:=.type "tuple",data:=.seq rest.toArray }).push { cls:=.ref C,data:=.fields #[.ref h.objs.size,.none,.none,.none,.bool false,.none] })
  fun b o e=>Heap.get?_push_of_some _ (Heap.get?_push_of_some _ e)
 unfold isInstance
 repeat (first | with_reducible refine wpAny_loadPart_at hget ?_ | (with_reducible refine wpAny_isSubtype_exc hC₁ ?_; rw [hcC]) | wp_step)
 show wpAny _ _ (typeLookup (.ref C) _) _ _ _
 refine wpAny_typeLookup_tail hC₁ hn₁ T₁ F.mroIs F.init.lookup ?_
 rw [hi]
 refine wpAny_holding (wpAny_bind ?_)
 unfold bindSpecial
 refine wpAny_bind (wpAny_typeOf (T := "function") ⟨_,hfI₁,hfc⟩ ?_)
 rw [if_pos (by decide)]
 refine wpAny_pure (wpAny_bind (wpAny_mono (hq _ (h.objs.size+1) ⟨fun b o hb=>Heap.get?_push_of_some _ (Heap.get?_push_of_some _ hb),Heap.get?_none_of_le (Nat.le_succ _),h.objs.size,hget,Heap.get?_none_of_le (Nat.le_refl _),?_⟩) (fun r s' hr=>?_) fun _ _ x=>x))
 · exact Heap.get?_push_of_some _ (Heap.get?_push_at rfl rfl)
 · obtain ⟨rfl,hQ⟩:=hr
   wp_walk
   exact hQ
theorem call_exc_initT (F:ExcBaseFacts B newId initId bmB) (T:OwnTail h bmB bm) {mN:Str→Option Value} {rest:List Value} {fI:Addr} {oI:Obj} {Q:Value→Shared→Prop}
 (hC:h.get? C=some (excClassObj nm q C N bs bm hdct sn sub ab col dd k0 k1 k2 k3 k5 newId)) (hn:h.Ns N mN) (hi:mN "__init__" = some (.ref fI))
 (hfI:h.get? fI=some oI) (hfc:oI.cls=.type "function")
 (hq:∀ h' e,Heap.MadeExcOf h h' e (.ref C) rest →
   wpAny (model prog w) (A.under (.builtin "type.__call__" ⟨.ref C :: rest,[]⟩)) (call (.ref fI) (.ref e :: rest)) (fun r s'=>r=.none∧Q (.ref e) s') E ⟨h',g,d,t,os⟩) (hrest:rest.length≤sizeLine:=by size_fits) :
 wpAny (model prog w) A (call (.ref C) rest) Q E ⟨h,g,d,t,os⟩:=by
 have f1:=tc_lookup
 have f2:=tc_bind (.ref C)
 have hT:(⟨h,g,d,t,os⟩:Shared).TypeIs (.ref C) "type" := ⟨_,hC,rfl⟩
 refine wpAny_call (codeAny_of_tree ?_)
 show wpAny _ _ (callAny (.ref C) _) _ _ _
 repeat (any_goals (first | assumption | with_reducible refine wpAny_loadPart_at hC ?_ | wp_step))
 refine ⟨rfl,?_⟩
 refine codeAny_call_builtin_at (Code.quiet_builtin _ (by decide +kernel)) entry_typeCall (wpAny_check_type_call_sub hC (tc_exc_initT (hrest:=hrest) F T hC hn hi hfI hfc fun h' e hm=>?_))
 exact hq h' e hm
end
section
variable {M:Model} {A:Around} {E:Value→Shared→Prop} {env:Env}
variable {nm q:Str} {C N:Addr} {bs bm:List Value} {hdct:Bool} {sn:List Str} {sub:List Value} {ab:Bool} {col:Option Bool} {dd:Option Addr} {k0 k1 k2 k3 k5:Option Value} {newId:String}
theorem raise_madeX {s:Shared} {x:Sem Value} {Q:Flow→Shared→Prop} (hbase:bm.contains (.type "BaseException")=true) (hh:A.handled=none)
 (h:wpAny M A x (fun v s₁=>∃ e oe,v=.ref e∧s₁.heap.get? C=some (excClassObj nm q C N bs bm hdct sn sub ab col dd k0 k1 k2 k3 k5 newId) ∧
   s₁.heap.get? e=some oe∧oe.cls=.ref C∧(∃ vs,oe.data=.fields vs∧vs[1]? = some .none)∧E (.ref e) s₁) E s) :
 wpAny M A (raiseStmt env (some x) none) Q E s:=by
 have hcB:(Value.ref C :: bm).contains (.type "BaseException")=true:=by rw [List.contains_cons,hbase,Bool.or_true]
 unfold raiseStmt
 refine wpAny_bind (wpAny_mono h (fun v s₁ h₁=>?_) fun _ _ x=>x)
 obtain ⟨e,⟨oc,od,dt,sl⟩,rfl,hC,he,hcl,⟨vs,hvs,hv1⟩,hE⟩:=h₁
 dsimp only at hcl hvs
 subst hcl hvs
 obtain ⟨hp,g,d,tk,os⟩:=s₁
 repeat (first | with_reducible refine wpAny_loadPart_at he ?_ | with_reducible refine wpAny_loadPart_at hC ?_ | (with_reducible refine wpAny_isSubtype_exc hC ?_; rw [hcB]) | wp_step)
 rw [hv1]
 refine wpAny_pure ?_
 rw [if_neg (by decide)]
 exact wpAny_pure (wpAny_raiseNew_none hh hE)
end
section
variable {prog:Program} {w:World} {A:Around} {E:Value→Shared→Prop} {s:Shared} {env:Env}
variable {nm q:Str} {C N:Addr} {bs bm bmB:List Value} {hdct:Bool} {sn:List Str} {sub:List Value} {ab:Bool} {col:Option Bool} {dd:Option Addr} {k0 k1 k2 k3 k5:Option Value} {B newId initId:String}
theorem Raise_call_initT (F:ExcBaseFacts B newId initId bmB) {mN:Str→Option Value} {x:Str} {np cpos pos:Pos} {args:List Expr} {Q:Flow→Shared→Prop} {fI:Addr} {oI:Obj}
 (hbase:bm.contains (.type "BaseException")=true) (hh:A.handled=none) (hplain:(backTo cpos (starEach args env)).any (·.1)=false) (hi:mN "__init__" = some (.ref fI)) (hfc:oI.cls=.type "function")
 (h:wpAny (model prog w) A (eval (.Name x np) env) (fun f s₁=>f=.ref C∧wpAny (model prog w) A (evalArgs (.ref C) true (backTo cpos (starEach args env)) [])
   (fun a s₂=>a.kw=[]∧a.pos.length≤sizeLine∧s₂.heap.get? C=some (excClassObj nm q C N bs bm hdct sn sub ab col dd k0 k1 k2 k3 k5 newId)∧s₂.heap.Ns N mN∧OwnTail s₂.heap bmB bm∧s₂.heap.get? fI=some oI ∧
     ∀ h' e,Heap.MadeExcOf s₂.heap h' e (.ref C) a.pos→wpAny (model prog w) (A.under (.builtin "type.__call__" ⟨.ref C :: a.pos,[]⟩)) (call (.ref fI) (.ref e :: a.pos)) (fun r s₃=>r=.none∧(∃ oe,s₃.heap.get? e=some oe∧oe.cls=.ref C∧∃ vs,oe.data=.fields vs∧vs[1]? = some .none) ∧
       s₃.heap.get? C=some (excClassObj nm q C N bs bm hdct sn sub ab col dd k0 k1 k2 k3 k5 newId)∧E (.ref e) s₃) E { s₂ with heap:=h' }) E s₁) E s) :
 wpAny (model prog w) A (exec (.Raise (some (.Call (.Name x np) args [] cpos)) none pos) env) Q E s:=by
 rw [arm_exec_Raise]
 first
  | refine wpAny_bind (wpAny_standAt (raise_madeX (C:=C) (nm:=nm) (q:=q) (N:=N) (bs:=bs) (bm:=bm) (hdct:=hdct) (sn:=sn) (sub:=sub) (ab:=ab) (col:=col) (dd:=dd) (k0:=k0) (k1:=k1) (k2:=k2) (k3:=k3) (k5:=k5) (newId:=newId) hbase hh (wpAny_bind (wpAny_mono (wpAny_Call_ofName (wpAny_mono h (fun f s₁ h₁=>?_) fun _ _ x=>x)) (fun v s₃ h₃=>wpAny_bind (wpAny_standAt (wpAny_pure h₃))) fun _ _ x=>x))))
  | (simp only [evalOpt,Option.map]; refine wpAny_bind (wpAny_standAt (raise_madeX (C:=C) (nm:=nm) (q:=q) (N:=N) (bs:=bs) (bm:=bm) (hdct:=hdct) (sn:=sn) (sub:=sub) (ab:=ab) (col:=col) (dd:=dd) (k0:=k0) (k1:=k1) (k2:=k2) (k3:=k3) (k5:=k5) (newId:=newId) hbase hh (wpAny_bind (wpAny_mono (wpAny_Call_ofName (wpAny_mono h (fun f s₁ h₁=>?_) fun _ _ x=>x)) (fun v s₃ h₃=>wpAny_bind (wpAny_standAt (wpAny_pure h₃))) fun _ _ x=>x)))))
  | (refine wpAny_bind (wpAny_standAt (raise_madeX (C:=C) (nm:=nm) (q:=q) (N:=N) (bs:=bs) (bm:=bm) (hdct:=hdct) (sn:=sn) (sub:=sub) (ab:=ab) (col:=col) (dd:=dd) (k0:=k0) (k1:=k1) (k2:=k2) (k3:=k3) (k5:=k5) (newId:=newId) hbase hh ?_)); refine wpAny_bind (wpAny_mono (wpAny_Call_ofName (wpAny_mono h (fun f s₁ h₁=>?_) fun _ _ x=>x)) (fun v s₃ h₃=>wpAny_bind (wpAny_standAt (wpAny_pure h₃))) fun _ _ x=>x))
 obtain ⟨rfl,h₁⟩:=h₁
 unfold callWith
 refine wpAny_bind (wpAny_holding (wpAny_mono h₁ (fun a s₂ h₂=>wpAny_bind (wpAny_standAt ?_)) fun _ _ x=>x))
 obtain ⟨apos,akw⟩:=a
 obtain ⟨hkw,hlen,hC,hn,T,hfI,h₂⟩:=h₂
 obtain rfl:akw=[]:=hkw
 obtain ⟨hp,g,d,tk,os⟩:=s₂
 simp only [hplain]
 refine wpAny_bind (wpAny_keeperOf_exc hC ?_)
 refine wpAny_bind (call_exc_initT (hrest:=hlen) F T hC hn hi hfI hfc fun h' e hm=>wpAny_mono (h₂ h' e hm) (fun r s₃ h₃=>?_) fun _ _ x=>x)
 obtain ⟨rfl,⟨oe,he,hc,hv⟩,hC3,hE⟩:=h₃
 exact ⟨rfl,wpAny_bind (wpAny_holding (wpAny_point (wpAny_pure ⟨e,oe,rfl,hC3,he,hc,hv,hE⟩)))⟩
end
end PySem
namespace L2
open PySem PySem.Spec PyProof.Rows PySem.W Builtin Builtin.ObjectAttr
def veMro:List Value:=[.type "ValueError",.type "Exception",.type "BaseException",.type "object"]
def isRefV:Value→Bool
 | .ref _=>true
 | _=>false
def overOk:List Value→Bool
 | []=>false
 | x :: r=>if isRefV x then overOk r else (x :: r) == veMro
theorem refuse_ve (self:Value):refuseLoop self "__setattr__" veMro=pure ():=by kernel_rfl
theorem refuse_exc (self:Value):∀ {l:List Value},overOk l=true→refuseLoop self "__setattr__" l=pure ()
 | [],e=>by cases e
 | x :: r,e=>by
   unfold overOk at e
   split at e
   · rename_i h
     cases x with
     | ref c=>rw [refuseLoop_ref]; exact refuse_exc self e
     | _=>cases h
   · rw [beq_iff_eq.mp e]; exact refuse_ve self
theorem over_obj:∀ {l:List Value},overOk l=true→l.contains (.type "object")=true
 | [],e=>by cases e
 | x :: r,e=>by
   unfold overOk at e
   split at e
   · rw [List.contains_cons,over_obj (l:=r) e,Bool.or_true]
   · rw [beq_iff_eq.mp e]; decide +kernel
section
variable {prog:Program} {w:World} {A:Around} {E:Value→Shared→Prop} {s:Shared} {K:Frag} {x C:Addr} {ox:Obj}
def excOver (K:Frag) (C:Addr):Bool:=(clsIn K C).any fun cd=>overOk cd.mro && cd.hasDict
theorem exc_set {name:Str} {v:Value} {Q:Unit→Shared→Prop} (X:K.In s.heap) (I:InstAt s.heap x ox C none) (hf:∃ vs,ox.data=.fields vs)
 (hs:findIn K (.ref C) "__setattr__" = some (some (.builtin "object.__setattr__"))) (hp:excOver K C=true) (ht:takerIn K C name=some none)
 (h:∀ h',h'.Ns1 s.heap.objs.size (fun y=>if y=name then some v else none)→h'.get? x=some { ox with dict:=some s.heap.objs.size }→(∀ b o,b≠x→s.heap.get? b=some o→h'.get? b=some o)→Q () { s with heap:=h',toks:=s.toks+1+1 }) :
 wpAny (model prog w) A (setAttr (.ref x) name v) Q E s:=by
 refine set_plain X I hs ?_
 have SF:=PySem.F.store_object
 obtain ⟨cd,hc,ho⟩:=any_some hp
 rw [Bool.and_eq_true] at ho
 have ne:cd.mro.isEmpty=false:=by cases q:cd.mro with | nil=>rw [q] at ho; cases ho.1 | cons _ _=>rfl
 have sub:Looks (model prog w) s.heap (isInstance (.ref x) (.type "object")) true:=I.type.andThen (looks_mroIn X (by unfold mroIn; rw [hc,Option.bind_some,if_neg (by rw [ne]; decide),over_obj ho.1]))
 refine codeAny_call_builtin SF.slot.plain SF.entry (@check_slot (model prog w) _ _ { s with toks:=s.toks+1 } "object.__setattr__" "object" "__setattr__" (.ref x) [.str name s.toks,v] [] _ SF.kind SF.split sub (SF.args (.ref x) (.str name s.toks) v) ?_)
 obtain ⟨attr,ha,hr⟩:=Option.bind_eq_some_iff.mp ht
 have hm:Looks (model prog w) s.heap (mroOf (.ref C)) cd.mro:=(looks_clsIn X hc).andThen .now
 have L3:Looks (model prog w) s.heap (storeTaker? attr) none:=by
  cases attr with
  | none=>exact .now
  | some a =>
    obtain ⟨b,hb,hb2⟩:=Option.map_eq_some_iff.mp hr
    refine (looks_takesIn X hb).andThen ?_
    cases b
    · exact .now
    · cases hb2
 rw [osa_eq,refuse_eq]
 refine wpAny_bind (wpAny_bind (Looks.at (h:=s.heap) I.type (wpAny_bind (Looks.at (h:=s.heap) hm ?_))))
 rw [refuse_exc _ ho.1]
 refine wpAny_pure (wpAny_bind (Looks.at (h:=s.heap) I.type (wpAny_bind (Looks.at (h:=s.heap) (looks_findIn X ha) (wpAny_bind (Looks.at (h:=s.heap) L3 ?_))))))
 obtain ⟨hx,hcl,hn,hd⟩:=I
 obtain ⟨oc,odi,oda,osl⟩:=ox
 dsimp only at hcl hd hf
 subst hcl
 obtain ⟨vs,rfl⟩:=hf
 cases odi with
 | some dx=>exact hd.elim
 | none =>
   refine wpAny_bind (wpAny_pure (wpAny_bind (wpAny_bind (wpAny_loadPart hx (wpAny_bind (Looks.at (h:=s.heap) (looks_clsIn X hc) ?_))))))
   rw [ho.2]
   dsimp only
   rw [if_neg (by decide),if_neg (show ¬ (!true || !typeHasDict (Value.ref C))=true by rw [show typeHasDict (Value.ref C)=true from rfl]; decide)]
   have lt:=Heap.lt_size hx
   have nx:s.heap.objs.size≠x:=Nat.ne_of_gt lt
   have hx1:=Heap.get?_push_of_some (h:=s.heap) { cls:=.type "dict",data:=.dict #[] } hx
   refine wpAny_bind (wpAny_alloc (wpAny_bind (wpAny_update hx1 (wpAny_pure ?_))))
   generalize hf1:(fun o:Obj=>({ cls:=o.cls,dict:=some s.heap.objs.size,data:=o.data,slots:=o.slots }:Obj))=ff
   have hx2:((s.heap.push { cls:=.type "dict",data:=.dict #[] }).update x ff).get? x=some { cls:=.ref C,dict:=some s.heap.objs.size,data:=.fields vs,slots:=osl }:=by
    rw [Heap.get?_update_self _ hx1 (by rw [← hf1]; rfl),← hf1]
   have hD2:((s.heap.push { cls:=.type "dict",data:=.dict #[] }).update x ff).get? s.heap.objs.size=some { cls:=.type "dict",data:=.dict #[] }:=by
    rw [Heap.get?_update_other _ _ (Ne.symm nx)]; exact Heap.get?_push_size _ rfl
   have kp2:∀ b o,b≠x→s.heap.get? b=some o→((s.heap.push { cls:=.type "dict",data:=.dict #[] }).update x ff).get? b=some o:=fun b o n e=>by
    rw [Heap.get?_update_other _ _ (Ne.symm n)]; exact Heap.get?_push_of_some _ e
   generalize (s.heap.push { cls:=.type "dict",data:=.dict #[] }).update x ff=h2 at hx2 hD2 kp2 ⊢
   have N0:h2.Ns1 s.heap.objs.size fun _=>none:=Heap.Ns1.of_empty ⟨_,_,_,hD2,rfl,by intro e he; simp at he,fun n=>rfl⟩
   unfold storeInDict newKeyGuard
   refine wpAny_bind (wpAny_pure (wpAny_bind (wpAny_nsSet1 (s:={ s with heap:=h2,toks:=s.toks+1 }) N0 fun h3 N3 sb=>?_)))
   have hx3:h3.get? x=some { cls:=.ref C,dict:=some s.heap.objs.size,data:=.fields vs,slots:=osl }:=(sb.2 x (Ne.symm nx)).trans hx2
   obtain ⟨o3,es3,ep3,e3,d3,c3⟩:=N3.count (Within.cons name v Within.nil)
   refine wpAny_bind (wpAny_lookBehind (s:={ s with heap:=h3,toks:=s.toks+1+1 }) e3 ?_ (wpAny_pure ?_))
   · rw [d3]; exact pastItsLine_dict (Nat.le_trans c3 (by show 1≤sizeLine+1; rw [sizeLine_eq]; decide))
   · exact h h3 N3 hx3 fun b o n e=>(sb.2 b (Nat.ne_of_lt (Heap.lt_size e))).trans (kp2 b o n e)
theorem exc_entryV {od:Obj} {name:Str} {v:Value} {tk:Tok} {h:Heap} {g:Array GenState} {d:PySem.Drawn} {t:Nat} {os:OsState} {Q:Fin→Shared→Prop} (X:K.In h) (I:InstAt h x ox C (some od)) (hf:findObj K C (some od) name=some (.value v)) (hq:Q (.done (.ret v)) ⟨h,g,d,t,os⟩) :
 wpAny (model prog w) A (Builtin.«object.__getattribute__» ⟨[.ref x,.str name tk],[]⟩) Q E ⟨h,g,d,t,os⟩:=by
 have L0:=I.type (M:=model prog w)
 have L1:=looks_find (M:=model prog w) X I hf
 unfold Builtin.«object.__getattribute__»
 repeat (any_goals (first | assumption | with_reducible refine L0.at ?_ | with_reducible refine L1.at ?_ | wp_step))
theorem exc_get {od:Obj} {name:Str} {v:Value} {expr:Bool} {h:Heap} {g:Array GenState} {d:PySem.Drawn} {t:Nat} {os:OsState} {Q:Value→Shared→Prop} (X:K.In h) (I:InstAt h x ox C (some od)) (Z:ExcLook K C) (hf:findObj K C (some od) name=some (.value v)) (hh:handedIn v=true) (hq:Q v ⟨h,g,d,t+1,os⟩) :
 wpAny (model prog w) A (getAttr (.ref x) name expr) Q E ⟨h,g,d,t,os⟩:=by
 have L0:=I.type (M:=model prog w)
 have L1:=PySem.W.looks_findIn (M:=model prog w) X Z.ga
 have L2:=PySem.W.looks_findIn (M:=model prog w) X Z.gt
 have f3:=F.attr_ValueError.ga.bind (.ref x)
 have un:(Value.builtin "BaseException.__getattribute__" == .builtin "object.__getattribute__")=false:=by decide +kernel
 have off:(onTheHeap (.ref C) && Value.builtin "BaseException.__getattribute__" == .builtin "object.__getattribute__")=false:=by rw [un]; rfl
 have on2:(expr && onTheHeap (.builtin "BaseException.__getattribute__"))=false:=Bool.and_false _
 unfold getAttr getAttrBy
 repeat (any_goals (first | assumption | with_reducible refine L0.at ?_ | with_reducible refine L1.at ?_ | with_reducible refine L2.at ?_ | wp_step))
 refine codeAny_call_builtin F.attr_ValueError.ga.plain F.entry_bexc_ga (exc_check X I Z (exc_entryV X I hf ?_))
 show wpAny _ _ (handedOut v) _ _ _
 rw [handedOut_of hh]
 exact wpAny_pure hq
end
end L2
namespace L2
open PySem PySem.Spec PyProof.Rows
def excN (ea C:Addr) (d:Option Addr):HO:=.ext fun h=>∃ vs t,FO h ea (.ref C) d vs∧vs[0]? = some (.ref t)∧vs[1]? = some .none
theorem excN_ok {P:Program} {w:World} {H:Hp} {h:Heap} {ea C t:Addr} {d:Option Addr} {vs:Array Value} (x:FO h ea (.ref C) d vs) (h0:vs[0]? = some (.ref t)) (h1:vs[1]? = some .none):ObjOk P w H h ea (excN ea C d) :=
 ⟨⟨vs,t,x,h0,h1⟩,let ⟨o,e,_⟩:=x; ⟨o,e⟩,fun _ _ ⟨v,u,y,z⟩ k=>⟨v,u,y.keep k,z⟩⟩
theorem upd_eq {H:Hp} {a:Addr} {o:HO} (h:H a=some o):upd H a o=H:=funext fun b=>by
 by_cases z:b=a
 · rw [z,upd_same,h]
 · rw [upd_ne z]
structure XAttr (K:PySem.W.Frag) (C:Addr) (f:Str):Prop where
 st:PySem.W.findIn K (.ref C) "__setattr__" = some (some (.builtin "object.__setattr__"))
 ov:excOver K C=true
 tk:PySem.W.takerIn K C f=some none
def sXat (K:PySem.W.Frag) (ta tv:TE) (f:Str):TS:=fun D σ H=>tv σ H fun y H1=>ta σ H1 fun x H2=>∃ a C,x=.ref a∧H2 a=some (excN a C none)∧XAttr K C f∧∀ dx,H2 dx=none→dx≠a→D.nx σ (upd (upd H2 dx (.xd [(f,y)])) a (excN a C (some dx)))
section
variable {X:Cx} {o e value:Expr} {f:Str} {pos pos' tpos:Pos} {ta tv:TE}
theorem ps_xat (ha:PE X o ta) (hv:PE X value tv) (hs:swapsWith value (some (.Attribute o f pos')) pos.line X.env=pure false:=by rfl):PS X (.Assign [.Attribute o f pos'] value pos) (sXat X.K ta tv f):=by
 intro pins s σ H D I h
 refine plainObj_wpAny_Assign_Attribute (thn (hv pins s σ H _ I h) fun u s1 ⟨y,H1,I1,ry,q⟩=>thn (ha pins s1 σ H1 _ I1 q) fun ov s2 ⟨x,H2,I2,rx,a,C,ex,ea,Z,q2⟩=>?_) hs
 subst ex
 obtain rfl:ov=Value.ref a:=rx
 obtain ⟨vs,t,⟨oa,e1,ec,ed,ev⟩,v0,v1⟩:=(show ObjOk X.prog X.w H2 s2.heap a (excN a C none) from I2.hok a _ ea).1
 have II:PySem.W.InstAt s2.heap a oa C none:=⟨e1,ec,by unfold PySem.W.notCls; rw [ev],by rw [ed]; trivial⟩
 refine exc_set I2.kIn II ⟨vs,ev⟩ Z.st Z.ov Z.tk fun h' N ha' kp=>?_
 have fr:oa.isFreed=false:=Obj.isFreed_of_fields ev
 have lt:=Heap.lt_size e1
 have nx:s2.heap.objs.size≠a:=Nat.ne_of_gt lt
 have g1:(h'.update a fun _=>oa).get? a=some oa:=Heap.get?_update_self _ ha' fr
 have g2:∀ b,b≠a→(h'.update a fun _=>oa).get? b=h'.get? b:=fun b n=>Heap.get?_update_other _ _ (Ne.symm n)
 have N':(h'.update a fun _=>oa).Ns1 s2.heap.objs.size (fun y=>if y=f then some u else none):=N.at fun o e=>(g2 _ nx).trans e
 have I3:Inv X pins σ (upd H2 s2.heap.objs.size (.xd [(f,y)])) { s2 with heap:=h'.update a fun _=>oa,toks:=s2.toks }:=I2.laid (fun b u q=>by
  by_cases z:b=a
  · rw [z] at q ⊢; rw [e1] at q; cases q; exact g1
  · rw [g2 b z]; exact kp b u z q) (Nat.le_refl _) ⟨_,N',fun z=>by
    by_cases hz:z=f
    · rw [hz,if_pos rfl]
      show RelO (List.lookup f [(f,y)]) (some u)
      rw [show List.lookup f [(f,y)]=some y by simp [List.lookup]]
      exact ry
    · rw [if_neg hz]
      rw [show List.lookup z [(f,y)]=none by rw [List.lookup_cons,beq_eq_false_iff_ne.mpr hz]; rfl]
      trivial⟩
 have hn:upd H2 s2.heap.objs.size (.xd [(f,y)]) a=some (excN a C none):=by rw [upd_ne (Ne.symm nx)]; exact ea
 refine ⟨σ,_,I3.write (x:=a) (e:=a) (o:=excN a C (some s2.heap.objs.size)) (by rw [hn]; trivial) (.inl rfl) (fun b u n q=>by rw [← g2 b n]; exact q) ⟨_,ha'⟩ (excN_ok (t:=t) ⟨_,ha',ec,rfl,ev⟩ v0 v1),q2 _ (I2.hok.fresh (Nat.le_refl _)) nx⟩
end
structure PEk (K:PySem.W.Frag) (C:Addr):Prop where
 sp:PySem.W.specialIn K (.ref C) "__getattribute__" = some (some (.builtin "type.__getattribute__"))
 rd:PySem.W.readsIn K C (.type "type")=true
 fc:PySem.W.findCls K (.ref C) (.type "type") "__init__" = some (.val (.builtin "ValueError.__init__"))
def tBi (K:PySem.W.Frag) (t:TA):TE:=fun σ H Q=>t σ H fun vs H1=>∃ ea C d z,vs=[.ref ea,.str z]∧H1 ea=some (excN ea C d)∧PySem.W.mroIn K C (.type "ValueError")=some true∧Q .non H1
theorem vi_check {M:Model} {A:Around} {E:Value→Shared→Prop} {h:Heap} {g:Array GenState} {d:PySem.Drawn} {t:Nat} {os:OsState} {e C:Addr} {oe:Obj} {c0:Value} {dd:Option Addr} {cd:ClassData} {sl:Array (Option Value)} {rest:List Value} {Q:Unit→Shared→Prop}
 (hi:PySem.W.Looks M h (isSubtype (.ref C) (.type "ValueError")) true) (he:h.get? e=some oe) (hcls:oe.cls=.ref C) (hC:h.get? C=some { cls:=c0,dict:=dd,data:=.cls cd,slots:=sl }) (q:Q () ⟨h,g,d,t,os⟩) :
 wpAny M A (checkBuiltinCall "ValueError.__init__" ⟨.ref e :: rest,[]⟩) Q E ⟨h,g,d,t,os⟩:=by
 have B:=PySem.F.excBase_ValueError
 have hshort:=B.noStar
 simp only [checkBuiltinCall,B.initKind,B.initSplit,B.initRow]
 repeat (first | (with_reducible refine wpAny_loadPart_at he ?_; rw [hcls]) | with_reducible refine wpAny_loadPart_at hC ?_ | with_reducible refine hi.at ?_ | wp_step)
 refine wpAny_onRaise ?_
 rw [show ∀ (a b:String) (n:Nat),Bind.check ⟨.positional,"*","ValueError",.self,[⟨"args",.varPos,false⟩]⟩ a b n (List.map (fun x=>x.fst) ({ pos:=Value.ref e :: rest }:Args).kw)=pure () from
  fun a b n=>check_star_args _ _ _ _ _ _]
 exact wpAny_pure q
section
variable {X:Cx}
theorem pe_binit {pl:Sem Bool} {x:Str} {np apos pos:Pos} {e:Expr} {es:List Expr} {t:TA} {PEa:Addr} (hg:Gl X x) (hm:X.mg x=some (.ref PEa)) (Zp:PEk X.K PEa) (ha:PA X (e :: es) t)
 (hs:starEach (e :: es) X.env=(false,eval e X.env) :: starEach es X.env:=by rfl) (hplain:(backTo pos (starEach es X.env)).any (·.1)=false:=by rfl) (hd:(x == ("__debug__" : Str))=false:=by decide)
 (ht:eval (.Call (.Attribute (.Name x np) "__init__" apos) (e :: es) [] pos) X.env=(do
   let ov ← eval (.Name x np) X.env
   standAt apos.atName
   let (f,first) ← holding [ov] (getMethod ov "__init__" pl)
   callWith pos f first (backTo pos (starEach (e :: es) X.env)) (backToKw pos (keywordEach [] X.env))):=by rfl) :
 PE X (.Call (.Attribute (.Name x np) "__init__" apos) (e :: es) [] pos) (tBi X.K t):=by
 intro pins s σ H Q I h
 refine PySem.W.methodCall_KW (pl:=pl) (ld_glob I hg hm ?_ hd) ht
 refine PySem.W.method_cls I.kIn Zp.sp (PySem.W.cls_value I.kIn Zp.rd Zp.fc (by decide +kernel) ?_)
 have hA:=ha pos pins { s with toks:=s.toks+1 } σ H _ (I.tok _) h
 rw [hs] at hA ⊢
 refine Calls.callWith_builtin (by show (false || (backTo pos (starEach es X.env)).any (·.1))=false; rw [hplain] <;> rfl) (Calls.evalArgs_plain (thn hA fun us s2 ⟨vs,H2,I2,r2,q2⟩=>?_))
 obtain ⟨ea,C,d,z,rfl,hE,hM,q⟩:=q2
 obtain ⟨u1,u2,rfl,r3,r4⟩:=r2.two
 obtain rfl:u1=.ref ea:=r3
 obtain ⟨tk,rfl⟩:∃ tk,u2=.str z tk:=r4
 obtain ⟨vs,t0,⟨oa,e1,ec,ed,ev⟩,v0,v1⟩:=(show ObjOk X.prog X.w H2 s2.heap ea (excN ea C d) from I2.hok ea _ hE).1
 have B:=PySem.F.excBase_ValueError
 have ty:PySem.W.Looks (model X.prog X.w) s2.heap (typeOf (.ref ea)) (.ref C):=ec ▸ (PySem.W.Looks.ld e1).andThen .now
 have hM2:=PySem.W.looks_mroIn (M:=model X.prog X.w) I2.kIn hM
 obtain ⟨c0,dd,cd,sl,hC⟩:∃ c0 dd cd sl,s2.heap.get? C=some { cls:=c0,dict:=dd,data:=.cls cd,slots:=sl }:=by
  obtain ⟨cd,hc,_⟩:=Option.bind_eq_some_iff.mp hM
  unfold PySem.W.clsIn at hc
  split at hc
  · rename_i ho; exact ⟨_,_,_,_,I2.kIn _ _ ho⟩
  · cases hc
 obtain ⟨h2,g2,d2,t2,os2⟩:=s2
 refine wpAny_call (codeAny_call_builtin B.init.plain B.initEntry (vi_check hM2 e1 ec hC ?_))
 unfold Builtin.«BaseException.__init__»
 show wpAny _ _ (newTuple [.str z tk] >>= fun l=>Builtin.BaseException.bexcPut (.ref ea) 0 l >>= fun _=>ret Value.none) _ _ _
 refine wpAny_bind (wpAny_newTuple ?_ (by show 1≤sizeLine; decide))
 unfold Builtin.BaseException.bexcPut
 have e2:=Heap.get?_push_of_some (h:=h2) { cls:=.type "tuple",data:=.seq [Value.str z tk].toArray } e1
 have sz:0 < vs.size:=(Array.getElem?_eq_some_iff.mp v0).1
 refine wpAny_bind (wpAny_bind (wpAny_field e2 ev v0 (wpAny_bind (wpAny_setField e2 ev sz (wpAny_letGo (wpAny_pure ?_))))))
 have x1:FO (h2.push { cls:=.type "tuple",data:=.seq [Value.str z tk].toArray }) ea (.ref C) d vs:=⟨oa,e2,ec,ed,ev⟩
 have x2:=x1.set (·.setIfInBounds 0 (.ref h2.objs.size))
 have I3:=I2.kept (t':=t2) (h':=h2.push { cls:=.type "tuple",data:=.seq [Value.str z tk].toArray }) fun b u q=>Heap.get?_push_of_some _ q
 obtain ⟨o3,e3,r3⟩:=id x2
 have I4:=I3.write (t':=t2) (x:=ea) (e:=ea) (o:=excN ea C d) (h':=(h2.push { cls:=.type "tuple",data:=.seq [Value.str z tk].toArray }).update ea (Obj.mapFields (·.setIfInBounds 0 (.ref h2.objs.size)))) (by rw [hE]; trivial) (.inl rfl) (fun b u n q=>up_ne n q) ⟨o3,e3⟩ (excN_ok x2 (t:=h2.objs.size) (by simp [sz]) (by rw [Array.getElem?_setIfInBounds_ne (by decide)]; exact v1))
 rw [upd_eq hE] at I4
 exact ⟨.non,H2,I4,rfl,q⟩
end
end L2
namespace L2
open PySem PySem.Spec PyProof.Rows
def forget (H:Hp) (a:Addr):Hp:=fun b=>if b=a then none else H b
section
variable {X:Cx} {pins:List (Addr×Obj)} {σ:St} {H:Hp} {s:Shared}
theorem Inv.forget {a:Addr} {φ:Heap→Prop} (I:Inv X pins σ H s) (h:H a=some (.ext φ)):Inv X pins σ (L2.forget H a) s:=by
 have un:∀ b,b≠a→L2.forget H a b=H b:=fun b n=>if_neg n
 have nn:∀ b,H b=none→L2.forget H a b=none:=fun b e=>by unfold L2.forget; split <;> first | rfl | exact e
 have ne:∀ b o,H b=some o→(∀ φ,o≠.ext φ)→b≠a:=fun b o e n z=>by rw [z,h] at e; cases e; exact n _ rfl
 refine ⟨I.ok,I.os,I.bare,⟨I.base.keep,I.base.slot,fun b u e q hx=>nn b (I.base.free b u e q hx),I.base.there,fun b xs e=>?_,fun b w' u e=>?_,fun b ps e=>?_⟩,I.loc,I.cell,nn _ I.free,fun y c e=>?_,fun p hp=>?_,fun b u e=>?_,I.len⟩
 · have q:=I.base.tups b xs e; rw [un b (ne b _ q (by intro φ z; cases z))]; exact q
 · have q:=I.base.frzs b w' u e; rw [un b (ne b _ q (by intro φ z; cases z))]; exact q
 · obtain ⟨m,q⟩:=I.base.tbls b ps e; exact ⟨m,by rw [un b (ne b _ q (by intro φ z; cases z))]; exact q⟩
 · rcases I.freeC y c e with z | ⟨z1,o',u',z⟩
   · exact .inl (nn _ z)
   · exact .inr ⟨z1,o',u',by rw [un c (ne c _ z (by intro φ y; cases y))]; exact z⟩
 · obtain ⟨e,q,r⟩:=I.pin p hp
   exact ⟨e,nn _ q,r⟩
 · have hb:b≠a:=fun z=>by unfold L2.forget at e; rw [if_pos z] at e; cases e
   rw [un b hb] at e
   refine (I.hok b u e).stay (fun c v _ q=>q) (fun c q=>?_) fun c xs q=>?_
   · rw [un c (ne c _ q (by intro φ y; cases y))]; exact q
   · rw [un c (ne c _ q (by intro φ y; cases y))]; exact q
end
theorem ns_of {K:PySem.W.Frag} {h:Heap} {N:Addr} {mg:Str→Option Value} {n:Str} {v:Value} (X:K.In h) (G:h.Ns N mg) (e:PySem.W.nsIn K N n=some (some v)):mg n=some v:=by
 obtain ⟨o,es,ep,ho,hd,_,hf⟩:=G
 unfold PySem.W.nsIn at e
 split at e
 · rename_i c d es' n' sl q
   have:=X _ _ q
   rw [ho] at this
   cases this
   cases hd
   split at e
   · rename_i en he
     cases e
     rw [← hf]
     unfold nsFind findBy
     rw [← Array.find?_toList,he]
     rfl
   · split at e <;> cases e
 · cases e
def excInI (K:PySem.W.Frag) (C fI:Addr) (bmB:List Value) (newId:String):Bool:=match K.lookup C with
 | some ⟨.type "type",_,.cls cd,sl⟩=>(match cd.mro,sl.toList with
   | .ref C' :: bm,[_,_,_,_,some (.builtin n),_]=>C' == C && n == newId && !cd.hasDel && PySem.W.tailIn K bmB bm && PySem.W.nsOkIn K cd.ns && PySem.W.nsIn K cd.ns "__init__" == some (some (.ref fI))
   | _,_=>false)
 | _=>false
theorem exc_objI {K:PySem.W.Frag} {h:Heap} {C fI:Addr} {bmB:List Value} {newId:String} (X:K.In h) (q:excInI K C fI bmB newId=true) :
 ∃ (bm:List Value) (N:Addr) (nm qn:Str) (bs:List Value) (hd:Bool) (sn:List Str) (sub:List Value) (ab:Bool) (col:Option Bool) (dd:Option Addr) (k0 k1 k2 k3 k5:Option Value) (mN:Str→Option Value),
   h.get? C=some (excClassObj nm qn C N bs bm hd sn sub ab col dd k0 k1 k2 k3 k5 newId)∧h.Ns N mN∧mN "__init__" = some (.ref fI)∧OwnTail h bmB bm:=by
 unfold excInI at q
 split at q
 · rename_i dd cd sl ho
   split at q
   · rename_i C' bm k0 k1 k2 k3 n k5 hm hs
     simp only [Bool.and_eq_true,beq_iff_eq,Bool.not_eq_true'] at q
     obtain ⟨⟨⟨⟨⟨rfl,rfl⟩,hdel⟩,ht⟩,hok⟩,hni⟩:=q
     obtain ⟨nm,bs,mro,ns,qn,hd,sn,sub,ab,col,del⟩:=cd
     dsimp only at hm hdel hok hni
     subst hm hdel
     have hsl:sl=#[k0,k1,k2,k3,some (.builtin n),k5]:=by
      obtain ⟨l⟩:=sl
      simp only at hs
      rw [hs]
     subst hsl
     exact ⟨bm,ns,nm,qn,bs,hd,sn,sub,ab,col,dd,k0,k1,k2,k3,k5,_,X _ _ ho,.of_isNs (PySem.W.isNs_of_in X hok),ns_of X (.of_isNs (PySem.W.isNs_of_in X hok)) hni,PySem.W.tail_of_in X ht⟩
   · cases q
 · cases q
structure ExcKI (K:PySem.W.Frag) (C fI:Addr):Prop where
 ex:∃ (bmB:List Value) (newId initId:String),ExcBaseFacts "ValueError" newId initId bmB∧excInI K C fI bmB newId=true
 fn:∃ ob,K.lookup fI=some ob∧ob.cls=.type "function"
def ShI (y:V):Prop:=∃ i:Int,y=.int i∧i.natAbs.log2 < 1920
def sp_init (C:Addr) (f:Str):Sp:=fun vs H Q _=>∃ (ea:Addr) (y:V),vs=[.ref ea,y]∧ShI y∧H ea=some (excN ea C none)∧∀ D,H D=none→D≠ea→Q .non (upd (upd H D (.xd [(f,y)])) ea (excN ea C (some D)))
def tRaiseI (E:XK) (C:Addr) (f:Str) (t:TA):TS:=fun _ σ H=>t σ H fun vs H1=>∃ y,vs=[y]∧ShI y∧∀ D,H1 D=none→E (.ref C) (some D) (upd H1 D (.xd [(f,y)]))
section
variable {X:Cx} {E:XK}
theorem ps_raiseI {x f:Str} {k:Nat} {e:Expr} {t:TA} {np cpos pos:Pos} {C fI:Addr} {fd:FuncData} {ps:List Str} (hx:XeOk X E) (hc:X.calm=true) (hg:Gl X x) (hm:X.mg x=some (.ref C)) (Z:ExcKI X.K C fI)
 (F:FnOk X.prog X.w X.K X.mg X.base CX0 k fI fd ps (sp_init C f)) (hr:Room (k+1) X.A) (hb:Binds X.K fd ps []) (ha:PA X [e] t) (hp:(backTo cpos (starEach [e] X.env)).any (·.1)=false:=by rfl) (hs:starEach [e] X.env=(false,eval e X.env) :: starEach [] X.env:=by rfl) (hd:(x == ("__debug__" : Str))=false:=by decide) :
 PS X (.Raise (some (.Call (.Name x np) [e] [] cpos)) none pos) (tRaiseI E C f t):=by
 intro pins s σ H D I h
 obtain ⟨bmB,newId,initId,B,q⟩:=Z.ex
 obtain ⟨bm,N,nm,qn,bs,hd',sn,sub,ab,col,dd,k0,k1,k2,k3,k5,mN,hC,hN,hni,TL⟩:=exc_objI I.mod.kin q
 obtain ⟨oI,lI,cI⟩:=Z.fn
 refine Raise_call_initT (C:=C) (nm:=nm) (q:=qn) (N:=N) (bs:=bs) (bm:=bm) (bmB:=bmB) (hdct:=hd') (sn:=sn) (sub:=sub) (ab:=ab) (col:=col) (dd:=dd) (k0:=k0) (k1:=k1) (k2:=k2) (k3:=k3) (k5:=k5) (mN:=mN) B (TL.hasType B.hasBase) (I.ok.hd hc) hp hni cI (ld_glob I hg hm ⟨rfl,?_⟩ hd)
 have hA:=ha cpos pins s σ H _ I h
 rw [hs] at hA ⊢
 refine Calls.evalArgs_plain (thn hA fun us s1 ⟨vs,H1,I1,r,y,ey,hy,hw⟩=>?_)
 subst ey
 obtain ⟨u,rfl,ru⟩:=r.one
 refine ⟨rfl,by show 1≤sizeLine; decide,I1.bk _ _ hC,hN.keeps I1.bk,TL.keeps I1.bk,I1.kIn _ _ lI,fun h' ea hm'=>?_⟩
 obtain ⟨kp,nw,t',e1,_,_⟩:=hm'
 have I2:Inv X pins σ H1 { s1 with heap:=h' }:=I1.kept (t':=s1.toks) kp
 have n1:H1 ea=none:=by
  cases z:H1 ea with
  | none=>rfl
  | some u =>
    obtain ⟨o,e2⟩:=(I1.hok ea u z).there
    rw [show s1.heap.get? ea=none from nw] at e2; cases e2
 have n0:X.s₀.heap.get? ea=none:=I1.newX nw (by rw [hx.ex]; simp)
 have np':∀ p∈X.pn++pins,p.1≠ea:=fun p hp z=>by
  have q:=(I1.pin p hp).1
  rw [z,show s1.heap.get? ea=none from nw] at q; cases q
 have fo:FO h' ea (.ref C) none #[.ref t',.none,.none,.none,.bool false,.none]:=⟨_,e1,rfl,rfl,rfl⟩
 have I3:Inv X pins σ (upd H1 ea (excN ea C none)) { s1 with heap:=h' }:=I2.track (C:=C) (o:=excN ea C none) fo n1 n0 np' (excN_ok fo (t:=t') rfl rfl)
 have hsp:sp_init C f [.ref ea,y] (upd H1 ea (excN ea C none)) (fun v H2=>v=.non∧∃ D,H1 D=none∧D≠ea∧H2=upd (upd (upd H1 ea (excN ea C none)) D (.xd [(f,y)])) ea (excN ea C (some D))) E:=⟨ea,y,rfl,hy,upd_same,fun D nD ne=>⟨rfl,D,by rw [upd_ne ne] at nD; exact nD,ne,rfl⟩⟩
 have r2:Vals [V.ref ea,y] [Value.ref ea,u]:=.cons rfl (.cons ru .nil)
 have hl:([Value.ref ea,u]).length=ps.length:=by
  have e:=r2.length
  rw [F.len _ _ _ _ hsp] at e
  exact e.symm
 refine wpAny_call (codeAny_mono (F.run _ X.stack _ _ ⟨[Value.ref ea,u],[]⟩ [Value.ref ea,u] _ _ E (hr.make C [u] []) (I3.env0.make C [u] []) (hb _ [Value.ref ea,u] I3.kIn (by simpa using hl)) r2 hsp) fun r s' hq=>?_)
 cases r with
 | error e=>exact False.elim hq
 | ok fl =>
   cases fl with
   | next=>exact False.elim hq
   | brk=>exact False.elim hq
   | cont=>exact False.elim hq
   | ret u' =>
     obtain ⟨v,H',I',rv,ev,D',nD,ne,eH⟩:=I3.after hq
     subst ev eH
     cases (show u'=Value.none from rv)
     obtain ⟨vs,t2,⟨oe,e2,c2,d2,v2⟩,w0,w1⟩:=(show ObjOk X.prog X.w _ s'.heap ea (excN ea C (some D')) from I'.hok ea _ upd_same).1
     refine ⟨rfl,⟨oe,e2,c2,vs,v2,w1⟩,I'.bk _ _ hC,?_⟩
     have I5:=I'.forget (a:=ea) upd_same
     have eF:L2.forget (upd (upd (upd H1 ea (excN ea C none)) D' (.xd [(f,y)])) ea (excN ea C (some D'))) ea=upd H1 D' (.xd [(f,y)]):=funext fun b=>by
      unfold L2.forget
      by_cases z:b=ea
      · rw [if_pos z,z,upd_ne (Ne.symm ne),n1]
      · rw [if_neg z,upd_ne z]
        by_cases z2:b=D'
        · rw [z2,upd_same,upd_same]
        · rw [upd_ne z2,upd_ne z,upd_ne z2]
     rw [eF] at I5
     exact xe_first hx I5 ⟨n0,vs,⟨oe,e2,c2,d2,v2⟩,w1⟩ (by rw [upd_ne (Ne.symm ne)]; exact n1) (hw D' nD)
end
structure XGet (K:PySem.W.Frag) (C:Addr) (f:Str):Prop where
 lk:ExcLook K C
 no:PySem.W.findIn K (.ref C) f=some none
 hd:(PySem.W.clsIn K C).any (fun cd=>cd.hasDict)=true
 cp:PySem.W.copiedNames.contains f=false
def tXget (K:PySem.W.Frag) (ta:TE) (f:Str):TE:=fun σ H Q=>ta σ H fun x H1=>∃ a C D fs i,x=.ref a∧H1 a=some (excA a C (some D))∧H1 D=some (.xd fs)∧XGet K C f∧fs.lookup f=some (.int i)∧Q (.int i) H1
theorem pe_xget {X:Cx} {e:Expr} {f:Str} {pos:Pos} {ta:TE} (he:PE X e ta) (hb:attributeBase e f X.env (eval e X.env)=eval e X.env:=by rfl):PE X (.Attribute e f pos) (tXget X.K ta f):=by
 intro pins s σ H Q I h
 refine attr_of hb (thn (he pins s σ H _ I h) fun u s1 ⟨x,H1,I1,rx,a,C,D,fs,i,ex,ea,eD,Z,l,q⟩=>?_)
 subst ex
 obtain rfl:u=Value.ref a:=rx
 obtain ⟨vs,oa,e1,ec,ed,ev⟩:=(show ObjOk X.prog X.w H1 s1.heap a (excA a C (some D)) from I1.hok a _ ea).1
 obtain ⟨mA,⟨oD,es,ep,eo,hd,hk,hu,hf⟩,hr⟩:=(show ObjOk X.prog X.w H1 s1.heap D (.xd fs) from I1.hok D _ eD)
 have rf:=hr f
 rw [l] at rf
 obtain ⟨v,ev',rv⟩:∃ v,mA f=some v∧RelV (.int i) v:=by
  cases z:mA f with
  | none=>rw [z] at rf; exact rf.elim
  | some v=>rw [z] at rf; exact ⟨v,rfl,rf⟩
 obtain ⟨t,rfl⟩:∃ t,v=.int i t:=rv
 have II:PySem.W.InstAt s1.heap a oa C (some oD):=⟨e1,ec,by unfold PySem.W.notCls; rw [ev],by rw [ed]; exact eo⟩
 obtain ⟨cd,hc,hdd⟩:=PySem.W.any_some Z.hd
 have look:PySem.W.lookIn f oD=some (some (.int i t)):=by
  have z:=hf f
  rw [ev'] at z
  unfold nsFind findBy at z
  obtain ⟨en,h1,h2⟩:=Option.map_eq_some_iff.mp z
  unfold PySem.W.lookIn
  rw [hd]
  dsimp only
  rw [show es.toList.find? (fun x=>x.key.isStr f)=some en by rw [Array.find?_toList]; exact h1]
  dsimp only
  rw [h2]
 have fo:PySem.W.findObj X.K C (some oD) f=some (.value (.int i t)):=by
  unfold PySem.W.findObj PySem.W.ownOf
  rw [hc,Option.bind_some,Z.no,Option.bind_some]
  dsimp only
  rw [Option.bind_some,Option.bind_some,hdd,if_pos rfl,look]
  rfl
 obtain ⟨h',g,d,tk,os⟩:=s1
 exact exc_get I1.kIn II Z.lk fo rfl ⟨.int i,H1,I1.tok _,⟨t,rfl⟩,q⟩
end L2
namespace L2
open PySem PySem.Spec PyProof.Rows
open Builtin.Str (occurrences)
section
variable {X:Cx} {e:Expr} {es:List Expr} {t:TE} {pos:Pos}
def tFv (t:TE):TE:=fun σ H Q=>t σ H fun x H1=>(∃ i,x=.int i∧i.natAbs.log2 < 1920∧Q (.str (toString i)) H1)∨∃ z,x=.str z∧z.length≤sizeLine∧Q (.str z) H1
theorem pe_fv (h:PE X e t):PE X (.FormattedValue e (-1) none pos) (tFv t):=by
 intro pins s σ H Q I hq
 refine wpAny_FormattedValue_plain (thn (h pins s σ H _ I hq) fun v s1 ⟨x,H1,I1,r1,q1⟩=>?_)
 rcases q1 with ⟨i,rfl,hl,q⟩ | ⟨z,rfl,hz,q⟩
 · obtain ⟨t,rfl⟩:=r1
   exact wpAny_formatField_int hl ⟨.str _,H1,I1.tok _,⟨_,rfl⟩,q⟩
 · obtain ⟨t,rfl⟩:=r1
   exact wpAny_formatField_str ⟨.str _,H1,I1,⟨_,rfl⟩,q⟩ ⟨.str _,H1,I1.tok _,⟨_,rfl⟩,q⟩ hz
abbrev TJ:=St→Str→Hp→(Str→Hp→Prop)→Prop
def PJ (X:Cx) (es:List Expr) (t:TJ):Prop:=∀ (pins:List (Addr×Obj)) (s:Shared) (σ:St) (H:Hp) (acc:Str) (Q:Str→Hp→Prop) (R:Str→Shared→Prop),Inv X pins σ H s→t σ acc H Q→(∀ out s1 H1,Inv X pins σ H1 s1→Q out H1→R out s1) →
 Joins (model X.prog X.w) X.A X.xe (evalEach es X.env) acc R s
theorem pj_nil:PJ X [] (fun _ acc H Q=>Q acc H):=fun pins s σ H acc Q R I h hR=>hR _ _ _ I h
def tJcons (t:TE) (ts:TJ):TJ:=fun σ acc H Q=>t σ H fun x H1=>∃ z,x=.str z∧(acc++z).length≤sizeLine∧ts σ (acc++z) H1 Q
theorem pj_cons {ts:TJ} (h:PE X e t) (hs:PJ X es ts):PJ X (e :: es) (tJcons t ts):=by
 intro pins s σ H acc Q R I hq hR
 show wpAny _ _ (eval e X.env) _ _ _
 refine thn (h pins s σ H _ I hq) fun v s1 ⟨x,H1,I1,r1,z,ez,hz,q⟩=>?_
 subst ez
 obtain ⟨t,rfl⟩:=r1
 exact ⟨z,t,rfl,hz,hs pins s1 σ H1 _ Q R I1 q hR⟩
def tFs (ts:TJ):TE:=fun σ H Q=>ts σ Str.empty H fun out H1=>out.length≤sizeLine∧Q (.str out) H1
theorem pe_fstr {v1 v2:Expr} {ts:TJ} (h:PJ X (v1 :: v2 :: es) ts):PE X (.JoinedStr (v1 :: v2 :: es) pos) (tFs ts):=by
 intro pins s σ H Q I hq
 exact wpAny_JoinedStr (h pins s σ H _ _ _ I hq fun out s1 H1 I1 ⟨hz,q⟩=>⟨hz,.str out,H1,I1.tok _,⟨_,rfl⟩,q⟩)
theorem mt_isdigit:MtR X "str.isdigit" (fun x vs H Q=>∃ z,x=.str z∧vs=[]∧Q (.bl (Txt.isdigit z)) H):=by
 intro pins s σ H x vs v us Q I rx rv ⟨z,e1,e2,q⟩
 subst e1; subst e2
 obtain ⟨t,rfl⟩:=rx
 cases rv
 exact SC.isdigit ⟨.bl _,H,I,rfl,q⟩
theorem mt_isascii:MtR X "str.isascii" (fun x vs H Q=>∃ z,x=.str z∧vs=[]∧Q (.bl (Txt.isascii z)) H):=by
 intro pins s σ H x vs v us Q I rx rv ⟨z,e1,e2,q⟩
 subst e1; subst e2
 obtain ⟨t,rfl⟩:=rx
 cases rv
 exact SC.isascii ⟨.bl _,H,I,rfl,q⟩
theorem mt_starts:MtR X "str.startswith" (fun x vs H Q=>∃ z y,x=.str z∧vs=[.str y]∧Q (.bl (Txt.startswith z y)) H):=by
 intro pins s σ H x vs v us Q I rx rv ⟨z,y,e1,e2,q⟩
 subst e1; subst e2
 obtain ⟨t,rfl⟩:=rx
 obtain ⟨u,rfl,ru⟩:=rv.one
 obtain ⟨t',rfl⟩:=ru
 exact SC.startswith ⟨.bl _,H,I,rfl,q⟩
theorem mt_rmpre:MtR X "str.removeprefix" (fun x vs H Q=>∃ z y,x=.str z∧vs=[.str y]∧z.length≤sizeLine∧Q (.str (Txt.removeprefix z y)) H):=by
 intro pins s σ H x vs v us Q I rx rv ⟨z,y,e1,e2,hz,q⟩
 subst e1; subst e2
 obtain ⟨t,rfl⟩:=rx
 obtain ⟨u,rfl,ru⟩:=rv.one
 obtain ⟨t',rfl⟩:=ru
 exact SC.removeprefix (fun t' k=>⟨.str _,H,I.tok _,⟨_,rfl⟩,q⟩) hz
theorem vals_strs:∀ {ys:List Str} {us:List Value},Vals (ys.map V.str) us→∃ l:List (Str×Tok),us=strValues l∧l.map (·.1)=ys
 | [],_,.nil=>⟨[],rfl,rfl⟩
 | y :: ys,_,.cons r rs=>by
   obtain ⟨l,e1,e2⟩:=vals_strs rs
   obtain ⟨t,rfl⟩:=r
   exact ⟨(y,t) :: l,by rw [e1]; rfl,by rw [← e2]; rfl⟩
theorem mt_join:MtR X "str.join" (fun x vs H Q=>∃ z p ys,x=.str z∧vs=[.ref p]∧SqL X.K H p (ys.map V.str)∧JoinOk z ys=true∧Q (.str (Txt.join z ys)) H):=by
 intro pins s σ H x vs v us Q I rx rv ⟨z,p,ys,e1,e2,hp,hok,q⟩
 subst e1; subst e2
 obtain ⟨t,rfl⟩:=rx
 obtain ⟨u,rfl,ru⟩:=rv.one
 cases ru
 obtain ⟨its,r,pl,_⟩:=I.list hp
 obtain ⟨l,e1,e2⟩:=vals_strs r
 subst e1
 exact SC.join pl.isList e2 hok fun t' k=>⟨.str _,H,I.tok _,⟨_,rfl⟩,q⟩
theorem strs_vals:∀ (ys:List Str) (k:Tok),Vals (ys.map V.str) (strsFrom k ys)
 | [],_=>.nil
 | y :: ys,k=>.cons ⟨k,rfl⟩ (strs_vals ys (k+1))
def rSplit:V→List V→Hp→VK→Prop:=fun x vs H Q=>∃ z y,x=.str z∧vs=[.str y]∧(y.length == 0)=false∧z.length≤sizeLine∧(Txt.split z y).length≤sizeLine∧∀ p,H p=none→Q (.ref p) (upd H p (.lst ((Txt.split z y).map V.str)))
theorem mt_split:MtR X "str.split" rSplit:=by
 intro pins s σ H x vs v us Q I rx rv h
 obtain ⟨z,y,e1,e2,hy,hz,hn,q⟩:=h
 subst e1; subst e2
 obtain ⟨t,rfl⟩:=rx
 obtain ⟨u,rfl,ru⟩:=rv.one
 obtain ⟨t',rfl⟩:=ru
 cases h1:(decide (z.length < y.length) || decide (Builtin.Str.strKind z < Builtin.Str.strKind y)) with
 | true =>
   have e:Txt.split z y=[z]:=by unfold Txt.split; rw [if_pos h1]
   rw [e] at q
   refine call_meets PySem.F.slot_str_split (typeIs_str _ _ _) PySem.F.entry_str_split (PySem.F.args_str_split_2 _ _) (meets_str_split_cannot_occur z y t t' h1) ?_
   exact ⟨.ref _,_,I.lnew (t':=s.toks) (ys:=[.str z]) (.cons ⟨t,rfl⟩ .nil) (by show 1≤sizeLine; decide),rfl,q _ I.fresh⟩
 | false =>
   cases h2:(occurrences z y 0 z.length (z.length+1)).isEmpty with
   | true =>
     have e:Txt.split z y=[z]:=by unfold Txt.split; rw [if_neg (by rw [h1]; decide),if_pos h2]
     rw [e] at q
     refine call_meets PySem.F.slot_str_split (typeIs_str _ _ _) PySem.F.entry_str_split (PySem.F.args_str_split_2 _ _) (meets_str_split_not_found z y t t' h1 hy h2) ?_
     exact ⟨.ref _,_,I.lnew (t':=s.toks) (ys:=[.str z]) (.cons ⟨t,rfl⟩ .nil) (by show 1≤sizeLine; decide),rfl,q _ I.fresh⟩
   | false =>
     have e:Txt.split z y=Builtin.Str.partsBetween z (occurrences z y 0 z.length (z.length+1)) y.length:=by unfold Txt.split; rw [if_neg (by rw [h1]; decide),if_neg (by rw [h2]; decide)]
     rw [e] at q hn
     refine call_meets PySem.F.slot_str_split (typeIs_str _ _ _) PySem.F.entry_str_split (PySem.F.args_str_split_2 _ _) (meets_str_split_sep z y t t' h1 hy h2 hz hn) ?_
     exact ⟨.ref _,_,I.lnew (t':=_) (strs_vals _ _) (by rw [List.length_map]; exact hn),rfl,q _ I.fresh⟩
end
end L2
namespace L2
open PySem PySem.Spec PyProof.Rows
section
variable {X:Cx}
theorem isPart_of {v:Value} {o:Option Int} (p:IsPart v o):∃ l:Option (Int×Tok),v=partValue l∧l.map (·.1)=o:=by
 cases p with
 | none=>exact ⟨none,rfl,rfl⟩
 | int i t=>exact ⟨some (i,t),rfl,rfl⟩
theorem sl_str:SlR X (fun x lo hi H Q=>∃ z,x=.str z∧z.length≤sizeLine∧Q (.str (Txt.slice z lo hi)) H):=by
 intro pins s σ H x v vl vu lo hi sl Q I rx hs pl pu h
 obtain ⟨z,rfl,hz,q⟩:=h
 obtain ⟨t,rfl⟩:=rx
 obtain ⟨l,rfl,rfl⟩:=isPart_of pl
 obtain ⟨u,rfl,rfl⟩:=isPart_of pu
 refine ⟨"str",_,PySem.F.slot_str_getitem.lookup,typeIs_str _ _ _,wpAny_getItem_str_slice (l:=l) (u:=u) (st:=none) hs rfl ?_⟩
 exact post_val_or_str ⟨Nat.le_trans (Txt.slice_le z _ _) hz,fun t' k=>⟨.str _,H,I.tok _,⟨_,rfl⟩,q⟩⟩
end
end L2
namespace L2
open PySem PySem.Spec PyProof.Rows
def wd (i:Int):Str:=Str.ofString (toString i)
def dg (n:Nat):List Nat:=(Nat.toDigits 10 n).map Char.toNat
theorem wd_nat (n:Nat):(wd (n:Int)).cps.toList=dg n:=PySem.W.KIN.signs_num n
theorem wd_neg (n:Nat) (h:0 < n):(wd (-(n:Int))).cps.toList=45 :: dg n:=by
 obtain ⟨m,rfl⟩:∃ m,n=m+1:=⟨n - 1,by omega⟩
 unfold wd
 rw [signs_ofString]
 show (("-" ++ Nat.repr (m+1):String)).toList.map Char.toNat=_
 rw [String.toList_append,List.map_append,Nat.toList_repr]
 rfl
theorem dg_ok:∀ n:Nat,n≤100→dg n≠[]∧(dg n).length≤3∧(dg n).all (fun c=>decide (48≤c) && decide (c≤57))=true∧(n≠0→(dg n).head?≠some 48):=by decide +kernel
theorem dg_0:dg 0=[48]:=by decide +kernel
theorem str_eq {x y:Str} (h:x.cps.toList=y.cps.toList):x=y:=Str.ext' (Array.toList_inj.mp h)
theorem len_eq (x:Str):x.length=x.cps.toList.length:=by simp [Str.length]
theorem sw1 (x:Str) (c:Nat):Txt.startswith x ⟨#[c]⟩=decide (x.cps.toList.head? = some c):=by
 unfold Txt.startswith
 rw [StrLaws.subAt_eq,len_eq]
 show (decide (0+1≤x.cps.toList.length) && ((x.cps.toList.drop 0).take 1 == [c]))=_
 cases x.cps.toList with
 | nil=>simp
 | cons a l =>
   rw [Bool.eq_iff_iff]
   simp
theorem rp1 (x:Str) (c:Nat):Txt.removeprefix x ⟨#[c]⟩=if x.cps.toList.head? = some c then ⟨x.cps.toList.tail.toArray⟩ else x:=by
 rw [StrLaws.removeprefix_eq]
 have h:=sw1 x c
 unfold Txt.startswith at h
 rw [h]
 by_cases e:x.cps.toList.head? = some c
 · rw [decide_eq_true e,if_pos rfl,if_pos e]
   refine Str.ext' ?_
   show (((x.cps.toList.drop 1).take (x.length - 1)).toArray)=_
   rw [List.take_of_length_le (by rw [List.length_drop,len_eq]; exact Nat.le_refl _),List.drop_one]
 · rw [decide_eq_false e,if_neg (by decide),if_neg e]
theorem app_inj {c:Nat}:∀ {x y a b:List Nat},c∉x→c∉y→x++c :: a=y++c :: b→x=y∧a=b
 | [],[],_,_,_,_,h=>⟨rfl,(List.cons.inj h).2⟩
 | [],y :: ys,_,_,_,hy,h=>absurd (List.cons.inj h).1 (fun z=>hy (z ▸ List.mem_cons_self))
 | x :: xs,[],_,_,hx,_,h=>absurd (List.cons.inj h).1.symm (fun z=>hx (z ▸ List.mem_cons_self))
 | x :: xs,y :: ys,_,_,hx,hy,h=>by
   obtain ⟨e1,e2⟩:=List.cons.inj h
   obtain ⟨e3,e4⟩:=app_inj (fun z=>hx (List.mem_cons_of_mem _ z)) (fun z=>hy (List.mem_cons_of_mem _ z)) e2
   exact ⟨by rw [e1,e3],e4⟩
theorem join_cons {c:Nat} (x y:Str) (r:List Str):(Str.join ⟨#[c]⟩ (x :: y :: r)).cps.toList=x.cps.toList++c :: (Str.join ⟨#[c]⟩ (y :: r)).cps.toList:=by
 show ((x++⟨#[c]⟩++Str.join ⟨#[c]⟩ (y :: r)).cps).toList=_
 rw [Str.cps_append,Str.cps_append]
 simp
theorem join_inj {c:Nat}:∀ {xs ys:List Str},xs≠[]→ys≠[]→(∀ x∈xs,c∉x.cps.toList)→(∀ y∈ys,c∉y.cps.toList)→(Str.join ⟨#[c]⟩ xs).cps.toList=(Str.join ⟨#[c]⟩ ys).cps.toList→xs=ys
 | [],_,h,_,_,_,_=>absurd rfl h
 | _,[],_,h,_,_,_=>absurd rfl h
 | [x],[y],_,_,_,_,e=>by rw [str_eq (x:=x) (y:=y) e]
 | [x],y :: y' :: r,_,_,hx,_,e=>by
   rw [join_cons] at e
   exact absurd (show c∈x.cps.toList by rw [show x.cps.toList=_ from e]; simp) (hx x (by simp))
 | x :: x' :: r,[y],_,_,_,hy,e=>by
   rw [join_cons] at e
   exact absurd (show c∈y.cps.toList by rw [show y.cps.toList=_ from e.symm]; simp) (hy y (by simp))
 | x :: x' :: r,y :: y' :: r',_,_,hx,hy,e=>by
   rw [join_cons,join_cons] at e
   obtain ⟨e1,e2⟩:=app_inj (hx x (by simp)) (hy y (by simp)) e
   rw [str_eq e1,join_inj (xs:=x' :: r) (ys:=y' :: r') (by simp) (by simp) (fun z h=>hx z (List.mem_cons_of_mem _ h)) (fun z h=>hy z (List.mem_cons_of_mem _ h)) e2]
theorem split_ne (x:Str) (c:Nat):Txt.split x ⟨#[c]⟩≠[]:=by
 unfold Txt.split
 split
 · simp
 · split
   · simp
   · rw [StrLaws.partsBetween_eq]
     unfold StrLaws.partsFrom
     split <;> simp
theorem split_join {c:Nat} {xs:List Str} (h0:xs≠[]) (h:∀ x∈xs,c∉x.cps.toList):Txt.split (Str.join ⟨#[c]⟩ xs) ⟨#[c]⟩=xs :=
 join_inj (split_ne _ _) h0 (StrLaws.split_free _ _) h (by rw [StrLaws.join_split])
theorem s_dash:Str.ofString "-" = ⟨#[45]⟩:=by decide +kernel
theorem s_nought:Str.ofString "0" = ⟨#[48]⟩:=by decide +kernel
theorem s_sp:Str.ofString " " = ⟨#[32]⟩:=by decide +kernel
theorem join_nl_eq (sep:Str) (xs:List Str):Txt.join sep xs=Str.join sep xs:=StrLaws.glued_eq_join sep xs
end L2
namespace L2
open PySem PySem.Spec PyProof.Rows
section
variable {X:Cx} {tg:Expr}
def Its (x:Str):It:=⟨fun i _=>i < x.cps.size,fun i H v H'=>H'=H∧∃ c,x.cps[i]? = some c∧v=.str ⟨#[c]⟩,fun i _=>x.cps.size≤i⟩
theorem turn_strA {P:Program} {w:World} {K:PySem.W.Frag} {tg:Expr} (it:Addr) (x:Str) (t:Tok):Turn P w K tg (Its x) [it] it (fun i h=>h.IsStrIter it "str_ascii_iterator" x t i) where
 mem:=by simp
 obj:=fun i h st b hb=>by
  have e:b=it:=by simpa using hb
  subst e
  obtain ⟨o,ho,hc,hd⟩:=st
  exact ⟨o,ho,fun v z=>by rw [hd] at z; cases z⟩
 keep:=fun i h h' st k=>let ⟨o,ho,r⟩:=st; ⟨o,k it (by simp) o ho,r⟩
 item:=by
  intro X hP hw hK hc i pins s σ H E I hf st hg
  subst hP hw hK
  obtain ⟨f0,f1,f2,f3,f4,f5⟩:=hf it (by simp)
  have W:=Walks.strAscii (prog:=X.prog) (w:=X.w) (I.ok.hd hc) it x t
  refine W.item i s _ _ hg st fun v h' tk hv st' kk=>?_
  obtain ⟨c,u,ec,rfl⟩:=hv
  have I1:Inv X pins σ H { s with heap:=h',toks:=tk }:=I.turned (fun b o hb e=>kk b o (by simpa using hb) e) f0 f1 f3 f4 f5
  obtain ⟨o,ho,hcl,hd⟩:=id st'
  exact ⟨_,rfl,go_of (s:={ s with heap:=h',toks:=tk }) (n := "str_ascii_iterator") ho hcl hd (by decide) ⟨.str ⟨#[c]⟩,H,I1,⟨u,rfl⟩,⟨rfl,c,ec,rfl⟩,st',fun b hb=>(hf b hb).1⟩⟩
 done:=by
  intro X hP hw hK hc i pins s σ H E I hf st hg
  subst hP hw hK
  obtain ⟨f0,f1,f2,f3,f4,f5⟩:=hf it (by simp)
  refine wpAny_pyNext_ascii_end (I.ok.hd hc) st (by have:x.cps.size≤i:=hg; simp [Array.getElem?_eq_none this]) fun h' eb=>⟨rfl,I.turned (t':=s.toks) (fun b o hb e=>eb b o hb e) f0 f1 f3 f4 f5⟩
 self:=fun _ _ _ _ _ st h=>wpAny_pyIter_striter_ascii st h
def iStr (tl:TE):TI:=fun σ H R=>tl σ H fun v H1=>∃ x,v=.str x∧x.cps.all (· < 128)=true∧R (Its x) H1
theorem pi_str {l:Expr} {tl:TE} (hl:PE X l tl):PI X tg l (iStr tl):=by
 intro pins s σ H R I h
 refine thn (hl pins s σ H _ I h) fun v s1 ⟨z,H1,I1,r1,x,e,ha,q⟩=>?_
 subst e
 obtain ⟨t,rfl⟩:=r1
 refine wpAny_pyIter_ascii ha ?_
 refine ⟨s1.heap.objs.size,[s1.heap.objs.size],_,_,H1,rfl,I1.kept (t':=s1.toks) fun b o e=>Heap.get?_push_of_some _ e,turn_strA _ x t,⟨_,Heap.get?_push_size _ rfl,rfl,rfl⟩,fun b hb=>?_,q⟩
 have e:b=s1.heap.objs.size:=by simpa using hb
 subst e
 exact I1.fpOk (Nat.le_refl _) (I1.hok.fresh (Nat.le_refl _))
def Itr60 (lo:Int) (n:Nat):It:=⟨fun i _=>i < n,fun i H x H'=>H'=H∧x=.int (lo+i * 60),fun i _=>n≤i⟩
theorem turn_range60 {P:Program} {w:World} {K:PySem.W.Frag} {tg:Expr} (it:Addr) (lo:Int) (n:Nat):Turn P w K tg (Itr60 lo n) [it] it (fun i h=>IsRangeIter h it (lo+(i:Nat) * 60) ((n:Int) - (i:Nat)) 60) where
 mem:=by simp
 obj:=fun i h st b hb=>by
  have e:b=it:=by simpa using hb
  subst e
  exact ⟨_,st,fun v z=>by
   have z':Data.fields _=Data.cell v:=z
   cases z'⟩
 keep:=fun i h h' st k=>k it (by simp) _ st
 item:=by
  intro X hP hw hK hc i pins s σ H E I hf st hg
  subst hP hw hK
  obtain ⟨f0,f1,f2,f3,f4,f5⟩:=hf it (by simp)
  have W:=Walks.range (prog:=X.prog) (w:=X.w) (I.ok.hd hc) it lo 60 n
  refine W.item i s _ _ hg st fun v h' tk hv st' kk=>?_
  obtain ⟨t,rfl⟩:=hv
  have I1:Inv X pins σ H { s with heap:=h',toks:=tk }:=I.turned (fun b o hb e=>kk b o (by simpa using hb) e) f0 f1 f3 f4 f5
  exact ⟨_,rfl,go_of (s:={ s with heap:=h',toks:=tk }) (n := "range_iterator") st' rfl rfl (by decide) ⟨.int (lo+i * 60),H,I1,⟨t,rfl⟩,⟨rfl,rfl⟩,st',fun b hb=>(hf b hb).1⟩⟩
 done:=by
  intro X hP hw hK hc i pins s σ H E I hf st hg
  subst hP hw hK
  obtain ⟨f0,f1,f2,f3,f4,f5⟩:=hf it (by simp)
  exact wpAny_pyNext_range_end (I.ok.hd hc) st (by have:n≤i:=hg; omega) fun h' eb=>⟨rfl,I.turned (t':=s.toks) (fun b o hb e=>eb b o hb e) f0 f1 f3 f4 f5⟩
 self:=fun _ _ _ _ _ st h=>wpAny_pyIter_rangeiter st h
def iRng60 (ta:TA):TI:=fun σ H R=>ta σ H fun vs H1=>∃ (i:Int) (n:Nat),vs=[.int i,.int (i+n * 60),.int 60]∧0≤i∧i < 60∧n < 2 ^ 30∧R (Itr60 i n) H1
theorem pi_range60 {a b c:Expr} {ta:TA} {p pos:Pos} (hg:Gl X "range") (hm:X.mg "range" = none) (ha:PA X [a,b,c] ta) (hs:starEach [a,b,c] X.env=[(false,eval a X.env),(false,eval b X.env),(false,eval c X.env)]:=by rfl)
 (hs2:starEach [b,c] X.env=[(false,eval b X.env),(false,eval c X.env)]:=by rfl) :
 PI X tg (.Call (.Name "range" p) [a,b,c] [] pos) (iRng60 ta):=by
 intro pins s σ H R I h
 refine Call_ (ld_blt I hg hm boot_range (PyProof.Rows.callWith_type1 (thn (ha pos pins s σ H _ I h) fun us s1 ⟨vs,H1,I1,r1,q1⟩=>?_) (by rw [hs,hs2]) (by rw [hs2]; rfl)))
 obtain ⟨i,n,e,h0,h1,hn,q⟩:=q1
 subst e
 cases r1 with
 | cons r rr =>
   cases rr with
   | cons r' rr =>
     cases rr with
     | cons r'' rr =>
       cases rr
       obtain ⟨t,rfl⟩:=r
       obtain ⟨t',rfl⟩:=r'
       obtain ⟨t'',rfl⟩:=r''
       have e30:(2:Nat) ^ 30=1073741824:=by decide
       rw [e30] at hn
       have sm:Builtin.Range.rangeSize i (i+n * 60) 60=n:=by
        unfold Builtin.Range.rangeSize
        rw [if_pos (by decide)]
        split <;> omega
       refine call_range_3 (by decide) ?_ (Or.inl (PyProof.noPylong_small (by omega)))
       refine wpAny_pyIter_range (IsRange.new ..) ?_ ?_
       · unfold Builtin.Range.small
         rw [sm]
         simp only [Builtin.Range.rangeFitsLong,Bool.and_eq_true,Bool.or_eq_true,decide_eq_true_eq,beq_iff_eq,show (60:Int) > 0 by decide,if_true]
         have e63:(2:Int) ^ 63=9223372036854775808:=by decide
         rw [e63]
         exact ⟨⟨⟨⟨⟨by omega,by omega⟩,⟨by omega,by omega⟩⟩,⟨by decide,by decide⟩⟩,⟨by omega,by omega⟩⟩,.inr ⟨by omega,by omega⟩⟩
       · rw [sm]
         have I2:Inv X pins σ H1 { s1 with heap:=s1.heap.push { cls:=.type "range",data:=.fields #[.int i t,.int (i+n * 60) t',.int 60 t''] },toks:=s1.toks }:=I1.kept fun b o e=>Heap.get?_push_of_some _ e
         refine ⟨(s1.heap.push { cls:=.type "range",data:=.fields #[.int i t,.int (i+n * 60) t',.int 60 t''] }).objs.size,[(s1.heap.push { cls:=.type "range",data:=.fields #[.int i t,.int (i+n * 60) t',.int 60 t''] }).objs.size],_,_,H1,rfl,
          I2.kept (t':=s1.toks) fun b o e=>Heap.get?_push_of_some _ e,turn_range60 _ i n,?_,fun b hb=>?_,q⟩
         · show IsRangeIter _ _ (i+((0:Nat):Int) * 60) ((n:Int) - ((0:Nat):Int)) 60
           rw [show i+((0:Nat):Int) * 60=i by simp,show (n:Int) - ((0:Nat):Int)=n by simp]
           exact Heap.get?_push_size _ rfl
         · have e:b=(s1.heap.push { cls:=.type "range",data:=.fields #[.int i t,.int (i+n * 60) t',.int 60 t''] }).objs.size:=by simpa using hb
           subst e
           exact I2.fpOk (Nat.le_refl _) (I2.hok.fresh (Nat.le_refl _))
def isNon:V→Bool
 | .non=>true
 | _=>false
def rNoneIn:R2:=fun x y H Q=>∃ (p:Addr) (vs:List V),x=.non∧y=.ref p∧H p=some (.lst vs)∧(∀ v∈vs,v=.non∨∃ a us,v=.ref a∧H a=some (.tup us))∧Q (.bl (vs.any isNon)) H
theorem op_noneIn (hu:X.A.units+1 < cLine):OpR X (compareOp .In) rNoneIn:=by
 intro pins s σ H x y v u Q I rx ry h
 obtain ⟨p,vs,rfl,rfl,hp,hv,q⟩:=h
 cases ry
 obtain rfl:v=Value.none:=rx
 obtain ⟨its,r,pl,hz⟩:=I.list (SqL.of hp)
 have key:∀ {vs:List V} {its:List Value},Vals vs its→(∀ v∈vs,v=.non∨∃ a us,v=.ref a∧H a=some (.tup us))→(∀ w∈its,SeqAt.EqAt X.A.in1 s w Value.none (w == Value.none))∧its.any (fun w=>w == Value.none)=vs.any isNon:=fun {vs its} r=>by
  induction r with
  | nil=>intro _; exact ⟨fun w hw=>(by cases hw),rfl⟩
  | cons rv rr ih =>
    intro hv
    obtain ⟨i1,i2⟩:=ih fun v h=>hv v (List.mem_cons_of_mem _ h)
    rcases hv _ List.mem_cons_self with e | ⟨a,us,e,ha⟩
    · subst e
      cases (show _=Value.none from rv)
      refine ⟨fun w hw=>?_,by rw [List.any_cons,List.any_cons,i2]; rfl⟩
      rcases List.mem_cons.mp hw with rfl | hw
      · exact SeqAt.EqAt.same _
      · exact i1 w hw
    · subst e
      cases (show _=Value.ref a from rv)
      obtain ⟨its',_,pt,_⟩:=I.tuple (SqT.of ha)
      refine ⟨fun w hw=>?_,by rw [List.any_cons,List.any_cons,i2]; rfl⟩
      rcases List.mem_cons.mp hw with rfl | hw
      · exact SeqAt.EqAt.tuple_none pt (by rw [Around.in1_units]; exact hu)
      · exact i1 w hw
 obtain ⟨k1,k2⟩:=key r hv
 refine SeqAt.in_listAt (fun w=>w == Value.none) pl.isList (fun w hw=>k1 w (by simpa using hw)) ⟨.bl _,H,I,rfl,?_⟩
 rw [show its.toArray.any (fun w=>w == Value.none)=its.any (fun w=>w == Value.none) by simp,k2]
 exact q
def rPart:V→List V→Hp→VK→Prop:=fun x vs H Q=>∃ z y,x=.str z∧vs=[.str y]∧(y.length == 0)=false∧z.length≤sizeLine∧∀ p,H p=none→Q (.ref p) (upd H p (.tup [.str (Txt.partition z y).1,.str (Txt.partition z y).2.1,.str (Txt.partition z y).2.2]))
theorem mt_part:MtR X "str.partition" rPart:=by
 intro pins s σ H x vs v us Q I rx rv h
 obtain ⟨z,y,e1,e2,hy,hz,q⟩:=h
 subst e1; subst e2
 obtain ⟨t,rfl⟩:=rx
 obtain ⟨u,rfl,ru⟩:=rv.one
 obtain ⟨t',rfl⟩:=ru
 refine call_meets PySem.F.slot_str_partition (typeIs_str _ _ _) PySem.F.entry_str_partition (PySem.F.args_str_partition_2 _ _) (meets_str_partition z y t t' hy hz) ?_
 have q':=q
 unfold Txt.partition at q'
 revert q'
 cases Builtin.Str.occurrences z y 0 z.length 1 with
 | nil=>intro q'; exact ⟨.ref _,_,I.laid (t':=s.toks+1) (o:=.tup [.str z,.str Str.empty,.str Str.empty]) (fun b u e=>Heap.get?_push_of_some _ e) (Nat.le_refl _) ⟨by show 3≤sizeLine; decide,[_,_,_],.cons ⟨t,rfl⟩ (.cons ⟨_,rfl⟩ (.cons ⟨_,rfl⟩ .nil)),_,Heap.get?_push_size _ rfl,rfl,_,rfl⟩,rfl,q' _ I.fresh⟩
 | cons i r=>intro q'; exact ⟨.ref _,_,I.laid (t':=s.toks+1+1) (o:=.tup [.str (Builtin.Str.strSub z 0 i),.str y,.str (Builtin.Str.strSub z (i+y.length) z.length)]) (fun b u e=>Heap.get?_push_of_some _ e) (Nat.le_refl _) ⟨by show 3≤sizeLine; decide,[_,_,_],.cons ⟨_,rfl⟩ (.cons ⟨t',rfl⟩ (.cons ⟨_,rfl⟩ .nil)),_,Heap.get?_push_size _ rfl,rfl,_,rfl⟩,rfl,q' _ I.fresh⟩
end
end L2
namespace PySem.W.KIN
open PySem PySem.Calls PySem.NumText PyProof.Rows
theorem wp_textN {M:Model} {A:Around} {E:Value→Shared→Prop} {s:Shared} {Q:Value→Shared→Prop} {v:Value} {text:List Nat} {n:Int} (hd:s.heap.NoDigits)
 (hs:¬ (text.takeWhile (· != 0)).length≤640) (hr:(int_private% "readNumeral") 4300 10 (text.takeWhile (· != 0))=(int_private% "Numeral.value") n)
 (ha:((text.takeWhile (· != 0)).length == text.length)=true) (h:Q (.int n s.toks) { s with toks:=s.toks+1 }) :
 wpAny M A ((int_private% "intFromText") v text 10) Q E s:=by
 obtain ⟨mc,hns,hnone⟩:=hd
 have L:∀ (Q:Nat→Shared→Prop),Q 4300 s→wpAny M A Builtin.intMaxStrDigits Q E s:=fun Q q=>by
  unfold Builtin.intMaxStrDigits
  refine wpAny_bind (wpAny_nsGet hns ?_)
  rw [hnone]
  exact wpAny_pure q
 obtain ⟨hp,g,d,tk,os⟩:=s
 repeat (any_goals (first
  | assumption
  | (with_reducible refine wpAny_ite_false (decide_eq_false hs) ?_)
  | (with_reducible refine wpAny_ite_true (decide_eq_true ha) ?_)
  | ((with_reducible show wpAny _ _ Builtin.intMaxStrDigits _ _ _); refine L _ ?_)
  | wp_step))
 all_goals (try rw [hr])
 all_goals (try dsimp only)
 repeat (any_goals (first
  | assumption
  | (with_reducible refine wpAny_ite_true (decide_eq_true ha) ?_)
  | wp_step))
theorem meets_textN {x:PySem.Str} {u:Tok} {n:Int} (hl:¬ (numSeenOf x).length≤640) (hr:(int_private% "readNumeral") 4300 10 (numSeenOf x)=(int_private% "Numeral.value") n) (ha:((numSeenOf x).length == (numTextOf x).length)=true) :
 Meets (Builtin.«int.__new__» ⟨[.type "int",.str x u],[]⟩) (fun _ R s=>s.heap.NoDigits∧R (.ok (.ret (.int n s.toks))) { s with toks:=s.toks+1 }) :=
 .of_wp fun prog w A R s h=>by
  obtain ⟨hdg,h⟩:=h
  obtain ⟨hp,g,d,tk,os⟩:=s
  have f1:=F.conv_sub_int
  have f2:=F.madeHere_int
  have f3:=str_int
  have f4:=str_idx
  have f5:=str_trunc
  have f6:typeOf (.str x u)=pure (.type "str"):=rfl
  have hk:=Hid.mk (And.intro hl (And.intro hr ha))
  have hdk:=Hid.mk hdg
  clear hl hr ha hdg
  repeat (any_goals (first
   | assumption
   | ((with_reducible show wpAny _ _ ((int_private% "intFromText") _ _ _) _ _ _); refine wp_textN hdk.out hk.out.1 hk.out.2.1 hk.out.2.2 ?_)
   | wp_step))
  all_goals first | exact ⟨_,rfl,h⟩ | skip
end PySem.W.KIN
namespace L2
open PySem PySem.Spec PyProof.Rows PySem.NumText
theorem intText_parts {z:Str} {n:Int} (hn:intText? z=some n):((numSeenOf z).length == (numTextOf z).length)=true∧∃ ds,digits? 10 (core (numSeenOf z))=some ds∧ds.size≤4300∧worth (sign ((numSeenOf z).dropWhile blank)).1 ds=n:=by
 unfold intText? at hn
 by_cases ha:((numSeenOf z).length == (numTextOf z).length)=true
 · rw [if_pos ha] at hn
   refine ⟨ha,?_⟩
   cases hd:digits? 10 (core (numSeenOf z)) with
   | none=>rw [hd] at hn; cases hn
   | some ds =>
     rw [hd] at hn
     dsimp only at hn
     by_cases hz:ds.size≤4300
     · rw [if_pos hz] at hn; exact ⟨ds,rfl,hz,Option.some.inj hn⟩
     · rw [if_neg hz] at hn; cases hn
 · rw [if_neg ha] at hn; cases hn
theorem call_intN {X:Cx}:CallR X (.type "int") (fun xs H Q=>∃ z n,xs=[.str z]∧z.cps.all (· < 128)=true∧intText? z=some n∧Q (.int n) H):=by
 intro pins s σ H xs us Q I rv ⟨z,n,e,has,hn,q⟩
 subst e
 obtain ⟨u,rfl,ru⟩:=rv.one
 obtain ⟨t,rfl⟩:=ru
 obtain ⟨ha,ds,hd,hz,hw⟩:=intText_parts hn
 by_cases hl:(numSeenOf z).length≤640
 · refine PySem.W.KIN.call_text hn ?_ ⟨.int n,H,I.tok _,⟨_,rfl⟩,q⟩
   have e1:numTextOf z=z.cps.toList:=if_pos has
   have e2:=beq_iff_eq.mp ha
   rw [e1] at e2
   have:z.cps.toList.length=z.length:=Array.length_toList
   omega
 · have hr:(int_private% "readNumeral") 4300 10 (numSeenOf z)=(int_private% "Numeral.value") n:=by
    rw [readNumeral_ten,hd,judge_ok (.inr hz) (by omega),hw]
   exact call_int_1 (PySem.W.KIN.meets_textN hl hr ha) ⟨I.digits,rfl,.int n,H,I.tok _,⟨_,rfl⟩,q⟩
end L2
namespace L2
open PySem PySem.Spec PyProof.Rows PySem.NumText
def isD (c:Nat):Bool:=decide (48≤c) && decide (c≤57)
def bodyL (l:List Nat):List Nat:=if l.head? = some 45 then l.tail else l
def okD (b:List Nat):Bool:=!b.isEmpty && b.all isD
def wL (l:List Nat):Option Int :=
 if (okD (bodyL l) && !(decide ((bodyL l).head? = some 48) && decide (l≠[48])))=true then some (if l.head? = some 45 then -((digitsVal (bodyL l):Nat):Int) else ((digitsVal (bodyL l):Nat):Int)) else none
abbrev wS (z:Str):Option Int:=wL z.cps.toList
theorem allD {b:List Nat} (h:b.all isD=true):AllDigits b:=fun c hc=>by
 have:=List.all_eq_true.mp h c hc
 unfold isD at this
 rw [Bool.and_eq_true,decide_eq_true_eq,decide_eq_true_eq] at this
 exact this
theorem okD_iff {b:List Nat}:okD b=true↔b≠[]∧AllDigits b:=by
 unfold okD
 rw [Bool.and_eq_true]
 refine and_congr (by cases b <;> simp) ⟨allD,fun h=>List.all_eq_true.mpr fun c hc=>?_⟩
 unfold isD
 rw [decide_eq_true (h c hc).1,decide_eq_true (h c hc).2]; rfl
theorem uni_dig:∀ c:Nat,c < 128→Unicode.isDigit c=isD c:=by decide +kernel
theorem D_lt {c:Nat} (h:isD c=true):c < 128:=by
 unfold isD at h
 rw [Bool.and_eq_true,decide_eq_true_eq,decide_eq_true_eq] at h
 omega
theorem asc_dig (f:Str):(Txt.isascii f && Txt.isdigit f)=okD f.cps.toList:=by
 unfold Txt.isascii Txt.isdigit okD
 rw [← Array.all_toList,← Array.all_toList]
 have hl:decide (f.length > 0) = !f.cps.toList.isEmpty:=by
  rw [len_eq]
  cases f.cps.toList <;> simp
 rw [hl]
 generalize f.cps.toList=l
 by_cases h:l.all (fun x=>decide (x < 128))=true
 · rw [h,Bool.true_and]
   congr 1
   rw [Bool.eq_iff_iff,List.all_eq_true,List.all_eq_true]
   refine forall_congr' fun c=>imp_congr_right fun hc=>?_
   rw [uni_dig c (of_decide_eq_true (List.all_eq_true.mp h c hc))]
 · have e1:l.all (fun x=>decide (x < 128))=false:=Bool.eq_false_iff.mpr h
   have e2:l.all isD=false:=Bool.eq_false_iff.mpr fun z=>h (List.all_eq_true.mpr fun c hc=>decide_eq_true (D_lt (List.all_eq_true.mp z c hc)))
   rw [e1,e2,Bool.false_and,Bool.and_false]
theorem rp_body (z:Str):(Txt.removeprefix z (Str.ofString "-")).cps.toList=bodyL z.cps.toList:=by
 rw [s_dash,rp1]
 unfold bodyL
 split <;> simp
theorem digitsVal_app (a b:List Nat):digitsVal (a++b)=digitsVal a * 10 ^ b.length+digitsVal b:=by
 have e:∀ (b:List Nat) (n:Nat),b.foldl (fun acc c=>acc * 10+(c - 48)) n=n * 10 ^ b.length+b.foldl (fun acc c=>acc * 10+(c - 48)) 0:=fun b=>by
  induction b with
  | nil=>intro n; simp
  | cons c b ih =>
    intro n
    rw [List.foldl_cons,List.foldl_cons,ih,ih (0 * 10+(c - 48)),List.length_cons,Nat.pow_succ]
    rw [Nat.add_mul,Nat.zero_mul,Nat.zero_add,Nat.mul_assoc,Nat.mul_comm 10]
    omega
 unfold digitsVal
 rw [List.foldl_append,e]
theorem digitsVal_lt:∀ {b:List Nat},AllDigits b→digitsVal b < 10 ^ b.length
 | [],_=>by decide
 | c :: b,h=>by
   have h1:=digitsVal_lt (b:=b) fun d hd=>h d (List.mem_cons_of_mem _ hd)
   have h2:=h c List.mem_cons_self
   have e:=digitsVal_app [c] b
   rw [show [c]++b=c :: b from rfl,show digitsVal [c]=c - 48 by show 0 * 10+(c - 48)=_; omega] at e
   rw [e,List.length_cons,Nat.pow_succ]
   have:(c - 48) * 10 ^ b.length≤9 * 10 ^ b.length:=Nat.mul_le_mul_right _ (by omega)
   omega
theorem dg_rec {n:Nat} (h:10≤n):dg n=dg (n / 10)++dg (n % 10):=by
 have t:Nat.toDigits 10 (n / 10)++Nat.toDigits 10 (n % 10)=Nat.toDigits 10 (10 * (n / 10)+n % 10):=Nat.toDigits_append_toDigits (by decide) (by omega) (Nat.mod_lt n (by decide))
 rw [Nat.div_add_mod] at t
 unfold dg
 rw [← t,List.map_append]
theorem dg_all (n:Nat):dg n≠[]∧AllDigits (dg n)∧(n≠0→(dg n).head?≠some 48):=by
 induction n using Nat.strongRecOn with
 | _ n ih =>
   by_cases h:n < 10
   · obtain ⟨a,_,b,c⟩:=dg_ok n (by omega)
     exact ⟨a,allD b,c⟩
   · obtain ⟨a1,a2,a3⟩:=ih (n / 10) (by omega)
     obtain ⟨b1,b2,_⟩:=ih (n % 10) (by omega)
     rw [dg_rec (by omega)]
     refine ⟨by simp [a1],fun c hc=>(List.mem_append.mp hc).elim (a2 c) (b2 c),fun _=>?_⟩
     rw [List.head?_append]
     cases q:(dg (n / 10)).head? with
     | none=>exact absurd (List.head?_eq_none_iff.mp q) a1
     | some d=>have:=a3 (by omega); rw [q] at this; exact this
theorem dg_val (n:Nat):digitsVal (dg n)=n:=PySem.W.KIN.val_back n
theorem dg_len {n k:Nat} (hk:0 < k) (h:n < 10 ^ k):(dg n).length≤k:=by
 unfold dg
 rw [List.length_map,← Nat.toList_repr]
 exact (Nat.length_repr_le_iff hk).mpr h
theorem wd_cas (i:Int):(∃ n:Nat,i=n∧(wd i).cps.toList=dg n)∨(∃ n:Nat,0 < n∧i = -(n:Int)∧(wd i).cps.toList=45 :: dg n):=by
 by_cases h:0≤i
 · obtain ⟨n,rfl⟩:=Int.eq_ofNat_of_zero_le h
   exact .inl ⟨n,rfl,wd_nat n⟩
 · refine .inr ⟨i.natAbs,by omega,by omega,?_⟩
   have:=wd_neg i.natAbs (by omega)
   rwa [show -((i.natAbs:Nat):Int)=i by omega] at this
theorem head_dg {n:Nat}:(dg n).head?≠some 45:=fun z=>by
 have:=(dg_all n).2.1 45 (List.mem_of_head? z)
 omega
theorem wS_wd (i:Int):wS (wd i)=some i:=by
 rcases wd_cas i with ⟨n,rfl,e⟩ | ⟨n,hn,rfl,e⟩
 · show wL _=_
   rw [e]
   obtain ⟨a,b,c⟩:=dg_all n
   unfold wL
   have hb:bodyL (dg n)=dg n:=if_neg head_dg
   rw [hb,if_neg head_dg,dg_val,okD_iff.mpr ⟨a,b⟩,Bool.true_and,if_pos]
   by_cases h0:n=0
   · subst h0; rw [dg_0]; decide
   · rw [decide_eq_false (c h0)]; rfl
 · show wL _=_
   rw [e]
   obtain ⟨a,b,c⟩:=dg_all n
   unfold wL
   have hb:bodyL (45 :: dg n)=dg n:=if_pos rfl
   rw [hb,if_pos (show (45 :: dg n).head? = some 45 from rfl),dg_val,okD_iff.mpr ⟨a,b⟩,Bool.true_and,decide_eq_false (c (by omega)),if_pos (by rfl)]
theorem s_bar:Str.ofString "/" = ⟨#[47]⟩:=by decide +kernel
theorem at_one {x:Str} {c i:Nat}:StrLaws.At x ⟨#[c]⟩ x.length i↔x.cps.toList[i]? = some c:=by
 unfold StrLaws.At
 rw [StrLaws.subAt_eq,len_eq]
 show (i+1≤_∧((x.cps.toList.drop i).take 1 == [c])=true)↔_
 rw [List.take_one,List.head?_drop]
 cases h:x.cps.toList[i]? with
 | none =>
   have:=List.getElem?_eq_none_iff.mp h
   simp
 | some d =>
   have:=(List.getElem?_eq_some_iff.mp h).1
   rw [← len_eq] at this
   simp
   intro _
   omega
theorem part_none {z:Str} {c:Nat} (h:c∉z.cps.toList):Txt.partition z ⟨#[c]⟩=(z,Str.empty,Str.empty):=by
 unfold Txt.partition
 rcases StrLaws.occ_head z ⟨#[c]⟩ 1 (Nat.le_refl 1) with ⟨h0,hn⟩ | ⟨i,r,h0,hi,hn⟩
 · rw [h0]
 · exact absurd (List.mem_of_getElem? (at_one.mp hi)) h
theorem part_some {z:Str} {c:Nat} {a r:List Nat} (e:z.cps.toList=a++c :: r) (h:c∉a):Txt.partition z ⟨#[c]⟩=(⟨a.toArray⟩,⟨#[c]⟩,⟨r.toArray⟩):=by
 have hc:z.cps.toList[a.length]? = some c:=by rw [e,List.getElem?_append_right (Nat.le_refl _),Nat.sub_self]; rfl
 unfold Txt.partition
 rcases StrLaws.occ_head z ⟨#[c]⟩ 1 (Nat.le_refl 1) with ⟨h0,hn⟩ | ⟨i,r',h0,hi,hn⟩
 · exact absurd (at_one.mpr hc) (hn _)
 · rw [h0]
   have hi':=at_one.mp hi
   have ei:i=a.length:=by
    rcases Nat.lt_trichotomy i a.length with l | l | l
    · rw [e,List.getElem?_append_left l] at hi'
      exact absurd (List.mem_of_getElem? hi') h
    · exact l
    · exact absurd (at_one.mpr hc) (hn _ l)
   subst ei
   have e1:Builtin.Str.strSub z 0 a.length=⟨a.toArray⟩:=str_eq (by
    show (z.cps.extract 0 a.length).toList=_
    rw [Array.toList_extract,e]
    simp [List.extract_eq_drop_take])
   have e2:Builtin.Str.strSub z (a.length+(⟨#[c]⟩:Str).length) z.length=⟨r.toArray⟩:=str_eq (by
    show (z.cps.extract (a.length+1) z.length).toList=_
    rw [Array.toList_extract,len_eq,e]
    simp [List.extract_eq_drop_take]
    exact List.take_of_length_le (by omega))
   show (Builtin.Str.strSub z 0 a.length,(⟨#[c]⟩:Str),Builtin.Str.strSub z (a.length+(⟨#[c]⟩:Str).length) z.length)=_
   rw [e1,e2]
def frL:List (Option Int)→Option (Int×Int)
 | [some t]=>some (t,1)
 | [some t,some b]=>if 2≤b∧Int.gcd t b=1 then some (t,b) else none
 | _=>none
def fS (z:Str):Option (Int×Int):=frL ((Txt.split z ⟨#[47]⟩).map wS)
theorem wL_47 {l:List Nat} (h:47∈l):wL l=none:=by
 unfold wL
 rw [if_neg]
 rw [Bool.and_eq_true]
 rintro ⟨h1,_⟩
 have hb:47∈bodyL l:=by
  unfold bodyL
  split
  · rename_i hh
    cases l with
    | nil=>cases h
    | cons a l =>
      rcases List.mem_cons.mp h with e | e
      · rw [← e] at hh; cases hh
      · exact e
  · exact h
 have:=(okD_iff.mp h1).2 47 hb
 omega
theorem split_shape (z:Str) (c:Nat):(Txt.split z ⟨#[c]⟩=[z]∧c∉z.cps.toList)∨∃ a b r,Txt.split z ⟨#[c]⟩=a :: b :: r∧c∉a.cps.toList∧z.cps.toList=a.cps.toList++c :: (Str.join ⟨#[c]⟩ (b :: r)).cps.toList:=by
 have hj:=StrLaws.join_split z ⟨#[c]⟩
 have hf:=StrLaws.split_free z c
 cases e:Txt.split z ⟨#[c]⟩ with
 | nil=>exact absurd e (split_ne z c)
 | cons a l =>
   rw [e] at hj hf
   cases l with
   | nil =>
     have:a=z:=hj
     subst this
     exact .inl ⟨rfl,hf a List.mem_cons_self⟩
   | cons b r =>
     refine .inr ⟨a,b,r,rfl,hf a List.mem_cons_self,?_⟩
     rw [← join_cons,hj]
theorem fS_part (z:Str):fS z=(if (Txt.partition z ⟨#[47]⟩).2.1=Str.empty then (wS (Txt.partition z ⟨#[47]⟩).1).map (fun t=>(t,1)) else match wS (Txt.partition z ⟨#[47]⟩).1,wS (Txt.partition z ⟨#[47]⟩).2.2 with
 | some t,some b=>if 2≤b∧Int.gcd t b=1 then some (t,b) else none
 | _,_=>none):=by
 unfold fS
 rcases split_shape z 47 with ⟨e,h⟩ | ⟨a,b,r,e,h,ez⟩
 · rw [e,part_none h,if_pos rfl]
   show frL [wS z]=_
   cases wS z <;> rfl
 · rw [e,part_some ez h,if_neg (show ¬ ((⟨#[47]⟩:Str)=Str.empty) by decide)]
   show _=match wL a.cps.toList.toArray.toList,wL (Str.join ⟨#[47]⟩ (b :: r)).cps.toList.toArray.toList with
    | some t,some b=>if 2≤b∧Int.gcd t b=1 then some (t,b) else none
    | _,_=>none
   rw [List.toList_toArray,List.toList_toArray]
   cases r with
   | nil =>
     show frL [wL a.cps.toList,wL b.cps.toList]=match wL a.cps.toList,wL b.cps.toList with
      | some t,some b=>if 2≤b∧Int.gcd t b=1 then some (t,b) else none
      | _,_=>none
     cases wL a.cps.toList <;> cases wL b.cps.toList <;> rfl
   | cons b' r =>
     rw [wL_47 (l:=(Str.join ⟨#[47]⟩ (b :: b' :: r)).cps.toList) (by rw [join_cons]; simp)]
     show frL (wL a.cps.toList :: wL b.cps.toList :: wL b'.cps.toList :: r.map wS)=_
     cases wL a.cps.toList <;> cases wL b.cps.toList <;> rfl
def tw (q:Rat):Str:=if q.den=1 then wd q.num else wd q.num++⟨#[47]⟩++wd q.den
theorem wd_no {i:Int} {c:Nat} (h1:c≠45) (h2:c < 48∨57 < c):c∉(wd i).cps.toList:=fun z=>by
 rcases wd_cas i with ⟨n,_,e⟩ | ⟨n,_,_,e⟩
 · rw [e] at z; have:=(dg_all n).2.1 c z; omega
 · rw [e] at z
   rcases List.mem_cons.mp z with z | z
   · exact h1 z
   · have:=(dg_all n).2.1 c z; omega
theorem tw_join (q:Rat):tw q=Str.join ⟨#[47]⟩ (if q.den=1 then [wd q.num] else [wd q.num,wd q.den]):=by
 unfold tw
 split <;> rfl
theorem fS_tw (q:Rat):fS (tw q)=some (q.num,(q.den:Int)):=by
 have hp:=q.den_pos
 unfold fS
 by_cases h:q.den=1
 · rw [tw_join,if_pos h,split_join (by simp) (by intro x hx; rw [List.mem_singleton.mp hx]; exact wd_no (by decide) (.inl (by decide)))]
   show frL [wS (wd q.num)]=_
   rw [wS_wd,h]; rfl
 · rw [tw_join,if_neg h,split_join (by simp) (by
    intro x hx
    simp only [List.mem_cons,List.not_mem_nil,or_false] at hx
    rcases hx with rfl | rfl <;> exact wd_no (by decide) (.inl (by decide)))]
   show frL [wS (wd q.num),wS (wd (q.den:Int))]=_
   rw [wS_wd,wS_wd]
   show (if _ then _ else _)=_
   rw [if_pos ⟨by omega,FM.gcd_one q⟩]
theorem tw_no {q:Rat} {c:Nat} (h1:c≠45) (h3:c≠47) (h2:c < 48∨57 < c):c∉(tw q).cps.toList:=by
 unfold tw
 split
 · exact wd_no h1 h2
 · rw [Str.cps_append,Str.cps_append]
   simp only [Array.toList_append,List.mem_append,not_or]
   exact ⟨⟨wd_no h1 h2,by simpa using h3⟩,wd_no h1 h2⟩
def rw' (qs:List Rat):Str:=if qs=[] then ⟨#[45]⟩ else Str.join ⟨#[32]⟩ (qs.map tw)
def allS {α:Type}:List (Option α)→Option (List α)
 | []=>some []
 | none :: _=>none
 | some x :: r=>(allS r).map (x :: ·)
def rS (z:Str):Option (List (Int×Int)):=if z=⟨#[45]⟩ then some [] else allS ((Txt.split z ⟨#[32]⟩).map fS)
theorem allS_map {α β:Type} {f:α→Option β} {g:α→β}:∀ {l:List α},(∀ x∈l,f x=some (g x))→allS (l.map f)=some (l.map g)
 | [],_=>rfl
 | x :: l,h=>by
   show allS (f x :: l.map f)=_
   rw [h x List.mem_cons_self]
   show (allS (l.map f)).map _=_
   rw [allS_map fun y hy=>h y (List.mem_cons_of_mem _ hy)]; rfl
theorem fS_dash:fS ⟨#[45]⟩=none:=by decide +kernel
theorem rS_rw (qs:List Rat):rS (rw' qs)=some (qs.map fun q=>(q.num,(q.den:Int))):=by
 unfold rw' rS
 by_cases h:qs=[]
 · subst h; rfl
 · rw [if_neg h]
   have sp:Txt.split (Str.join ⟨#[32]⟩ (qs.map tw)) ⟨#[32]⟩=qs.map tw:=split_join (by simpa using h) (by
    intro x hx
    obtain ⟨q,_,rfl⟩:=List.mem_map.mp hx
    exact tw_no (by decide) (by decide) (.inl (by decide)))
   rw [if_neg,sp,List.map_map]
   · exact allS_map (f:=fS ∘ tw) fun q _=>fS_tw q
   · intro z
     rw [z] at sp
     have e:Txt.split ⟨#[45]⟩ ⟨#[32]⟩=[⟨#[45]⟩]:=by decide +kernel
     rw [e] at sp
     cases qs with
     | nil=>exact h rfl
     | cons q qs =>
       have:(⟨#[45]⟩:Str)=tw q:=(List.cons.inj sp).1
       have f:=fS_tw q
       rw [← this,fS_dash] at f
       cases f
end L2
namespace L2
open PySem PySem.Spec PyProof.Rows
section
variable {X:Cx} {e:Expr} {te:TE} {pos p2:Pos}
def tSlB1 (te:TE) (K:PySem.W.Frag):TE:=fun σ H Q=>te σ H fun x H1=>∃ a y,x=.ref a∧SqL K H1 a [y]∧∀ p,H1 p=none→Q (.ref p) (upd H1 p (.lst [y]))
theorem pe_slback1 {st:Expr} (hst:PE X st (fun _ H Q=>Q (.int (-1)) H)) (he:PE X e te):PE X (.Subscript e (.Slice none none (some st) p2) pos) (tSlB1 te X.K):=by
 intro pins s σ H Q I h
 refine Subscript_ (thn (he pins s σ H _ I h) fun v s1 ⟨x,H1,I1,r1,q1⟩=>?_)
 refine wpAny_Slice ?_
 rw [evalPart_none,evalPart_some]
 refine wpAny_pure (wpAny_pure ?_)
 obtain ⟨a,y,rfl,hx,q⟩:=q1
 refine thn (hst pins s1 σ H1 (fun v H'=>v=.int (-1)∧H'=H1) I1 ⟨rfl,rfl⟩) fun u s3 ⟨y',H3,I3,ry,ey,eH⟩=>?_
 subst ey eH
 obtain ⟨tk,rfl⟩:=ry
 cases r1
 have I4:Inv X pins σ H3 { s3 with heap:=s3.heap.push { cls:=.type "slice",data:=.fields #[.none,.none,.int (-1) tk] } }:=I3.kept (t':=s3.toks) fun b ob q=>Heap.get?_push_of_some _ q
 obtain ⟨its,r,ht,hz⟩:=I4.list hx
 show wpAny (model X.prog X.w) X.A (subscriptTail e (.Slice none none (some st) p2) (.ref a) (.ref s3.heap.objs.size)) (EP X pins σ Q) X.xe { s3 with heap:=s3.heap.push { cls:=.type "slice",data:=.fields #[.none,.none,.int (-1) tk] } }
 refine tail_any (ops:=[.ref a,.ref s3.heap.objs.size]) ht.isList.typeIs slot_list_getitem.lookup ?_ (by with_unfolding_all rfl)
 obtain ⟨u,rfl,ru⟩:=vals1 r
 refine wpAny_getItem_list_slice ht.isList (Heap.IsSliceOf.new ..) .none .none (.int (-1) tk) (by decide) ?_ (by rw [List.size_toArray]; exact hz)
 rw [show slicePick [u].toArray none none (some (-1))=#[u] by
  have e:sliceRange (sliceBounds none none (some (-1)) 1).1 (sliceBounds none none (some (-1)) 1).2.1 (sliceBounds none none (some (-1)) 1).2.2=[0]:=by decide +kernel
  show ((sliceRange (sliceBounds none none (some (-1)) 1).1 (sliceBounds none none (some (-1)) 1).2.1 (sliceBounds none none (some (-1)) 1).2.2).filterMap ([u].toArray[·]?)).toArray=#[u]
  rw [e]; rfl]
 refine ⟨.ref _,_,I4.laid (t':=s3.toks) (o:=.lst [y]) (fun b ob q=>Heap.get?_push_of_some _ q) (Nat.le_refl _) ?_,rfl,q _ (I4.hok.fresh (Nat.le_refl _))⟩
 exact ⟨hz,_,0,r,Heap.get?_push_size _ rfl⟩
end
section
variable {prog:Program} {w:World} {h₀:Heap}
theorem allK_at {bs:List Addr} {d:Nat}:∀ {l:List Value} {ts:List Str},ReprAllK prog w bs h₀ d l ts→∀ (i:Nat) (y:Value),l[i]? = some y→∃ t,ts[i]? = some t∧ReprK prog w bs h₀ d y t
 | _,_,.nil,i,y,e=>by simp at e
 | _,_,.cons k ks,0,y,e=>by cases e; exact ⟨_,rfl,k⟩
 | _,_,.cons k ks,i+1,y,e=>allK_at ks i y e
theorem repr_lstN {A:Around} {E:Value→Shared→Prop} {s:Shared} {Q:Value→Shared→Prop} {a:Addr} {xs:List PyData} {as:List Addr} (hx:xs≠[]) (hn:h₀.NoDigits) (r:Reads h₀ (.ref a) (.list xs) as) (hs:shNs xs=true) (hg:A.guards=some []) (hu:A.units+(PyData.depthAll xs+2) < cLine) (hk0:∀ b o,h₀.get? b=some o→s.heap.get? b=some o)
 (hQ:∀ h' u tk,(∀ b o,s.heap.get? b=some o→h'.get? b=some o)→Q (.str (PyData.list xs).shown u) { s with heap:=h',toks:=tk })
 (hsz:(PyData.list xs).shown.length≤sizeLine):wpAny (model prog w) A (call (.builtin "repr") [.ref a]) Q E s:=by
 cases r with
 | @list _ oa items n _ _ h1 h2 h3 h4 =>
   have hz':(listText (PyData.shownAll xs)).length≤sizeLine:=by simpa only [PyData.shown] using hsz
   obtain ⟨bs,hb,hk⟩:=reprAllK_ofN (prog:=prog) (w:=w) hn h4 hs (fun t ht=>Nat.le_trans (listText_mem_le ht) hz')
   have hna:a∉bs:=not_mem_of_deeper (.list h1 h2 h3 h4) (by simp only [PyData.depth]; omega) hb
   simp only [PyData.shown] at hQ
   have hl:=hk.length_eq
   obtain ⟨it⟩:=items
   simp only at hk hl
   match it,h3,h4,hk,hl with
   | [],_,h4,_,_=>exfalso; cases h4; exact hx rfl
   | y :: ys,h3,h4,hk,hl =>
     exact call_repr_slot (by omega) ⟨_,hk0 _ _ h1,h2⟩ F.slot_list_repr.toG (call_list_reprK h1 h2 h3 hna (by simpa using hl) (fun i z e=>allK_at hk i z (by simpa using e)) hg (fun b _=>Clear.nil b) (by show A.units+1+(_+1) < cLine; omega) hk0 (fun h' u tk hk=>⟨_,_,rfl,hQ h' u tk hk⟩) hz')
end
def RpD (H:Hp) (v:V) (d:PyData):Prop:=∃ (N:Addr→Prop) (k:Nat),k < 3999∧((∃ ds,d=.tuple ds∧Dt N H k v d∧noLs ds=true∧PyData.depthAll ds≤18∧nzAll ds≤3000)∨∃ l us ds,v=.ref l∧d=.list ds∧H l=some (.lst us)∧Dts N H k us ds∧ds≠[]∧noLs ds=true∧PyData.depthAll ds≤18∧nzAll ds≤3000)
theorem call_reprA {X:Cx} {j:Nat} (hr:Room j X.A):CallR X (.builtin "repr") (fun xs H Q=>∃ v d,xs=[v]∧RpD H v d∧Q (.str d.shown) H):=by
 intro pins s σ H xs us Q I r h
 obtain ⟨v,d,rfl,⟨N,k,hk,c⟩,q⟩:=h
 rcases c with ⟨ds,rfl,hd,hn,h3,h4⟩ | ⟨l,us',ds,rfl,rfl,hl,rd,hx,hn,h3,h4⟩
 · exact call_reprN hr pins s σ H _ us Q I r ⟨N,k,v,ds,rfl,hd,hk,hn,by show PyData.depthAll ds+1≤20; omega,by show 1+nzAll ds≤4000; omega,q⟩
 · obtain ⟨u,rfl,ru⟩:=vals1 r
   cases ru
   obtain ⟨_,its,n,rv,e⟩:=(show ObjOk X.prog X.w H s.heap l (.lst us') from I.hok l _ hl)
   obtain ⟨as,ra,na⟩:=Dts.reads I rd rv
   obtain ⟨h1,h2⟩:=rd.shN hk hn
   have hz:(PyData.list ds).shown.length≤sizeLine:=by
    have z:=listText_len_le (PyData.shownAll ds)
    rw [sum_shown] at z
    have e:sizeLine=16777216:=sizeLine_eq
    show (listText (PyData.shownAll ds)).length≤_
    omega
   have hu:=hr.un
   exact repr_lstN hx I.digits (.list e rfl rfl (by simpa using ra)) h1 hr.gd (by omega) (fun _ _ e=>e) (fun h' u tk hk=>⟨.str _,H,I.kept hk,⟨_,rfl⟩,q⟩) hz
end L2
namespace My
open PySem PySem.Spec PyProof.Rows L2
def top (i:Nat):Stmt:=PySem.Challenge.pw_platerest_k75_fractions_and_rows_as_text.main.body.getD i (.Pass ⟨0,0,0,0⟩)
theorem bb_abs:bootBuiltins "abs" = some (.builtin "abs"):=by decide +kernel
theorem bb_all:bootBuiltins "all" = some (.builtin "all"):=by decide +kernel
theorem bb_bool:bootBuiltins "bool" = some (.type "bool"):=by decide +kernel
theorem bb_int:bootBuiltins "int" = some (.type "int"):=by decide +kernel
theorem bb_isinstance:bootBuiltins "isinstance" = some (.builtin "isinstance"):=by decide +kernel
theorem bb_len:bootBuiltins "len" = some (.builtin "len"):=by decide +kernel
theorem bb_list:bootBuiltins "list" = some (.type "list"):=by decide +kernel
theorem bb_max:bootBuiltins "max" = some (.builtin "max"):=by decide +kernel
theorem bb_min:bootBuiltins "min" = some (.builtin "min"):=by decide +kernel
theorem bb_repr:bootBuiltins "repr" = some (.builtin "repr"):=by decide +kernel
theorem bb_str:bootBuiltins "str" = some (.type "str"):=by decide +kernel
theorem bb_tuple:bootBuiltins "tuple" = some (.type "tuple"):=by decide +kernel
structure Bt (mg:Str→Option Value):Prop where
 b_abs:mg "abs" = none
 b_all:mg "all" = none
 b_bool:mg "bool" = none
 b_int:mg "int" = none
 b_isinstance:mg "isinstance" = none
 b_len:mg "len" = none
 b_list:mg "list" = none
 b_max:mg "max" = none
 b_min:mg "min" = none
 b_range:mg "range" = none
 b_repr:mg "repr" = none
 b_str:mg "str" = none
 b_tuple:mg "tuple" = none
 n_AT_ONCE:∃ t,mg "AT_ONCE" = some (.int 60 t)
 n_BASE:∃ t,mg "BASE" = some (.int 1000000000000000000000000000000000000000000000000000000000000 t)
 n_GREAT_BITS:∃ t,mg "GREAT_BITS" = some (.int 4000 t)
abbrev rt (q:Rat):List V:=[.int q.num,.int q.den]
def sp_plain:Sp:=fun vs H Q _=>∃ a b:Int,vs=[.int a,.int b]∧Q (.int (Int.gcd a b)) H
def sp_divisor:Sp:=fun vs H Q _=>∃ a b:Int,vs=[.int a,.int b]∧b.natAbs < 2 ^ 4000∧Q (.int (Int.gcd a b)) H
theorem lt8999 {a n:Nat} (h:a < 2 ^ 64) (hn:64≤n:=by decide):a < 2 ^ n:=Nat.lt_of_lt_of_le h (Nat.pow_le_pow_right (by decide) hn)
theorem lt4000 {a:Nat} (h:a < 2 ^ 4000):a < 2 ^ 8999:=Nat.lt_of_lt_of_le h (Nat.pow_le_pow_right (by decide) (by decide))
theorem min4000 {x y:Int} (h:y.natAbs < 2 ^ 4000):decide ((4000:Int) < if (Builtin.Int.intBits y:Int) < (Builtin.Int.intBits x:Int) then (Builtin.Int.intBits y:Int) else (Builtin.Int.intBits x:Int))=false:=by
 have:=bits_le h (by decide)
 refine decide_eq_false ?_
 split <;> omega
theorem rt_eq {p q:Rat}:decide (([p.num,(p.den:Int)]:List Int)=[q.num,(q.den:Int)])=decide (p=q):=by
 by_cases h:p=q
 · subst h; simp
 · rw [decide_eq_false h]
   refine decide_eq_false fun z=>h ?_
   injection z with z1 z2
   injection z2 with z2 _
   exact Rat.ext z1 (Int.ofNat.inj z2)
def StAt (H:Hp) (l:Addr):Prop:=∃ s0 s1 s2:Int,H l=some (.lst [.int s0,.int s1,.int s2])∧0≤s1∧s1 < 4294967296
theorem StAt.same {H H':Hp} {l:Addr} (s:StAt H l) (k:Same H H'):StAt H' l:=by
 obtain ⟨a,b,c,h,r⟩:=s
 exact ⟨a,b,c,k _ _ h,r⟩
theorem StAt.new {H:Hp} {l p:Addr} {o:HO} (s:StAt H l) (h:H p=none):StAt (upd H p o) l:=by
 obtain ⟨a,b,c,e,r⟩:=s
 exact ⟨a,b,c,by rw [upd_ne (ne_of_none e h)]; exact e,r⟩
theorem StAt.ne {H:Hp} {l p:Addr} (s:StAt H l) (h:H p=none):l≠p:=by
 obtain ⟨a,b,c,e,r⟩:=s
 exact ne_of_none e h
def sp_cell (K:PySem.W.Frag):Sp:=fun vs H Q _=>∃ (a:Addr) (ns:List Int) (k:Nat),vs=[.ref a,.int k]∧SqL K H a (ns.map V.int)∧∀ c:Int,Q (.int c) H
def sp_state (K:PySem.W.Frag):Sp:=fun vs H Q _=>∃ (a:Addr) (ns:List Int) (k:Nat),vs=[.ref a,.int k]∧SqL K H a (ns.map V.int) ∧
 ∀ (p:Addr) (H':Hp),H p=none→Same H H'→StAt H' p→Q (.ref p) H'
def sp_choice:Sp:=fun vs H Q _=>∃ (l:Addr) (m:Int),vs=[.ref l,.int m]∧StAt H l∧0 < m∧m.natAbs < 2 ^ 8999∧∀ (r:Int) (H':Hp),0≤r→r < m→Keep l H H'→StAt H' l→Q (.int r) H'
def sp_low:Sp:=fun vs H Q _=>∃ t b:Int,vs=[.int t,.int b]∧b≠0∧b.natAbs < 2 ^ 4000∧∀ (p:Addr) (H':Hp),Same H H'→H' p=some (.tup (rt (Rat.divInt t b)))→Q (.ref p) H'
theorem mulS {a b:Int} (ha:a.natAbs < 2 ^ 64) (hb:b.natAbs < 2 ^ 64):CMulB a b:=⟨Nat.lt_of_lt_of_le ha (Nat.pow_le_pow_right (by decide) (by decide)),Nat.lt_of_lt_of_le hb (Nat.pow_le_pow_right (by decide) (by decide))⟩
theorem p64:(2:Nat) ^ 64=18446744073709551616:=by decide
def sp_wholeD:Sp:=fun vs H Q _=>∃ N k v d,vs=[v]∧Dt N H k v d∧Q (.bl (isI d)) H
def sp_frD:Sp:=fun vs H Q _=>∃ N k v d,vs=[v]∧Dt N H k v d∧k≤4000∧Q (.bl (isFr d)) H
def sp_lawfr:Sp:=fun vs H Q _=>∃ N k v d,vs=[v]∧Dt N H k v d∧k≤4000∧∀ H',Same H H'→Q (.bl (isFr d)) H'
def sp_odd:Sp:=fun vs H Q _=>∃ l N,vs=[.ref l]∧StAt H l∧N l∧Dom N H∧∀ H' v,Keep l H H'→StAt H' l→Tg N H' 100 2 20 v→Q v H'
theorem StAt.lst' {H:Hp} {l:Addr} (s:StAt H l):∃ ys,H l=some (.lst ys):=by
 obtain ⟨a,b,c,h,_⟩:=s
 exact ⟨_,h⟩
theorem Tg.keepS {N:Addr→Prop} {l:Addr} {H H':Hp} {k n m:Nat} {v:V} (hN:N l) (s:StAt H l) (h:Tg N H k n m v) (q:Keep l H H'):Tg N H' k n m v:=let ⟨_,e⟩:=s.lst'; h.keep hN e q
theorem Dt.keepS {N:Addr→Prop} {l:Addr} {H H':Hp} {k:Nat} {v:V} {d:PyData} (hN:N l) (s:StAt H l) (h:Dt N H k v d) (q:Keep l H H'):Dt N H' k v d:=let ⟨_,e⟩:=s.lst'; h.keep hN e q
theorem lt_8000 {i:Int} {k:Nat} (h:i.natAbs < 2 ^ k) (hk:k≤4000):i.natAbs < 2 ^ 4000:=Nat.lt_of_lt_of_le h (Nat.pow_le_pow_right (by decide) (by omega))
theorem dint {N:Addr→Prop} {H:Hp} {k:Nat} (i:Int) (hk:100≤k) (hi:i.natAbs < 2 ^ 100):Dt N H k (.int i) (.int i):=.int (Nat.lt_of_lt_of_le hi (Nat.pow_le_pow_right (by decide) hk))
theorem gset {i:Nat} {v:V} {σ σ':L2.St} {H:Hp} {Q:L2.St→Hp→Prop} (e:σ.set i (some v)=σ') (h:Q σ' H):gName i v σ H Q:=by unfold gName; rw [e]; exact h
theorem if_val {b:Bool} {t u:TE} {σ:L2.St} {H:Hp} {Q:VK} {v:V} (rest:Q v H) (h1:b=true→Q v H→t σ H Q) (h2:¬ b=true→Q v H→u σ H Q):if b=true then t σ H Q else u σ H Q:=by
 by_cases h:b=true
 · rw [if_pos h]; exact h1 h rest
 · rw [if_neg h]; exact h2 h rest
theorem ifs_inv {c:TT} {a b:TS} {D:Ends} {σ:L2.St} {H:Hp} {r:VK} {bk ct:L2.St→Hp→Prop} (Inv:Bool→Hp→Prop) (ha:∀ H1,Inv true H1→a D σ H1) (hb:∀ H1,Inv false H1→b D σ H1) (h:∀ Q:Bool→Hp→Prop,(∀ x H1,Inv x H1→Q x H1)→c σ H Q):({ nx:=tIfS c a b D,rt:=r,bk:=bk,ct:=ct }:Ends).nx σ H:=h _ fun x H1 i=>by
 cases x
 · exact iteF (hb H1 i)
 · exact iteT (ha H1 i)
theorem sz_str {x:Str} {n:Nat} (h:x.length≤n) (hn:n≤100000):x.length≤sizeLine:=by have e:=sizeLine_eq; omega
def optV:Option Int→V
 | none=>.non
 | some i=>.int i
def sp_wtext:Sp:=fun vs H Q _=>∃ i:Int,vs=[.int i]∧i.natAbs < 10 ^ 60∧∀ H',Same H H'→Q (.str (wd i)) H'
def sp_numOf:Sp:=fun vs H Q _=>∃ z:Str,vs=[.str z]∧okD z.cps.toList=true∧z.length≤1200∧Q (.int ((NumText.digitsVal z.cps.toList:Nat):Int)) H
def sp_wholeIn:Sp:=fun vs H Q _=>∃ z:Str,vs=[.str z]∧z.length≤1200∧Q (optV (wS z)) H
theorem okD_asc {z:Str} (h:okD z.cps.toList=true):z.cps.all (· < 128)=true:=by
 rw [← Array.all_toList]
 exact List.all_eq_true.mpr fun c hc=>decide_eq_true (by have:=(okD_iff.mp h).2 c hc; omega)
theorem okD_int {z:Str} (h:okD z.cps.toList=true) (hl:z.length≤4300):intText? z=some ((NumText.digitsVal z.cps.toList:Nat):Int):=PySem.intText_digits (okD_iff.mp h).2 (okD_iff.mp h).1 hl
theorem sl_to (x:Str) (j:Nat) (h:j≤x.length):(Txt.slice x none (some (j:Int))).cps.toList=x.cps.toList.take j:=by
 rw [beq_iff_eq.mp (slice_closes_to (x:=x) (j:=(j:Int)) ⟨by omega,by rw [← len_eq]; omega⟩)]
 simp
theorem sl_mid (x:Str) (i n:Nat) (h:i+n≤x.length):(Txt.slice x (some (i:Int)) (some ((i:Int)+(n:Int)))).cps.toList=(x.cps.toList.drop i).take n:=by
 rw [beq_iff_eq.mp (slice_closes (x:=x) (i:=(i:Int)) (j:=(i:Int)+n) ⟨by omega,by omega,by rw [← len_eq]; omega⟩)]
 simp
 congr 1
 omega
abbrev IsS (_:Hp) (v:V) (x:Str):Prop:=v=.str x
theorem hIsS:∀ H1 H2 v x,Tk H1 H2→IsS H1 v x→IsS H2 v x:=fun _ _ _ _ _ h=>h
theorem al_strs {H:Hp}:∀ {vs:List V} {xs:List Str},Al (IsS H) vs xs→vs=xs.map V.str
 | [],[],_=>rfl
 | [],x :: xs,h=>by have:=h.1; simp at this
 | v :: vs,[],h=>by have:=h.1; simp at this
 | v :: vs,x :: xs,h=>by rw [show v=V.str x from h.2 0 v x rfl rfl,al_strs (vs:=vs) (xs:=xs) ⟨by have:=h.1; simpa using this,fun i w y e1 e2=>h.2 (i+1) w y (by simpa using e1) (by simpa using e2)⟩]; rfl
theorem lg60 {i:Int} (h:i.natAbs < 10 ^ 60):i.natAbs.log2 < 1920:=by
 by_cases h0:i.natAbs=0
 · rw [h0]; decide
 · exact (Nat.log2_lt h0).mpr (Nat.lt_of_lt_of_le h (Nat.le_trans (Nat.pow_le_pow_left (show 10≤2 ^ 4 by decide) 60) (by rw [← Nat.pow_mul]; exact Nat.pow_le_pow_right (by decide) (by decide))))
theorem wd_len60 {i:Int} (h:i.natAbs < 10 ^ 60):(wd i).length≤61:=by
 rw [len_eq]
 rcases wd_cas i with ⟨n,e,e'⟩ | ⟨n,hn,e,e'⟩
 · rw [e']; have:=dg_len (n:=n) (k:=60) (by decide) (by omega); omega
 · rw [e',List.length_cons]; have:=dg_len (n:=n) (k:=60) (by decide) (by omega); omega
theorem jn1 (y:Str):Txt.join (Str.ofString "") [y]=y:=by rw [join_nl_eq]; rfl
theorem wd_sign (i:Int):(if decide (i < 0)=true then Str.ofString "-" else Str.ofString "")++wd (if i < 0 then -i else i)=wd i:=by
 refine str_eq ?_
 rcases wd_cas i with ⟨n,e,e'⟩ | ⟨n,hn,e,e'⟩
 · rw [if_neg (by rw [decide_eq_true_eq]; omega),if_neg (by omega),Str.cps_append]
   simp [show (Str.ofString "").cps=#[] by decide +kernel]
 · rw [if_pos (by rw [decide_eq_true_eq]; omega),if_pos (by omega),Str.cps_append,e',s_dash,e,Int.neg_neg,Array.toList_append,wd_nat]
   rfl
def IsQ (H:Hp) (v:V) (q:Rat):Prop:=∃ a,v=.ref a∧H a=some (.tup (rt q))
theorem IsQ.tk {H H':Hp} {v:V} {q:Rat} (t:Tk H H') (h:IsQ H v q):IsQ H' v q:=let ⟨a,e,h1⟩:=h; ⟨a,e,t _ _ h1⟩
def Sm (q:Rat):Prop:=q.num.natAbs < 10 ^ 60∧q.den < 10 ^ 60
def sp_written:Sp:=fun vs H Q _=>∃ (p:Addr) (x:Rat),vs=[.ref p]∧H p=some (.tup (rt x))∧Sm x∧∀ H',Same H H'→Q (.str (tw x)) H'
def FrV (H:Hp) (v:V):Option (Int×Int)→Prop
 | none=>v=.non
 | some (t,b)=>∃ p,v=.ref p∧H p=some (.tup [.int t,.int b])
def sp_frIn:Sp:=fun vs H Q _=>∃ z:Str,vs=[.str z]∧z.length≤1200∧∀ v H',Same H H'→FrV H' v (fS z)→Q v H'
def jnD (ys:List Str):Str:=if ys=[] then ⟨#[45]⟩ else Str.join ⟨#[32]⟩ ys
def sp_listed:Sp:=fun vs H Q _=>∃ l ys,vs=[.ref l]∧H l=some (.lst (ys.map V.str))∧JoinOk ⟨#[32]⟩ ys=true∧Q (.str (jnD ys)) H
def sp_rowWr:Sp:=fun vs H Q _=>∃ a us qs,vs=[.ref a]∧H a=some (.tup us)∧Al (IsQ H) us qs∧qs.length≤20∧(∀ q∈qs,Sm q)∧∀ H',Same H H'→Q (.str (rw' qs)) H'
theorem tw_len {q:Rat} (h:Sm q):(tw q).length≤123:=by
 unfold tw
 have h1:=wd_len60 h.1
 have h2:=wd_len60 (i:=(q.den:Int)) (by have:=h.2; omega)
 split
 · omega
 · rw [Str.length_append,Str.length_append]
   have:(⟨#[47]⟩:Str).length=1:=rfl
   omega
def dO:Option Int→PyData
 | none=>.none
 | some i=>.int i
def pr (t b:Option Int):Option (Int×Int):=if isFr (.tuple [dO t,dO b])=true then (match t,b with | some t,some b=>some (t,b) | _,_=>none) else none
theorem wL_len {l:List Nat} {i:Int} (h:wL l=some i):i.natAbs < 10 ^ l.length:=by
 unfold wL at h
 split at h
 · rename_i c
   rw [Bool.and_eq_true] at c
   have hb:=digitsVal_lt (okD_iff.mp c.1).2
   have hl:(bodyL l).length≤l.length:=by
    unfold bodyL
    split
    · rw [List.length_tail]; omega
    · exact Nat.le_refl _
   have:=Nat.lt_of_lt_of_le hb (Nat.pow_le_pow_right (by decide) hl)
   injection h with h
   split at h <;> omega
 · cases h
theorem p1200 {n k:Nat} (h:n < 10 ^ k) (hk:k≤1200):n < 2 ^ 3990:=by
 refine Nat.lt_of_lt_of_le h (Nat.le_trans (Nat.pow_le_pow_right (by decide) hk) ?_)
 have e:(10:Nat) ^ 1200=(10 ^ 3) ^ 400:=by rw [← Nat.pow_mul]
 have e2:(2:Nat) ^ 3990=1024 ^ 399:=by rw [show (1024:Nat)=2 ^ 10 from rfl,← Nat.pow_mul]
 rw [e,e2]
 exact of_decide_eq_true (by decide +kernel:decide ((10 ^ 3) ^ 400≤1024 ^ 399)=true)
theorem dt_opt {N:Addr→Prop} {H:Hp} {o:Option Int} (h:∀ i,o=some i→i.natAbs < 2 ^ 3990):Dt N H 3990 (optV o) (dO o):=by
 cases o with
 | none=>exact .non
 | some i=>exact .int (h i rfl)
theorem isFr_opt (t b:Option Int):isFr (.tuple [dO t,dO b])=match t,b with
 | some t,some b=>decide (1≤b) && decide (Int.gcd t b=1)
 | _,_=>false:=by cases t <;> cases b <;> rfl
theorem fS_prog (z:Str):∃ o b u,Txt.partition z ⟨#[47]⟩=(o,b,u)∧o.length≤z.length∧u.length≤z.length∧((b=Str.empty∧fS z=pr (wS o) (some 1))∨(b=⟨#[47]⟩∧fS z=if wS u=some 1 then none else pr (wS o) (wS u))):=by
 have e:=fS_part z
 rcases split_shape z 47 with ⟨_,h⟩ | ⟨a,b,r,_,h,ez⟩
 · rw [part_none h] at e ⊢
   refine ⟨_,_,_,rfl,Nat.le_refl _,Nat.zero_le _,.inl ⟨rfl,?_⟩⟩
   rw [e,if_pos rfl]
   unfold pr
   rw [isFr_opt]
   cases q:wS z with
   | none=>rfl
   | some t =>
     show _=if (decide ((1:Int)≤1) && decide (Int.gcd t 1=1))=true then _ else _
     rw [show Int.gcd t 1=1 by simp]; rfl
 · rw [part_some ez h] at e ⊢
   have lz:z.length=a.cps.toList.length+(1+(Str.join ⟨#[47]⟩ (b :: r)).cps.toList.length):=by rw [len_eq,ez,List.length_append,List.length_cons]; omega
   refine ⟨_,_,_,rfl,?_,?_,.inr ⟨rfl,?_⟩⟩
   · rw [len_eq]; show a.cps.toList.toArray.toList.length≤_; rw [List.toList_toArray]; omega
   · rw [len_eq,lz]; show (Str.join ⟨#[47]⟩ (b :: r)).cps.toList.toArray.toList.length≤_; rw [List.toList_toArray]; omega
   rw [e,if_neg (show ¬ ((⟨#[47]⟩:Str)=Str.empty) by decide)]
   dsimp only
   generalize wS (⟨a.cps.toList.toArray⟩:Str)=t
   generalize wS (⟨(Str.join ⟨#[47]⟩ (b :: r)).cps.toList.toArray⟩:Str)=u
   unfold pr
   rw [isFr_opt]
   cases t with
   | none=>cases u <;> simp
   | some t =>
     cases u with
     | none=>rfl
     | some u =>
       dsimp only
       by_cases hu:u=1
       · subst hu; rw [if_neg (by omega),if_pos rfl]
       · rw [if_neg (show ¬ (some u=some (1:Int)) from fun z=>hu (Option.some.inj z))]
         by_cases c:2≤u∧Int.gcd t u=1
         · rw [if_pos c,if_pos (by rw [Bool.and_eq_true,decide_eq_true_eq,decide_eq_true_eq]; exact ⟨by omega,c.2⟩)]
         · rw [if_neg c,if_neg]
           rw [Bool.and_eq_true,decide_eq_true_eq,decide_eq_true_eq]
           exact fun z=>c ⟨by omega,z.2⟩
def CLS:List Str:=["NoBalance","NoDeed","NoDeeds","NoFirm","NoFraction","NoFrame","NoHolding","NoInner","NoLine","NoLoads","NoLot","NoMotions","NoPiece","NoPlate","NoRest","NoRounds","NoRows","NoStresses","NoThick","NoTurning","NoWay","NoWays","NoWhole","NotHeld","TooMany","NoText"]
structure Kind (K:PySem.W.Frag) (cl:Str→Addr) (C:Addr) (ix:Nat):Prop where
 is:∀ (i:Nat) x,CLS[i]? = some x→PySem.W.kitOne K (.ref C) (.ref (cl x))=some (decide (i=ix))
 ve:PySem.W.kitOne K (.ref C) (.type "ValueError")=some true
 pe:PySem.W.exmOne K (.ref C) (.ref (cl "PlateError"))=some true
 lk:ExcLook K C
structure Ek (K:PySem.W.Frag) (mg:Str→Option Value) (cl:Str→Addr):Prop where
 nm:∀ x,x∈CLS→mg x=some (.ref (cl x))
 vb:mg "ValueError" = none
 mpe:mg "PlateError" = some (.ref (cl "PlateError"))
 e_NoFraction:ExcK K (cl "NoFraction")
 k_NoFraction:Kind K cl (cl "NoFraction") 4
 k_NoText:Kind K cl (cl "NoText") 25
 xg:XGet K (cl "NoText") "row"
 xa:XAttr K (cl "NoText") "row"
 pk:PEk K (cl "PlateError")
 mv:PySem.W.mroIn K (cl "NoText") (.type "ValueError")=some true
theorem Ek.m_NoFraction {K:PySem.W.Frag} {mg:Str→Option Value} {cl:Str→Addr} (Z:Ek K mg cl):mg "NoFraction" = some (.ref (cl "NoFraction")):=Z.nm _ (by decide)
theorem Ek.m_NoText {K:PySem.W.Frag} {mg:Str→Option Value} {cl:Str→Addr} (Z:Ek K mg cl):mg "NoText" = some (.ref (cl "NoText")):=Z.nm _ (by decide)
structure IniK (P:Program) (w:World) (K:PySem.W.Frag) (mg:Str→Option Value) (base:Heap) (cl:Str→Addr) (fI:Addr) (fdI:FuncData):Prop where
 zi:ExcKI K (cl "NoText") fI
 fi:FnOk P w K mg base CX0 1 fI fdI ["self","row"] (sp_init (cl "NoText") "row")
 hb:Binds K fdI ["self","row"] []
theorem bb_VE:bootBuiltins "ValueError" = some (.type "ValueError"):=by decide +kernel
def isZ:PyData→Bool
 | .tuple (.int i :: _)=>decide (i=0)
 | _=>false
theorem fr_rat {N:Addr→Prop} {H:Hp} {k:Nat} {v:V} {d:PyData} (h:Dt N H k v d) (e:isFr d=true):∃ p q,v=.ref p∧H p=some (.tup (rt q))∧FM.B k q∧isZ d=decide (q.num=0):=by
 rcases h.isT with ⟨p,xs,ds,rfl,rfl,hp,hs⟩ | e'
 · by_cases h2:xs.length=2
   · obtain ⟨x,y,d1,d2,rfl,rfl,k1,k2⟩:∃ x y d1 d2,xs=[x,y]∧ds=[d1,d2]∧Dt N H k x d1∧Dt N H k y d2:=by
      match xs,ds,hs,h2 with
      | [x,y],[d1,d2],.cons a (.cons b .nil),_=>exact ⟨x,y,d1,d2,rfl,rfl,a,b⟩
     rcases k1.isI with ⟨i,rfl,rfl,hi⟩ | z
     · rcases k2.isI with ⟨j,rfl,rfl,hj⟩ | z
       · have e0:(decide (1≤j) && decide (Int.gcd i j=1))=true:=e
         have hj1:0 < j:=by have:=of_decide_eq_true (Bool.and_eq_true_iff.mp e0).1; omega
         have q:=fr_low (i:=i) hj1
         rw [e0] at q
         have q:=of_decide_eq_true q
         injection q with q1 q2
         injection q2 with q2 _
         refine ⟨p,Rat.divInt i j,rfl,by rw [rt,q1,q2]; exact hp,⟨by rw [q1]; exact hi,?_⟩,by rw [q1]; rfl⟩
         have:((Rat.divInt i j).den:Int).natAbs < 2 ^ k:=by rw [q2]; exact hj
         exact this
       · rw [fr_2 z] at e; cases e
     · rw [fr_1 z] at e; cases e
   · rw [hs.len0 h2] at e; cases e
 · have z:isFr d=false:=by cases d <;> first | rfl | (cases e')
   rw [z] at e; cases e
abbrev RB:Hp→V→Bool→Prop:=fun _ v b=>v=V.bl b
theorem hRB:∀ H1 H2 v x,Tk H1 H2→RB H1 v x→RB H2 v x:=fun _ _ _ _ _ e=>e
def areFr (n:Nat) (d:PyData):Bool:=match d with
 | .tuple ds=>decide (ds.length=n) && ds.all isFr
 | _=>false
theorem areFr_no {n:Nat} {d:PyData} (h:isT d=false):areFr n d=false:=by cases d <;> first | rfl | (cases h)
theorem areFr_ln {n:Nat} {ds:List PyData} (h:ds.length≠n):areFr n (.tuple ds)=false:=by
 show (decide (ds.length=n) && _)=false
 rw [decide_eq_false h]; rfl
theorem areFr_eq {n:Nat} {ds:List PyData} (h:ds.length=n):areFr n (.tuple ds)=ds.all isFr:=by
 show (decide (ds.length=n) && _)=_
 rw [decide_eq_true h]; rfl
theorem get_nz {ds:List PyData} {i:Nat} {dx:PyData} (h:ds[i]? = some dx):nz dx≤nz (.tuple ds):=by
 have:=(get_parts h).1
 show _≤1+nzAll ds
 omega
def sp_areFrD:Sp:=fun vs H Q _=>∃ N k v d n,vs=[v,.int ((n:Nat):Int)]∧Dt N H k v d∧k≤4000∧nz d≤1000∧∀ H',Same H H'→Q (.bl (areFr n d)) H'
def isSt:PyData→Bool
 | .str _=>true
 | _=>false
theorem tyS {K:PySem.W.Frag} {N:Addr→Prop} {H:Hp} {k:Nat} {v:V} {d:PyData} (h:Dt N H k v d):∃ t,TyOf K H v t∧PySem.W.kitOne K t (.type "str")=some (isSt d):=by
 cases h with
 | non=>exact ⟨_,TyOf.non,rfl⟩
 | bl b=>exact ⟨_,TyOf.bl b,rfl⟩
 | int hi=>exact ⟨_,TyOf.int _,rfl⟩
 | str x=>exact ⟨_,TyOf.str x,rfl⟩
 | tup h r=>exact ⟨_,TyOf.tup h,rfl⟩
 | lst h n m r=>exact ⟨_,TyOf.lst h,rfl⟩
 | dic h=>exact ⟨_,TyOf.dK h,rfl⟩
inductive Out
 | ok (d:PyData)
 | bad (n:Int)
def frD (x:Int×Int):PyData:=.tuple [.int x.1,.int x.2]
def oneO:PyData→Out
 | .str z=>(match fS z with | none=>.bad 1 | some x=>.ok (frD x))
 | _=>.bad 0
def rowO:PyData→Out
 | .str z=>(match rS z with | none=>.bad 1 | some l=>.ok (.tuple (l.map frD)))
 | _=>.bad 0
def TxOk (d:PyData):Prop:=∀ z,d=.str z→z.length≤990∧z.cps.all (· < 128)=true
def TpD (H:Hp) (v:V) (r:PyData):Prop:=∀ N,Dt N H 3990 v r
theorem asg_inv {t:TE} {g:TG} {b:TS} {D:Ends} {σ:L2.St} {H:Hp} {r:VK} {bk ct:L2.St→Hp→Prop} (I:V→Hp→Prop) (h:∀ Q':VK,(∀ v H1,I v H1→Q' v H1)→t σ H Q') (k:∀ v H1,I v H1→g v σ H1 fun σ' H'=>b D σ' H'):({ nx:=tSeq (tAsg t g) b D,rt:=r,bk:=bk,ct:=ct }:Ends).nx σ H:=h _ k
theorem asg_inv0 {t:TE} {g:TG} {b:TS} {D:Ends} {σ:L2.St} {H:Hp} (I:V→Hp→Prop) (h:∀ Q':VK,(∀ v H1,I v H1→Q' v H1)→t σ H Q') (k:∀ v H1,I v H1→g v σ H1 fun σ' H'=>b D σ' H'):tSeq (tAsg t g) b D σ H:=h _ k
theorem ifs_inv0 {c:TT} {a b u:TS} {D:Ends} {σ:L2.St} {H:Hp} (Inv:Bool→Hp→Prop) (ha:∀ H1,Inv true H1→a { D with nx:=u D } σ H1) (hb:∀ H1,Inv false H1→b { D with nx:=u D } σ H1) (h:∀ Q:Bool→Hp→Prop,(∀ x H1,Inv x H1→Q x H1)→c σ H Q):tSeq (tIfS c a b) u D σ H:=h _ fun x H1 i=>by
 cases x
 · exact iteF (hb H1 i)
 · exact iteT (ha H1 i)
theorem ifs_invS {c:TT} {a b u:TS} {D:Ends} {σ:L2.St} {H:Hp} {r:VK} {bk ct:L2.St→Hp→Prop} (Inv:Bool→Hp→Prop) (ha:∀ H1,Inv true H1→a { D with nx:=u D } σ H1) (hb:∀ H1,Inv false H1→b { D with nx:=u D } σ H1) (h:∀ Q:Bool→Hp→Prop,(∀ x H1,Inv x H1→Q x H1)→c σ H Q):({ nx:=tSeq (tIfS c a b) u D,rt:=r,bk:=bk,ct:=ct }:Ends).nx σ H:=ifs_inv0 Inv ha hb h
def xrow (n:Int):HO:=.xd [("row",.int n)]
def OutK (o:Out) (c:Addr) (H:Hp) (Q:VK) (E:XK):Prop:=match o with
 | .ok r=>∀ u H',Same H H'→TpD H' u r→Q u H'
 | .bad n=>∀ D H',Same H H'→H' D=none→E (.ref c) (some D) (upd H' D (xrow n))
theorem OutK.mono {o:Out} {c:Addr} {H:Hp} {Q Q':VK} {E E':XK} (hQ:∀ v H1,Q v H1→Q' v H1) (hE:∀ c a H1,E c a H1→E' c a H1) (h:OutK o c H Q E):OutK o c H Q' E':=by
 cases o with
 | ok r=>exact fun u H' s t=>hQ _ _ (h u H' s t)
 | bad n=>exact fun D H' s e=>hE _ _ _ (h D H' s e)
def sp_lookFX (c:Addr):Sp:=fun vs H Q E=>∃ N k v d,vs=[v]∧Dt N H k v d∧k≤4000∧isFr d=false∧E (.ref c) none H
def sp_lookF:Sp:=fun vs H Q _=>∃ (p:Addr) (x:Rat),vs=[.ref p]∧H p=some (.tup (rt x))∧Sm x∧Q .non H
def sp_lookTX (c:Addr):Sp:=fun vs H Q E=>∃ N k v d,vs=[v]∧Dt N H k v d∧(if isSt d=true then Q .non H else ∀ D,H D=none→E (.ref c) (some D) (upd H D (xrow 0)))
def sp_lookT:Sp:=fun vs H Q _=>∃ z,vs=[.str z]∧Q .non H
def sp_frTxt:Sp:=fun vs H Q _=>∃ (p:Addr) (x:Rat),vs=[.ref p]∧H p=some (.tup (rt x))∧Sm x∧∀ H',Same H H'→Q (.str (tw x)) H'
def sp_readX (g:PyData→Out) (c:Addr):Sp:=fun vs H Q E=>∃ N k v d,vs=[v]∧Dt N H k v d∧TxOk d∧OutK (g d) c H Q E
def sp_read (g:PyData→Out):Sp:=fun vs H Q _=>∃ z r,vs=[.str z]∧z.length≤990∧g (.str z)=.ok r∧∀ u H',Same H H'→TpD H' u r→Q u H'
def allFr:PyData→Bool
 | .tuple ds=>ds.all isFr
 | _=>false
def sp_rowTxtX (c:Addr):Sp:=fun vs H Q E=>∃ N k v d,vs=[v]∧Dt N H k v d∧k≤190∧nz d≤1000∧(∀ ds,d=.tuple ds→ds.length≤20)∧(if allFr d=true then ∀ z H',Same H H'→Q (.str z) H' else ∀ H',Same H H'→E (.ref c) none H')
theorem frV_dt {H:Hp} {v:V} {z:Str} {x:Int×Int} (hz:z.length≤1200) (e:fS z=some x) (h:FrV H v (some x)):TpD H v (frD x):=by
 obtain ⟨p,rfl,hp⟩:=h
 have b:∀ (y:Str) (i:Int),y.length≤z.length→wS y=some i→i.natAbs < 2 ^ 3990:=fun y i l q=>p1200 (wL_len q) (by rw [← len_eq]; omega)
 have bx:x.1.natAbs < 2 ^ 3990∧x.2.natAbs < 2 ^ 3990:=by
  obtain ⟨o,bb,u,_,lo,lu,c⟩:=fS_prog z
  have pr2:∀ (t b':Option Int),pr t b'=some x→t=some x.1∧b'=some x.2:=fun t b' q=>by
   unfold pr at q
   split at q
   · cases t <;> cases b' <;> simp at q
     rw [← q]; exact ⟨rfl,rfl⟩
   · cases q
  rcases c with ⟨_,f⟩ | ⟨_,f⟩
  · rw [e] at f
    obtain ⟨h1,h2⟩:=pr2 _ _ f.symm
    refine ⟨b o _ lo h1,?_⟩
    rw [← Option.some.inj h2]; exact Nat.one_lt_two_pow (by decide)
  · rw [e] at f
    split at f
    · cases f
    · obtain ⟨h1,h2⟩:=pr2 _ _ f.symm
      exact ⟨b o _ lo h1,b u _ lu h2⟩
 exact fun N=>.tup hp (.cons (.int bx.1) (.cons (.int bx.2) .nil))
theorem al_uncons {α:Type} {R:V→α→Prop} {vs:List V} {x:α} {xs:List α} (h:Al R vs (x :: xs)):∃ v vs',vs=v :: vs'∧R v x∧Al R vs' xs:=by
 match vs,h with
 | [],h=>have:=h.1; simp at this
 | v :: vs,h=>exact ⟨v,vs,rfl,h.2 0 v x rfl rfl,by have:=h.1; simpa using this,fun i w y e1 e2=>h.2 (i+1) w y (by simpa using e1) (by simpa using e2)⟩
theorem al_unnil {α:Type} {R:V→α→Prop} {vs:List V} (h:Al R vs ([]:List α)):vs=[]:=List.eq_nil_of_length_eq_zero h.1
def qD (q:Rat):PyData:=.tuple [.int q.num,.int q.den]
theorem b200 {n:Nat} (h:n < 10 ^ 60):n < 2 ^ 200:=Nat.lt_of_lt_of_le h (of_decide_eq_true (by decide +kernel:decide ((10:Nat) ^ 60≤2 ^ 200)=true))
theorem IsQ.dt {H:Hp} {v:V} {q:Rat} (h:IsQ H v q) (s:Sm q) (N:Addr→Prop):Dt N H 200 v (qD q):=by
 obtain ⟨a,rfl,e⟩:=h
 exact .tup e (.cons (.int (b200 s.1)) (.cons (.int (show ((q.den:Int)).natAbs < _ from b200 s.2)) .nil))
theorem al_dts {H:Hp} {N:Addr→Prop}:∀ {qs:List Rat} {us:List V},Al (IsQ H) us qs→(∀ q∈qs,Sm q)→Dts N H 200 us (qs.map qD)
 | [],us,h,_=>by rw [al_unnil h]; exact .nil
 | q :: qs,us,h,s=>by
   obtain ⟨v,us',rfl,r,h'⟩:=al_uncons h
   exact .cons (r.dt (s q List.mem_cons_self) N) (al_dts h' fun x hx=>s x (List.mem_cons_of_mem _ hx))
theorem qD_fr (q:Rat):isFr (qD q)=true:=by
 show (decide (1≤(q.den:Int)) && decide (Int.gcd q.num q.den=1))=true
 rw [decide_eq_true (by have:=q.den_pos; omega),decide_eq_true (FM.gcd_one q)]; rfl
theorem qD_all (qs:List Rat):(qs.map qD).all isFr=true:=List.all_eq_true.mpr fun x hx=>by
 obtain ⟨q,_,rfl⟩:=List.mem_map.mp hx
 exact qD_fr q
theorem nz_qD:∀ qs:List Rat,nzAll (qs.map qD)=6 * qs.length
 | []=>rfl
 | q :: qs=>by
   show nz (qD q)+1+nzAll (qs.map qD)=_
   rw [nz_qD qs,List.length_cons,show nz (qD q)=5 from rfl]; omega
theorem p190 {n k:Nat} (h:n < 2 ^ k) (hk:k≤190):n < 10 ^ 60:=Nat.lt_of_lt_of_le h (Nat.le_trans (Nat.pow_le_pow_right (by decide) hk) (of_decide_eq_true (by decide +kernel:decide ((2:Nat) ^ 190≤10 ^ 60)=true)))
theorem dts_al {H:Hp} {N:Addr→Prop} {k:Nat} (hk:k≤190):∀ {us:List V} {ds:List PyData},Dts N H k us ds→ds.all isFr=true→∃ qs,Al (IsQ H) us qs∧qs.length=ds.length∧∀ q∈qs,Sm q
 | _,_,.nil,_=>⟨[],.nil,rfl,fun q h=>by cases h⟩
 | _,_,.cons (d:=d) (ds:=ds) r rs,h=>by
   rw [List.all_cons,Bool.and_eq_true] at h
   obtain ⟨qs,a,l,s⟩:=dts_al hk rs h.2
   obtain ⟨p,q,rfl,hp,b,_⟩:=fr_rat r h.1
   refine ⟨q :: qs,.cons ⟨p,rfl,hp⟩ a,by simp [l],fun x hx=>?_⟩
   rcases List.mem_cons.mp hx with rfl | hx
   · exact ⟨p190 b.1 hk,p190 b.2 hk⟩
   · exact s x hx
theorem join_sizes {c:Nat}:∀ (xs:List Str),xs≠[]→xs.length≤(Str.join ⟨#[c]⟩ xs).length+1∧∀ w∈xs,w.length≤(Str.join ⟨#[c]⟩ xs).length
 | [],h=>absurd rfl h
 | [x],_=>⟨by simp,fun w hw=>by rw [List.mem_singleton.mp hw]; exact Nat.le_refl _⟩
 | x :: y :: r,_=>by
   obtain ⟨h1,h2⟩:=join_sizes (c:=c) (y :: r) (by simp)
   have e:(Str.join ⟨#[c]⟩ (x :: y :: r)).length=x.length+1+(Str.join ⟨#[c]⟩ (y :: r)).length:=by rw [len_eq,join_cons,List.length_append,List.length_cons,← len_eq,← len_eq]; omega
   refine ⟨by rw [e,List.length_cons]; omega,fun w hw=>?_⟩
   rcases List.mem_cons.mp hw with rfl | hw
   · omega
   · have:=h2 w hw; omega
theorem split_sizes (z:Str) (c:Nat):(Txt.split z ⟨#[c]⟩).length≤z.length+1∧∀ w∈Txt.split z ⟨#[c]⟩,w.length≤z.length:=by
 have:=join_sizes (c:=c) _ (split_ne z c)
 rwa [StrLaws.join_split] at this
theorem FrV.tk {H H':Hp} {v:V} {o:Option (Int×Int)} (t:Tk H H') (h:FrV H v o):FrV H' v o:=by
 cases o with
 | none=>exact h
 | some x=>obtain ⟨p,e,hp⟩:=h; exact ⟨p,e,t _ _ hp⟩
theorem fr_all {H:Hp}:∀ {ws:List Str} {us:List V},(∀ w∈ws,w.length≤1200)→Al (FrV H) us (ws.map fS)→(∀ v∈us,v=.non∨∃ a xs,v=.ref a∧H a=some (.tup xs))∧us.any isNon=(allS (ws.map fS)).isNone∧∀ l,allS (ws.map fS)=some l→∀ N,Dts N H 3990 us (l.map frD)
 | [],us,_,h=>by
   rw [al_unnil h]
   exact ⟨fun v hv=>(by cases hv),rfl,fun l e N=>by cases e; exact .nil⟩
 | w :: ws,us,hw,h=>by
   obtain ⟨v,us',rfl,r,h'⟩:=al_uncons h
   obtain ⟨h1,h2,h3⟩:=fr_all (fun x hx=>hw x (List.mem_cons_of_mem _ hx)) h'
   rw [List.map_cons]
   cases e:fS w with
   | none =>
     rw [e] at r
     obtain rfl:v=.non:=r
     exact ⟨fun x hx=>(List.mem_cons.mp hx).elim .inl (h1 x),rfl,fun l e'=>by cases e'⟩
   | some x =>
     rw [e] at r
     have dt:=frV_dt (hw w List.mem_cons_self) e r
     obtain ⟨p,rfl,hp⟩:=r
     refine ⟨fun y hy=>(List.mem_cons.mp hy).elim (fun q=>.inr ⟨p,_,q,hp⟩) (h1 y),?_,fun l e' N=>?_⟩
     · show (false || us'.any isNon)=((allS (ws.map fS)).map (x :: ·)).isNone
       rw [h2,Bool.false_or]; cases allS (ws.map fS) <;> rfl
     · have e2:(allS (ws.map fS)).map (x :: ·)=some l:=e'
       obtain ⟨l',e3,rfl⟩:=Option.map_eq_some_iff.mp e2
       exact .cons (dt N) (h3 l' e3 N)
def clsBody:Stmt→List Stmt
 | .ClassDef _ _ _ b ..=>b
 | _=>[]
abbrev s_init:Stmt:=(clsBody (top 27)).headD (.Pass ⟨0,0,0,0⟩)
theorem ok_init {P:Program} {w:World} {K:PySem.W.Frag} {mg:Str→Option Value} {base:Heap} {f:Addr} {fd:FuncData} {cl:Str→Addr} (F:Fun K "__init__" "NoText.__init__" s_init f fd) (Z:Ek K mg cl):FnOk P w K mg base CX0 1 f fd ["self","row"] (sp_init (cl "NoText") "row"):=by
 have sc:FnScope ["self","row"] ["self","row"] (defScope s_init):=fsc (by decide +kernel)
 refine F.ok (k:=0) sc (fun vs H Q E h=>?_) (fun cdv A outer s H vs Q E hr h=>?_)
 · obtain ⟨ea,y,rfl,_⟩:=h
   rfl
 · obtain ⟨ea,y,rfl,⟨i,rfl,hi⟩,he,q⟩:=h
   have nd:=sc.nd
   refine ⟨_,pss_cons (ps_expr (pe_binit rfl Z.mpe Z.pk (pa_cons (pv 0) (pa_cons (pe_fstr (pj_cons pe_str (pj_cons (pe_fv (pv 1)) pj_nil))) pa_nil rfl) rfl))) (pss_one (ps_xat (pv 0) (pv 1))),?_⟩
   have li:(Str.ofString (toString i)).length≤4000:=by
    have:=int_text_length_le (by decide) hi
    rw [PySem.ofString_length]
    omega
   have l0:(Str.ofString "not so written, row ").length≤100:=by decide +kernel
   have sl:=sizeLine_eq
   have le:(Str.empty:Str).length=0:=rfl
   refine ⟨_,rfl,_,rfl,by rw [Str.length_append]; omega,_,rfl,.inl ⟨i,rfl,hi,_,rfl,by rw [Str.length_append,Str.length_append]; omega,by rw [Str.length_append,Str.length_append]; omega,ea,_,_,_,rfl,he,Z.mv,?_⟩⟩
   exact ⟨_,rfl,_,rfl,ea,_,rfl,he,Z.xa,fun dx n1 n2=>q dx n1 n2⟩
structure EH (H:Hp) (ea C:Addr) (dx:Option Addr):Prop where
 e:H ea=some (excA ea C dx)
 d:∀ D,dx=some D→∃ o,H D=some o
theorem EH.dk {H H':Hp} {ea C:Addr} {dx:Option Addr} (h:EH H ea C dx) (s:Same H H'):∀ D,dx=some D→∃ o,H' D=some o:=fun D e=>let ⟨o,z⟩:=h.d D e; ⟨o,s _ _ z⟩
theorem EH.same {H H':Hp} {ea C:Addr} {dx:Option Addr} (s:Same H H') (h:EH H ea C dx):EH H' ea C dx:=⟨s _ _ h.e,h.dk s⟩
def WdOk (K:PySem.W.Frag) (H:Hp) (C:Addr) (dx:Option Addr) (ix:Nat) (ws:List V):Prop:=(ix=4∧ws=[.str "fraction"])∨(ix=25∧∃ D n,dx=some D∧H D=some (xrow n)∧XGet K C "row" ∧ ws=[.str "text",.int n])
def mk26 (ix:Nat):List Bool:=[decide (0=ix),decide (1=ix),decide (2=ix),decide (3=ix),decide (4=ix),decide (5=ix),decide (6=ix),decide (7=ix),decide (8=ix),decide (9=ix),decide (10=ix),decide (11=ix),decide (12=ix),decide (13=ix),decide (14=ix),decide (15=ix),decide (16=ix),decide (17=ix),decide (18=ix),decide (19=ix),decide (20=ix),decide (21=ix),decide (22=ix),decide (23=ix),decide (24=ix),decide (25=ix)]
def sp_marks (K:PySem.W.Frag) (cl:Str→Addr):Sp:=fun vs H Q _=>∃ ea C dx ix,vs=[.ref ea]∧EH H ea C dx∧Kind K cl C ix∧∀ L H',Same H H'→H' L=some (.lst ((mk26 ix).map V.bl))→Q (.ref L) H'
def sp_word (K:PySem.W.Frag) (cl:Str→Addr):Sp:=fun vs H Q _=>∃ ea C dx ix ws,vs=[.ref ea]∧EH H ea C dx∧Kind K cl C ix∧WdOk K H C dx ix ws∧∀ T H',Same H H'→H' T=some (.tup ws)→Q (.ref T) H'
def Mono (sp:Hp→VK→XK→Prop):Prop:=∀ H (Q Q':VK) (E E':XK),(∀ v H1,Q v H1→Q' v H1)→(∀ c a H1,E c a H1→E' c a H1)→sp H Q E→sp H Q' E'
def Said (K:PySem.W.Frag) (cl:Str→Addr) (Q:VK):XK:=fun c a H1=>∃ C ix ws,c=.ref C∧Kind K cl C ix∧(∀ D,a=some D→∃ o,H1 D=some o)∧WdOk K H1 C a ix ws∧∀ T H2,Same H1 H2→H2 T=some (.tup ws)→Q (.ref T) H2
def sp_said (P:Program) (w:World) (K:PySem.W.Frag) (mg:Str→Option Value) (base:Heap) (cl:Str→Addr):Sp:=fun vs H Q _=>∃ a sp o fd,vs=[.ref a]∧H a=some (fzO o)∧o.data=.func fd∧LamOk P w K mg base 8 a sp∧Mono sp ∧
 sp H (fun v H1=>∀ L,H1 L=none→Q (.ref L) (upd H1 L (.lst [v]))) (Said K cl Q)
abbrev noPs:Arguments:={ posonlyargs:=[],args:=[],vararg:=none,kwonlyargs:=[],kw_defaults:=[],kwarg:=none,defaults:=[] }
abbrev lsc (ns:List (Str×NameKind)):Scope:={ kind:=.function,names:=ns,isGenerator:=false,isCoroutine:=false }
theorem lk2 {a c x:Str} (h:List.lookup x [(a,NameKind.free),(c,.globalImplicit)]=some .free):x=a:=by
 simp only [List.lookup] at h
 split at h
 · rename_i e; exact beq_iff_eq.mp e
 · split at h <;> cases h
theorem celOf {H:Hp} {c:Addr} {v:V} (h:CellF H c v):∃ o v,H c=some (fzO o)∧o.data=.cell v:=let ⟨o,u,a,b,_⟩:=h; ⟨o,_,a,b⟩
section
variable {P:Program} {w:World} {K:PySem.W.Frag} {mg:Str→Option Value} {base:Heap} {c c' a:Addr} {pm:Value} {q:Str} {p0 p1 p2 p3:Pos} {j0:Nat}
def spB (sp:V→Hp→VK→XK→Prop) (body:Expr) (f:Str) (a c:Addr) (q:Str) (pm:Value):Hp→VK→XK→Prop:=fun H Q E=>LamF H a q noPs body (lsc [("_law_bad",.free),(f,.globalImplicit)]) [("_law_bad",c)] pm∧∃ v,CellF H c v∧sp v H Q E
theorem spB_mono {sp:V→Hp→VK→XK→Prop} {body:Expr} {f:Str} (m:∀ v,Mono (sp v)):Mono (spB sp body f a c q pm):=fun H Q Q' E E' hQ hE ⟨l,v,h,s⟩=>⟨l,v,h,m v H Q Q' E E' hQ hE s⟩
theorem lamB {sp:V→Hp→VK→XK→Prop} {body:Expr} {f:Str}
 (hpe:∀ (A:Around) (outer:List Env) (s:Shared) (H:Hp) (Q:VK) (E:XK) (cd:Value) (v:V),Room 7 (A.deeper (lamEnv (lsc [("_law_bad",.free),(f,.globalImplicit)]) s.heap.objs.size [("_law_bad",c)] q a cd))→sp v H Q E →
   ∃ t,PE (cxL P w K mg base ["_law_bad"] (lamEnv (lsc [("_law_bad",.free),(f,.globalImplicit)]) s.heap.objs.size [("_law_bad",c)] q a cd) A outer s H E) body t∧t [some v] H Q) :
 LamOk P w K mg base 8 a (spB sp body f a c q pm):=by
 refine lam_of (k:=7) (N:=["_law_bad"]) (q:=q) (params:=noPs) (body:=body) (scope:=lsc [("_law_bad",.free),(f,.globalImplicit)]) (clos:=[("_law_bad",c)]) (pm:=pm) rfl rfl rfl ?_ ?_ ?_ ?_ ?_ ?_ ?_
 · intro x hx; simp only [List.mem_cons,List.not_mem_nil,or_false] at hx; rcases hx with rfl | rfl <;> (intro z; cases z)
 · intro _ _; rfl
 · intro x y d h1 h2
   simp only [List.lookup] at h1 h2
   split at h1
   · split at h2
     · rename_i e1 _ e2; exact (beq_iff_eq.mp e1).trans (beq_iff_eq.mp e2).symm
     · cases h2
   · cases h1
 · intro x hx
   rw [lk2 hx]
   exact ⟨c,rfl⟩
 · intro i x e
   match i,e with
   | 0,e=>cases e; rfl
   | n+1,e=>simp at e
 · rintro H Q E ⟨l,v,h1,_⟩
   refine ⟨l,fun x d e=>?_⟩
   simp only [List.lookup] at e
   split at e
   · cases e; exact celOf h1
   · cases e
 · rintro A outer s H Q E cd hr ⟨l,v,h1,h3⟩
   obtain ⟨t,ht,hq⟩:=hpe A outer s H Q E cd v hr h3
   refine ⟨[some v],t,rfl,fun i x z e1 e2=>?_,ht,hq⟩
   match i,e1,e2 with
   | 0,e1,e2=>cases e1; cases e2; exact ⟨c,rfl,h1⟩
   | n+1,e1,e2=>simp at e1
def spT (sp:V→Hp→VK→XK→Prop) (body:Expr) (f:Str) (a c:Addr) (q:Str) (pm:Value):Hp→VK→XK→Prop:=fun H Q E=>LamF H a q noPs body (lsc [("_law_thing",.free),(f,.globalImplicit)]) [("_law_thing",c)] pm∧∃ v,CellF H c v∧sp v H Q E
theorem spT_mono {sp:V→Hp→VK→XK→Prop} {body:Expr} {f:Str} (m:∀ v,Mono (sp v)):Mono (spT sp body f a c q pm):=fun H Q Q' E E' hQ hE ⟨l,v,h,s⟩=>⟨l,v,h,m v H Q Q' E E' hQ hE s⟩
theorem lamT {sp:V→Hp→VK→XK→Prop} {body:Expr} {f:Str}
 (hpe:∀ (A:Around) (outer:List Env) (s:Shared) (H:Hp) (Q:VK) (E:XK) (cd:Value) (v:V),Room 7 (A.deeper (lamEnv (lsc [("_law_thing",.free),(f,.globalImplicit)]) s.heap.objs.size [("_law_thing",c)] q a cd))→sp v H Q E →
   ∃ t,PE (cxL P w K mg base ["_law_thing"] (lamEnv (lsc [("_law_thing",.free),(f,.globalImplicit)]) s.heap.objs.size [("_law_thing",c)] q a cd) A outer s H E) body t∧t [some v] H Q) :
 LamOk P w K mg base 8 a (spT sp body f a c q pm):=by
 refine lam_of (k:=7) (N:=["_law_thing"]) (q:=q) (params:=noPs) (body:=body) (scope:=lsc [("_law_thing",.free),(f,.globalImplicit)]) (clos:=[("_law_thing",c)]) (pm:=pm) rfl rfl rfl ?_ ?_ ?_ ?_ ?_ ?_ ?_
 · intro x hx; simp only [List.mem_cons,List.not_mem_nil,or_false] at hx; rcases hx with rfl | rfl <;> (intro z; cases z)
 · intro _ _; rfl
 · intro x y d h1 h2
   simp only [List.lookup] at h1 h2
   split at h1
   · split at h2
     · rename_i e1 _ e2; exact (beq_iff_eq.mp e1).trans (beq_iff_eq.mp e2).symm
     · cases h2
   · cases h1
 · intro x hx
   rw [lk2 hx]
   exact ⟨c,rfl⟩
 · intro i x e
   match i,e with
   | 0,e=>cases e; rfl
   | n+1,e=>simp at e
 · rintro H Q E ⟨l,v,h1,_⟩
   refine ⟨l,fun x d e=>?_⟩
   simp only [List.lookup] at e
   split at e
   · cases e; exact celOf h1
   · cases e
 · rintro A outer s H Q E cd hr ⟨l,v,h1,h3⟩
   obtain ⟨t,ht,hq⟩:=hpe A outer s H Q E cd v hr h3
   refine ⟨[some v],t,rfl,fun i x z e1 e2=>?_,ht,hq⟩
   match i,e1,e2 with
   | 0,e1,e2=>cases e1; cases e2; exact ⟨c,rfl,h1⟩
   | n+1,e1,e2=>simp at e1
theorem keepDel {H:Hp} {c:Addr}:Keep c H (del H c):=fun b o n e=>by rw [del_ne n]; exact e
theorem Dt.delF {N:Addr→Prop} {H:Hp} {k:Nat} {v:V} {d:PyData} {c:Addr} {o:Obj} (e:H c=some (fzO o)) (h:Dt N H k v d):Dt N (del H c) k v d:=L2.Dt.keepP (by intro _ z; cases z) (by intro _ z; cases z) (by intro z; cases z) e keepDel h
structure DelOk (Pl c:Addr) (H H2:Hp) (q:Str):Prop where
 o:∀ b o,(∀ x,o≠fzO x)→H2 b=some o→del H2 c b=some o
 d:∀ N k v d,Dt N H2 k v d→Dt N (del H2 c) k v d
 k:KeepP Pl H (del H2 c)
 t:TabF (del H2 c) Pl q
theorem fix_said {i:Nat} {c Pl:Addr} {σ:L2.St} {H:Hp} {Q:VK} {v:V} {cl:Str→Addr} {sp:V→Hp→VK→XK→Prop} {S:Addr→Hp→VK→XK→Prop} {body:Expr} {sc:Scope} {clos:List (Str×Addr)} {N:Addr→Prop} {k:Nat} {d:PyData}
 (hv:σ[i]? = some (some v)) (tl:TabF H Pl q) (hD:Dt N H k v d)
 (lam:∀ a,LamOk P w K mg base 8 a (S a)) (mono:∀ a,Mono (S a)) (mk:∀ a F Q1 E1,LamF F a q noPs body sc clos ((mg "__name__").getD .none)→CellF F c v→sp v F Q1 E1→S a F Q1 E1)
 (h:∀ F,(∀ H2,Same F H2→DelOk Pl c H H2 q)→Dt N F k v d→sp v F (fun v' H1=>∀ L,H1 L=none→Q (.ref L) (del (upd H1 L (.lst [v'])) c)) (Said K cl fun u H2=>Q u (del H2 c))) :
 tFix i c (fun σ H Q=>tCons (tLam mg Pl q noPs body sc clos) tNil σ H fun vs H1=>sp_said P w K mg base cl vs H1 Q E0) σ H Q:=by
 refine ⟨v,hv,fun o u hd r nc=>⟨tl.same (Same.new nc),fun a F kp tf na nP lf=>?_⟩⟩
 have tq:=tl.same (Same.new (o:=fzO o) nc)
 obtain ⟨dd,ct,hA,cf⟩:=id lf
 have cP:c≠Pl:=by (obtain ⟨ps,ep,_⟩:=tl; exact Ne.symm (ne_of_none ep nc))
 have ec:=kp _ _ cP upd_same
 have dz:=(hD.same (Same.new (o:=fzO o) nc)).keepT tq kp
 refine ⟨a,S a,_,_,rfl,hA,rfl,lam a,mono a,mk a F _ _ lf ⟨o,u,ec,hd,r⟩ (h F (fun H2 s2=>?_) dz)⟩
 have y:=s2 _ _ ec
 exact ⟨fun b o' n e=>by rw [del_ne fun z=>by rw [z,y] at e; exact n _ (Option.some.inj e).symm]; exact e,fun _ _ _ _ x=>Dt.delF y x,fun b o' n e=>by rw [del_ne (ne_of_none e nc)]; exact s2 _ _ (kp _ _ n ((Same.new nc) _ _ e)),(tf.same s2).del y hd⟩
end
theorem StAt.neN {H:Hp} {l p:Addr} (s:StAt H l) (h:H p=none):p≠l:=fun z=>s.ne h z.symm
theorem tkS {H H':Hp} {l:Addr} (k:Keep l H H') (s:StAt H l):Tk H H':=by
 obtain ⟨a,b,c,e,_⟩:=s
 exact Tk.of_keep k e
theorem lc_draw {J:It} {n:Nat} {l D:Addr} {g:TG} {te:TE} {σ0:L2.St} {H:Hp} {Q:VK} {α:Type} (R:Hp→V→α→Prop) (hR:∀ H1 H2 v x,Tk H1 H2→R H1 v x→R H2 v x) (hz:n≤1000) (ok:L2.St→Prop) (h0:ok σ0) (hD:H D=none) (hl:StAt H l)
 (hgo:∀ i H2,Keep l H H2→i < n→J.go i H2) (hstop:∀ H2,Keep l H H2→J.stop n H2)
 (hs:∀ i x σ2 H2 H3 (C:L2.St→V→Hp→Prop),i < n→Keep l H H2→StAt H2 l→J.yld i H2 x H3→ok σ2→(∀ σ4 y H5 z,ok σ4→Keep l H2 H5→StAt H5 l→R H5 y z→C σ4 y H5)→g x σ2 H3 fun σ4 H4=>te σ4 H4 (C σ4))
 (hd:∀ H2 vs ys,Keep l H H2→StAt H2 l→H2 D=some (.lst vs)→ys.length=n→Al (R H2) vs ys→Q (.ref D) H2):LcGo J g tYes te σ0 H D Q:=by
 have neD:D≠l:=hl.neN hD
 refine lc_gen (n:=n) (fun i σ H2=>Keep l H H2∧StAt H2 l∧ok σ∧∃ vs ys,ys.length=i∧H2 D=some (.lst vs)∧Al (R H2) vs ys) ⟨Keep.new hD,hl.new hD,h0,[],[],rfl,upd_same,.nil⟩ (fun i σ H2 hi p=>hgo i H2 p.1 hi) (fun σ H2 p=>hstop H2 p.1) (fun i x σ2 H2 H3 hi y p=>?_) (fun σ2 H2 p=>?_)
 · obtain ⟨s2,l2,o2,vs,ys,hy,e2,a2⟩:=p
   refine hs i x σ2 H2 H3 (fun σ4 y H6=>∃ ys,H6 D=some (.lst ys)∧ys.length < sizeLine∧∃ m',m' < n - i∧LcN n (fun i σ H2=>Keep l H H2∧StAt H2 l∧ok σ∧∃ vs ys,ys.length=i∧H2 D=some (.lst vs)∧Al (R H2) vs ys) (i+1) m' σ4 (upd H6 D (.lst (ys++[y])))) hi s2 l2 y o2 ?_
   intro σ4 v H5 z o4 s5 l5 rz
   have e5:H5 D=some (.lst vs):=s5 _ _ neD e2
   have tk:Tk H5 (upd H5 D (.lst (vs++[v]))):=Tk.upd_lst e5
   refine ⟨vs,e5,?_,n - (i+1),by omega,by omega,rfl,fun b o nb e=>?_,?_,o4,vs++[v],ys++[z],by simp [hy],upd_same,?_⟩
   · rw [a2.1,sizeLine_eq]; omega
   · rw [upd_ne (ne_of_none e hD)]; exact s5 _ _ nb (s2 _ _ nb e)
   · obtain ⟨a,b,c,e,r⟩:=l5
     exact ⟨a,b,c,by rw [upd_ne neD.symm]; exact e,r⟩
   · exact (a2.imp fun v x r=>hR _ _ v x tk (hR _ _ v x (tkS s5 l2) r)).snoc (hR _ _ _ _ tk rz)
 · obtain ⟨s2,l2,_,vs,ys,hy,e2,a2⟩:=p
   exact hd H2 vs ys s2 l2 e2 hy a2
def sp_drawn6 (n:Nat):Sp:=fun vs H Q _=>∃ l:Addr,vs=[.ref l]∧StAt H l∧∀ (H':Hp) (p:Addr) (q:Rat),Keep l H H'→StAt H' l→H' p=some (.tup (rt q))→FM.B n q∧q.den ∣ 60→Q (.ref p) H'
theorem den_dvd (t:Int) {b:Int} (h:b≠0):((Rat.divInt t b).den:Int) ∣ b:=by
 rw [← FM.fdiv_den h]
 have hs:FM.sg t b ∣ b:=by
  unfold FM.sg
  split
  · exact Int.neg_dvd.mpr (Int.gcd_dvd_right t b)
  · exact Int.gcd_dvd_right t b
 obtain ⟨k,hk⟩:=hs
 have e:b.fdiv (FM.sg t b)=k:=by
  have h0:=FM.sg_ne (t:=t) h
  generalize FM.sg t b=g at *
  rw [hk,Int.mul_comm]; exact FM.fdiv_mul h0
 rw [e]
 exact ⟨_,by rw [Int.mul_comm]; exact hk⟩
theorem den60 (t:Int) {b:Int} (h1:1≤b) (h6:b≤6):(Rat.divInt t b).den ∣ 60:=by
 have h:=den_dvd t (show b≠0 by omega)
 have h2:b ∣ 60:=by
  have:b=1∨b=2∨b=3∨b=4∨b=5∨b=6:=by omega
  rcases this with rfl | rfl | rfl | rfl | rfl | rfl <;> decide
 exact_mod_cast Int.dvd_trans h h2
theorem eqT_Q {X:Cx}:EqT X 1 IsQ:=by
 intro A pins σ H s v u a b x y hu I h1 h2 r1 r2
 obtain ⟨p,rfl,e1⟩:=h1
 obtain ⟨q,rfl,e2⟩:=h2
 have h:=eqT_tup (X:=X) eqT_int (fun H v x y (h1:v=.int x) (h2:v=.int y)=>by rw [h1] at h2; cases h2; rfl) A pins σ H s (.ref p) (.ref q) a b [x.num,(x.den:Int)] [y.num,(y.den:Int)] hu I ⟨p,_,rfl,e1,Al.of_ints [x.num,(x.den:Int)]⟩ ⟨q,_,rfl,e2,Al.of_ints [y.num,(y.den:Int)]⟩ r1 r2
 rw [rt_eq] at h
 exact h
def sp_rowQ:Sp:=fun vs H Q _=>∃ (l:Addr) (n:Nat),vs=[.ref l,.int n]∧StAt H l∧n≤1000∧∀ (H':Hp) (a:Addr) (us:List V) (ms:List Rat),Keep l H H'→StAt H' l→H' a=some (.tup us)→Al (IsQ H') us ms→ms.length=n→(∀ q∈ms,FM.B 44 q∧q.den ∣ 60)→Q (.ref a) H'
def sp_sameR:Sp:=fun vs H Q _=>∃ u v d,vs=[u,v]∧RpD H u d∧RpD H v d∧Q (.bl true) H
def asc (z:Str):Prop:=z.cps.all (· < 128)=true
def sp_numb:Sp:=fun vs H Q _=>∃ z:Str,vs=[.str z]∧z.length≤1200∧asc z∧∀ H',Same H H'→Q (optV (wS z)) H'
def sp_rdOne:Sp:=fun vs H Q _=>∃ z:Str,vs=[.str z]∧z.length≤990∧asc z∧∀ v H',Same H H'→FrV H' v (fS z)→Q v H'
def outD:Out→PyData
 | .ok r=>.list [r]
 | .bad n=>.tuple [.str "text",.int n]
def sp_due (g:PyData→Out):Sp:=fun vs H Q _=>∃ N k v d,vs=[v]∧Dt N H k v d∧TxOk d∧∀ u H',Same H H'→RpD H' u (outD (g d))→Q u H'
def sp_turned:Sp:=fun vs H Q _=>∃ (l:Addr) (z:Str),vs=[.ref l,.str z]∧StAt H l∧z.length≤490∧asc z∧∀ H' z',Keep l H H'→StAt H' l→z'.length≤2 * z.length+1→asc z'→Q (.str z') H'
theorem hu_d2 {A:Around} {k:Nat} (hr:Room k A):A.units+1+1 < cLine:=by have:=hr.un; omega
theorem hu_d1 {A:Around} {k:Nat} (hr:Room k A):A.units+0+1 < cLine:=by have:=hr.un; omega
theorem sl_head (z:Str):decide (V.str (Txt.slice z none (some 1))=V.str (Str.ofString "-"))=decide (z.cps.toList.head? = some 45):=by
 rw [s_dash]
 by_cases h:1≤z.length
 · have e:=sl_to z 1 h
   rw [show ((1:Nat):Int)=1 from rfl] at e
   refine decide_eq_decide.mpr ⟨fun q=>?_,fun q=>?_⟩
   · have:=V.str.inj q
     rw [this] at e
     have e:[45]=z.cps.toList.take 1:=e
     cases hz:z.cps.toList with
     | nil=>rw [hz] at e; cases e
     | cons a l=>rw [hz] at e; cases e; rfl
   · refine congrArg V.str (str_eq ?_)
     rw [e]
     cases hz:z.cps.toList with
     | nil=>rw [hz] at q; cases q
     | cons a l=>rw [hz] at q; cases q; rfl
 · have:z=Str.empty:=str_eq (List.eq_nil_of_length_eq_zero (by rw [← len_eq]; omega))
   subst this
   decide +kernel
theorem sl_tail (z:Str) (h:z.cps.toList.head? = some 45):(Txt.slice z (some 1) none).cps.toList=z.cps.toList.tail:=by
 have hl:1≤z.length:=by
  rw [len_eq]
  cases hz:z.cps.toList with
  | nil=>rw [hz] at h; cases h
  | cons a l=>simp
 rw [beq_iff_eq.mp (slice_closes_from (x:=z) (i:=(1:Int)) ⟨by omega,by rw [← len_eq]; omega⟩)]
 cases hz:z.cps.toList <;> simp [hz]
theorem occ_dig:∀ c:Nat,c < 128→(Builtin.Str.occurrences (Str.ofString "0123456789") ⟨#[c]⟩ 0 (Str.ofString "0123456789").length 1).isEmpty = !isD c:=by decide +kernel
def noD (l:List Nat):List Nat:=l.filter fun c=>!isD c
theorem nd_iff {l:List Nat}:decide (noD l=[])=l.all isD:=by
 unfold noD
 cases h:l.all isD with
 | true=>exact decide_eq_true (List.filter_eq_nil_iff.mpr fun c hc=>by rw [List.all_eq_true.mp h c hc]; decide)
 | false =>
   refine decide_eq_false fun z=>?_
   have:l.all isD=true:=List.all_eq_true.mpr fun c hc=>by
    have:=List.filter_eq_nil_iff.mp z c hc
    cases q:isD c with
    | true=>rfl
    | false=>rw [q] at this; exact absurd rfl this
   rw [this] at h
   cases h
theorem nd_snoc (l:List Nat) (c:Nat):noD (l++[c])=if isD c=true then noD l else noD l++[c]:=by
 unfold noD
 rw [List.filter_append]
 cases h:isD c <;> simp [h]
theorem join_mem {sep:Str}:∀ {xs:List Str} {w:Str},w∈xs→∀ c∈w.cps.toList,c∈(Str.join sep xs).cps.toList
 | [x],w,h,c,hc=>by rw [List.mem_singleton.mp h] at hc; exact hc
 | x :: y :: r,w,h,c,hc=>by
   have e:Str.join sep (x :: y :: r)=x++sep++Str.join sep (y :: r):=rfl
   rw [e,Str.cps_append,Str.cps_append,Array.toList_append,Array.toList_append]
   rcases List.mem_cons.mp h with rfl | h
   · simp [hc]
   · simp [join_mem h c hc]
theorem split_asc {z w:Str} {c:Nat} (h:asc z) (hw:w∈Txt.split z ⟨#[c]⟩):asc w:=by
 have h:z.cps.all (· < 128)=true:=h
 show w.cps.all (· < 128)=true
 rw [← Array.all_toList] at h ⊢
 refine List.all_eq_true.mpr fun x hx=>List.all_eq_true.mp h x ?_
 have:=join_mem (sep:=⟨#[c]⟩) hw x hx
 rwa [StrLaws.join_split] at this
abbrev IsO (_:Hp) (v:V) (x:Option Int):Prop:=v=optV x
theorem hIsO:∀ H1 H2 v x,Tk H1 H2→IsO H1 v x→IsO H2 v x:=fun _ _ _ _ _ h=>h
theorem al_opts {H:Hp}:∀ {vs:List V} {xs:List (Option Int)},Al (IsO H) vs xs→vs=xs.map optV
 | vs,[],h=>al_unnil h
 | vs,x :: xs,h=>by
   obtain ⟨v,vs',rfl,r,h'⟩:=al_uncons h
   rw [al_opts h']
   exact congrArg (· :: _) r
theorem opt_shape:∀ l:List (Option Int),(l.any Option.isNone=true∧frL l=none)∨∃ ts:List Int,l=ts.map some
 | []=>.inr ⟨[],rfl⟩
 | none :: l=>.inl ⟨rfl,by cases l <;> rfl⟩
 | some t :: l=>by
   rcases opt_shape l with ⟨h,e⟩ | ⟨ts,rfl⟩
   · refine .inl ⟨by rw [List.any_cons,h,Bool.or_true],?_⟩
     match l,h with
     | [none],_=>rfl
     | [some b],h=>cases h
     | none :: _ :: _,_=>rfl
     | some _ :: _ :: _,_=>rfl
   · exact .inr ⟨t :: ts,rfl⟩
theorem opt_flat:∀ l:List (Option Int),(l.map optV).all flatV=true
 | []=>rfl
 | none :: l=>opt_flat l
 | some _ :: l=>opt_flat l
theorem opt_in:∀ l:List (Option Int),inV .non (l.map optV)=l.any Option.isNone
 | []=>rfl
 | none :: l=>rfl
 | some i :: l=>by
   show (eqV .non (.int i) || inV .non (l.map optV))=_
   rw [opt_in l]; rfl
theorem ts_none (ts:List Int):(ts.map some).any Option.isNone=false:=by
 induction ts with
 | nil=>rfl
 | cons t ts ih=>rw [List.map_cons,List.any_cons,ih]; rfl
structure RO (r:PyData):Prop where
 n:noL r=true
 d:r.depth≤10
 z:nz r≤2990
theorem ro_fr (x:Int×Int):RO (frD x):=⟨rfl,by show PyData.depth (.tuple [.int x.1,.int x.2])≤10; simp [PyData.depth,PyData.depthAll],by show 5≤2990; decide⟩
theorem dep_frs:∀ l:List (Int×Int),PyData.depthAll (l.map frD)≤5
 | []=>by decide
 | x :: l=>by
   show max (PyData.depth (frD x)) (PyData.depthAll (l.map frD))≤5
   have:=dep_frs l
   have:PyData.depth (frD x)≤5:=by show PyData.depth (.tuple [.int x.1,.int x.2])≤5; simp [PyData.depth,PyData.depthAll]
   omega
theorem nz_frs:∀ l:List (Int×Int),nzAll (l.map frD)=6 * l.length
 | []=>rfl
 | x :: l=>by
   show nz (frD x)+1+nzAll (l.map frD)=_
   rw [nz_frs l,List.length_cons,show nz (frD x)=5 from rfl]; omega
theorem ro_row {l:List (Int×Int)} (h:l.length≤495):RO (.tuple (l.map frD)):=by
 refine ⟨noLs_iff.mpr fun x hx=>?_,?_,?_⟩
 · obtain ⟨y,_,rfl⟩:=List.mem_map.mp hx; rfl
 · show PyData.depthAll (l.map frD)+1≤10
   have:=dep_frs l; omega
 · show 1+nzAll (l.map frD)≤2990
   rw [nz_frs]; omega
theorem join_two {c:Nat}:∀ (xs:List Str),xs≠[]→(∀ w∈xs,1≤w.length)→2 * xs.length≤(Str.join ⟨#[c]⟩ xs).length+1
 | [],h,_=>absurd rfl h
 | [x],_,h=>by have:=h x List.mem_cons_self; show 2≤x.length+1; omega
 | x :: y :: r,_,h=>by
   have h1:=join_two (c:=c) (y :: r) (by simp) fun w hw=>h w (List.mem_cons_of_mem _ hw)
   have e:(Str.join ⟨#[c]⟩ (x :: y :: r)).length=x.length+1+(Str.join ⟨#[c]⟩ (y :: r)).length:=by rw [len_eq,join_cons,List.length_append,List.length_cons,← len_eq,← len_eq]; omega
   have:=h x List.mem_cons_self
   rw [List.length_cons,e]
   omega
theorem fS_emp {z:Str} {x:Int×Int} (h:fS z=some x):1≤z.length:=by
 cases e:z.length with
 | zero =>
   have:z=Str.empty:=str_eq (List.eq_nil_of_length_eq_zero (by rw [← len_eq]; exact e))
   rw [this,show fS Str.empty=none by decide +kernel] at h
   cases h
 | succ n=>omega
theorem allS_some {α:Type}:∀ {ys:List (Option α)} {l:List α},allS ys=some l→ys=l.map some
 | [],l,h=>by cases h; rfl
 | none :: _,l,h=>by cases h
 | some x :: ys,l,h=>by
   have h':(allS ys).map (x :: ·)=some l:=h
   obtain ⟨l',e,rfl⟩:=Option.map_eq_some_iff.mp h'
   rw [allS_some e]; rfl
theorem rS_len {z:Str} {l:List (Int×Int)} (h:rS z=some l):2 * l.length≤z.length+1:=by
 unfold rS at h
 split at h
 · cases h; exact Nat.zero_le _
 · have e:=allS_some h
   have ll:l.length=(Txt.split z ⟨#[32]⟩).length:=by
    have:=congrArg List.length e
    simpa using this.symm
   have:=join_two (c:=32) _ (split_ne z 32) fun w hw=>by
    obtain ⟨i,hi,ew⟩:=List.getElem_of_mem hw
    have h1:((Txt.split z ⟨#[32]⟩).map fS)[i]? = some (fS w):=by rw [List.getElem?_map,List.getElem?_eq_getElem hi,ew]; rfl
    rw [e,List.getElem?_map] at h1
    obtain ⟨x,_,ex⟩:=Option.map_eq_some_iff.mp h1
    exact fS_emp ex.symm
   rw [StrLaws.join_split] at this
   omega
theorem oneO_str (z:Str):oneO (.str z)=(match fS z with | none=>.bad 1 | some x=>.ok (frD x)):=rfl
theorem rowO_str (z:Str):rowO (.str z)=(match rS z with | none=>.bad 1 | some l=>.ok (.tuple (l.map frD))):=rfl
theorem ro_oneO {d r:PyData} (h:oneO d=.ok r):RO r:=by
 cases d with
 | str z =>
   rw [oneO_str] at h
   cases e:fS z with
   | none=>rw [e] at h; cases h
   | some x=>rw [e] at h; cases h; exact ro_fr x
 | _=>cases h
theorem ro_rowO {d r:PyData} (ht:TxOk d) (h:rowO d=.ok r):RO r:=by
 cases d with
 | str z =>
   rw [rowO_str] at h
   cases e:rS z with
   | none=>rw [e] at h; cases h
   | some l=>rw [e] at h; cases h; have:=rS_len e; have:=(ht z rfl).1; exact ro_row (by omega)
 | _=>cases h
theorem rp_list {H:Hp} {L:Addr} {v:V} {r:PyData} (e:H L=some (.lst [v])) (t:TpD H v r) (o:RO r):RpD H (.ref L) (.list [r]):=by
 refine ⟨fun _=>False,3990,by decide,.inr ⟨L,_,[r],rfl,rfl,e,.cons (t _) .nil,by simp,?_,?_,?_⟩⟩
 · show (noL r && true)=true; rw [o.n]; rfl
 · show max r.depth 0≤18; have:=o.d; omega
 · show nz r+1+0≤3000; have:=o.z; omega
theorem rp_tup {H:Hp} {v:V} {ds:List PyData} (t:TpD H v (.tuple ds)) (o:RO (.tuple ds)):RpD H v (.tuple ds):=by
 refine ⟨fun _=>False,3990,by decide,.inl ⟨ds,rfl,t _,o.n,?_,?_⟩⟩
 · have:PyData.depthAll ds+1≤10:=o.d; omega
 · have:1+nzAll ds≤2990:=o.z; omega
theorem rp_bad {H:Hp} {t:Addr} {n:Int} (hn:n.natAbs < 10) (e:H t=some (.tup [.str "text",.int n])):RpD H (.ref t) (outD (.bad n)):=by
 refine rp_tup (fun N=>.tup e (.cons (.str _) (.cons (.int ?_) .nil))) ⟨rfl,?_,?_⟩
 · exact Nat.lt_of_lt_of_le hn (Nat.le_trans (show 10≤2 ^ 4 by decide) (Nat.pow_le_pow_right (by decide) (by decide)))
 · show PyData.depthAll [.str "text",.int n]+1≤10; simp [PyData.depthAll,PyData.depth]
 · show 1+((reprText "text").length+1+(1+1+0))≤2990; rw [show (reprText "text").length=6 by decide +kernel]; decide
theorem slice_sub {z:Str} {l u:Option Int} (h:asc z):asc (Txt.slice z l u)∧(Txt.slice z l u).length≤z.length:=by
 unfold Txt.slice
 split
 · exact ⟨h,Nat.le_refl _⟩
 · constructor
   · have h:z.cps.all (· < 128)=true:=h
     rw [Array.all_eq_true] at h
     show (⟨((Builtin.Str.strSliceIndices l u 1 z.length).filterMap (z.cps[·]?)).toArray⟩:Str).cps.all (· < 128)=true
     rw [← Array.all_toList]
     refine List.all_eq_true.mpr fun c hc=>?_
     obtain ⟨i,_,e⟩:=List.mem_filterMap.mp hc
     obtain ⟨hi,e⟩:=Array.getElem?_eq_some_iff.mp e
     rw [← e]
     exact h i hi
   · show (((Builtin.Str.strSliceIndices l u 1 z.length).filterMap (z.cps[·]?)).toArray).size≤_
     rw [List.size_toArray]
     exact Nat.le_trans (List.length_filterMap_le _ _) (sliceIndices_le l u z.length)
theorem asc_app {x y:Str} (hx:asc x) (hy:asc y):asc (x++y):=by
 show (x++y).cps.all (· < 128)=true
 rw [Str.cps_append,Array.all_append,show x.cps.all (· < 128)=true from hx,show y.cps.all (· < 128)=true from hy]; rfl
abbrev sgs:Str:=Str.ofString "0123456789-/ +.a\t\n"
theorem sgs_at {r:Int} (h0:0≤r) (h1:r < 18):∃ c,atI sgs.cps.toList r=some c∧c < 128:=by
 obtain ⟨k,rfl⟩:=Int.eq_ofNat_of_zero_le h0
 have hl:sgs.cps.toList.length=18:=by decide +kernel
 have hk:k < sgs.cps.toList.length:=by rw [hl]; omega
 refine ⟨_,atI_nat (List.getElem?_eq_getElem hk),?_⟩
 have:sgs.cps.toList.all (· < 128)=true:=by decide +kernel
 exact of_decide_eq_true (List.all_eq_true.mp this _ (List.getElem_mem hk))
theorem rpSame {H H':Hp} {v:V} {d:PyData} (s:Same H H') (h:RpD H v d):RpD H' v d:=by
 obtain ⟨N,k,hk,c⟩:=h
 refine ⟨N,k,hk,?_⟩
 rcases c with ⟨ds,e,hd,r⟩ | ⟨l,us,ds,e1,e2,hl,hd,r⟩
 · exact .inl ⟨ds,e,hd.same s,r⟩
 · exact .inr ⟨l,us,ds,e1,e2,s _ _ hl,hd.same s,r⟩
theorem fix_out {P:Program} {w:World} {K:PySem.W.Frag} {mg:Str→Option Value} {base:Heap} {q:Str} {i:Nat} {c Pl:Addr} {σ:L2.St} {H:Hp} {Q:VK} {v:V} {cl:Str→Addr} {S:Addr→Hp→VK→XK→Prop} {body:Expr} {sc:Scope} {clos:List (Str×Addr)} {N:Addr→Prop} {k:Nat} {d:PyData} {g:PyData→Out}
 (Z:Ek K mg cl) (hro:∀ r,g d=.ok r→RO r) (hn:∀ n,g d=.bad n→n.natAbs < 10)
 (hv:σ[i]? = some (some v)) (tl:TabF H Pl q) (hD:Dt N H k v d) (ht:TxOk d)
 (lam:∀ a,LamOk P w K mg base 8 a (S a)) (mono:∀ a,Mono (S a)) (mk:∀ a F Q1 E1,LamF F a q noPs body sc clos ((mg "__name__").getD .none)→CellF F c v→sp_readX g (cl "NoText") [v] F Q1 E1→S a F Q1 E1)
 (kk:∀ u H1,KeepP Pl H H1→TabF H1 Pl q→RpD H1 u (outD (g d))→Q u H1) :
 tFix i c (fun σ H Q=>tCons (tLam mg Pl q noPs body sc clos) tNil σ H fun vs H1=>sp_said P w K mg base cl vs H1 Q E0) σ H Q:=by
 refine fix_said (sp:=fun v F Q1 E1=>sp_readX g (cl "NoText") [v] F Q1 E1) hv tl hD lam mono mk fun F fin hF=>⟨N,k,v,d,rfl,hF,ht,?_⟩
 cases e:g d with
 | ok r =>
   intro u H1 s1 tp L nL
   have f:=fin _ (s1.trans (Same.new (o:=.lst [u]) nL))
   refine kk _ _ f.k f.t ?_
   rw [e]
   exact rp_list (f.o _ _ (by intro x z; cases z) upd_same) (fun N'=>f.d _ _ _ _ ((tp N').same (Same.new nL))) (hro r e)
 | bad n =>
   intro D H1 s1 nD
   refine ⟨_,25,_,rfl,Z.k_NoText,fun D' e=>by cases e; exact ⟨_,upd_same⟩,.inr ⟨rfl,D,n,rfl,upd_same,Z.xg,rfl⟩,fun T H2 s2 hT=>?_⟩
   have f:=fin _ (s1.trans ((Same.new nD).trans s2))
   refine kk _ _ f.k f.t ?_
   rw [e]
   exact rp_bad (hn n e) (f.o _ _ (by intro x z; cases z) hT)
theorem bad_one {d:PyData} {n:Int} (h:oneO d=.bad n):n.natAbs < 10:=by
 cases d with
 | str z =>
   rw [oneO_str] at h
   cases e:fS z with
   | none=>rw [e] at h; cases h; decide
   | some x=>rw [e] at h; cases h
 | _=>cases h; decide
theorem bad_row {d:PyData} {n:Int} (h:rowO d=.bad n):n.natAbs < 10:=by
 cases d with
 | str z =>
   rw [rowO_str] at h
   cases e:rS z with
   | none=>rw [e] at h; cases h; decide
   | some x=>rw [e] at h; cases h
 | _=>cases h; decide
theorem readX_mono {g:PyData→Out} {c:Addr} {vs:List V}:Mono (fun H Q E=>sp_readX g c vs H Q E):=fun H Q Q' E E' hQ hE ⟨N,k,v,d,e,hd,ht,o⟩=>⟨N,k,v,d,e,hd,ht,o.mono hQ hE⟩
section
variable {P:Program} {w:World} {K:PySem.W.Frag} {mg:Str→Option Value} {base:Heap} {c c' a:Addr} {pm:Value} {q:Str} {p0 p1 p2 p3:Pos}
theorem lamRow (X_f:CalX P w K mg base "read_row" 6 ["text"] (sp_readX rowO c')):LamOk P w K mg base 8 a (spT (fun v H Q E=>sp_readX rowO c' [v] H Q E) (.Call (.Name "read_row" p0) [.Name "_law_thing" p1] [] p3) "read_row" a c q pm) :=
 lamT fun A outer s H Q E cd v hr h=>⟨_,pe_calX X_f xeOkL.passes hr (by decide) rfl (pa_cons (pv 0) pa_nil rfl),⟨_,rfl,h⟩⟩
theorem lamOne (X_f:CalX P w K mg base "read_fraction" 6 ["text"] (sp_readX oneO c')):LamOk P w K mg base 8 a (spT (fun v H Q E=>sp_readX oneO c' [v] H Q E) (.Call (.Name "read_fraction" p0) [.Name "_law_thing" p1] [] p3) "read_fraction" a c q pm) :=
 lamT fun A outer s H Q E cd v hr h=>⟨_,pe_calX X_f xeOkL.passes hr (by decide) rfl (pa_cons (pv 0) pa_nil rfl),⟨_,rfl,h⟩⟩
end
theorem if_call {t:TE} {ts:TA} {sp:Sp} {K:PySem.W.Frag} {a b u:TS} {D:Ends} {σ:L2.St} {H:Hp} (h:t σ H fun v H1=>ts σ H1 fun vs H2=>sp (v :: vs) H2 (fun x H'=>∃ k,TruV K x H' k∧(if (!k)=true then a { D with nx:=u D } σ H' else b { D with nx:=u D } σ H')) E0):tSeq (tIfS (tNot fun σ H Q=>tCons t ts σ H fun vs H1=>sp vs H1 (fun x H'=>∃ k,TruV K x H' k∧Q k H') E0) a b) u D σ H:=h
theorem ret_call {t:TE} {ts:TA} {sp:Sp} {D:Ends} {σ:L2.St} {H:Hp} {r:VK} {bk ct:L2.St→Hp→Prop} (h:t σ H fun v H1=>ts σ H1 fun vs H2=>sp (v :: vs) H2 D.rt E0):tNext { nx:=tRet (fun σ H Q=>tCons t ts σ H fun vs H1=>sp vs H1 Q E0) D,rt:=r,bk:=bk,ct:=ct } σ H:=h
def sp_right (Ph:Addr):Sp:=fun vs H Q _=>∃ N k v d,vs=[v]∧Dt N H k v d∧TxOk d∧TabF H Ph "_law_right.<locals>.<lambda>" ∧ ∀ H',KeepP Ph H H'→TabF H' Ph "_law_right.<locals>.<lambda>" → Q (.bl true) H'
theorem tabNe {H:Hp} {P a:Addr} {q:Str} {xs:List V} (t:TabF H P q) (e:H a=some (.lst xs)):a≠P:=fun z=>by
 obtain ⟨ps,h,_⟩:=t
 rw [z,h] at e; cases e
theorem tabNeT {H:Hp} {P a:Addr} {q:Str} {xs:List V} (t:TabF H P q) (e:H a=some (.tup xs)):a≠P:=fun z=>by
 obtain ⟨ps,h,_⟩:=t
 rw [z,h] at e; cases e
theorem Tk.kp {H H':Hp} {P:Addr} {q:Str} (k:KeepP P H H') (t:TabF H P q):Tk H H':=fun b xs e=>k b _ (tabNeT t e) e
theorem StAt.kp {H H':Hp} {P l:Addr} {q:Str} (s:StAt H l) (k:KeepP P H H') (t:TabF H P q):StAt H' l:=let ⟨a,b,c,e,r⟩:=s; ⟨a,b,c,k _ _ (tabNe t e) e,r⟩
structure LI (Ph Pw l:Addr) (H0 H:Hp):Prop where
 st:StAt H l
 gv:Gv Ph Pw H0 H
 th:TabF H Ph "_law_right.<locals>.<lambda>"
 tw:TabF H Pw "law.<locals>.<lambda>"
section
variable {Ph Pw l:Addr} {H0 H H':Hp}
theorem LI.same (I:LI Ph Pw l H0 H) (s:Same H H'):LI Ph Pw l H0 H':=⟨I.st.same s,fun b o n1 n2 e=>s _ _ (I.gv b o n1 n2 e),I.th.same s,I.tw.same s⟩
theorem LI.keep (I:LI Ph Pw l H0 H) (n:H0 l=none) (k:Keep l H H') (s':StAt H' l):LI Ph Pw l H0 H' :=
 let ⟨_,e⟩:=I.st.lst'
 ⟨s',fun b o n1 n2 e=>k b o (ne_of_none e n) (I.gv b o n1 n2 e),I.th.keepL e k,I.tw.keepL e k⟩
theorem LI.kpH (I:LI Ph Pw l H0 H) (hne:Ph≠Pw) (k:KeepP Ph H H') (t:TabF H' Ph "_law_right.<locals>.<lambda>"):LI Ph Pw l H0 H':=⟨I.st.kp k I.th,fun b o n1 n2 e=>k b o n1 (I.gv b o n1 n2 e),t,I.tw.gvP I.th hne.symm k⟩
theorem LI.kpW (I:LI Ph Pw l H0 H) (hne:Ph≠Pw) (k:KeepP Pw H H') (t:TabF H' Pw "law.<locals>.<lambda>"):LI Ph Pw l H0 H':=⟨I.st.kp k I.tw,fun b o n1 n2 e=>k b o n2 (I.gv b o n1 n2 e),I.th.gvP I.tw hne k,t⟩
end
def IsR (H:Hp) (t:Addr) (qs:List Rat):Prop:=∃ us,H t=some (.tup us)∧Al (IsQ H) us qs
theorem IsR.tk {H H':Hp} {t:Addr} {qs:List Rat} (k:Tk H H') (h:IsR H t qs):IsR H' t qs:=let ⟨us,e,a⟩:=h; ⟨us,k _ _ e,a.imp fun _ _ r=>r.tk k⟩
structure RQ (qs:List Rat):Prop where
 n:qs.length≤6
 b:∀ q∈qs,FM.B 44 q∧q.den ∣ 60
theorem sm44 {q:Rat} (h:FM.B 44 q):Sm q:=⟨p190 h.1 (by decide),p190 h.2 (by decide)⟩
theorem RQ.sm {qs:List Rat} (h:RQ qs):∀ q∈qs,Sm q:=fun q hq=>sm44 (h.b q hq).1
theorem wd_lenN {i:Int} {k:Nat} (hk:0 < k) (h:i.natAbs < 10 ^ k):(wd i).length≤k+1:=by
 rw [len_eq]
 rcases wd_cas i with ⟨n,rfl,e⟩ | ⟨n,_,rfl,e⟩
 · rw [e]; have:=dg_len hk (show n < 10 ^ k by simpa using h); omega
 · rw [e,List.length_cons]; have:=dg_len hk (show n < 10 ^ k by simpa using h); omega
theorem tw_lenN {q:Rat} {j k:Nat} (hj:0 < j) (hk:0 < k) (h1:q.num.natAbs < 10 ^ j) (h2:q.den < 10 ^ k):(tw q).length≤j+k+3:=by
 have a:=wd_lenN hj h1
 have b:=wd_lenN hk (show ((q.den:Int)).natAbs < 10 ^ k by simpa using h2)
 unfold tw
 split
 · omega
 · rw [Str.length_append,Str.length_append,show (⟨#[47]⟩:Str).length=1 from rfl]; omega
theorem asc_wd (i:Int):asc (wd i):=by
 show (wd i).cps.all (· < 128)=true
 rw [← Array.all_toList]
 have al:∀ n,(dg n).all (· < 128)=true:=fun n=>List.all_eq_true.mpr fun c hc=>by
  have:=(dg_all n).2.1 c hc
  exact decide_eq_true (by omega)
 rcases wd_cas i with ⟨n,rfl,e⟩ | ⟨n,_,rfl,e⟩
 · rw [e]; exact al n
 · rw [e,List.all_cons,al n]; rfl
theorem asc_tw (q:Rat):asc (tw q):=by
 unfold tw
 split
 · exact asc_wd _
 · exact asc_app (asc_app (asc_wd _) (show (#[47]:Array Nat).all (· < 128)=true by decide +kernel)) (asc_wd _)
theorem asc_join {c:Nat} (hc:c < 128):∀ xs:List Str,(∀ x∈xs,asc x)→asc (Str.join ⟨#[c]⟩ xs)
 | [],_=>show (#[]:Array Nat).all (· < 128)=true by decide +kernel
 | [x],h=>h x List.mem_cons_self
 | x :: y :: r,h=>asc_app (asc_app (h x List.mem_cons_self) (by show (#[c]).all (· < 128)=true; simp [hc])) (asc_join hc (y :: r) fun z hz=>h z (List.mem_cons_of_mem _ hz))
theorem asc_rw (qs:List Rat):asc (rw' qs):=by
 unfold rw'
 split
 · show (#[45]:Array Nat).all (· < 128)=true; decide +kernel
 · refine asc_join (by decide) _ fun x hx=>?_
   obtain ⟨q,_,rfl⟩:=List.mem_map.mp hx
   exact asc_tw q
theorem len_join {c B:Nat}:∀ xs:List Str,(∀ x∈xs,x.length≤B)→(Str.join ⟨#[c]⟩ xs).length≤(B+1) * xs.length
 | [],_=>Nat.le_refl _
 | [x],h=>by have:=h x List.mem_cons_self; show x.length≤(B+1) * 1; omega
 | x :: y :: r,h=>by
   have h1:=len_join (c:=c) (y :: r) fun z hz=>h z (List.mem_cons_of_mem _ hz)
   have e:(Str.join ⟨#[c]⟩ (x :: y :: r)).length=x.length+1+(Str.join ⟨#[c]⟩ (y :: r)).length:=by rw [len_eq,join_cons,List.length_append,List.length_cons,← len_eq,← len_eq]; omega
   have:=h x List.mem_cons_self
   rw [List.length_cons,Nat.mul_succ,e]
   omega
theorem RQ.len {qs:List Rat} (h:RQ qs):(rw' qs).length≤120:=by
 unfold rw'
 split
 · show 1≤120; decide
 · have:=len_join (c:=32) (B:=19) (qs.map tw) fun x hx=>by
    obtain ⟨q,hq,rfl⟩:=List.mem_map.mp hx
    obtain ⟨b,d⟩:=h.b q hq
    have d60:=Nat.le_of_dvd (by decide) d
    exact tw_lenN (j:=14) (k:=2) (by decide) (by decide) (Nat.lt_of_lt_of_le b.1 (by decide)) (by omega)
   rw [List.length_map] at this
   have:=h.n
   omega
structure GQ (q:Rat):Prop where
 n:q.num.natAbs < 10 ^ 40
 d:q.den < 10 ^ 31
theorem GQ.sm {q:Rat} (h:GQ q):Sm q:=⟨Nat.lt_of_lt_of_le h.n (Nat.pow_le_pow_right (by decide) (by decide)),Nat.lt_of_lt_of_le h.d (Nat.pow_le_pow_right (by decide) (by decide))⟩
theorem GQ.len {q:Rat} (h:GQ q):(tw q).length≤74:=tw_lenN (j:=40) (k:=31) (by decide) (by decide) h.n h.d
theorem gq_mk {r1 r2:Int} (a0:0≤r1) (a1:r1 < 10 ^ 40) (b0:0≤r2) (b1:r2 < 10 ^ 30):GQ (Rat.divInt (r1 - 10 ^ 39) (1+r2)):=by
 have n0:(1+r2)≠0:=by omega
 refine ⟨Nat.lt_of_le_of_lt (FM.divInt_num_le _ n0) ?_,Nat.lt_of_le_of_lt (FM.divInt_den_le _ n0) ?_⟩ <;> omega
theorem IsR.tp {H:Hp} {t:Addr} {qs:List Rat} (h:IsR H t qs) (s:∀ q∈qs,Sm q):TpD H (.ref t) (.tuple (qs.map qD)):=fun N=>by
 obtain ⟨us,e,al⟩:=h
 exact (Dt.tup e (al_dts al s)).up (by decide)
theorem tpQ {H:Hp} {v:V} {q:Rat} (h:IsQ H v q) (s:Sm q):TpD H v (qD q):=fun N=>(h.dt s N).up (by decide)
theorem map_qD (qs:List Rat):((qs.map fun q=>(q.num,(q.den:Int))).map frD)=qs.map qD:=by rw [List.map_map]; rfl
theorem row_ok (qs:List Rat):rowO (.str (rw' qs))=.ok (.tuple (qs.map qD)):=by rw [rowO_str,rS_rw,← map_qD]
theorem one_ok (q:Rat):oneO (.str (tw q))=.ok (qD q):=by rw [oneO_str,fS_tw]; rfl
theorem ro_qD (q:Rat):RO (qD q):=ro_fr (q.num,(q.den:Int))
theorem ro_qs {qs:List Rat} (h:qs.length≤6):RO (.tuple (qs.map qD)):=by rw [← map_qD]; exact ro_row (by rw [List.length_map]; omega)
theorem fxs {H:Hp} {L:List Str} (h:(L.all fun z=>decide (z.length≤990) && z.cps.all (· < 128))=true) {v:V} (hv:v∈L.map V.str):∃ d,Dt (fun _=>False) H 100 v d∧TxOk d:=by
 obtain ⟨z,hz,rfl⟩:=List.mem_map.mp hv
 have:=List.all_eq_true.mp h z hz
 rw [Bool.and_eq_true] at this
 exact ⟨.str z,.str z,fun z' e=>by cases e; exact ⟨of_decide_eq_true this.1,this.2⟩⟩
def FX1:List Str:=["","-"," ","0","-0","00","1/2","2/4","0/2","1/1","1/0","1/-2","-1/2","1//2"]
def FX2:List Str:=["/2","1/","- -","1 "]
def FX3:List Str:=[" 1","1  2","1 -","01/2","1/02","1/2/3","+1","1.0"]
theorem txN {d:PyData} (h:isSt d=false):TxOk d:=fun z e=>by rw [e] at h; cases h
def BdOk (N:Addr→Prop) (H:Hp) (v:V):Prop:=∃ d,Dt N H 190 v d∧nz d≤1000∧∀ ds,d=.tuple ds→ds.length≤20
theorem Tg.bd {N:Addr→Prop} {H:Hp} {v:V} (h:Tg N H 100 2 20 v):BdOk N H v:=by
 obtain ⟨d,hd,_,hz⟩:=h
 refine ⟨d,hd.up (by decide),by omega,fun ds e=>?_⟩
 rw [e] at hz
 have hz:1+nzAll ds≤20:=hz
 have:=len_nz ds
 omega
theorem al_dts44 {H:Hp} {N:Addr→Prop}:∀ {qs:List Rat} {us:List V},Al (IsQ H) us qs→(∀ q∈qs,FM.B 44 q)→Dts N H 190 us (qs.map qD)
 | [],us,h,_=>by rw [al_unnil h]; exact .nil
 | q :: qs,us,h,s=>by
   obtain ⟨v,us',rfl,⟨a,rfl,e⟩,h'⟩:=al_uncons h
   have b:=s q List.mem_cons_self
   exact .cons (.tup e (.cons (.int (Nat.lt_of_lt_of_le b.1 (Nat.pow_le_pow_right (by decide) (by decide)))) (.cons (.int (Nat.lt_of_lt_of_le (show ((q.den:Int)).natAbs < 2 ^ 44 from b.2) (Nat.pow_le_pow_right (by decide) (by decide)))) .nil))) (al_dts44 h' fun x hx=>s x (List.mem_cons_of_mem _ hx))
def SaidB (g:Bool) (H:Hp) (u:V):Prop:=∃ L,u=.ref L∧if g=true then ∃ v,H L=some (.lst [v]) else H L=some (.tup [.str "fraction"])
theorem fix_bad {P:Program} {w:World} {K:PySem.W.Frag} {mg:Str→Option Value} {base:Heap} {q:Str} {i:Nat} {c Pl:Addr} {σ:L2.St} {H:Hp} {Q:VK} {v:V} {cl:Str→Addr} {S:Addr→Hp→VK→XK→Prop} {body:Expr} {sc:Scope} {clos:List (Str×Addr)} {N:Addr→Prop} {k:Nat} {d:PyData} {spX:Sp} (g:Bool)
 (Z:Ek K mg cl) (hX:∀ F Q1 E1,Dt N F k v d→(g=true→∀ z H',Same F H'→Q1 (.str z) H')→(g=false→∀ H',Same F H'→E1 (.ref (cl "NoFraction")) none H')→spX [v] F Q1 E1)
 (hv:σ[i]? = some (some v)) (tl:TabF H Pl q) (hD:Dt N H k v d)
 (lam:∀ a,LamOk P w K mg base 8 a (S a)) (mono:∀ a,Mono (S a)) (mk:∀ a F Q1 E1,LamF F a q noPs body sc clos ((mg "__name__").getD .none)→CellF F c v→spX [v] F Q1 E1→S a F Q1 E1)
 (kk:∀ u H1,KeepP Pl H H1→TabF H1 Pl q→SaidB g H1 u→Q u H1) :
 tFix i c (fun σ H Q=>tCons (tLam mg Pl q noPs body sc clos) tNil σ H fun vs H1=>sp_said P w K mg base cl vs H1 Q E0) σ H Q:=by
 refine fix_said (sp:=fun v F Q1 E1=>spX [v] F Q1 E1) hv tl hD lam mono mk fun F fin hF=>hX _ _ _ hF (fun hg z H1 s1 L nL=>?_) (fun hg H1 s1=>?_)
 · have f:=fin _ (s1.trans (Same.new (o:=.lst [.str z]) nL))
   exact kk _ _ f.k f.t ⟨L,rfl,by rw [if_pos hg]; exact ⟨_,f.o _ _ (by intro x z; cases z) upd_same⟩⟩
 · refine ⟨_,4,_,rfl,Z.k_NoFraction,(fun D' e=>by cases e),.inl ⟨rfl,rfl⟩,fun T H2 s2 hT=>?_⟩
   have f:=fin _ (s1.trans s2)
   exact kk _ _ f.k f.t ⟨T,rfl,by rw [if_neg (by rw [hg]; decide)]; exact f.o _ _ (by intro x z; cases z) hT⟩
theorem rowX_mono {c:Addr} {vs:List V}:Mono (fun H Q E=>sp_rowTxtX c vs H Q E):=fun H Q Q' E E' hQ hE ⟨N,k,v,d,e,hd,h1,h2,h3,o⟩=>⟨N,k,v,d,e,hd,h1,h2,h3,by
 split
 · rename_i h; rw [if_pos h] at o; exact fun z H' s=>hQ _ _ (o z H' s)
 · rename_i h; rw [if_neg h] at o; exact fun H' s=>hE _ _ _ (o H' s)⟩
theorem lookX_mono {c:Addr} {vs:List V}:Mono (fun H Q E=>sp_lookFX c vs H Q E):=fun H Q Q' E E' hQ hE ⟨N,k,v,d,e,hd,h1,h2,o⟩=>⟨N,k,v,d,e,hd,h1,h2,hE _ _ _ o⟩
section
variable {P:Program} {w:World} {K:PySem.W.Frag} {mg:Str→Option Value} {base:Heap} {c c' a:Addr} {pm:Value} {q:Str} {p0 p1 p2 p3:Pos}
theorem lamRB (X_f:CalX P w K mg base "row_text" 5 ["row"] (sp_rowTxtX c')):LamOk P w K mg base 8 a (spB (fun v H Q E=>sp_rowTxtX c' [v] H Q E) (.Call (.Name "row_text" p0) [.Name "_law_bad" p1] [] p3) "row_text" a c q pm) :=
 lamB fun A outer s H Q E cd v hr h=>⟨_,pe_calX X_f xeOkL.passes hr (by decide) rfl (pa_cons (pv 0) pa_nil rfl),⟨_,rfl,h⟩⟩
theorem lamFB (X_f:CalX P w K mg base "fraction_text" 5 ["fraction"] (sp_lookFX c')):LamOk P w K mg base 8 a (spB (fun v H Q E=>sp_lookFX c' [v] H Q E) (.Call (.Name "fraction_text" p0) [.Name "_law_bad" p1] [] p3) "fraction_text" a c q pm) :=
 lamB fun A outer s H Q E cd v hr h=>⟨_,pe_calX X_f xeOkL.passes hr (by decide) rfl (pa_cons (pv 0) pa_nil rfl),⟨_,rfl,h⟩⟩
end
theorem al1s (x:Str):Al (fun v (x:Str)=>v=V.str x) [V.str x] [x]:=⟨rfl,fun i v y e1 e2=>by
 match i,e1,e2 with
 | 0,e1,e2=>cases e1; cases e2; rfl
 | n+1,e1,e2=>simp at e1⟩
theorem lt200 {m:Int} (h:m.natAbs < 2 ^ 200):m.natAbs < 2 ^ 8999:=Nat.lt_of_lt_of_le h (Nat.pow_le_pow_right (by decide) (by decide))
theorem if_isi {r:R2} {rc:List V→Hp→VK→Prop} {t1 t2:TE} {tr:TA} {a b u:TS} {D:Ends} {σ:L2.St} {H:Hp} (h:t1 σ H fun v H1=>tr σ H1 fun vs H2=>rc (v :: vs) H2 fun x H3=>t2 σ H3 fun y H4=>r x y H4 fun x' H'=>∃ k,x'=.bl k∧(if k=true then a { D with nx:=u D } σ H' else b { D with nx:=u D } σ H')):tSeq (tIfS (tTest (tOp r (tCB rc (tCons t1 tr)) t2)) a b) u D σ H:=h
theorem te_op {r:R2} {t1 t2:TE} {σ:L2.St} {H:Hp} {Q:Bool→Hp→Prop} (h:t1 σ H fun x H1=>t2 σ H1 fun y H2=>r x y H2 fun x' H'=>∃ k,x'=.bl k∧Q k H'):tTest (tOp r t1 t2) σ H Q:=h
theorem if_te {c:TT} {a b:TS} {D:Ends} {σ:L2.St} {H:Hp} (h:c σ H fun k H1=>if k=true then a D σ H1 else b D σ H1):tIfS c a b D σ H:=h
theorem if_nx {c:TT} {a b:TS} {D:Ends} {σ:L2.St} {H:Hp} {r:VK} {bk ct:L2.St→Hp→Prop} (h:c σ H fun k H1=>if k=true then a D σ H1 else b D σ H1):tNext { nx:=tIfS c a b D,rt:=r,bk:=bk,ct:=ct } σ H:=h
def sp_law (K:PySem.W.Frag) (Ph Pw:Addr):Sp:=fun vs H Q _=>∃ (a:Addr) (ns:List Int),vs=[.ref a]∧SqL K H a (ns.map V.int)∧ns.length≤63∧Ph≠Pw∧TabF H Ph "_law_right.<locals>.<lambda>" ∧ TabF H Pw "law.<locals>.<lambda>" ∧ ∀ H',Q (.bl true) H'
section
variable {P:Program} {w:World} {K:PySem.W.Frag} {mg:Str→Option Value} {base:Heap} {f:Addr} {fd:FuncData} (T:Bt mg)
include T
abbrev s_is_whole:Stmt:=top 37
theorem ok_is_whole (F:Fun K "is_whole" "is_whole" s_is_whole f fd):FnOk P w K mg base CX0 1 f fd ["thing"] sp_wholeD:=by
 have sc:FnScope ["thing"] ["thing"] (defScope s_is_whole):=fsc (by decide +kernel)
 refine F.ok sc (fun vs H Q E h=>?_) (fun cdv A outer s H vs Q E hr h=>?_)
 · obtain ⟨N,k,v,d,rfl,_⟩:=h
   rfl
 · obtain ⟨N,k,v,d,rfl,h,q⟩:=h
   have nd:=sc.nd
   have hu:=hu_of hr
   have hu1:=Nat.lt_of_succ_lt hu
   refine' ⟨_,?term,?read⟩
   case term =>
    refine' @L2.pss_one _ _ _ ?g1
    case g1 =>
     refine' @L2.ps_ret _ _ _ _ ?g2
     case g2 =>
      refine' @L2.pe_and _ _ _ _ _ _ _ (pe_callB call_isi rfl T.b_isinstance bb_isinstance (pa_cons (pv 0) (pa_cons (pe_bltn (v:=.ty "int") rfl T.b_int bb_int rfl) pa_nil rfl) rfl)) ?g3
      case g3 =>
       refine' @L2.pe_one _ _ _ _ _ ?g4
       case g4 =>
        refine' @L2.pe_not _ _ _ _ (pe_callB call_isi rfl T.b_isinstance bb_isinstance (pa_cons (pv 0) (pa_cons (pe_bltn (v:=.ty "bool") rfl T.b_bool bb_bool rfl) pa_nil rfl) rfl))
   case read =>
    cases h with
    | non=>exact ⟨_,rfl,_,_,_,_,rfl,TyOf.non,rfl,false,rfl,iteF q⟩
    | bl b=>exact ⟨_,rfl,_,_,_,_,rfl,TyOf.bl b,rfl,true,rfl,iteT ⟨_,rfl,_,_,_,_,rfl,TyOf.bl b,rfl,true,rfl,q⟩⟩
    | int hi=>exact ⟨_,rfl,_,_,_,_,rfl,TyOf.int _,rfl,true,rfl,iteT ⟨_,rfl,_,_,_,_,rfl,TyOf.int _,rfl,false,rfl,q⟩⟩
    | str x=>exact ⟨_,rfl,_,_,_,_,rfl,TyOf.str x,rfl,false,rfl,iteF q⟩
    | tup h r=>exact ⟨_,rfl,_,_,_,_,rfl,TyOf.tup h,rfl,false,rfl,iteF q⟩
    | lst h n m r=>exact ⟨_,rfl,_,_,_,_,rfl,TyOf.lst h,rfl,false,rfl,iteF q⟩
    | dic h=>exact ⟨_,rfl,_,_,_,_,rfl,TyOf.dK h,rfl,false,rfl,iteF q⟩
abbrev s_plain_divisor:Stmt:=top 31
theorem ok_plain_divisor (F:Fun K "plain_divisor" "plain_divisor" s_plain_divisor f fd):FnOk P w K mg base CX0 1 f fd ["one","other"] sp_plain:=by
 have sc:FnScope ["one","other"] ["one","other"] (defScope s_plain_divisor):=fsc (by decide +kernel)
 refine F.ok sc (fun vs H Q E h=>?_) (fun cdv A outer s H vs Q E hr h=>?_)
 · obtain ⟨a,b,rfl,_⟩:=h
   rfl
 · obtain ⟨a,b,rfl,q⟩:=h
   have nd:=sc.nd
   have hu:=hu_of hr
   have hu1:=Nat.lt_of_succ_lt hu
   refine' ⟨_,?term,?read⟩
   case term =>
    refine' @L2.pss_cons _ _ _ _ _ ?g1 (pss_one (ps_ret (pe_callB call_abs rfl T.b_abs bb_abs (pa_cons (pv 0) pa_nil rfl))))
    case g1 =>
     refine' @L2.ps_while _ _ _ _ _ _ PassesOwn.never ?g2 ?g3
     case g2 =>
      refine' @L2.pt_truth _ _ _ (pv 1) (fun _=>rfl)
     case g3 =>
      refine' @L2.pss_one _ _ _ ?g4
      case g4 =>
       refine' @L2.ps_par _ _ (0) (1) _ _ _ _ _ _ _ _ _ _ _ rfl nd rfl rfl (by decide) rfl rfl (pa_cons (pv 1) (pa_cons (pe_op op_modN (pv 0) (pv 1)) pa_nil rfl) rfl) rfl (by rfl)
   case read =>
    refine while_by (fun σ H'=>∃ x y:Int,σ=[some (.int x),some (.int y)]∧H'=H∧Int.gcd x y=Int.gcd a b) (fun σ _=>match σ with | [_,some (.int y)]=>y.natAbs | _=>0) ⟨a,b,rfl,rfl,rfl⟩ ?_ ?_
    · rintro σ H' ⟨x,y,rfl,rfl,e⟩
      refine ⟨_,rfl,(y != 0),rfl,?_⟩
      by_cases hy:y=0
      · subst hy
        refine iteF ?_
        refine ⟨_,rfl,x,rfl,?_⟩
        have z:(if x < 0 then -x else x)=(Int.gcd a b:Int):=by
         rw [← e,Int.gcd_zero_right]
         split <;> omega
        rw [z]
        exact q
      · rw [show (y != 0)=true by simpa using hy]
        refine iteT ?_
        refine ⟨_,rfl,_,rfl,_,rfl,x,y,rfl,rfl,hy,_,_,rfl,⟨y,x.fmod y,rfl,rfl,by rw [FM.gcd_fmod hy]; exact e⟩,FM.fmod_abs_lt hy⟩
    · rintro σ H' Q1 Q2 hq ⟨v,e,k,t,q'⟩
      exact ⟨v,e,k,t,hq _ _ q'⟩
abbrev s_divisor:Stmt:=top 35
theorem ok_divisor (F:Fun K "divisor" "divisor" s_divisor f fd) (C_plain_divisor:Cal P w K mg base "plain_divisor" 1 ["one","other"] sp_plain):FnOk P w K mg base CX0 2 f fd ["one","other"] sp_divisor:=by
 have sc:FnScope ["one","other","half"] ["one","other"] (defScope s_divisor):=fsc (by decide +kernel)
 refine F.ok sc (fun vs H Q E h=>?_) (fun cdv A outer s H vs Q E hr h=>?_)
 · obtain ⟨a,b,rfl,_⟩:=h
   rfl
 · obtain ⟨a,b,rfl,hb,q⟩:=h
   have nd:=sc.nd
   have hu:=hu_of hr
   have hu1:=Nat.lt_of_succ_lt hu
   refine' ⟨_,?term,?read⟩
   case term =>
    refine' @L2.pss_cons _ _ _ _ _ ?g1 (pss_one (ps_ret (pe_cal C_plain_divisor hr (by decide) rfl (pa_cons (pv 0) (pa_cons (pv 1) pa_nil rfl) rfl))))
    case g1 =>
     refine' @L2.ps_while _ _ _ _ _ _ PassesOwn.never ?g2 pss_never
     case g2 =>
      refine' @L2.pt_cmpR _ _ _ _ _ _ _ _ op_gt ?g3 (pe_gint T.n_GREAT_BITS rfl) (nomark _)
      case g3 =>
       refine' @L2.pe_callB _ _ _ _ _ _ _ _ _ (call_min2 rfl) rfl T.b_min bb_min ?g4 (by decide) (by decide) (by rfl) (by rfl)
       case g4 =>
        refine' @L2.pa_cons _ _ _ _ _ ?g5 ?g6 rfl
        case g5 =>
         refine' @L2.pe_bm0 _ _ _ _ _ _ _ _ _ PySem.F.plainAttrs_int PySem.F.slot_int_bit_length PySem.F.type_int_bit_length mt_bits (pv 0) (by rfl) (by rfl)
        case g6 =>
         refine' @L2.pa_cons _ _ _ _ _ ?g7 pa_nil rfl
         case g7 =>
          refine' @L2.pe_bm0 _ _ _ _ _ _ _ _ _ PySem.F.plainAttrs_int PySem.F.slot_int_bit_length PySem.F.type_int_bit_length mt_bits (pv 1) (by rfl) (by rfl)
   case read =>
    refine while_by (fun σ H'=>σ=[some (.int a),some (.int b),none]∧H'=H) (fun σ _=>0) ⟨rfl,rfl⟩ ?_ ?_
    · rintro σ H' ⟨rfl,rfl⟩
      refine ⟨_,rfl,rfl,_,rfl,rfl,_,rfl,rfl,_,rfl,rfl,_,_,rfl,_,_,rfl,rfl,_,rfl,?_⟩
      rw [min4000 hb]
      refine iteF ?_
      exact ⟨_,rfl,_,rfl,a,b,rfl,q⟩
    · rintro σ H' Q1 Q2 hq ⟨v1,e1,t1,i1,a1,n1,v2,e2,t2,i2,a2,n2,i,j,e3,i4,j4,e4,e5,b,e6,q'⟩
      exact ⟨v1,e1,t1,i1,a1,n1,v2,e2,t2,i2,a2,n2,i,j,e3,i4,j4,e4,e5,b,e6,hq _ _ q'⟩
abbrev s_is_fraction:Stmt:=top 38
theorem ok_is_fraction (F:Fun K "is_fraction" "is_fraction" s_is_fraction f fd) (C_divisor:Cal P w K mg base "divisor" 2 ["one","other"] sp_divisor) (C_is_whole:Cal P w K mg base "is_whole" 1 ["thing"] sp_wholeD):FnOk P w K mg base CX0 3 f fd ["thing"] sp_frD:=by
 have sc:FnScope ["thing","top","bottom"] ["thing"] (defScope s_is_fraction):=fsc (by decide +kernel)
 refine F.ok sc (fun vs H Q E h=>?_) (fun cdv A outer s H vs Q E hr h=>?_)
 · obtain ⟨N,k,v,d,rfl,_⟩:=h
   rfl
 · obtain ⟨N,k,v,d,rfl,h,hk,q⟩:=h
   have nd:=sc.nd
   have hu:=hu_of hr
   have hu1:=Nat.lt_of_succ_lt hu
   refine' ⟨_,?term,?read⟩
   case term =>
    refine' @L2.pss_cons _ _ _ _ _ ?g1 ?g2
    case g1 =>
     refine' @L2.ps_if _ _ _ _ _ _ _ _ ?g3 (pss_one (ps_ret pe_bl)) pss_nil
     case g3 =>
      refine' @L2.PW.pt _ _ _ ?g4
      case g4 =>
       refine' @L2.pw_or _ _ _ _ _ _ _ ?g5 ?g6
       case g5 =>
        refine' @L2.pt_not _ _ _ _ ?g7
        case g7 =>
         refine' @L2.pt_truth _ _ _ (pe_callB call_isi rfl T.b_isinstance bb_isinstance (pa_cons (pv 0) (pa_cons (pe_bltn (v:=.ty "tuple") rfl T.b_tuple bb_tuple rfl) pa_nil rfl) rfl)) (fun _=>rfl)
       case g6 =>
        refine' @L2.pw_or1 _ _ _ _ (pt_cmpR op_ne (pe_callB call_len_seq rfl T.b_len bb_len (pa_cons (pv 0) pa_nil rfl)) pe_int (nomark _))
    case g2 =>
     refine' @L2.pss_cons _ _ _ _ _ ?g8 ?g9
     case g8 =>
      refine' @L2.ps_asg _ _ _ _ _ _ (pv 0) ?ga (by rfl) (by rfl) (by rfl)
      case ga =>
       refine' @L2.pg_tup _ _ _ _ _ (2) rfl (pgs_cons (pg_name (i:=1) nd rfl (Or.inl rfl)) (pgs_cons (pg_name (i:=2) nd rfl (Or.inl rfl)) pgs_nil)) (by rfl) (by rfl)
     case g9 =>
      refine' @L2.pss_cons _ _ _ _ _ ?gb (pss_one (ps_ret (pe_cmpR op_eq (pe_cal C_divisor hr (by decide) rfl (pa_cons (pv 1) (pa_cons (pv 2) pa_nil rfl) rfl)) pe_int (nomark _))))
      case gb =>
       refine' @L2.ps_if _ _ _ _ _ _ _ _ ?gc (pss_one (ps_ret pe_bl)) pss_nil
       case gc =>
        refine' @L2.PW.pt _ _ _ ?gd
        case gd =>
         refine' @L2.pw_or _ _ _ _ _ _ _ ?ge ?gf
         case ge =>
          refine' @L2.pt_not _ _ _ _ ?gg
          case gg =>
           refine' @L2.pt_truth _ _ _ (pe_cal C_is_whole hr (by decide) rfl (pa_cons (pv 1) pa_nil rfl)) (fun _=>rfl)
         case gf =>
          refine' @L2.pw_or _ _ _ _ _ _ _ ?gh ?gi
          case gh =>
           refine' @L2.pt_not _ _ _ _ ?gj
           case gj =>
            refine' @L2.pt_truth _ _ _ (pe_cal C_is_whole hr (by decide) rfl (pa_cons (pv 2) pa_nil rfl)) (fun _=>rfl)
          case gi =>
           refine' @L2.pw_or1 _ _ _ _ (pt_cmpR op_lt (pv 2) pe_int (nomark _))
   case read =>
    rcases h.isT with ⟨p,xs,ds,rfl,rfl,hp,hs⟩ | e
    case inr =>
     obtain ⟨t,ty,ki⟩:=h.ty (K:=K)
     refine ⟨_,rfl,_,_,t,_,rfl,ty,ki,_,rfl,?_⟩
     rw [e]
     have z:isFr d=false:=by cases d <;> first | rfl | (cases e)
     rw [z] at q
     exact iteT (iteT (q))
    refine ⟨_,rfl,_,_,_,_,rfl,TyOf.tup hp,rfl,true,rfl,iteF ?_⟩
    by_cases h2:xs.length=2
    case neg =>
     rw [hs.len0 h2] at q
     refine ⟨_,rfl,p,_,rfl,.inr (SqT.of hp),rfl,_,rfl,?_⟩
     rw [show decide (V.int (xs.length:Int)=V.int 2)=false from decide_eq_false (fun z=>h2 (by have:=V.int.inj z; omega))]
     exact iteT q
    obtain ⟨x,y,d1,d2,rfl,rfl,k1,k2⟩:∃ x y d1 d2,xs=[x,y]∧ds=[d1,d2]∧Dt N H k x d1∧Dt N H k y d2:=by
     match xs,ds,hs,h2 with
     | [x,y],[d1,d2],.cons a (.cons b .nil),_=>exact ⟨x,y,d1,d2,rfl,rfl,a,b⟩
    refine ⟨_,rfl,p,_,rfl,.inr (SqT.of hp),rfl,false,rfl,iteF ?_⟩
    refine ⟨_,rfl,p,_,rfl,SqT.of hp,rfl,_,_,rfl,_,_,rfl,rfl,?_⟩
    refine ⟨_,rfl,N,k,x,d1,rfl,k1,_,rfl,?_⟩
    rcases k1.isI with ⟨i,rfl,rfl,hi⟩ | e1
    case inr =>
     rw [e1]; rw [fr_1 e1] at q
     exact iteT (iteT q)
    refine iteF ?_
    refine ⟨_,rfl,N,k,y,d2,rfl,k2,_,rfl,?_⟩
    rcases k2.isI with ⟨j,rfl,rfl,hj⟩ | e2
    case inr =>
     rw [e2]; rw [fr_2 e2] at q
     exact iteT (iteT q)
    refine iteF ?_
    refine ⟨_,rfl,_,_,rfl,rfl,_,rfl,?_⟩
    have q':Q (.bl (decide (1≤j) && decide (Int.gcd i j=1))) H:=q
    refine ite2 (fun hlt=>?_) (fun hlt=>?_)
    · have z:¬ 1≤j:=by have:=of_decide_eq_true hlt; omega
      rw [decide_eq_false z] at q'
      exact q'
    · have z:1≤j:=by have:¬ j < 1:=fun z=>hlt (decide_eq_true z); omega
      rw [decide_eq_true z,Bool.true_and] at q'
      refine ⟨_,rfl,_,rfl,_,_,rfl,lt_8000 hj hk,rfl,?_⟩
      rw [show decide (V.int (Int.gcd i j:Int)=V.int 1)=decide (Int.gcd i j=1) from decide_eq_decide.mpr ⟨fun z=>by have:=V.int.inj z; omega,fun z=>by rw [z]; rfl⟩]
      exact q'
abbrev s_number_of:Stmt:=top 45
theorem ok_number_of (F:Fun K "number_of" "number_of" s_number_of f fd):FnOk P w K mg base CX0 1 f fd ["figures"] sp_numOf:=by
 have sc:FnScope ["figures","ahead","number","at"] ["figures"] (defScope s_number_of):=fsc (by decide +kernel)
 refine F.ok sc (fun vs H Q E h=>?_) (fun cdv A outer s H vs Q E hr h=>?_)
 · obtain ⟨z,rfl,_⟩:=h
   rfl
 · obtain ⟨z,rfl,hz,hl,q⟩:=h
   have nd:=sc.nd
   have hu:=hu_of hr
   have hu1:=Nat.lt_of_succ_lt hu
   refine' ⟨_,?term,?read⟩
   case term =>
    refine' @L2.pss_cons _ _ _ _ _ ?g1 ?g2
    case g1 =>
     refine' @L2.ps_set _ _ (1) _ _ _ _ nd rfl (Or.inl rfl) (pe_op op_modN (pe_callB call_len_str rfl T.b_len bb_len (pa_cons (pv 0) pa_nil rfl)) (pe_gint T.n_AT_ONCE rfl)) (by rfl) (by first | exact Or.inl rfl | exact Or.inr rfl | assumption)
    case g2 =>
     refine' @L2.pss_cons _ _ _ _ _ ?g3 ?g4
     case g3 =>
      refine' @L2.ps_set _ _ (2) _ _ _ _ nd rfl (Or.inl rfl) ?g5 (by rfl) (by first | exact Or.inl rfl | exact Or.inr rfl | assumption)
      case g5 =>
       refine' @L2.pe_ifExp _ _ _ _ _ _ _ _ ?g6 ?g7 pe_int
       case g6 =>
        refine' @L2.pt_truth _ _ _ (pv 1) (fun _=>rfl)
       case g7 =>
        refine' @L2.pe_callTy _ _ _ _ _ _ _ _ _ call_intN rfl T.b_int bb_int ?g8 (by decide) (by decide) (by rfl) (by rfl)
        case g8 =>
         refine' @L2.pa_cons _ _ _ _ _ ?g9 pa_nil rfl
         case g9 =>
          refine' @L2.pe_slice _ _ _ _ _ _ _ _ _ _ sl_str (pv 0) po_none (po_some (pv 1))
     case g4 =>
      refine' @L2.pss_cons _ _ _ _ _ ?ga (pss_one (ps_ret (pv 2)))
      case ga =>
       refine' @L2.ps_for _ _ _ _ _ _ _ _ PassesOwn.never rfl (pi_range60 rfl T.b_range (pa_cons (pv 1) (pa_cons (pe_callB call_len_str rfl T.b_len bb_len (pa_cons (pv 0) pa_nil rfl)) (pa_cons (pe_gint T.n_AT_ONCE rfl) pa_nil rfl) rfl) rfl)) (pg_name (i:=3) nd rfl (Or.inl rfl)) ?gb (by intro _ ; rfl)
       case gb =>
        refine' @L2.pss_one _ _ _ ?gc
        case gc =>
         refine' @L2.ps_set _ _ (2) _ _ _ _ nd rfl (Or.inl rfl) ?gd (by rfl) (by first | exact Or.inl rfl | exact Or.inr rfl | assumption)
         case gd =>
          refine' @L2.pe_op _ _ _ _ _ _ _ _ op_add (pe_op op_mulB (pv 2) (pe_gint T.n_BASE rfl)) ?ge
          case ge =>
           refine' @L2.pe_callTy _ _ _ _ _ _ _ _ _ call_intN rfl T.b_int bb_int ?gf (by decide) (by decide) (by rfl) (by rfl)
           case gf =>
            refine' @L2.pa_cons _ _ _ _ _ ?gg pa_nil rfl
            case gg =>
             refine' @L2.pe_slice _ _ _ _ _ _ _ _ _ _ sl_str (pv 0) (po_some (pv 3)) (po_some (pe_op op_add (pv 3) (pe_gint T.n_AT_ONCE rfl)))
   case read =>
    obtain ⟨ne,ad⟩:=okD_iff.mp hz
    obtain ⟨a,n,ea,ha⟩:∃ a n:Nat,z.length=a+n * 60∧a < 60:=⟨z.length % 60,z.length / 60,by omega,by omega⟩
    have sz:=sz_str hl (by decide)
    have as:=okD_asc hz
    have zl:=len_eq z
    have dv:∀ k,k≤z.length→NumText.digitsVal (z.cps.toList.take k) < 10 ^ 1200:=fun k hk=>Nat.lt_of_lt_of_le (digitsVal_lt fun c hc=>ad c (List.mem_of_mem_take hc)) (Nat.pow_le_pow_right (by decide) (by rw [List.length_take]; omega))
    refine ⟨_,rfl,z,rfl,sz,_,_,rfl,rfl,(by decide:(60:Int)≠0),?_⟩
    dsimp only
    rw [show Int.fmod (z.length:Int) 60=(a:Nat) by rw [Int.fmod_eq_emod_of_nonneg _ (by decide)]; omega]
    refine gset (σ':=[some (.str z),some (.int (a:Nat)),none,none]) rfl ?_
    have it:∀ {x:Str} {b:List Nat},x.cps.toList=b→b≠[]→b.length≤1200→NumText.AllDigits b→x.cps.all (· < 128)=true∧intText? x=some ((NumText.digitsVal b:Nat):Int):=fun {x b} e nb lb hb=>by
     have ok:okD x.cps.toList=true:=by rw [e]; exact okD_iff.mpr ⟨nb,hb⟩
     refine ⟨okD_asc ok,?_⟩
     rw [← e]
     exact okD_int ok (by rw [len_eq,e]; omega)
    refine ⟨_,rfl,_,rfl,?_⟩
    refine if_val (v:=.int ((NumText.digitsVal (z.cps.toList.take a):Nat):Int)) ?_ (fun hb k=>?_) (fun hb k=>?_)
    rotate_left
    · have a0:a≠0:=fun e=>by rw [e] at hb; simp at hb
      refine ⟨_,rfl,_,rfl,_,rfl,z,rfl,sz,?_⟩
      obtain ⟨i1,i2⟩:=it (sl_to z a (by omega)) (by
       intro e
       have:=congrArg List.length e
       rw [List.length_take] at this
       have:min a z.cps.toList.length=0:=this
       omega) (by rw [List.length_take]; omega) fun c hc=>ad c (List.mem_of_mem_take hc)
      exact ⟨_,_,rfl,i1,i2,k⟩
    · have a0:a=0:=by
       by_cases e:a=0
       · exact e
       · exact absurd (show ((a:Nat):Int) != 0 by simpa using e) hb
      subst a0
      exact k
    refine gset (σ':=[some (.str z),some (.int (a:Nat)),some (.int ((NumText.digitsVal (z.cps.toList.take a):Nat):Int)),none]) rfl ?_
    refine ⟨_,rfl,_,rfl,z,rfl,sz,(a:Int),n,by rw [ea]; rfl,by omega,by omega,by omega,?_⟩
    refine for_gen (n:=n) (fun i σ H2=>H2=H∧∃ x,σ=[some (.str z),some (.int (a:Nat)),some (.int ((NumText.digitsVal (z.cps.toList.take (a+i * 60)):Nat):Int)),x]) ⟨rfl,_,by rw [Nat.zero_mul,Nat.add_zero]⟩ (fun i σ H2 hi p=>hi) (fun σ H2 p=>Nat.le_refl _) (fun i x σ H2 H3 hi y p=>?_) (fun σ H2 p=>?_)
    · obtain ⟨rfl,x',rfl⟩:=p
      obtain ⟨rfl,rfl⟩:=y
      have il:a+i * 60+60≤z.length:=by
       have:(i+1) * 60≤n * 60:=Nat.mul_le_mul_right _ hi
       omega
      refine gset (σ':=[some (.str z),some (.int (a:Nat)),some (.int ((NumText.digitsVal (z.cps.toList.take (a+i * 60)):Nat):Int)),some (.int ((a:Int)+(i:Int) * 60))]) rfl ?_
      refine ⟨_,rfl,_,_,rfl,rfl,⟨?_,?_⟩,_,rfl,_,rfl,_,rfl,_,rfl,_,_,rfl,rfl,_,rfl,z,rfl,sz,?_⟩
      · exact Nat.lt_of_lt_of_le (dv _ (by omega)) (Nat.le_trans (Nat.pow_le_pow_left (show 10≤2 ^ 4 by decide) _) (by rw [← Nat.pow_mul]; exact Nat.pow_le_pow_right (by decide) (by decide)))
      · exact Nat.lt_of_lt_of_le (show (1000000000000000000000000000000000000000000000000000000000000:Int).natAbs < 2 ^ 200 by decide) (Nat.pow_le_pow_right (by decide) (by decide))
      have sm:=sl_mid z (a+i * 60) 60 il
      rw [show (((a+i * 60:Nat):Int))=(a:Int)+(i:Int) * 60 by omega] at sm
      obtain ⟨i1,i2⟩:=it sm (by
       intro e
       have:=congrArg List.length e
       rw [List.length_take,List.length_drop] at this
       have:min 60 (z.cps.toList.length - (a+i * 60))=0:=this
       omega) (by rw [List.length_take]; omega) fun c hc=>ad c (List.mem_of_mem_drop (List.mem_of_mem_take hc))
      refine ⟨_,_,rfl,i1,i2,_,_,rfl,rfl,⟨rfl,some (.int ((a:Int)+(i:Int) * 60)),?_⟩⟩
      have et:z.cps.toList.take (a+(i+1) * 60)=z.cps.toList.take (a+i * 60)++(z.cps.toList.drop (a+i * 60)).take 60:=by rw [← List.take_add]; congr 1; omega
      rw [et,digitsVal_app,List.length_take,List.length_drop,show min 60 (z.cps.toList.length - (a+i * 60))=60 by omega,Int.natCast_add,Int.natCast_mul]
      rfl
    · obtain ⟨rfl,x',rfl⟩:=p
      refine ⟨_,rfl,?_⟩
      rw [List.take_of_length_le (by omega)]
      exact q
abbrev s_whole_in:Stmt:=top 46
theorem ok_whole_in (F:Fun K "whole_in" "whole_in" s_whole_in f fd) (C_number_of:Cal P w K mg base "number_of" 1 ["figures"] sp_numOf):FnOk P w K mg base CX0 2 f fd ["text"] sp_wholeIn:=by
 have sc:FnScope ["text","figures","number"] ["text"] (defScope s_whole_in):=fsc (by decide +kernel)
 refine F.ok sc (fun vs H Q E h=>?_) (fun cdv A outer s H vs Q E hr h=>?_)
 · obtain ⟨z,rfl,_⟩:=h
   rfl
 · obtain ⟨z,rfl,hl,q⟩:=h
   have nd:=sc.nd
   have hu:=hu_of hr
   have hu1:=Nat.lt_of_succ_lt hu
   refine' ⟨_,?term,?read⟩
   case term =>
    refine' @L2.pss_cons _ _ _ _ _ ?g1 ?g2
    case g1 =>
     refine' @L2.ps_set _ _ (1) _ _ _ _ nd rfl (Or.inl rfl) ?g3 (by rfl) (by first | exact Or.inl rfl | exact Or.inr rfl | assumption)
     case g3 =>
      refine' @L2.pe_bm _ _ _ _ _ _ _ _ _ _ _ _ PySem.F.plainAttrs_str PySem.F.slot_str_removeprefix PySem.F.type_str_removeprefix mt_rmpre (pv 0) (pa_cons pe_str pa_nil rfl) (by rfl) (by rfl) (by rfl) (by rfl) (by rfl)
    case g2 =>
     refine' @L2.pss_cons _ _ _ _ _ ?g4 ?g5
     case g4 =>
      refine' @L2.ps_if _ _ _ _ _ _ _ _ ?g6 (pss_one (ps_ret pe_non)) pss_nil
      case g6 =>
       refine' @L2.PW.pt _ _ _ ?g7
       case g7 =>
        refine' @L2.pw_or _ _ _ _ _ _ _ ?g8 ?g9
        case g8 =>
         refine' @L2.pt_not _ _ _ _ ?ga
         case ga =>
          refine' @L2.pt_truth _ _ _ ?gb (fun _=>rfl)
          case gb =>
           refine' @L2.pe_bm0 _ _ _ _ _ _ _ _ _ PySem.F.plainAttrs_str PySem.F.slot_str_isascii PySem.F.type_str_isascii mt_isascii (pv 1) (by rfl) (by rfl)
        case g9 =>
         refine' @L2.pw_or1 _ _ _ _ ?gc
         case gc =>
          refine' @L2.pt_not _ _ _ _ ?gd
          case gd =>
           refine' @L2.pt_truth _ _ _ ?ge (fun _=>rfl)
           case ge =>
            refine' @L2.pe_bm0 _ _ _ _ _ _ _ _ _ PySem.F.plainAttrs_str PySem.F.slot_str_isdigit PySem.F.type_str_isdigit mt_isdigit (pv 1) (by rfl) (by rfl)
     case g5 =>
      refine' @L2.pss_cons _ _ _ _ _ ?gf ?gg
      case gf =>
       refine' @L2.ps_if _ _ _ _ _ _ _ _ ?gh (pss_one (ps_ret pe_non)) pss_nil
       case gh =>
        refine' @L2.PW.pt _ _ _ ?gi
        case gi =>
         refine' @L2.pw_and _ _ _ _ _ _ _ ?gj ?gk
         case gj =>
          refine' @L2.pt_truth _ _ _ ?gl (fun _=>rfl)
          case gl =>
           refine' @L2.pe_bm _ _ _ _ _ _ _ _ _ _ _ _ PySem.F.plainAttrs_str PySem.F.slot_str_startswith PySem.F.type_str_startswith mt_starts (pv 1) (pa_cons pe_str pa_nil rfl) (by rfl) (by rfl) (by rfl) (by rfl) (by rfl)
         case gk =>
          refine' @L2.pw_and1 _ _ _ _ (pt_cmpR op_ne (pv 0) pe_str (nomark _))
      case gg =>
       refine' @L2.pss_cons _ _ _ _ _ ?gm ?gn
       case gm =>
        refine' @L2.ps_set _ _ (2) _ _ _ _ nd rfl (Or.inl rfl) (pe_cal C_number_of hr (by decide) rfl (pa_cons (pv 1) pa_nil rfl)) (by rfl) (by first | exact Or.inl rfl | exact Or.inr rfl | assumption)
       case gn =>
        refine' @L2.pss_one _ _ _ ?go
        case go =>
         refine' @L2.ps_ret _ _ _ _ ?gp
         case gp =>
          refine' @L2.pe_ifExp _ _ _ _ _ _ _ _ ?gq (pe_un un_neg (pv 2)) (pv 2)
          case gq =>
           refine' @L2.pt_truth _ _ _ ?gr (fun _=>rfl)
           case gr =>
            refine' @L2.pe_bm _ _ _ _ _ _ _ _ _ _ _ _ PySem.F.plainAttrs_str PySem.F.slot_str_startswith PySem.F.type_str_startswith mt_starts (pv 0) (pa_cons pe_str pa_nil rfl) (by rfl) (by rfl) (by rfl) (by rfl) (by rfl)
   case read =>
    have sz:=sz_str hl (by decide)
    refine ⟨_,rfl,rfl,z,_,rfl,rfl,sz,?_⟩
    obtain ⟨f,hf⟩:∃ f,f=Txt.removeprefix z (Str.ofString "-"):=⟨_,rfl⟩
    rw [← hf]
    have ef:f.cps.toList=bodyL z.cps.toList:=by rw [hf]; exact rp_body z
    have lf:f.length≤z.length:=by
     rw [len_eq,len_eq,ef]
     unfold bodyL
     split
     · rw [List.length_tail]; omega
     · exact Nat.le_refl _
    refine gset (σ':=[some (.str z),some (.str f),none]) rfl ?_
    have ad:=asc_dig f
    rw [ef] at ad
    have no:okD (bodyL z.cps.toList)=false→Q .non H:=fun e=>by
     have:wS z=none:=by unfold wS wL; rw [e]; rfl
     rw [this] at q; exact q
    refine ⟨_,rfl,rfl,_,rfl,rfl,_,rfl,?_⟩
    cases h1:Txt.isascii f with
    | false =>
      rw [h1,Bool.false_and] at ad
      exact iteT (iteT (no ad.symm))
    | true =>
      rw [h1,Bool.true_and] at ad
      refine iteF ?_
      refine ⟨_,rfl,rfl,_,rfl,rfl,_,rfl,?_⟩
      cases h2:Txt.isdigit f with
      | false =>
        rw [h2] at ad
        exact iteT (no ad.symm)
      | true =>
        rw [h2] at ad
        refine iteF ?_
        have ok:okD f.cps.toList=true:=by rw [ef]; exact ad.symm
        refine ifs_inv (fun c H1=>H1=H∧c=(decide ((bodyL z.cps.toList).head? = some 48) && decide (z.cps.toList≠[48]))) (fun H1 h1=>?_) (fun H1 h1=>?_) (fun Q' k=>?_)
        rotate_right
        · refine ⟨_,rfl,rfl,_,_,rfl,rfl,_,rfl,?_⟩
          rw [s_nought,sw1,ef]
          by_cases c1:(bodyL z.cps.toList).head? = some 48
          · rw [decide_eq_true c1]
            refine iteT ⟨_,rfl,rfl,_,rfl,k _ _ ⟨rfl,?_⟩⟩
            rw [decide_eq_true c1,Bool.true_and]
            by_cases c2:z.cps.toList=[48]
            · rw [show z=⟨#[48]⟩ from str_eq c2]; decide
            · rw [decide_eq_true (show z.cps.toList≠[48] from c2),show decide (V.str z=V.str ⟨#[48]⟩)=false from decide_eq_false fun e=>c2 (by injection e with e; rw [e])]; rfl
          · rw [decide_eq_false c1]
            exact iteF (k _ _ ⟨rfl,by rw [decide_eq_false c1,Bool.false_and]⟩)
        · obtain ⟨rfl,hc⟩:=h1
          have:wS z=none:=by unfold wS wL; rw [← hc,Bool.not_true,Bool.and_false]; rfl
          rw [this] at q
          exact q
        · obtain ⟨rfl,hc⟩:=h1
          have ew:wS z=some (if z.cps.toList.head? = some 45 then -((NumText.digitsVal (bodyL z.cps.toList):Nat):Int) else ((NumText.digitsVal (bodyL z.cps.toList):Nat):Int)):=by unfold wS wL; rw [← hc,← ad]; rfl
          rw [ew] at q
          refine ⟨_,rfl,f,rfl,ok,by omega,gset (σ':=[some (.str z),some (.str f),some (.int ((NumText.digitsVal f.cps.toList:Nat):Int))]) rfl ?_⟩
          refine ⟨_,rfl,rfl,_,_,rfl,rfl,_,rfl,?_⟩
          rw [s_dash,sw1,ef]
          by_cases c1:z.cps.toList.head? = some 45
          · rw [if_pos c1] at q
            rw [decide_eq_true c1]
            exact iteT ⟨_,rfl,_,rfl,q⟩
          · rw [if_neg c1] at q
            rw [decide_eq_false c1]
            exact iteF ⟨_,rfl,q⟩
abbrev s_whole_text:Stmt:=top 44
theorem ok_whole_text (F:Fun K "whole_text" "whole_text" s_whole_text f fd):FnOk P w K mg base CX0 1 f fd ["number"] sp_wtext:=by
 have sc:FnScope ["number","sign","left","found","low"] ["number"] (defScope s_whole_text):=fsc (by decide +kernel)
 refine F.ok sc (fun vs H Q E h=>?_) (fun cdv A outer s H vs Q E hr h=>?_)
 · obtain ⟨i,rfl,_⟩:=h
   rfl
 · obtain ⟨i,rfl,hi,q⟩:=h
   have nd:=sc.nd
   have hu:=hu_of hr
   have hu1:=Nat.lt_of_succ_lt hu
   refine' ⟨_,?term,?read⟩
   case term =>
    refine' @L2.pss_cons _ _ _ _ _ ?g1 ?g2
    case g1 =>
     refine' @L2.ps_set _ _ (1) _ _ _ _ nd rfl (Or.inl rfl) ?g3 (by rfl) (by first | exact Or.inl rfl | exact Or.inr rfl | assumption)
     case g3 =>
      refine' @L2.pe_ifExp _ _ _ _ _ _ _ _ (pt_cmpR op_lt (pv 0) pe_int (nomark _)) pe_str pe_str
    case g2 =>
     refine' @L2.pss_cons _ _ _ _ _ ?g4 ?g5
     case g4 =>
      refine' @L2.ps_set _ _ (2) _ _ _ _ nd rfl (Or.inl rfl) (pe_callB call_abs rfl T.b_abs bb_abs (pa_cons (pv 0) pa_nil rfl)) (by rfl) (by first | exact Or.inl rfl | exact Or.inr rfl | assumption)
     case g5 =>
      refine' @L2.pss_cons _ _ _ _ _ ?g6 ?g7
      case g6 =>
       refine' @L2.ps_set _ _ (3) _ _ _ _ nd rfl (Or.inl rfl) ?g8 (by rfl) (by first | exact Or.inl rfl | exact Or.inr rfl | assumption)
       case g8 =>
        refine' @L2.pe_lst _ _ _ _ pa_nil
      case g7 =>
       refine' @L2.pss_cons _ _ _ _ _ ?g9 ?ga
       case g9 =>
        refine' @L2.ps_while _ _ _ _ _ _ PassesOwn.never (pt_cmpR op_ge (pv 2) (pe_gint T.n_BASE rfl) (nomark _)) ?gb
        case gb =>
         refine' @L2.pss_cons _ _ _ _ _ ?gc ?gd
         case gc =>
          refine' @L2.ps_asg _ _ _ _ _ _ pe_never ?ge (by rfl) (by rfl) (by rfl)
          case ge =>
           refine' @L2.pg_tup _ _ _ _ _ (2) rfl (pgs_cons (pg_name (i:=2) nd rfl (Or.inl rfl)) (pgs_cons (pg_name (i:=4) nd rfl (Or.inl rfl)) pgs_nil)) (by rfl) (by rfl)
         case gd =>
          refine' @L2.pss_one _ _ _ ?gf
          case gf =>
           refine' @L2.ps_expr _ _ _ _ ?gg (by rfl)
           case gg =>
            refine' @L2.pe_bm _ _ _ _ _ _ _ _ _ _ _ _ PySem.F.plainAttrs_list PySem.F.slot_list_append PySem.F.type_list_append mt_append (pv 3) (pa_cons pe_never pa_nil rfl) (by rfl) (by rfl) (by rfl) (by rfl) (by rfl)
       case ga =>
        refine' @L2.pss_cons _ _ _ _ _ ?gh ?gi
        case gh =>
         refine' @L2.ps_expr _ _ _ _ ?gj (by rfl)
         case gj =>
          refine' @L2.pe_bm _ _ _ _ _ _ _ _ _ _ _ _ PySem.F.plainAttrs_list PySem.F.slot_list_append PySem.F.type_list_append mt_append (pv 3) (pa_cons (pe_callTy call_str_int rfl T.b_str bb_str (pa_cons (pv 2) pa_nil rfl)) pa_nil rfl) (by rfl) (by rfl) (by rfl) (by rfl) (by rfl)
        case gi =>
         refine' @L2.pss_one _ _ _ ?gk
         case gk =>
          refine' @L2.ps_ret _ _ _ _ ?gl
          case gl =>
           refine' @L2.pe_op _ _ _ _ _ _ _ _ op_add_str (pv 1) ?gm
           case gm =>
            refine' @L2.pe_bm _ _ _ _ _ _ _ _ _ _ _ _ PySem.F.plainAttrs_str PySem.F.slot_str_join PySem.F.type_str_join mt_join pe_str (pa_cons (pe_slback1 pe_m1 (pv 3)) pa_nil rfl) (by rfl) (by rfl) (by rfl) (by rfl) (by rfl)
   case read =>
    have hs:∀ Q':VK,Q' (.str (if decide (i < 0)=true then Str.ofString "-" else Str.ofString "")) H→tIf (tTest (tOp (rI0 fun i j=>V.bl (decide (i < j))) (tVar 0) (tC (V.int 0)))) (tC (V.str (Str.ofString "-"))) (tC (V.str (Str.ofString ""))) [some (.int i),none,none,none,none] H Q':=fun Q' k=>by
     refine ⟨_,rfl,_,_,rfl,rfl,_,rfl,?_⟩
     by_cases c:i < 0
     · rw [decide_eq_true c]; rw [decide_eq_true c] at k; exact k
     · rw [decide_eq_false c]; rw [decide_eq_false c] at k; exact k
    refine hs _ ?_
    have wsg:=wd_sign i
    have lsg:(if decide (i < 0)=true then Str.ofString "-" else Str.ofString "").length≤1:=by split <;> decide +kernel
    generalize (if decide (i < 0)=true then Str.ofString "-" else Str.ofString "")=sg at wsg lsg ⊢
    refine gset (σ':=[some (.int i),some (.str sg),none,none,none]) rfl ?_
    refine ⟨_,rfl,i,rfl,?_⟩
    generalize ej:(if i < 0 then -i else i)=j at wsg ⊢
    have hj:j.natAbs < 10 ^ 60:=by rw [← ej]; split <;> omega
    have hj2:j < 1000000000000000000000000000000000000000000000000000000000000:=by
     have:(10:Nat) ^ 60=1000000000000000000000000000000000000000000000000000000000000:=by decide
     omega
    refine gset (σ':=[some (.int i),some (.str sg),some (.int j),none,none]) rfl ?_
    refine ⟨by show 0≤sizeLine; decide,fun L nL=>gset (σ':=[some (.int i),some (.str sg),some (.int j),some (.ref L),none]) rfl ?_⟩
    have S1:Same H (upd H L (.lst [])):=Same.new nL
    have e1:upd H L (.lst []) L=some (.lst []):=upd_same
    have S2:∀ o,Same H (upd (upd H L (.lst [])) L o):=fun o b u e=>by
     have:b≠L:=fun z=>by rw [z,nL] at e; cases e
     rw [upd_ne this]; exact S1 _ _ e
    generalize upd H L (.lst [])=H1 at S1 e1 S2 ⊢
    refine while_by (fun σ H'=>σ=[some (.int i),some (.str sg),some (.int j),some (.ref L),none]∧H'=H1) (fun _ _=>0) ⟨rfl,rfl⟩ ?_ ?_
    rotate_left
    · exact fun σ H Q Q' hq h=>by
       obtain ⟨a,b,c,d,e1,e2,e3,e4,e5⟩:=h
       exact ⟨a,b,c,d,e1,e2,e3,e4,hq _ _ e5⟩
    rintro σ H' ⟨rfl,rfl⟩
    refine ⟨_,rfl,_,_,rfl,rfl,_,rfl,?_⟩
    rw [decide_eq_false (by omega)]
    refine iteF ?_
    refine ⟨_,rfl,.inl ⟨rfl,_,SqL.of e1⟩,_,rfl,j,rfl,lg60 hj,L,_,_,rfl,rfl,e1,by show 0 < sizeLine; decide,?_⟩
    generalize hH:upd H' L _=H2
    have e2:H2 L=some (.lst [.str (wd j)]):=by rw [← hH]; exact upd_same
    have S3:Same H H2:=by rw [← hH]; exact S2 _
    clear hH
    refine ⟨_,rfl,rfl,_,rfl,L,_,rfl,SqL.of e2,fun D nD=>?_⟩
    refine ⟨_,D,[wd j],rfl,rfl,SqL.of upd_same,?_,?_⟩
    · unfold JoinOk
      rw [Bool.not_eq_true']
      exact StrLaws.joinFits (B:=61) (fun y hy=>by rw [List.mem_singleton.mp hy]; exact wd_len60 hj) (by rw [show (Str.ofString "").length=0 by decide +kernel]; show 1 * (61+0)≤_; decide)
    rw [jn1]
    refine ⟨sg,wd j,rfl,rfl,by have:=wd_len60 hj; have:=sizeLine_eq; omega,?_⟩
    rw [wsg]
    exact q _ (S3.trans (Same.new nD))
abbrev s_written:Stmt:=top 47
theorem ok_written (F:Fun K "written" "written" s_written f fd) (C_whole_text:Cal P w K mg base "whole_text" 1 ["number"] sp_wtext):FnOk P w K mg base CX0 2 f fd ["fraction"] sp_written:=by
 have sc:FnScope ["fraction","top","bottom"] ["fraction"] (defScope s_written):=fsc (by decide +kernel)
 refine F.ok sc (fun vs H Q E h=>?_) (fun cdv A outer s H vs Q E hr h=>?_)
 · obtain ⟨p,x,rfl,_⟩:=h
   rfl
 · obtain ⟨p,x,rfl,hp,hx,q⟩:=h
   have nd:=sc.nd
   have hu:=hu_of hr
   have hu1:=Nat.lt_of_succ_lt hu
   refine' ⟨_,?term,?read⟩
   case term =>
    refine' @L2.pss_cons _ _ _ _ _ ?g1 ?g2
    case g1 =>
     refine' @L2.ps_asg _ _ _ _ _ _ (pv 0) ?g3 (by rfl) (by rfl) (by rfl)
     case g3 =>
      refine' @L2.pg_tup _ _ _ _ _ (2) rfl (pgs_cons (pg_name (i:=1) nd rfl (Or.inl rfl)) (pgs_cons (pg_name (i:=2) nd rfl (Or.inl rfl)) pgs_nil)) (by rfl) (by rfl)
    case g2 =>
     refine' @L2.pss_one _ _ _ ?g4
     case g4 =>
      refine' @L2.ps_ret _ _ _ _ ?g5
      case g5 =>
       refine' @L2.pe_ifExp _ _ _ _ _ _ _ _ (pt_cmpR op_eq (pv 2) pe_int (nomark _)) (pe_cal C_whole_text hr (by decide) rfl (pa_cons (pv 1) pa_nil rfl)) (pe_fstr (pj_cons (pe_fv (pe_cal C_whole_text hr (by decide) rfl (pa_cons (pv 1) pa_nil rfl))) (pj_cons pe_str (pj_cons (pe_fv (pe_cal C_whole_text hr (by decide) rfl (pa_cons (pv 2) pa_nil rfl))) pj_nil))))
   case read =>
    have hd:((x.den:Int)).natAbs < 10 ^ 60:=by have:=hx.2; omega
    refine ⟨_,rfl,p,_,rfl,SqT.of hp,rfl,_,_,rfl,_,_,rfl,rfl,?_⟩
    refine gset (σ':=[some (.ref p),some (.int x.num),some (.int x.den)]) rfl ?_
    refine ⟨_,rfl,rfl,_,rfl,?_⟩
    by_cases c:x.den=1
    · have e:tw x=wd x.num:=if_pos c
      rw [e] at q
      rw [show decide (V.int (x.den:Int)=V.int 1)=true from decide_eq_true (by rw [c]; rfl)]
      exact iteT ⟨_,rfl,x.num,rfl,hx.1,q⟩
    · have e:tw x=wd x.num++⟨#[47]⟩++wd x.den:=if_neg c
      rw [e] at q
      rw [show decide (V.int (x.den:Int)=V.int 1)=false from decide_eq_false fun z=>c (by have:=V.int.inj z; omega)]
      have l1:=wd_len60 hx.1
      have l2:=wd_len60 hd
      have l3:(Str.ofString "/").length=1:=by decide +kernel
      have sl:=sizeLine_eq
      refine iteF ⟨_,rfl,x.num,rfl,hx.1,fun H1 s1=>.inr ⟨_,rfl,by omega,_,rfl,by rw [Str.length_append]; show 0+_≤_; omega,?_⟩⟩
      refine ⟨_,rfl,by rw [Str.length_append,Str.length_append]; show 0+_+_≤_; omega,?_⟩
      refine ⟨_,rfl,_,rfl,hd,fun H2 s2=>.inr ⟨_,rfl,by omega,_,rfl,?_,?_,?_⟩⟩
      · rw [Str.length_append,Str.length_append,Str.length_append]; show 0+_+_+_≤_; omega
      · rw [Str.length_append,Str.length_append,Str.length_append]; show 0+_+_+_≤_; omega
      rw [s_bar,show Str.empty++wd x.num=wd x.num from str_eq (by rw [Str.cps_append]; simp [Str.empty])]
      exact q _ (s1.trans s2)
abbrev s_fraction_in:Stmt:=top 48
theorem ok_fraction_in (F:Fun K "fraction_in" "fraction_in" s_fraction_in f fd) (C_is_fraction:Cal P w K mg base "is_fraction" 3 ["thing"] sp_frD) (C_whole_in:Cal P w K mg base "whole_in" 2 ["text"] sp_wholeIn):FnOk P w K mg base CX0 4 f fd ["text"] sp_frIn:=by
 have sc:FnScope ["text","over","bar","under","top","bottom"] ["text"] (defScope s_fraction_in):=fsc (by decide +kernel)
 refine F.ok sc (fun vs H Q E h=>?_) (fun cdv A outer s H vs Q E hr h=>?_)
 · obtain ⟨z,rfl,_⟩:=h
   rfl
 · obtain ⟨z,rfl,hl,q⟩:=h
   have nd:=sc.nd
   have hu:=hu_of hr
   have hu1:=Nat.lt_of_succ_lt hu
   refine' ⟨_,?term,?read⟩
   case term =>
    refine' @L2.pss_cons _ _ _ _ _ ?g1 ?g2
    case g1 =>
     refine' @L2.ps_asg _ _ _ _ _ _ ?g3 ?g4 (by rfl) (by rfl) (by rfl)
     case g3 =>
      refine' @L2.pe_bm _ _ _ _ _ _ _ _ _ _ _ _ PySem.F.plainAttrs_str PySem.F.slot_str_partition PySem.F.type_str_partition mt_part (pv 0) (pa_cons pe_str pa_nil rfl) (by rfl) (by rfl) (by rfl) (by rfl) (by rfl)
     case g4 =>
      refine' @L2.pg_tup _ _ _ _ _ (3) rfl (pgs_cons (pg_name (i:=1) nd rfl (Or.inl rfl)) (pgs_cons (pg_name (i:=2) nd rfl (Or.inl rfl)) (pgs_cons (pg_name (i:=3) nd rfl (Or.inl rfl)) pgs_nil))) (by rfl) (by rfl)
    case g2 =>
     refine' @L2.pss_cons _ _ _ _ _ ?g5 ?g6
     case g5 =>
      refine' @L2.ps_set _ _ (4) _ _ _ _ nd rfl (Or.inl rfl) (pe_cal C_whole_in hr (by decide) rfl (pa_cons (pv 1) pa_nil rfl)) (by rfl) (by first | exact Or.inl rfl | exact Or.inr rfl | assumption)
     case g6 =>
      refine' @L2.pss_cons _ _ _ _ _ ?g7 ?g8
      case g7 =>
       refine' @L2.ps_set _ _ (5) _ _ _ _ nd rfl (Or.inl rfl) ?g9 (by rfl) (by first | exact Or.inl rfl | exact Or.inr rfl | assumption)
       case g9 =>
        refine' @L2.pe_ifExp _ _ _ _ _ _ _ _ ?ga (pe_cal C_whole_in hr (by decide) rfl (pa_cons (pv 3) pa_nil rfl)) pe_int
        case ga =>
         refine' @L2.pt_truth _ _ _ (pv 2) (fun _=>rfl)
      case g8 =>
       refine' @L2.pss_cons _ _ _ _ _ ?gb ?gc
       case gb =>
        refine' @L2.ps_if _ _ _ _ _ _ _ _ ?gd (pss_one (ps_ret pe_non)) pss_nil
        case gd =>
         refine' @L2.PW.pt _ _ _ ?ge
         case ge =>
          refine' @L2.pw_and _ _ _ _ _ _ _ ?gf ?gg
          case gf =>
           refine' @L2.pt_truth _ _ _ (pv 2) (fun _=>rfl)
          case gg =>
           refine' @L2.pw_and1 _ _ _ _ (pt_cmpR op_eq (pv 5) pe_int (nomark _))
       case gc =>
        refine' @L2.pss_one _ _ _ ?gh
        case gh =>
         refine' @L2.ps_ret _ _ _ _ ?gi
         case gi =>
          refine' @L2.pe_ifExp _ _ _ _ _ _ _ _ ?gj (pe_tup (pa_cons (pv 4) (pa_cons (pv 5) pa_nil rfl) rfl)) pe_non
          case gj =>
           refine' @L2.pt_truth _ _ _ (pe_cal C_is_fraction hr (by decide) rfl (pa_cons (pe_tup (pa_cons (pv 4) (pa_cons (pv 5) pa_nil rfl) rfl)) pa_nil rfl)) (fun _=>rfl)
   case read =>
    have sz:=sz_str hl (by decide)
    obtain ⟨o,b,u,ep,lo,lu,hb⟩:=fS_prog z
    refine ⟨_,rfl,rfl,z,_,rfl,rfl,by decide +kernel,sz,fun p np=>?_⟩
    rw [s_bar,ep]
    have S1:Same H (upd H p (.tup [.str o,.str b,.str u])):=Same.new np
    have e1:=upd_same (H:=H) (a:=p) (o:=.tup [.str o,.str b,.str u])
    dsimp only
    generalize upd H p (.tup [.str o,.str b,.str u])=H1 at S1 e1 ⊢
    refine ⟨p,_,rfl,SqT.of e1,rfl,_,_,rfl,_,_,rfl,_,_,rfl,rfl,?_⟩
    refine gset (σ':=[some (.str z),some (.str o),some (.str b),some (.str u),none,none]) rfl ?_
    refine ⟨_,rfl,o,rfl,by omega,gset (σ':=[some (.str z),some (.str o),some (.str b),some (.str u),some (optV (wS o)),none]) rfl ?_⟩
    have bo:∀ i,wS o=some i→i.natAbs < 2 ^ 3990:=fun i e=>p1200 (wL_len e) (by rw [← len_eq]; omega)
    have fin:∀ (bt:Option Int),(∀ i,bt=some i→i.natAbs < 2 ^ 3990)→(∀ v H',Same H H'→FrV H' v (pr (wS o) bt)→Q v H')→tRet (tIf (fun σ H Q=>tCons (tTup (tCons (tVar 4) (tCons (tVar 5) tNil))) tNil σ H fun vs H1=>sp_frD vs H1 (fun x H'=>∃ k,TruV K x H' k∧Q k H') E0) (tTup (tCons (tVar 4) (tCons (tVar 5) tNil))) (tC V.non)) { nx:=fun x H'=>Q V.non H',rt:=Q } [some (.str z),some (.str o),some (.str b),some (.str u),some (optV (wS o)),some (optV bt)] H1:=fun bt hbt q=>by
     refine ⟨_,rfl,_,rfl,by show 2≤sizeLine; decide,fun t nt=>?_⟩
     have S2:Same H1 (upd H1 t (.tup [optV (wS o),optV bt])):=Same.new nt
     have e2:=upd_same (H:=H1) (a:=t) (o:=.tup [optV (wS o),optV bt])
     generalize upd H1 t (.tup [optV (wS o),optV bt])=H2 at S2 e2 ⊢
     refine ⟨fun _=>False,3990,_,.tuple [dO (wS o),dO bt],rfl,.tup e2 (.cons (dt_opt bo) (.cons (dt_opt hbt) .nil)),by decide,_,rfl,?_⟩
     have ef:=isFr_opt (wS o) bt
     unfold pr at q
     cases c:isFr (.tuple [dO (wS o),dO bt]) with
     | false=>rw [c] at q; exact iteF (q _ _ (S1.trans S2) rfl)
     | true =>
       rw [c] at q ef
       refine iteT ⟨_,rfl,_,rfl,by show 2≤sizeLine; decide,fun r nr=>q _ _ ((S1.trans S2).trans (Same.new nr)) ?_⟩
       cases h1:wS o with
       | none=>rw [h1] at ef; cases ef
       | some x =>
         cases h2:bt with
         | none=>rw [h1,h2] at ef; cases ef
         | some y=>exact ⟨r,rfl,upd_same⟩
    rcases hb with ⟨rfl,ef⟩ | ⟨rfl,ef⟩
    · rw [ef] at q
      refine ⟨_,rfl,false,⟨by decide,rfl⟩,iteF (gset (σ':=[some (.str z),some (.str o),some (.str Str.empty),some (.str u),some (optV (wS o)),some (optV (some 1))]) rfl ?_)⟩
      refine ⟨_,rfl,false,⟨by decide,rfl⟩,iteF (iteF ?_)⟩
      exact fin (some 1) (fun i e=>by cases e; exact Nat.one_lt_two_pow (by decide)) q
    · rw [ef] at q
      have bu:∀ i,wS u=some i→i.natAbs < 2 ^ 3990:=fun i e=>p1200 (wL_len e) (by rw [← len_eq]; omega)
      refine ⟨_,rfl,true,⟨by decide,rfl⟩,iteT ⟨_,rfl,u,rfl,by omega,gset (σ':=[some (.str z),some (.str o),some (.str ⟨#[47]⟩),some (.str u),some (optV (wS o)),some (optV (wS u))]) rfl ?_⟩⟩
      refine ⟨_,rfl,true,⟨by decide,rfl⟩,iteT ?_⟩
      by_cases c:wS u=some 1
      · rw [if_pos c] at q
        rw [c]
        exact ⟨_,rfl,rfl,_,rfl,iteT (q _ _ S1 rfl)⟩
      · rw [if_neg c] at q
        have:∀ R:VK,R (.bl false) H1→tOp rEq (tVar 5) (tC (V.int 1)) [some (.str z),some (.str o),some (.str ⟨#[47]⟩),some (.str u),some (optV (wS o)),some (optV (wS u))] H1 R:=fun R k=>by
         cases e:wS u with
         | none=>exact ⟨_,rfl,rfl,by exact k⟩
         | some x=>exact ⟨_,rfl,rfl,by rw [show decide (optV (some x)=V.int 1)=false from decide_eq_false fun z=>c (by rw [e,V.int.inj z])]; exact k⟩
        refine this _ ⟨_,rfl,iteF ?_⟩
        exact fin (wS u) bu q
abbrev s_listed:Stmt:=top 49
theorem ok_listed (F:Fun K "listed" "listed" s_listed f fd):FnOk P w K mg base CX0 1 f fd ["texts"] sp_listed:=by
 have sc:FnScope ["texts"] ["texts"] (defScope s_listed):=fsc (by decide +kernel)
 refine F.ok sc (fun vs H Q E h=>?_) (fun cdv A outer s H vs Q E hr h=>?_)
 · obtain ⟨l,ys,rfl,_⟩:=h
   rfl
 · obtain ⟨l,ys,rfl,hp,hj,q⟩:=h
   have nd:=sc.nd
   have hu:=hu_of hr
   have hu1:=Nat.lt_of_succ_lt hu
   refine' ⟨_,?term,?read⟩
   case term =>
    refine' @L2.pss_one _ _ _ ?g1
    case g1 =>
     refine' @L2.ps_ret _ _ _ _ ?g2
     case g2 =>
      refine' @L2.pe_ifExp _ _ _ _ _ _ _ _ ?g3 ?g4 pe_str
      case g3 =>
       refine' @L2.pt_truth _ _ _ (pv 0) (fun _=>rfl)
      case g4 =>
       refine' @L2.pe_bm _ _ _ _ _ _ _ _ _ _ _ _ PySem.F.plainAttrs_str PySem.F.slot_str_join PySem.F.type_str_join mt_join pe_str (pa_cons (pv 0) pa_nil rfl) (by rfl) (by rfl) (by rfl) (by rfl) (by rfl)
   case read =>
    refine ⟨_,rfl,_,.inl ⟨_,SqL.of hp,rfl⟩,?_⟩
    cases ys with
    | nil=>exact iteF (by rw [s_dash]; exact q)
    | cons y ys =>
      refine iteT ⟨rfl,_,rfl,_,l,y :: ys,rfl,rfl,SqL.of hp,by rw [s_sp]; exact hj,?_⟩
      rw [join_nl_eq,s_sp]
      exact q
abbrev s_row_written:Stmt:=top 50
theorem ok_row_written (F:Fun K "row_written" "row_written" s_row_written f fd) (C_listed:Cal P w K mg base "listed" 1 ["texts"] sp_listed) (C_written:Cal P w K mg base "written" 2 ["fraction"] sp_written):FnOk P w K mg base CX0 3 f fd ["row"] sp_rowWr:=by
 have sc:FnScope ["row"] ["row"] (defScope s_row_written):=fsc (by decide +kernel)
 refine F.ok sc (fun vs H Q E h=>?_) (fun cdv A outer s H vs Q E hr h=>?_)
 · obtain ⟨a,us,qs,rfl,_⟩:=h
   rfl
 · obtain ⟨a,us,qs,rfl,ha,al,hn,hs,q⟩:=h
   have nd:=sc.nd
   have hu:=hu_of hr
   have hu1:=Nat.lt_of_succ_lt hu
   refine' ⟨_,?term,?read⟩
   case term =>
    refine' @L2.pss_one _ _ _ ?g1
    case g1 =>
     refine' @L2.ps_ret _ _ _ _ ?g2
     case g2 =>
      refine' @L2.pe_cal _ _ _ _ _ _ _ _ _ _ _ C_listed hr (by decide) rfl ?g3 (by decide) (by rfl) (by rfl)
      case g3 =>
       refine' @L2.pa_cons _ _ _ _ _ ?g4 pa_nil rfl
       case g4 =>
        refine' @L2.pe_lc _ _ _ _ _ _ _ (["part"]) ([none]) _ _ _ _ _ rfl (lcs_plain (by decide) rfl (by decide) rfl rfl) (pi_tup (pv 0)) (fun _ _ _ _=>(pg_name (i:=0) (show List.Nodup (["part"]:List Str) by decide) rfl (Or.inl rfl) (Or.inr rfl))) (fun _ _ _ _=>pifs_nil) (fun _ _ _ _=>(pe_cal C_written hr (by decide) rfl (pa_cons (pv 0) pa_nil rfl))) (by intro _ ; rfl)
   case read =>
    have l1:=al.1
    refine ⟨_,rfl,a,rfl,⟨_,SqT.of ha⟩,fun D nD=>?_⟩
    refine lc_T (k:=.t) (vs:=us) IsS hIsS (qs.map tw) (by simp; omega) (by omega) nD ha (fun i w H2 C hw s2 c=>?_) (fun H2 us' s2 e2 a2=>?_)
    · obtain ⟨x,ex,p,rfl,hp⟩:=al.get hw
      exact ⟨_,rfl,p,x,rfl,s2 _ _ hp,hs x (List.mem_of_getElem? ex),fun H3 s3=>c _ _ (tw x) s3 (by rw [List.getElem?_map,ex]; rfl) rfl⟩
    · rw [al_strs a2] at e2
      refine ⟨D,qs.map tw,rfl,e2,?_,?_⟩
      · unfold JoinOk
        rw [Bool.not_eq_true']
        refine StrLaws.joinFits (B:=123) (fun y hy=>?_) (by rw [List.length_map,show (⟨#[32]⟩:Str).length=1 from rfl]; have:=sizeLine_eq; omega)
        obtain ⟨x,hx,rfl⟩:=List.mem_map.mp hy
        exact tw_len (hs x hx)
      · rw [show jnD (qs.map tw)=rw' qs by unfold jnD rw'; simp]
        exact q _ s2
abbrev s_are_fractionsD:Stmt:=top 39
theorem ok_are_fractionsD (F:Fun K "are_fractions" "are_fractions" s_are_fractionsD f fd) (C_is_fraction:Cal P w K mg base "is_fraction" 3 ["thing"] sp_frD):FnOk P w K mg base CX0 4 f fd ["thing","many"] sp_areFrD:=by
 have sc:FnScope ["thing","many"] ["thing","many"] (defScope s_are_fractionsD):=fsc (by decide +kernel)
 refine F.ok sc (fun vs H Q E h=>?_) (fun cdv A outer s H vs Q E hr h=>?_)
 · obtain ⟨N,k,v,d,n,rfl,_⟩:=h
   rfl
 · obtain ⟨N,k,v,d,n,rfl,h,hk,hz,q⟩:=h
   have nd:=sc.nd
   have hu:=hu_of hr
   have hu1:=Nat.lt_of_succ_lt hu
   refine' ⟨_,?term,?read⟩
   case term =>
    refine' @L2.pss_cons _ _ _ _ _ ?g1 ?g2
    case g1 =>
     refine' @L2.ps_if _ _ _ _ _ _ _ _ ?g3 (pss_one (ps_ret pe_bl)) pss_nil
     case g3 =>
      refine' @L2.PW.pt _ _ _ ?g4
      case g4 =>
       refine' @L2.pw_or _ _ _ _ _ _ _ ?g5 ?g6
       case g5 =>
        refine' @L2.pt_not _ _ _ _ ?g7
        case g7 =>
         refine' @L2.pt_truth _ _ _ (pe_callB call_isi rfl T.b_isinstance bb_isinstance (pa_cons (pv 0) (pa_cons (pe_bltn (v:=.ty "tuple") rfl T.b_tuple bb_tuple rfl) pa_nil rfl) rfl)) (fun _=>rfl)
       case g6 =>
        refine' @L2.pw_or1 _ _ _ _ (pt_cmpR op_ne (pe_callB call_len_seq rfl T.b_len bb_len (pa_cons (pv 0) pa_nil rfl)) (pv 1) (nomark _))
    case g2 =>
     refine' @L2.pss_one _ _ _ ?g8
     case g8 =>
      refine' @L2.ps_ret _ _ _ _ ?g9
      case g9 =>
       refine' @L2.pe_callB _ _ _ _ _ _ _ _ _ (call_allB rfl) rfl T.b_all bb_all ?ga (by decide) (by decide) (by rfl) (by rfl)
       case ga =>
        refine' @L2.pa_cons _ _ _ _ _ ?gb pa_nil rfl
        case gb =>
         refine' @L2.pe_lc _ _ _ _ _ _ _ (["part"]) ([none]) _ _ _ _ _ rfl (lcs_plain (by decide) rfl (by decide) rfl rfl) (pi_tup (pv 0)) (fun _ _ _ _=>(pg_name (i:=0) (show List.Nodup (["part"]:List Str) by decide) rfl (Or.inl rfl) (Or.inr rfl))) (fun _ _ _ _=>pifs_nil) (fun _ _ _ _=>(pe_cal C_is_fraction hr (by decide) rfl (pa_cons (pv 0) pa_nil rfl))) (by intro _ ; rfl)
   case read =>
    rcases h.isT with ⟨a,us,ds,rfl,rfl,ha,hs⟩ | e
    case inr =>
     obtain ⟨t,ty,ki⟩:=h.ty (K:=K)
     refine ⟨_,rfl,_,_,t,_,rfl,ty,ki,_,rfl,?_⟩
     rw [e]; rw [areFr_no e] at q
     exact iteT (iteT (q _ (Same.refl H)))
    refine ⟨_,rfl,_,_,_,_,rfl,TyOf.tup ha,rfl,true,rfl,iteF ?_⟩
    have hl:=hs.len
    have hz1:1+nzAll ds≤1000:=hz
    have h1000:us.length≤1000:=by have:=len_nz ds; omega
    refine ⟨_,rfl,a,us,rfl,.inr (SqT.of ha),_,rfl,rfl,_,rfl,?_⟩
    by_cases hn:us.length=n
    case neg =>
     rw [show decide (V.int (us.length:Int)=V.int (n:Nat))=false from decide_eq_false (fun z=>hn (by have:=V.int.inj z; omega))]
     rw [areFr_ln (by omega)] at q
     exact iteT (q _ (Same.refl H))
    rw [decide_eq_true (show V.int (us.length:Int)=V.int (n:Nat) by rw [hn])]
    refine iteF ?_
    refine ⟨_,rfl,a,rfl,⟨_,SqT.of ha⟩,fun D nD=>?_⟩
    refine lc_T (k:=.t) (vs:=us) RB hRB (ds.map isFr) (by simp [hl]) h1000 nD ha (fun i w H2 C hw s2 c=>?_) (fun H2 us' s2 e2 a2=>?_)
    · obtain ⟨dx,ed,hdx⟩:=hs.get hw
      have zx:=get_nz ed
      exact ⟨_,rfl,N,k,w,dx,rfl,hdx.same s2,hk,c _ _ (isFr dx) (Same.refl _) (by rw [List.getElem?_map,ed]; rfl) rfl⟩
    · rw [a2.bls] at e2
      refine ⟨D,ds.map isFr,rfl,SqL.of e2,?_⟩
      have z:(ds.map isFr).all id=ds.all isFr:=by rw [List.all_map]; rfl
      rw [z]
      rw [areFr_eq (by omega)] at q
      exact q _ s2
abbrev s_look_at_fraction:Stmt:=top 40
theorem ok_look_at_fraction (F:Fun K "look_at_fraction" "look_at_fraction" s_look_at_fraction f fd) (C_is_fraction:Cal P w K mg base "is_fraction" 3 ["thing"] sp_frD):FnOk P w K mg base CX0 4 f fd ["thing"] sp_lookF:=by
 have sc:FnScope ["thing"] ["thing"] (defScope s_look_at_fraction):=fsc (by decide +kernel)
 refine F.ok sc (fun vs H Q E h=>?_) (fun cdv A outer s H vs Q E hr h=>?_)
 · obtain ⟨p,x,rfl,_⟩:=h
   rfl
 · obtain ⟨p,x,rfl,hp,hx,q⟩:=h
   have nd:=sc.nd
   have hu:=hu_of hr
   have hu1:=Nat.lt_of_succ_lt hu
   refine' ⟨_,?term,?read⟩
   case term =>
    refine' @L2.pss_one _ _ _ ?g1
    case g1 =>
     refine' @L2.ps_if _ _ _ _ _ _ _ _ ?g2 pss_never pss_nil
     case g2 =>
      refine' @L2.pt_not _ _ _ _ ?g3
      case g3 =>
       refine' @L2.pt_truth _ _ _ (pe_cal C_is_fraction hr (by decide) rfl (pa_cons (pv 0) pa_nil rfl)) (fun _=>rfl)
   case read =>
    have b1:x.num.natAbs < 2 ^ 3990:=p1200 hx.1 (by decide)
    have b2:((x.den:Int)).natAbs < 2 ^ 3990:=p1200 (k:=60) (by have:=hx.2; omega) (by decide)
    refine ⟨_,rfl,fun _=>False,3990,_,.tuple [.int x.num,.int x.den],rfl,.tup hp (.cons (.int b1) (.cons (.int b2) .nil)),by decide,_,rfl,?_⟩
    rw [show isFr (.tuple [.int x.num,.int x.den])=true by
     show (decide (1≤(x.den:Int)) && decide (Int.gcd x.num x.den=1))=true
     rw [decide_eq_true (by have:=x.den_pos; omega),decide_eq_true (FM.gcd_one x)]; rfl]
    exact iteF q
abbrev s_look_at_fractionX:Stmt:=top 40
theorem ok_look_at_fractionX (F:Fun K "look_at_fraction" "look_at_fraction" s_look_at_fractionX f fd) {cl:Str→Addr} (Z:Ek K mg cl) (C_is_fraction:Cal P w K mg base "is_fraction" 3 ["thing"] sp_frD):FnOk P w K mg base (CX1 P w) 4 f fd ["thing"] (sp_lookFX (cl "NoFraction")):=by
 have sc:FnScope ["thing"] ["thing"] (defScope s_look_at_fractionX):=fsc (by decide +kernel)
 refine F.okX sc (fun vs H Q E h=>?_) (fun cdv A outer s H vs Q E hr h=>?_)
 · obtain ⟨N,k,v,d,rfl,_⟩:=h
   rfl
 · obtain ⟨N,k,v,d,rfl,h,hk,e,q⟩:=h
   have nd:=sc.nd
   have hu:=hu_of hr
   have hu1:=Nat.lt_of_succ_lt hu
   refine' ⟨_,?term,?read⟩
   case term =>
    refine' @L2.pss_one _ _ _ ?g1
    case g1 =>
     refine' @L2.ps_if _ _ _ _ _ _ _ _ ?g2 (pss_one (ps_raise xeOk1 rfl rfl Z.m_NoFraction Z.e_NoFraction)) pss_nil
     case g2 =>
      refine' @L2.pt_not _ _ _ _ ?g3
      case g3 =>
       refine' @L2.pt_truth _ _ _ (pe_cal C_is_fraction hr (by decide) rfl (pa_cons (pv 0) pa_nil rfl)) (fun _=>rfl)
   case read =>
    refine ⟨_,rfl,N,k,v,d,rfl,h,hk,_,rfl,?_⟩
    rw [e]
    exact iteT q
abbrev s_fraction_text:Stmt:=top 52
theorem ok_fraction_text (F:Fun K "fraction_text" "fraction_text" s_fraction_text f fd) (C_look_at_fraction:Cal P w K mg base "look_at_fraction" 4 ["thing"] sp_lookF) (C_written:Cal P w K mg base "written" 2 ["fraction"] sp_written):FnOk P w K mg base CX0 5 f fd ["fraction"] sp_frTxt:=by
 have sc:FnScope ["fraction"] ["fraction"] (defScope s_fraction_text):=fsc (by decide +kernel)
 refine F.ok sc (fun vs H Q E h=>?_) (fun cdv A outer s H vs Q E hr h=>?_)
 · obtain ⟨p,x,rfl,_⟩:=h
   rfl
 · obtain ⟨p,x,rfl,hp,hx,q⟩:=h
   have nd:=sc.nd
   have hu:=hu_of hr
   have hu1:=Nat.lt_of_succ_lt hu
   refine' ⟨_,?term,?read⟩
   case term =>
    refine' @L2.pss_cons _ _ _ _ _ ?g1 (pss_one (ps_ret (pe_cal C_written hr (by decide) rfl (pa_cons (pv 0) pa_nil rfl))))
    case g1 =>
     refine' @L2.ps_expr _ _ _ _ (pe_cal C_look_at_fraction hr (by decide) rfl (pa_cons (pv 0) pa_nil rfl)) (by rfl)
   case read =>
    exact ⟨_,rfl,p,x,rfl,hp,hx,_,rfl,p,x,rfl,hp,hx,q⟩
abbrev s_fraction_textX:Stmt:=top 52
theorem ok_fraction_textX (F:Fun K "fraction_text" "fraction_text" s_fraction_textX f fd) {cl:Str→Addr} (Z:Ek K mg cl) (X_look_at_fractionX:CalX P w K mg base "look_at_fraction" 4 ["thing"] (sp_lookFX (cl "NoFraction"))):FnOk P w K mg base (CX1 P w) 5 f fd ["fraction"] (sp_lookFX (cl "NoFraction")):=by
 have sc:FnScope ["fraction"] ["fraction"] (defScope s_fraction_textX):=fsc (by decide +kernel)
 refine F.okX sc (fun vs H Q E h=>?_) (fun cdv A outer s H vs Q E hr h=>?_)
 · obtain ⟨N,k,v,d,rfl,_⟩:=h
   rfl
 · obtain ⟨N,k,v,d,rfl,h,hk,e,q⟩:=h
   have nd:=sc.nd
   have hu:=hu_of hr
   have hu1:=Nat.lt_of_succ_lt hu
   refine' ⟨_,?term,?read⟩
   case term =>
    refine' @L2.pss_cons _ _ _ _ _ ?g1 (pss_one (ps_ret pe_never))
    case g1 =>
     refine' @L2.ps_expr _ _ _ _ (pe_calX X_look_at_fractionX xeOk1.passes hr (by decide) rfl (pa_cons (pv 0) pa_nil rfl)) (by rfl)
   case read =>
    exact ⟨_,rfl,N,k,v,d,rfl,h,hk,e,q⟩
abbrev s_row_text:Stmt:=top 53
theorem ok_row_text (F:Fun K "row_text" "row_text" s_row_text f fd) (C_are_fractionsD:Cal P w K mg base "are_fractions" 4 ["thing","many"] sp_areFrD) (C_row_written:Cal P w K mg base "row_written" 3 ["row"] sp_rowWr):FnOk P w K mg base CX0 5 f fd ["row"] sp_rowWr:=by
 have sc:FnScope ["row"] ["row"] (defScope s_row_text):=fsc (by decide +kernel)
 refine F.ok sc (fun vs H Q E h=>?_) (fun cdv A outer s H vs Q E hr h=>?_)
 · obtain ⟨a,us,qs,rfl,_⟩:=h
   rfl
 · obtain ⟨a,us,qs,rfl,ha,al,hn,hs,q⟩:=h
   have nd:=sc.nd
   have hu:=hu_of hr
   have hu1:=Nat.lt_of_succ_lt hu
   refine' ⟨_,?term,?read⟩
   case term =>
    refine' @L2.pss_cons _ _ _ _ _ ?g1 (pss_one (ps_ret (pe_cal C_row_written hr (by decide) rfl (pa_cons (pv 0) pa_nil rfl))))
    case g1 =>
     refine' @L2.ps_if _ _ _ _ _ _ _ _ ?g2 pss_never pss_nil
     case g2 =>
      refine' @L2.PW.pt _ _ _ ?g3
      case g3 =>
       refine' @L2.pw_or _ _ _ _ _ _ _ ?g4 ?g5
       case g4 =>
        refine' @L2.pt_not _ _ _ _ ?g6
        case g6 =>
         refine' @L2.pt_truth _ _ _ (pe_callB call_isi rfl T.b_isinstance bb_isinstance (pa_cons (pv 0) (pa_cons (pe_bltn (v:=.ty "tuple") rfl T.b_tuple bb_tuple rfl) pa_nil rfl) rfl)) (fun _=>rfl)
       case g5 =>
        refine' @L2.pw_or1 _ _ _ _ ?g7
        case g7 =>
         refine' @L2.pt_not _ _ _ _ ?g8
         case g8 =>
          refine' @L2.pt_truth _ _ _ (pe_cal C_are_fractionsD hr (by decide) rfl (pa_cons (pv 0) (pa_cons (pe_callB call_len_seq rfl T.b_len bb_len (pa_cons (pv 0) pa_nil rfl)) pa_nil rfl) rfl)) (fun _=>rfl)
   case read =>
    have l1:=al.1
    have dt:Dt (fun _=>False) H 200 (.ref a) (.tuple (qs.map qD)):=.tup ha (al_dts al hs)
    refine ⟨_,rfl,_,_,_,_,rfl,TyOf.tup ha,rfl,true,rfl,iteF ?_⟩
    refine ⟨_,rfl,_,rfl,a,us,rfl,.inr (SqT.of ha),_,200,_,_,us.length,rfl,dt,by decide,by show 1+nzAll _≤_; rw [nz_qD]; omega,fun H1 s1=>⟨_,rfl,?_⟩⟩
    rw [areFr_eq (by simp [l1]),qD_all]
    refine iteF ⟨_,rfl,a,us,qs,rfl,s1 _ _ ha,al.imp fun v x r=>r.tk s1.tk,hn,hs,fun H2 s2=>q _ (s1.trans s2)⟩
abbrev s_row_textX:Stmt:=top 53
theorem ok_row_textX (F:Fun K "row_text" "row_text" s_row_textX f fd) {cl:Str→Addr} (Z:Ek K mg cl) (C_are_fractionsD:Cal P w K mg base "are_fractions" 4 ["thing","many"] sp_areFrD) (C_row_written:Cal P w K mg base "row_written" 3 ["row"] sp_rowWr):FnOk P w K mg base (CX1 P w) 5 f fd ["row"] (sp_rowTxtX (cl "NoFraction")):=by
 have sc:FnScope ["row"] ["row"] (defScope s_row_textX):=fsc (by decide +kernel)
 refine F.okX sc (fun vs H Q E h=>?_) (fun cdv A outer s H vs Q E hr h=>?_)
 · obtain ⟨N,k,v,d,rfl,_⟩:=h
   rfl
 · obtain ⟨N,k,v,d,rfl,h,hk,hz,hlen,q⟩:=h
   have nd:=sc.nd
   have hu:=hu_of hr
   have hu1:=Nat.lt_of_succ_lt hu
   refine' ⟨_,?term,?read⟩
   case term =>
    refine' @L2.pss_cons _ _ _ _ _ ?g1 (pss_one (ps_ret (pe_cal C_row_written hr (by decide) rfl (pa_cons (pv 0) pa_nil rfl))))
    case g1 =>
     refine' @L2.ps_if _ _ _ _ _ _ _ _ ?g2 (pss_one (ps_raise xeOk1 rfl rfl Z.m_NoFraction Z.e_NoFraction)) pss_nil
     case g2 =>
      refine' @L2.PW.pt _ _ _ ?g3
      case g3 =>
       refine' @L2.pw_or _ _ _ _ _ _ _ ?g4 ?g5
       case g4 =>
        refine' @L2.pt_not _ _ _ _ ?g6
        case g6 =>
         refine' @L2.pt_truth _ _ _ (pe_callB call_isi rfl T.b_isinstance bb_isinstance (pa_cons (pv 0) (pa_cons (pe_bltn (v:=.ty "tuple") rfl T.b_tuple bb_tuple rfl) pa_nil rfl) rfl)) (fun _=>rfl)
       case g5 =>
        refine' @L2.pw_or1 _ _ _ _ ?g7
        case g7 =>
         refine' @L2.pt_not _ _ _ _ ?g8
         case g8 =>
          refine' @L2.pt_truth _ _ _ (pe_cal C_are_fractionsD hr (by decide) rfl (pa_cons (pv 0) (pa_cons (pe_callB call_len_seq rfl T.b_len bb_len (pa_cons (pv 0) pa_nil rfl)) pa_nil rfl) rfl)) (fun _=>rfl)
   case read =>
    rcases h.isT with ⟨a,us,ds,rfl,rfl,ha,hs⟩ | e
    case inr =>
     obtain ⟨t,ty,ki⟩:=h.ty (K:=K)
     refine ⟨_,rfl,_,_,t,_,rfl,ty,ki,_,rfl,?_⟩
     rw [e]
     rw [show allFr d=false by cases d <;> first | rfl | (cases e),if_neg (by decide)] at q
     exact iteT (iteT (q _ (Same.refl H)))
    have hl:=hs.len
    refine ⟨_,rfl,_,_,_,_,rfl,TyOf.tup ha,rfl,true,rfl,iteF ?_⟩
    refine ⟨_,rfl,_,rfl,a,us,rfl,.inr (SqT.of ha),N,k,_,_,us.length,rfl,h,by omega,hz,fun H1 s1=>⟨_,rfl,?_⟩⟩
    rw [areFr_eq (by omega)]
    cases e:ds.all isFr with
    | false =>
      rw [show allFr (.tuple ds)=false from e,if_neg (by decide)] at q
      exact iteT (q _ s1)
    | true =>
      rw [show allFr (.tuple ds)=true from e,if_pos rfl] at q
      obtain ⟨qs,al,l,hsm⟩:=dts_al hk hs e
      exact iteF ⟨_,rfl,a,us,qs,rfl,s1 _ _ ha,al.imp fun v x r=>r.tk s1.tk,by have:=hlen ds rfl; omega,hsm,fun H2 s2=>q _ _ (s1.trans s2)⟩
abbrev s_look_at_text:Stmt:=top 51
theorem ok_look_at_text (F:Fun K "look_at_text" "look_at_text" s_look_at_text f fd):FnOk P w K mg base CX0 4 f fd ["thing"] sp_lookT:=by
 have sc:FnScope ["thing"] ["thing"] (defScope s_look_at_text):=fsc (by decide +kernel)
 refine F.ok sc (fun vs H Q E h=>?_) (fun cdv A outer s H vs Q E hr h=>?_)
 · obtain ⟨z,rfl,_⟩:=h
   rfl
 · obtain ⟨z,rfl,q⟩:=h
   have nd:=sc.nd
   have hu:=hu_of hr
   have hu1:=Nat.lt_of_succ_lt hu
   refine' ⟨_,?term,?read⟩
   case term =>
    refine' @L2.pss_one _ _ _ ?g1
    case g1 =>
     refine' @L2.ps_if _ _ _ _ _ _ _ _ ?g2 pss_never pss_nil
     case g2 =>
      refine' @L2.pt_not _ _ _ _ ?g3
      case g3 =>
       refine' @L2.pt_truth _ _ _ (pe_callB call_isi rfl T.b_isinstance bb_isinstance (pa_cons (pv 0) (pa_cons (pe_bltn (v:=.ty "str") rfl T.b_str bb_str rfl) pa_nil rfl) rfl)) (fun _=>rfl)
   case read =>
    exact ⟨_,rfl,_,_,_,_,rfl,TyOf.str z,rfl,true,rfl,iteF q⟩
abbrev s_look_at_textX:Stmt:=top 51
theorem ok_look_at_textX (F:Fun K "look_at_text" "look_at_text" s_look_at_textX f fd) {cl:Str→Addr} (Z:Ek K mg cl) {fI:Addr} {fdI:FuncData} (IN:IniK P w K mg base cl fI fdI):FnOk P w K mg base (CX1 P w) 4 f fd ["thing"] (sp_lookTX (cl "NoText")):=by
 have sc:FnScope ["thing"] ["thing"] (defScope s_look_at_textX):=fsc (by decide +kernel)
 refine F.okX sc (fun vs H Q E h=>?_) (fun cdv A outer s H vs Q E hr h=>?_)
 · obtain ⟨N,k,v,d,rfl,_⟩:=h
   rfl
 · obtain ⟨N,k,v,d,rfl,h,q⟩:=h
   have nd:=sc.nd
   have hu:=hu_of hr
   have hu1:=Nat.lt_of_succ_lt hu
   refine' ⟨_,?term,?read⟩
   case term =>
    refine' @L2.pss_one _ _ _ ?g1
    case g1 =>
     refine' @L2.ps_if _ _ _ _ _ _ _ _ ?g2 (pss_one (ps_raiseI xeOk1 rfl rfl Z.m_NoText IN.zi IN.fi (hr.mono (by decide)) IN.hb (pa_cons pe_int pa_nil rfl))) pss_nil
     case g2 =>
      refine' @L2.pt_not _ _ _ _ ?g3
      case g3 =>
       refine' @L2.pt_truth _ _ _ (pe_callB call_isi rfl T.b_isinstance bb_isinstance (pa_cons (pv 0) (pa_cons (pe_bltn (v:=.ty "str") rfl T.b_str bb_str rfl) pa_nil rfl) rfl)) (fun _=>rfl)
   case read =>
    obtain ⟨t,ty,ki⟩:=tyS (K:=K) h
    refine ⟨_,rfl,_,_,t,_,rfl,ty,ki,_,rfl,?_⟩
    cases e:isSt d with
    | true=>rw [e,if_pos rfl] at q; exact iteF q
    | false =>
      rw [e,if_neg (by decide)] at q
      exact iteT ⟨_,rfl,⟨_,rfl,by decide⟩,q⟩
abbrev s_read_fraction:Stmt:=top 54
theorem ok_read_fraction (F:Fun K "read_fraction" "read_fraction" s_read_fraction f fd) (C_fraction_in:Cal P w K mg base "fraction_in" 4 ["text"] sp_frIn) (C_look_at_text:Cal P w K mg base "look_at_text" 4 ["thing"] sp_lookT):FnOk P w K mg base CX0 6 f fd ["text"] (sp_read oneO):=by
 have sc:FnScope ["text","found"] ["text"] (defScope s_read_fraction):=fsc (by decide +kernel)
 refine F.ok sc (fun vs H Q E h=>?_) (fun cdv A outer s H vs Q E hr h=>?_)
 · obtain ⟨z,r,rfl,_⟩:=h
   rfl
 · obtain ⟨z,r,rfl,hl,e,q⟩:=h
   have nd:=sc.nd
   have hu:=hu_of hr
   have hu1:=Nat.lt_of_succ_lt hu
   refine' ⟨_,?term,?read⟩
   case term =>
    refine' @L2.pss_cons _ _ _ _ _ ?g1 ?g2
    case g1 =>
     refine' @L2.ps_expr _ _ _ _ (pe_cal C_look_at_text hr (by decide) rfl (pa_cons (pv 0) pa_nil rfl)) (by rfl)
    case g2 =>
     refine' @L2.pss_cons _ _ _ _ _ ?g3 ?g4
     case g3 =>
      refine' @L2.ps_set _ _ (1) _ _ _ _ nd rfl (Or.inl rfl) (pe_cal C_fraction_in hr (by decide) rfl (pa_cons (pv 0) pa_nil rfl)) (by rfl) (by first | exact Or.inl rfl | exact Or.inr rfl | assumption)
     case g4 =>
      refine' @L2.pss_cons _ _ _ _ _ ?g5 (pss_one (ps_ret (pv 1)))
      case g5 =>
       refine' @L2.ps_if _ _ _ _ _ _ _ _ (pt_cmpR op_isN (pv 1) pe_non (nomark _)) pss_never pss_nil
   case read =>
    refine ⟨_,rfl,z,rfl,?_⟩
    refine ⟨_,rfl,z,rfl,by omega,fun v H1 s1 f=>gset (σ':=[some (.str z),some v]) rfl ?_⟩
    refine ⟨_,rfl,rfl,_,rfl,?_⟩
    cases ef:fS z with
    | none=>exact absurd (show oneO (.str z)=.bad 1 by show (match fS z with | none=>Out.bad 1 | some x=>.ok (frD x))=_; rw [ef]) (by rw [e]; intro z; cases z)
    | some x =>
      have e':oneO (.str z)=.ok (frD x):=by show (match fS z with | none=>Out.bad 1 | some x=>.ok (frD x))=_; rw [ef]
      rw [e] at e'
      cases e'
      rw [ef] at f
      have dt:=frV_dt (by omega) ef f
      obtain ⟨p,rfl,hp⟩:=f
      exact iteF ⟨_,rfl,q _ _ s1 dt⟩
abbrev s_read_fractionX:Stmt:=top 54
theorem ok_read_fractionX (F:Fun K "read_fraction" "read_fraction" s_read_fractionX f fd) {cl:Str→Addr} (Z:Ek K mg cl) {fI:Addr} {fdI:FuncData} (IN:IniK P w K mg base cl fI fdI) (C_fraction_in:Cal P w K mg base "fraction_in" 4 ["text"] sp_frIn) (X_look_at_textX:CalX P w K mg base "look_at_text" 4 ["thing"] (sp_lookTX (cl "NoText"))):FnOk P w K mg base (CX1 P w) 6 f fd ["text"] (sp_readX oneO (cl "NoText")):=by
 have sc:FnScope ["text","found"] ["text"] (defScope s_read_fractionX):=fsc (by decide +kernel)
 refine F.okX sc (fun vs H Q E h=>?_) (fun cdv A outer s H vs Q E hr h=>?_)
 · obtain ⟨N,k,v,d,rfl,_⟩:=h
   rfl
 · obtain ⟨N,k,v,d,rfl,h,ht,q⟩:=h
   have nd:=sc.nd
   have hu:=hu_of hr
   have hu1:=Nat.lt_of_succ_lt hu
   refine' ⟨_,?term,?read⟩
   case term =>
    refine' @L2.pss_cons _ _ _ _ _ ?g1 ?g2
    case g1 =>
     refine' @L2.ps_expr _ _ _ _ (pe_calX X_look_at_textX xeOk1.passes hr (by decide) rfl (pa_cons (pv 0) pa_nil rfl)) (by rfl)
    case g2 =>
     refine' @L2.pss_cons _ _ _ _ _ ?g3 ?g4
     case g3 =>
      refine' @L2.ps_set _ _ (1) _ _ _ _ nd rfl (Or.inl rfl) (pe_cal C_fraction_in hr (by decide) rfl (pa_cons (pv 0) pa_nil rfl)) (by rfl) (by first | exact Or.inl rfl | exact Or.inr rfl | assumption)
     case g4 =>
      refine' @L2.pss_cons _ _ _ _ _ ?g5 (pss_one (ps_ret (pv 1)))
      case g5 =>
       refine' @L2.ps_if _ _ _ _ _ _ _ _ (pt_cmpR op_isN (pv 1) pe_non (nomark _)) (pss_one (ps_raiseI xeOk1 rfl rfl Z.m_NoText IN.zi IN.fi (hr.mono (by decide)) IN.hb (pa_cons pe_int pa_nil rfl))) pss_nil
   case read =>
    refine ⟨_,rfl,N,k,v,d,rfl,h,?_⟩
    cases hd:isSt d with
    | false =>
      rw [if_neg (by decide)]
      have e:oneO d=.bad 0:=by cases d <;> first | rfl | (cases hd)
      rw [e] at q
      exact fun D nD=>q D H (Same.refl H) nD
    | true =>
    rw [if_pos rfl]
    obtain ⟨z,rfl,rfl⟩:∃ z,d=.str z∧v=.str z:=by
     cases h <;> first | exact ⟨_,rfl,rfl⟩ | (cases hd)
    have hl:=(ht z rfl).1
    refine ⟨_,rfl,z,rfl,by omega,fun v H1 s1 f=>gset (σ':=[some (.str z),some v]) rfl ?_⟩
    refine ⟨_,rfl,rfl,_,rfl,?_⟩
    cases ef:fS z with
    | none =>
      rw [show oneO (.str z)=.bad 1 by show (match fS z with | none=>Out.bad 1 | some x=>.ok (frD x))=_; rw [ef]] at q
      rw [ef] at f
      obtain rfl:v=.non:=f
      exact iteT ⟨_,rfl,⟨_,rfl,by decide⟩,fun D nD=>q D _ s1 nD⟩
    | some x =>
      rw [show oneO (.str z)=.ok (frD x) by show (match fS z with | none=>Out.bad 1 | some x=>.ok (frD x))=_; rw [ef]] at q
      rw [ef] at f
      have dt:=frV_dt (by omega) ef f
      obtain ⟨p,rfl,hp⟩:=f
      exact iteF ⟨_,rfl,q _ _ s1 dt⟩
abbrev s_read_row:Stmt:=top 55
theorem ok_read_row (F:Fun K "read_row" "read_row" s_read_row f fd) (C_fraction_in:Cal P w K mg base "fraction_in" 4 ["text"] sp_frIn) (C_look_at_text:Cal P w K mg base "look_at_text" 4 ["thing"] sp_lookT):FnOk P w K mg base CX0 6 f fd ["text"] (sp_read rowO):=by
 have sc:FnScope ["text","found"] ["text"] (defScope s_read_row):=fsc (by decide +kernel)
 refine F.ok sc (fun vs H Q E h=>?_) (fun cdv A outer s H vs Q E hr h=>?_)
 · obtain ⟨z,r,rfl,_⟩:=h
   rfl
 · obtain ⟨z,r,rfl,hl,e,q⟩:=h
   have nd:=sc.nd
   have hu:=hu_of hr
   have hu1:=Nat.lt_of_succ_lt hu
   refine' ⟨_,?term,?read⟩
   case term =>
    refine' @L2.pss_cons _ _ _ _ _ ?g1 ?g2
    case g1 =>
     refine' @L2.ps_expr _ _ _ _ (pe_cal C_look_at_text hr (by decide) rfl (pa_cons (pv 0) pa_nil rfl)) (by rfl)
    case g2 =>
     refine' @L2.pss_cons _ _ _ _ _ ?g3 ?g4
     case g3 =>
      refine' @L2.ps_set _ _ (1) _ _ _ _ nd rfl (Or.inl rfl) ?g5 (by rfl) (by first | exact Or.inl rfl | exact Or.inr rfl | assumption)
      case g5 =>
       refine' @L2.pe_ifExp _ _ _ _ _ _ _ _ (pt_cmpR op_eq (pv 0) pe_str (nomark _)) ?g6 ?g7
       case g6 =>
        refine' @L2.pe_lst _ _ _ _ pa_nil
       case g7 =>
        refine' @L2.pe_lc _ _ _ _ _ _ _ (["word"]) ([none]) _ _ _ _ _ rfl (lcs_plain (by decide) rfl (by decide) rfl rfl) ?g8 (fun _ _ _ _=>(pg_name (i:=0) (show List.Nodup (["word"]:List Str) by decide) rfl (Or.inl rfl) (Or.inr rfl))) (fun _ _ _ _=>pifs_nil) (fun _ _ _ _=>(pe_cal C_fraction_in hr (by decide) rfl (pa_cons (pv 0) pa_nil rfl))) (by intro _ ; rfl)
        case g8 =>
         refine' @L2.pi_list _ _ _ _ ?g9
         case g9 =>
          refine' @L2.pe_bm _ _ _ _ _ _ _ _ _ _ _ _ PySem.F.plainAttrs_str PySem.F.slot_str_split PySem.F.type_str_split mt_split (pv 0) (pa_cons pe_str pa_nil rfl) (by rfl) (by rfl) (by rfl) (by rfl) (by rfl)
     case g4 =>
      refine' @L2.pss_cons _ _ _ _ _ ?ga (pss_one (ps_ret (pe_callTy call_tuple_of rfl T.b_tuple bb_tuple (pa_cons (pv 1) pa_nil rfl))))
      case ga =>
       refine' @L2.ps_if _ _ _ _ _ _ _ _ (pt_cmpR (op_noneIn hu) pe_non (pv 1) rfl) pss_never pss_nil
   case read =>
    refine ⟨_,rfl,z,rfl,?_⟩
    have sz:=sz_str (x:=z) (n:=1200) (by omega) (by decide)
    refine asg_inv (fun v H1=>∃ (L:Addr) (us:List V) (ws:List Str),v=.ref L∧Same H H1∧H1 L=some (.lst us)∧Al (FrV H1) us (ws.map fS)∧(∀ w∈ws,w.length≤1200)∧rS z=allS (ws.map fS)) (fun Q' key=>?_) (fun v H1 hv=>?_)
    · refine ⟨_,rfl,rfl,_,rfl,?_⟩
      by_cases c:z=⟨#[45]⟩
      · rw [show decide (V.str z=V.str (Str.ofString "-"))=true from decide_eq_true (by rw [c,s_dash])]
        refine iteT ⟨by show 0≤sizeLine; decide,fun L nL=>?_⟩
        exact key _ _ ⟨L,[],[],rfl,Same.new nL,upd_same,.nil,fun w hw=>(by cases hw),by unfold rS; rw [if_pos c]; rfl⟩
      · rw [show decide (V.str z=V.str (Str.ofString "-"))=false from decide_eq_false fun w=>c (by rw [V.str.inj w,s_dash])]
        obtain ⟨n1,n2⟩:=split_sizes z 32
        refine iteF ⟨_,rfl,rfl,z,_,rfl,rfl,by decide +kernel,sz,?_,?_⟩
        · rw [s_sp]; have:=sizeLine_eq; omega
        rw [s_sp]
        intro p np
        have S1:Same H (upd H p (.lst ((Txt.split z ⟨#[32]⟩).map V.str))):=Same.new np
        have e1:=upd_same (H:=H) (a:=p) (o:=.lst ((Txt.split z ⟨#[32]⟩).map V.str))
        generalize upd H p (.lst ((Txt.split z ⟨#[32]⟩).map V.str))=H1 at S1 e1 ⊢
        refine ⟨p,rfl,⟨_,SqL.of e1⟩,fun D nD=>?_⟩
        refine lc_T (k:=.l) (vs:=(Txt.split z ⟨#[32]⟩).map V.str) FrV (fun H1 H2 v x t r=>FrV.tk t r) ((Txt.split z ⟨#[32]⟩).map fS) (by simp) (by rw [List.length_map]; omega) nD e1 (fun i w H2 C hw s2 c=>?_) (fun H2 us s2 e2 a2=>?_)
        · rw [List.getElem?_map] at hw
          obtain ⟨y,ey,rfl⟩:=Option.map_eq_some_iff.mp hw
          exact ⟨_,rfl,y,rfl,by have:=n2 y (List.mem_of_getElem? ey); omega,fun v H3 s3 f=>c _ _ (fS y) s3 (by rw [List.getElem?_map,ey]; rfl) f⟩
        · exact key _ _ ⟨D,us,_,rfl,S1.trans s2,e2,a2,fun w hw=>(by have:=n2 w hw; omega),by unfold rS; rw [if_neg c]⟩
    · obtain ⟨L,us,ws,rfl,s1,e1,al,hw,er⟩:=hv
      refine gset (σ':=[some (.str z),some (.ref L)]) rfl ?_
      obtain ⟨h1,h2,h3⟩:=fr_all hw al
      refine ⟨_,rfl,L,us,rfl,rfl,e1,h1,_,rfl,?_⟩
      rw [h2]
      cases ea:allS (ws.map fS) with
      | none =>
        rw [ea] at er
        have e0:rowO (.str z)=.bad 1:=by show (match rS z with | none=>Out.bad 1 | some l=>.ok (.tuple (l.map frD)))=_; rw [er]
        rw [e] at e0; cases e0
      | some l =>
        rw [ea] at er
        have e0:rowO (.str z)=.ok (.tuple (l.map frD)):=by show (match rS z with | none=>Out.bad 1 | some l=>.ok (.tuple (l.map frD)))=_; rw [er]
        rw [e] at e0
        cases e0
        refine iteF ⟨_,rfl,L,us,rfl,.inl ⟨SqL.of e1,fun t nt=>q _ _ (s1.trans (Same.new nt)) fun N=>?_⟩⟩
        exact .tup upd_same ((h3 l ea N).same (Same.new nt))
abbrev s_read_rowX:Stmt:=top 55
theorem ok_read_rowX (F:Fun K "read_row" "read_row" s_read_rowX f fd) {cl:Str→Addr} (Z:Ek K mg cl) {fI:Addr} {fdI:FuncData} (IN:IniK P w K mg base cl fI fdI) (C_fraction_in:Cal P w K mg base "fraction_in" 4 ["text"] sp_frIn) (X_look_at_textX:CalX P w K mg base "look_at_text" 4 ["thing"] (sp_lookTX (cl "NoText"))):FnOk P w K mg base (CX1 P w) 6 f fd ["text"] (sp_readX rowO (cl "NoText")):=by
 have sc:FnScope ["text","found"] ["text"] (defScope s_read_rowX):=fsc (by decide +kernel)
 refine F.okX sc (fun vs H Q E h=>?_) (fun cdv A outer s H vs Q E hr h=>?_)
 · obtain ⟨N,k,v,d,rfl,_⟩:=h
   rfl
 · obtain ⟨N,k,v,d,rfl,h,ht,q⟩:=h
   have nd:=sc.nd
   have hu:=hu_of hr
   have hu1:=Nat.lt_of_succ_lt hu
   refine' ⟨_,?term,?read⟩
   case term =>
    refine' @L2.pss_cons _ _ _ _ _ ?g1 ?g2
    case g1 =>
     refine' @L2.ps_expr _ _ _ _ (pe_calX X_look_at_textX xeOk1.passes hr (by decide) rfl (pa_cons (pv 0) pa_nil rfl)) (by rfl)
    case g2 =>
     refine' @L2.pss_cons _ _ _ _ _ ?g3 ?g4
     case g3 =>
      refine' @L2.ps_set _ _ (1) _ _ _ _ nd rfl (Or.inl rfl) ?g5 (by rfl) (by first | exact Or.inl rfl | exact Or.inr rfl | assumption)
      case g5 =>
       refine' @L2.pe_ifExp _ _ _ _ _ _ _ _ (pt_cmpR op_eq (pv 0) pe_str (nomark _)) ?g6 ?g7
       case g6 =>
        refine' @L2.pe_lst _ _ _ _ pa_nil
       case g7 =>
        refine' @L2.pe_lc _ _ _ _ _ _ _ (["word"]) ([none]) _ _ _ _ _ rfl (lcs_plain (by decide) rfl (by decide) rfl rfl) ?g8 (fun _ _ _ _=>(pg_name (i:=0) (show List.Nodup (["word"]:List Str) by decide) rfl (Or.inl rfl) (Or.inr rfl))) (fun _ _ _ _=>pifs_nil) (fun _ _ _ _=>(pe_cal C_fraction_in hr (by decide) rfl (pa_cons (pv 0) pa_nil rfl))) (by intro _ ; rfl)
        case g8 =>
         refine' @L2.pi_list _ _ _ _ ?g9
         case g9 =>
          refine' @L2.pe_bm _ _ _ _ _ _ _ _ _ _ _ _ PySem.F.plainAttrs_str PySem.F.slot_str_split PySem.F.type_str_split mt_split (pv 0) (pa_cons pe_str pa_nil rfl) (by rfl) (by rfl) (by rfl) (by rfl) (by rfl)
     case g4 =>
      refine' @L2.pss_cons _ _ _ _ _ ?ga (pss_one (ps_ret (pe_callTy call_tuple_of rfl T.b_tuple bb_tuple (pa_cons (pv 1) pa_nil rfl))))
      case ga =>
       refine' @L2.ps_if _ _ _ _ _ _ _ _ (pt_cmpR (op_noneIn hu) pe_non (pv 1) rfl) (pss_one (ps_raiseI xeOk1 rfl rfl Z.m_NoText IN.zi IN.fi (hr.mono (by decide)) IN.hb (pa_cons pe_int pa_nil rfl))) pss_nil
   case read =>
    refine ⟨_,rfl,N,k,v,d,rfl,h,?_⟩
    cases hd:isSt d with
    | false =>
      rw [if_neg (by decide)]
      have e:rowO d=.bad 0:=by cases d <;> first | rfl | (cases hd)
      rw [e] at q
      exact fun D nD=>q D H (Same.refl H) nD
    | true =>
    rw [if_pos rfl]
    obtain ⟨z,rfl,rfl⟩:∃ z,d=.str z∧v=.str z:=by
     cases h <;> first | exact ⟨_,rfl,rfl⟩ | (cases hd)
    have hl:=(ht z rfl).1
    have sz:=sz_str (x:=z) (n:=1200) (by omega) (by decide)
    refine asg_inv (fun v H1=>∃ (L:Addr) (us:List V) (ws:List Str),v=.ref L∧Same H H1∧H1 L=some (.lst us)∧Al (FrV H1) us (ws.map fS)∧(∀ w∈ws,w.length≤1200)∧rS z=allS (ws.map fS)) (fun Q' key=>?_) (fun v H1 hv=>?_)
    · refine ⟨_,rfl,rfl,_,rfl,?_⟩
      by_cases c:z=⟨#[45]⟩
      · rw [show decide (V.str z=V.str (Str.ofString "-"))=true from decide_eq_true (by rw [c,s_dash])]
        refine iteT ⟨by show 0≤sizeLine; decide,fun L nL=>?_⟩
        exact key _ _ ⟨L,[],[],rfl,Same.new nL,upd_same,.nil,fun w hw=>(by cases hw),by unfold rS; rw [if_pos c]; rfl⟩
      · rw [show decide (V.str z=V.str (Str.ofString "-"))=false from decide_eq_false fun w=>c (by rw [V.str.inj w,s_dash])]
        obtain ⟨n1,n2⟩:=split_sizes z 32
        refine iteF ⟨_,rfl,rfl,z,_,rfl,rfl,by decide +kernel,sz,?_,?_⟩
        · rw [s_sp]; have:=sizeLine_eq; omega
        rw [s_sp]
        intro p np
        have S1:Same H (upd H p (.lst ((Txt.split z ⟨#[32]⟩).map V.str))):=Same.new np
        have e1:=upd_same (H:=H) (a:=p) (o:=.lst ((Txt.split z ⟨#[32]⟩).map V.str))
        generalize upd H p (.lst ((Txt.split z ⟨#[32]⟩).map V.str))=H1 at S1 e1 ⊢
        refine ⟨p,rfl,⟨_,SqL.of e1⟩,fun D nD=>?_⟩
        refine lc_T (k:=.l) (vs:=(Txt.split z ⟨#[32]⟩).map V.str) FrV (fun H1 H2 v x t r=>FrV.tk t r) ((Txt.split z ⟨#[32]⟩).map fS) (by simp) (by rw [List.length_map]; omega) nD e1 (fun i w H2 C hw s2 c=>?_) (fun H2 us s2 e2 a2=>?_)
        · rw [List.getElem?_map] at hw
          obtain ⟨y,ey,rfl⟩:=Option.map_eq_some_iff.mp hw
          exact ⟨_,rfl,y,rfl,by have:=n2 y (List.mem_of_getElem? ey); omega,fun v H3 s3 f=>c _ _ (fS y) s3 (by rw [List.getElem?_map,ey]; rfl) f⟩
        · exact key _ _ ⟨D,us,_,rfl,S1.trans s2,e2,a2,fun w hw=>(by have:=n2 w hw; omega),by unfold rS; rw [if_neg c]⟩
    · obtain ⟨L,us,ws,rfl,s1,e1,al,hw,er⟩:=hv
      refine gset (σ':=[some (.str z),some (.ref L)]) rfl ?_
      obtain ⟨h1,h2,h3⟩:=fr_all hw al
      refine ⟨_,rfl,L,us,rfl,rfl,e1,h1,_,rfl,?_⟩
      rw [h2]
      cases ea:allS (ws.map fS) with
      | none =>
        rw [ea] at er
        have e0:rowO (.str z)=.bad 1:=by show (match rS z with | none=>Out.bad 1 | some l=>.ok (.tuple (l.map frD)))=_; rw [er]
        rw [e0] at q
        exact iteT ⟨_,rfl,⟨_,rfl,by decide⟩,fun D nD=>q D _ s1 nD⟩
      | some l =>
        rw [ea] at er
        have e0:rowO (.str z)=.ok (.tuple (l.map frD)):=by show (match rS z with | none=>Out.bad 1 | some l=>.ok (.tuple (l.map frD)))=_; rw [er]
        rw [e0] at q
        refine iteF ⟨_,rfl,L,us,rfl,.inl ⟨SqL.of e1,fun t nt=>q _ _ (s1.trans (Same.new nt)) fun N=>?_⟩⟩
        exact .tup upd_same ((h3 l ea N).same (Same.new nt))
abbrev s__law_marks:Stmt:=top 65
theorem ok__law_marks (F:Fun K "_law_marks" "_law_marks" s__law_marks f fd) {cl:Str→Addr} (Z:Ek K mg cl):FnOkH P w K mg base 1 f fd ["_law_e"] (sp_marks K cl):=by
 have sc:FnScope ["_law_e","_law_marks_here"] ["_law_e"] (defScope s__law_marks):=fsc (by decide +kernel)
 refine F.okH sc (fun vs H Q E h=>?_) (fun cdv A outer s H vs Q hr h=>?_)
 · obtain ⟨ea,C,dx,ix,rfl,_⟩:=h
   rfl
 · obtain ⟨ea,C,dx,ix,rfl,hE,kk,q⟩:=h
   have nd:=sc.nd
   have hu:=hu_ofH hr
   have hu1:=Nat.lt_of_succ_lt hu
   refine' ⟨_,?term,?read⟩
   case term =>
    refine' @L2.pss_cons _ _ _ _ _ ?g1 ?g2
    case g1 =>
     refine' @L2.ps_set _ _ (1) _ _ _ _ nd rfl (Or.inl rfl) ?g3 (by rfl) (by first | exact Or.inl rfl | exact Or.inr rfl | assumption)
     case g3 =>
      refine' @L2.pe_lst _ _ _ _ ?g4
      case g4 =>
       refine' @L2.pa_cons _ _ _ _ _ ?g5 ?g6 rfl
       case g5 =>
        refine' @L2.pe_callB _ _ _ _ _ _ _ _ _ call_isiE rfl T.b_isinstance bb_isinstance ?g7 (by decide) (by decide) (by rfl) (by rfl)
        case g7 =>
         refine' @L2.pa_cons _ _ _ _ _ (pv 0) ?g8 rfl
         case g8 =>
          refine' @L2.pa_cons _ _ _ _ _ ?g9 pa_nil rfl
          case g9 =>
           refine' @L2.pe_glob _ _ (.ref (cl "NoBalance")) _ _ rfl (Z.nm "NoBalance" (by decide)) rfl (by decide)
       case g6 =>
        refine' @L2.pa_cons _ _ _ _ _ ?ga ?gb rfl
        case ga =>
         refine' @L2.pe_callB _ _ _ _ _ _ _ _ _ call_isiE rfl T.b_isinstance bb_isinstance ?gc (by decide) (by decide) (by rfl) (by rfl)
         case gc =>
          refine' @L2.pa_cons _ _ _ _ _ (pv 0) ?gd rfl
          case gd =>
           refine' @L2.pa_cons _ _ _ _ _ ?ge pa_nil rfl
           case ge =>
            refine' @L2.pe_glob _ _ (.ref (cl "NoDeed")) _ _ rfl (Z.nm "NoDeed" (by decide)) rfl (by decide)
        case gb =>
         refine' @L2.pa_cons _ _ _ _ _ ?gf ?gg rfl
         case gf =>
          refine' @L2.pe_callB _ _ _ _ _ _ _ _ _ call_isiE rfl T.b_isinstance bb_isinstance ?gh (by decide) (by decide) (by rfl) (by rfl)
          case gh =>
           refine' @L2.pa_cons _ _ _ _ _ (pv 0) ?gi rfl
           case gi =>
            refine' @L2.pa_cons _ _ _ _ _ ?gj pa_nil rfl
            case gj =>
             refine' @L2.pe_glob _ _ (.ref (cl "NoDeeds")) _ _ rfl (Z.nm "NoDeeds" (by decide)) rfl (by decide)
         case gg =>
          refine' @L2.pa_cons _ _ _ _ _ ?gk pa_nil rfl
          case gk =>
           refine' @L2.pe_callB _ _ _ _ _ _ _ _ _ call_isiE rfl T.b_isinstance bb_isinstance ?gl (by decide) (by decide) (by rfl) (by rfl)
           case gl =>
            refine' @L2.pa_cons _ _ _ _ _ (pv 0) ?gm rfl
            case gm =>
             refine' @L2.pa_cons _ _ _ _ _ ?gn pa_nil rfl
             case gn =>
              refine' @L2.pe_glob _ _ (.ref (cl "NoFirm")) _ _ rfl (Z.nm "NoFirm" (by decide)) rfl (by decide)
    case g2 =>
     refine' @L2.pss_cons _ _ _ _ _ ?go ?gp
     case go =>
      refine' @L2.ps_set _ _ (1) _ _ _ _ nd rfl (Or.inl rfl) ?gq (by rfl) (by first | exact Or.inl rfl | exact Or.inr rfl | assumption)
      case gq =>
       refine' @L2.pe_op _ _ _ _ _ _ _ _ op_cat (pv 1) ?gr
       case gr =>
        refine' @L2.pe_lst _ _ _ _ ?gs
        case gs =>
         refine' @L2.pa_cons _ _ _ _ _ ?gt ?gu rfl
         case gt =>
          refine' @L2.pe_callB _ _ _ _ _ _ _ _ _ call_isiE rfl T.b_isinstance bb_isinstance ?gv (by decide) (by decide) (by rfl) (by rfl)
          case gv =>
           refine' @L2.pa_cons _ _ _ _ _ (pv 0) ?gw rfl
           case gw =>
            refine' @L2.pa_cons _ _ _ _ _ ?gx pa_nil rfl
            case gx =>
             refine' @L2.pe_glob _ _ (.ref (cl "NoFraction")) _ _ rfl (Z.nm "NoFraction" (by decide)) rfl (by decide)
         case gu =>
          refine' @L2.pa_cons _ _ _ _ _ ?gy ?gz rfl
          case gy =>
           refine' @L2.pe_callB _ _ _ _ _ _ _ _ _ call_isiE rfl T.b_isinstance bb_isinstance ?g10 (by decide) (by decide) (by rfl) (by rfl)
           case g10 =>
            refine' @L2.pa_cons _ _ _ _ _ (pv 0) ?g11 rfl
            case g11 =>
             refine' @L2.pa_cons _ _ _ _ _ ?g12 pa_nil rfl
             case g12 =>
              refine' @L2.pe_glob _ _ (.ref (cl "NoFrame")) _ _ rfl (Z.nm "NoFrame" (by decide)) rfl (by decide)
          case gz =>
           refine' @L2.pa_cons _ _ _ _ _ ?g13 pa_nil rfl
           case g13 =>
            refine' @L2.pe_callB _ _ _ _ _ _ _ _ _ call_isiE rfl T.b_isinstance bb_isinstance ?g14 (by decide) (by decide) (by rfl) (by rfl)
            case g14 =>
             refine' @L2.pa_cons _ _ _ _ _ (pv 0) ?g15 rfl
             case g15 =>
              refine' @L2.pa_cons _ _ _ _ _ ?g16 pa_nil rfl
              case g16 =>
               refine' @L2.pe_glob _ _ (.ref (cl "NoHolding")) _ _ rfl (Z.nm "NoHolding" (by decide)) rfl (by decide)
     case gp =>
      refine' @L2.pss_cons _ _ _ _ _ ?g17 ?g18
      case g17 =>
       refine' @L2.ps_set _ _ (1) _ _ _ _ nd rfl (Or.inl rfl) ?g19 (by rfl) (by first | exact Or.inl rfl | exact Or.inr rfl | assumption)
       case g19 =>
        refine' @L2.pe_op _ _ _ _ _ _ _ _ op_cat (pv 1) ?g1a
        case g1a =>
         refine' @L2.pe_lst _ _ _ _ ?g1b
         case g1b =>
          refine' @L2.pa_cons _ _ _ _ _ ?g1c ?g1d rfl
          case g1c =>
           refine' @L2.pe_callB _ _ _ _ _ _ _ _ _ call_isiE rfl T.b_isinstance bb_isinstance ?g1e (by decide) (by decide) (by rfl) (by rfl)
           case g1e =>
            refine' @L2.pa_cons _ _ _ _ _ (pv 0) ?g1f rfl
            case g1f =>
             refine' @L2.pa_cons _ _ _ _ _ ?g1g pa_nil rfl
             case g1g =>
              refine' @L2.pe_glob _ _ (.ref (cl "NoInner")) _ _ rfl (Z.nm "NoInner" (by decide)) rfl (by decide)
          case g1d =>
           refine' @L2.pa_cons _ _ _ _ _ ?g1h ?g1i rfl
           case g1h =>
            refine' @L2.pe_callB _ _ _ _ _ _ _ _ _ call_isiE rfl T.b_isinstance bb_isinstance ?g1j (by decide) (by decide) (by rfl) (by rfl)
            case g1j =>
             refine' @L2.pa_cons _ _ _ _ _ (pv 0) ?g1k rfl
             case g1k =>
              refine' @L2.pa_cons _ _ _ _ _ ?g1l pa_nil rfl
              case g1l =>
               refine' @L2.pe_glob _ _ (.ref (cl "NoLine")) _ _ rfl (Z.nm "NoLine" (by decide)) rfl (by decide)
           case g1i =>
            refine' @L2.pa_cons _ _ _ _ _ ?g1m pa_nil rfl
            case g1m =>
             refine' @L2.pe_callB _ _ _ _ _ _ _ _ _ call_isiE rfl T.b_isinstance bb_isinstance ?g1n (by decide) (by decide) (by rfl) (by rfl)
             case g1n =>
              refine' @L2.pa_cons _ _ _ _ _ (pv 0) ?g1o rfl
              case g1o =>
               refine' @L2.pa_cons _ _ _ _ _ ?g1p pa_nil rfl
               case g1p =>
                refine' @L2.pe_glob _ _ (.ref (cl "NoLoads")) _ _ rfl (Z.nm "NoLoads" (by decide)) rfl (by decide)
      case g18 =>
       refine' @L2.pss_cons _ _ _ _ _ ?g1q ?g1r
       case g1q =>
        refine' @L2.ps_expr _ _ _ _ ?g1s (by rfl)
        case g1s =>
         refine' @L2.pe_bm _ _ _ _ _ _ _ _ _ _ _ _ PySem.F.plainAttrs_list PySem.F.slot_list_append PySem.F.type_list_append mt_append (pv 1) ?g1t (by rfl) (by rfl) (by rfl) (by rfl) (by rfl)
         case g1t =>
          refine' @L2.pa_cons _ _ _ _ _ ?g1u pa_nil rfl
          case g1u =>
           refine' @L2.pe_callB _ _ _ _ _ _ _ _ _ call_isiE rfl T.b_isinstance bb_isinstance ?g1v (by decide) (by decide) (by rfl) (by rfl)
           case g1v =>
            refine' @L2.pa_cons _ _ _ _ _ (pv 0) ?g1w rfl
            case g1w =>
             refine' @L2.pa_cons _ _ _ _ _ ?g1x pa_nil rfl
             case g1x =>
              refine' @L2.pe_glob _ _ (.ref (cl "NoLot")) _ _ rfl (Z.nm "NoLot" (by decide)) rfl (by decide)
       case g1r =>
        refine' @L2.pss_cons _ _ _ _ _ ?g1y ?g1z
        case g1y =>
         refine' @L2.ps_set _ _ (1) _ _ _ _ nd rfl (Or.inl rfl) ?g20 (by rfl) (by first | exact Or.inl rfl | exact Or.inr rfl | assumption)
         case g20 =>
          refine' @L2.pe_op _ _ _ _ _ _ _ _ op_cat (pv 1) ?g21
          case g21 =>
           refine' @L2.pe_lst _ _ _ _ ?g22
           case g22 =>
            refine' @L2.pa_cons _ _ _ _ _ ?g23 ?g24 rfl
            case g23 =>
             refine' @L2.pe_callB _ _ _ _ _ _ _ _ _ call_isiE rfl T.b_isinstance bb_isinstance ?g25 (by decide) (by decide) (by rfl) (by rfl)
             case g25 =>
              refine' @L2.pa_cons _ _ _ _ _ (pv 0) ?g26 rfl
              case g26 =>
               refine' @L2.pa_cons _ _ _ _ _ ?g27 pa_nil rfl
               case g27 =>
                refine' @L2.pe_glob _ _ (.ref (cl "NoMotions")) _ _ rfl (Z.nm "NoMotions" (by decide)) rfl (by decide)
            case g24 =>
             refine' @L2.pa_cons _ _ _ _ _ ?g28 ?g29 rfl
             case g28 =>
              refine' @L2.pe_callB _ _ _ _ _ _ _ _ _ call_isiE rfl T.b_isinstance bb_isinstance ?g2a (by decide) (by decide) (by rfl) (by rfl)
              case g2a =>
               refine' @L2.pa_cons _ _ _ _ _ (pv 0) ?g2b rfl
               case g2b =>
                refine' @L2.pa_cons _ _ _ _ _ ?g2c pa_nil rfl
                case g2c =>
                 refine' @L2.pe_glob _ _ (.ref (cl "NoPiece")) _ _ rfl (Z.nm "NoPiece" (by decide)) rfl (by decide)
             case g29 =>
              refine' @L2.pa_cons _ _ _ _ _ ?g2d pa_nil rfl
              case g2d =>
               refine' @L2.pe_callB _ _ _ _ _ _ _ _ _ call_isiE rfl T.b_isinstance bb_isinstance ?g2e (by decide) (by decide) (by rfl) (by rfl)
               case g2e =>
                refine' @L2.pa_cons _ _ _ _ _ (pv 0) ?g2f rfl
                case g2f =>
                 refine' @L2.pa_cons _ _ _ _ _ ?g2g pa_nil rfl
                 case g2g =>
                  refine' @L2.pe_glob _ _ (.ref (cl "NoPlate")) _ _ rfl (Z.nm "NoPlate" (by decide)) rfl (by decide)
        case g1z =>
         refine' @L2.pss_cons _ _ _ _ _ ?g2h ?g2i
         case g2h =>
          refine' @L2.ps_expr _ _ _ _ ?g2j (by rfl)
          case g2j =>
           refine' @L2.pe_bm _ _ _ _ _ _ _ _ _ _ _ _ PySem.F.plainAttrs_list PySem.F.slot_list_append PySem.F.type_list_append mt_append (pv 1) ?g2k (by rfl) (by rfl) (by rfl) (by rfl) (by rfl)
           case g2k =>
            refine' @L2.pa_cons _ _ _ _ _ ?g2l pa_nil rfl
            case g2l =>
             refine' @L2.pe_callB _ _ _ _ _ _ _ _ _ call_isiE rfl T.b_isinstance bb_isinstance ?g2m (by decide) (by decide) (by rfl) (by rfl)
             case g2m =>
              refine' @L2.pa_cons _ _ _ _ _ (pv 0) ?g2n rfl
              case g2n =>
               refine' @L2.pa_cons _ _ _ _ _ ?g2o pa_nil rfl
               case g2o =>
                refine' @L2.pe_glob _ _ (.ref (cl "NoRest")) _ _ rfl (Z.nm "NoRest" (by decide)) rfl (by decide)
         case g2i =>
          refine' @L2.pss_cons _ _ _ _ _ ?g2p ?g2q
          case g2p =>
           refine' @L2.ps_set _ _ (1) _ _ _ _ nd rfl (Or.inl rfl) ?g2r (by rfl) (by first | exact Or.inl rfl | exact Or.inr rfl | assumption)
           case g2r =>
            refine' @L2.pe_op _ _ _ _ _ _ _ _ op_cat (pv 1) ?g2s
            case g2s =>
             refine' @L2.pe_lst _ _ _ _ ?g2t
             case g2t =>
              refine' @L2.pa_cons _ _ _ _ _ ?g2u ?g2v rfl
              case g2u =>
               refine' @L2.pe_callB _ _ _ _ _ _ _ _ _ call_isiE rfl T.b_isinstance bb_isinstance ?g2w (by decide) (by decide) (by rfl) (by rfl)
               case g2w =>
                refine' @L2.pa_cons _ _ _ _ _ (pv 0) ?g2x rfl
                case g2x =>
                 refine' @L2.pa_cons _ _ _ _ _ ?g2y pa_nil rfl
                 case g2y =>
                  refine' @L2.pe_glob _ _ (.ref (cl "NoRounds")) _ _ rfl (Z.nm "NoRounds" (by decide)) rfl (by decide)
              case g2v =>
               refine' @L2.pa_cons _ _ _ _ _ ?g2z ?g30 rfl
               case g2z =>
                refine' @L2.pe_callB _ _ _ _ _ _ _ _ _ call_isiE rfl T.b_isinstance bb_isinstance ?g31 (by decide) (by decide) (by rfl) (by rfl)
                case g31 =>
                 refine' @L2.pa_cons _ _ _ _ _ (pv 0) ?g32 rfl
                 case g32 =>
                  refine' @L2.pa_cons _ _ _ _ _ ?g33 pa_nil rfl
                  case g33 =>
                   refine' @L2.pe_glob _ _ (.ref (cl "NoRows")) _ _ rfl (Z.nm "NoRows" (by decide)) rfl (by decide)
               case g30 =>
                refine' @L2.pa_cons _ _ _ _ _ ?g34 pa_nil rfl
                case g34 =>
                 refine' @L2.pe_callB _ _ _ _ _ _ _ _ _ call_isiE rfl T.b_isinstance bb_isinstance ?g35 (by decide) (by decide) (by rfl) (by rfl)
                 case g35 =>
                  refine' @L2.pa_cons _ _ _ _ _ (pv 0) ?g36 rfl
                  case g36 =>
                   refine' @L2.pa_cons _ _ _ _ _ ?g37 pa_nil rfl
                   case g37 =>
                    refine' @L2.pe_glob _ _ (.ref (cl "NoStresses")) _ _ rfl (Z.nm "NoStresses" (by decide)) rfl (by decide)
          case g2q =>
           refine' @L2.pss_cons _ _ _ _ _ ?g38 ?g39
           case g38 =>
            refine' @L2.ps_expr _ _ _ _ ?g3a (by rfl)
            case g3a =>
             refine' @L2.pe_bm _ _ _ _ _ _ _ _ _ _ _ _ PySem.F.plainAttrs_list PySem.F.slot_list_append PySem.F.type_list_append mt_append (pv 1) ?g3b (by rfl) (by rfl) (by rfl) (by rfl) (by rfl)
             case g3b =>
              refine' @L2.pa_cons _ _ _ _ _ ?g3c pa_nil rfl
              case g3c =>
               refine' @L2.pe_callB _ _ _ _ _ _ _ _ _ call_isiE rfl T.b_isinstance bb_isinstance ?g3d (by decide) (by decide) (by rfl) (by rfl)
               case g3d =>
                refine' @L2.pa_cons _ _ _ _ _ (pv 0) ?g3e rfl
                case g3e =>
                 refine' @L2.pa_cons _ _ _ _ _ ?g3f pa_nil rfl
                 case g3f =>
                  refine' @L2.pe_glob _ _ (.ref (cl "NoThick")) _ _ rfl (Z.nm "NoThick" (by decide)) rfl (by decide)
           case g39 =>
            refine' @L2.pss_cons _ _ _ _ _ ?g3g ?g3h
            case g3g =>
             refine' @L2.ps_set _ _ (1) _ _ _ _ nd rfl (Or.inl rfl) ?g3i (by rfl) (by first | exact Or.inl rfl | exact Or.inr rfl | assumption)
             case g3i =>
              refine' @L2.pe_op _ _ _ _ _ _ _ _ op_cat (pv 1) ?g3j
              case g3j =>
               refine' @L2.pe_lst _ _ _ _ ?g3k
               case g3k =>
                refine' @L2.pa_cons _ _ _ _ _ ?g3l ?g3m rfl
                case g3l =>
                 refine' @L2.pe_callB _ _ _ _ _ _ _ _ _ call_isiE rfl T.b_isinstance bb_isinstance ?g3n (by decide) (by decide) (by rfl) (by rfl)
                 case g3n =>
                  refine' @L2.pa_cons _ _ _ _ _ (pv 0) ?g3o rfl
                  case g3o =>
                   refine' @L2.pa_cons _ _ _ _ _ ?g3p pa_nil rfl
                   case g3p =>
                    refine' @L2.pe_glob _ _ (.ref (cl "NoTurning")) _ _ rfl (Z.nm "NoTurning" (by decide)) rfl (by decide)
                case g3m =>
                 refine' @L2.pa_cons _ _ _ _ _ ?g3q ?g3r rfl
                 case g3q =>
                  refine' @L2.pe_callB _ _ _ _ _ _ _ _ _ call_isiE rfl T.b_isinstance bb_isinstance ?g3s (by decide) (by decide) (by rfl) (by rfl)
                  case g3s =>
                   refine' @L2.pa_cons _ _ _ _ _ (pv 0) ?g3t rfl
                   case g3t =>
                    refine' @L2.pa_cons _ _ _ _ _ ?g3u pa_nil rfl
                    case g3u =>
                     refine' @L2.pe_glob _ _ (.ref (cl "NoWay")) _ _ rfl (Z.nm "NoWay" (by decide)) rfl (by decide)
                 case g3r =>
                  refine' @L2.pa_cons _ _ _ _ _ ?g3v pa_nil rfl
                  case g3v =>
                   refine' @L2.pe_callB _ _ _ _ _ _ _ _ _ call_isiE rfl T.b_isinstance bb_isinstance ?g3w (by decide) (by decide) (by rfl) (by rfl)
                   case g3w =>
                    refine' @L2.pa_cons _ _ _ _ _ (pv 0) ?g3x rfl
                    case g3x =>
                     refine' @L2.pa_cons _ _ _ _ _ ?g3y pa_nil rfl
                     case g3y =>
                      refine' @L2.pe_glob _ _ (.ref (cl "NoWays")) _ _ rfl (Z.nm "NoWays" (by decide)) rfl (by decide)
            case g3h =>
             refine' @L2.pss_cons _ _ _ _ _ ?g3z ?g40
             case g3z =>
              refine' @L2.ps_expr _ _ _ _ ?g41 (by rfl)
              case g41 =>
               refine' @L2.pe_bm _ _ _ _ _ _ _ _ _ _ _ _ PySem.F.plainAttrs_list PySem.F.slot_list_append PySem.F.type_list_append mt_append (pv 1) ?g42 (by rfl) (by rfl) (by rfl) (by rfl) (by rfl)
               case g42 =>
                refine' @L2.pa_cons _ _ _ _ _ ?g43 pa_nil rfl
                case g43 =>
                 refine' @L2.pe_callB _ _ _ _ _ _ _ _ _ call_isiE rfl T.b_isinstance bb_isinstance ?g44 (by decide) (by decide) (by rfl) (by rfl)
                 case g44 =>
                  refine' @L2.pa_cons _ _ _ _ _ (pv 0) ?g45 rfl
                  case g45 =>
                   refine' @L2.pa_cons _ _ _ _ _ ?g46 pa_nil rfl
                   case g46 =>
                    refine' @L2.pe_glob _ _ (.ref (cl "NoWhole")) _ _ rfl (Z.nm "NoWhole" (by decide)) rfl (by decide)
             case g40 =>
              refine' @L2.pss_one _ _ _ ?g47
              case g47 =>
               refine' @L2.ps_ret _ _ _ _ ?g48
               case g48 =>
                refine' @L2.pe_op _ _ _ _ _ _ _ _ op_cat (pv 1) ?g49
                case g49 =>
                 refine' @L2.pe_lst _ _ _ _ ?g4a
                 case g4a =>
                  refine' @L2.pa_cons _ _ _ _ _ ?g4b ?g4c rfl
                  case g4b =>
                   refine' @L2.pe_callB _ _ _ _ _ _ _ _ _ call_isiE rfl T.b_isinstance bb_isinstance ?g4d (by decide) (by decide) (by rfl) (by rfl)
                   case g4d =>
                    refine' @L2.pa_cons _ _ _ _ _ (pv 0) ?g4e rfl
                    case g4e =>
                     refine' @L2.pa_cons _ _ _ _ _ ?g4f pa_nil rfl
                     case g4f =>
                      refine' @L2.pe_glob _ _ (.ref (cl "NotHeld")) _ _ rfl (Z.nm "NotHeld" (by decide)) rfl (by decide)
                  case g4c =>
                   refine' @L2.pa_cons _ _ _ _ _ ?g4g ?g4h rfl
                   case g4g =>
                    refine' @L2.pe_callB _ _ _ _ _ _ _ _ _ call_isiE rfl T.b_isinstance bb_isinstance ?g4i (by decide) (by decide) (by rfl) (by rfl)
                    case g4i =>
                     refine' @L2.pa_cons _ _ _ _ _ (pv 0) ?g4j rfl
                     case g4j =>
                      refine' @L2.pa_cons _ _ _ _ _ ?g4k pa_nil rfl
                      case g4k =>
                       refine' @L2.pe_glob _ _ (.ref (cl "TooMany")) _ _ rfl (Z.nm "TooMany" (by decide)) rfl (by decide)
                   case g4h =>
                    refine' @L2.pa_cons _ _ _ _ _ ?g4l pa_nil rfl
                    case g4l =>
                     refine' @L2.pe_callB _ _ _ _ _ _ _ _ _ call_isiE rfl T.b_isinstance bb_isinstance ?g4m (by decide) (by decide) (by rfl) (by rfl)
                     case g4m =>
                      refine' @L2.pa_cons _ _ _ _ _ (pv 0) ?g4n rfl
                      case g4n =>
                       refine' @L2.pa_cons _ _ _ _ _ ?g4o pa_nil rfl
                       case g4o =>
                        refine' @L2.pe_glob _ _ (.ref (cl "NoText")) _ _ rfl (Z.nm "NoText" (by decide)) rfl (by decide)
   case read =>
    refine ⟨_,rfl,ea,C,dx,_,_,rfl,((Same.refl H) _ _ hE.e),(hE.dk (Same.refl H)),kk.lk,.inl ⟨_,rfl,kk.is 0 _ rfl⟩,_,rfl,ea,C,dx,_,_,rfl,((Same.refl H) _ _ hE.e),(hE.dk (Same.refl H)),kk.lk,.inl ⟨_,rfl,kk.is 1 _ rfl⟩,_,rfl,ea,C,dx,_,_,rfl,((Same.refl H) _ _ hE.e),(hE.dk (Same.refl H)),kk.lk,.inl ⟨_,rfl,kk.is 2 _ rfl⟩,_,rfl,ea,C,dx,_,_,rfl,((Same.refl H) _ _ hE.e),(hE.dk (Same.refl H)),kk.lk,.inl ⟨_,rfl,kk.is 3 _ rfl⟩,by show 4≤sizeLine; decide,?_⟩
    intro p1 n1
    generalize hH1:upd H p1 _=H1
    have S1:Same H H1:=by (rw [← hH1]; exact Same.new n1)
    have A1:=(congrFun hH1 p1).symm
    rw [upd_same] at A1
    clear hH1
    have T1:Same H H1:=(Same.refl H).trans S1
    refine ⟨_,rfl,_,rfl,ea,C,dx,_,_,rfl,(T1 _ _ hE.e),(hE.dk T1),kk.lk,.inl ⟨_,rfl,kk.is 4 _ rfl⟩,_,rfl,ea,C,dx,_,_,rfl,(T1 _ _ hE.e),(hE.dk T1),kk.lk,.inl ⟨_,rfl,kk.is 5 _ rfl⟩,_,rfl,ea,C,dx,_,_,rfl,(T1 _ _ hE.e),(hE.dk T1),kk.lk,.inl ⟨_,rfl,kk.is 6 _ rfl⟩,by show 3≤sizeLine; decide,?_⟩
    intro p2 n2
    generalize hH2:upd H1 p2 _=H2
    have S2:Same H1 H2:=by (rw [← hH2]; exact Same.new n2)
    have A2:=(congrFun hH2 p2).symm
    rw [upd_same] at A2
    clear hH2
    have T2:Same H H2:=T1.trans S2
    refine ⟨p1,p2,_,_,rfl,rfl,(S2 _ _ A1),A2,by show 7≤sizeLine; decide,?_⟩
    intro p3 n3
    generalize hH3:upd H2 p3 _=H3
    have S3:Same H2 H3:=by (rw [← hH3]; exact Same.new n3)
    have A3:=(congrFun hH3 p3).symm
    rw [upd_same] at A3
    clear hH3
    have T3:Same H H3:=T2.trans S3
    refine ⟨_,rfl,_,rfl,ea,C,dx,_,_,rfl,(T3 _ _ hE.e),(hE.dk T3),kk.lk,.inl ⟨_,rfl,kk.is 7 _ rfl⟩,_,rfl,ea,C,dx,_,_,rfl,(T3 _ _ hE.e),(hE.dk T3),kk.lk,.inl ⟨_,rfl,kk.is 8 _ rfl⟩,_,rfl,ea,C,dx,_,_,rfl,(T3 _ _ hE.e),(hE.dk T3),kk.lk,.inl ⟨_,rfl,kk.is 9 _ rfl⟩,by show 3≤sizeLine; decide,?_⟩
    intro p4 n4
    generalize hH4:upd H3 p4 _=H4
    have S4:Same H3 H4:=by (rw [← hH4]; exact Same.new n4)
    have A4:=(congrFun hH4 p4).symm
    rw [upd_same] at A4
    clear hH4
    have T4:Same H H4:=T3.trans S4
    refine ⟨p3,p4,_,_,rfl,rfl,(S4 _ _ A3),A4,by show 10≤sizeLine; decide,?_⟩
    intro p5 n5
    generalize hH5:upd H4 p5 _=H5
    have S5:Same H4 H5:=by (rw [← hH5]; exact Same.new n5)
    have A5:=(congrFun hH5 p5).symm
    rw [upd_same] at A5
    clear hH5
    have T5:Same H H5:=T4.trans S5
    refine ⟨_,rfl,.inl ⟨rfl,_,SqL.of A5⟩,_,rfl,ea,C,dx,_,_,rfl,(T5 _ _ hE.e),(hE.dk T5),kk.lk,.inl ⟨_,rfl,kk.is 10 _ rfl⟩,p5,_,_,rfl,rfl,A5,by show 10 < sizeLine; decide,?_⟩
    generalize hH6:upd H5 p5 _=H6
    have K6:Keep p5 H5 H6:=by (rw [← hH6]; exact Keep.upd)
    have A6:=(congrFun hH6 p5).symm
    rw [upd_same] at A6
    clear hH6
    have T6:Same H H6:=fun b o e=>K6 b o (ne_of_none (T4 b o e) n5) (T5 b o e)
    refine ⟨_,rfl,_,rfl,ea,C,dx,_,_,rfl,(T6 _ _ hE.e),(hE.dk T6),kk.lk,.inl ⟨_,rfl,kk.is 11 _ rfl⟩,_,rfl,ea,C,dx,_,_,rfl,(T6 _ _ hE.e),(hE.dk T6),kk.lk,.inl ⟨_,rfl,kk.is 12 _ rfl⟩,_,rfl,ea,C,dx,_,_,rfl,(T6 _ _ hE.e),(hE.dk T6),kk.lk,.inl ⟨_,rfl,kk.is 13 _ rfl⟩,by show 3≤sizeLine; decide,?_⟩
    intro p7 n7
    generalize hH7:upd H6 p7 _=H7
    have S7:Same H6 H7:=by (rw [← hH7]; exact Same.new n7)
    have A7:=(congrFun hH7 p7).symm
    rw [upd_same] at A7
    clear hH7
    have T7:Same H H7:=T6.trans S7
    refine ⟨p5,p7,_,_,rfl,rfl,(S7 _ _ A6),A7,by show 14≤sizeLine; decide,?_⟩
    intro p8 n8
    generalize hH8:upd H7 p8 _=H8
    have S8:Same H7 H8:=by (rw [← hH8]; exact Same.new n8)
    have A8:=(congrFun hH8 p8).symm
    rw [upd_same] at A8
    clear hH8
    have T8:Same H H8:=T7.trans S8
    refine ⟨_,rfl,.inl ⟨rfl,_,SqL.of A8⟩,_,rfl,ea,C,dx,_,_,rfl,(T8 _ _ hE.e),(hE.dk T8),kk.lk,.inl ⟨_,rfl,kk.is 14 _ rfl⟩,p8,_,_,rfl,rfl,A8,by show 14 < sizeLine; decide,?_⟩
    generalize hH9:upd H8 p8 _=H9
    have K9:Keep p8 H8 H9:=by (rw [← hH9]; exact Keep.upd)
    have A9:=(congrFun hH9 p8).symm
    rw [upd_same] at A9
    clear hH9
    have T9:Same H H9:=fun b o e=>K9 b o (ne_of_none (T7 b o e) n8) (T8 b o e)
    refine ⟨_,rfl,_,rfl,ea,C,dx,_,_,rfl,(T9 _ _ hE.e),(hE.dk T9),kk.lk,.inl ⟨_,rfl,kk.is 15 _ rfl⟩,_,rfl,ea,C,dx,_,_,rfl,(T9 _ _ hE.e),(hE.dk T9),kk.lk,.inl ⟨_,rfl,kk.is 16 _ rfl⟩,_,rfl,ea,C,dx,_,_,rfl,(T9 _ _ hE.e),(hE.dk T9),kk.lk,.inl ⟨_,rfl,kk.is 17 _ rfl⟩,by show 3≤sizeLine; decide,?_⟩
    intro p10 n10
    generalize hH10:upd H9 p10 _=H10
    have S10:Same H9 H10:=by (rw [← hH10]; exact Same.new n10)
    have A10:=(congrFun hH10 p10).symm
    rw [upd_same] at A10
    clear hH10
    have T10:Same H H10:=T9.trans S10
    refine ⟨p8,p10,_,_,rfl,rfl,(S10 _ _ A9),A10,by show 18≤sizeLine; decide,?_⟩
    intro p11 n11
    generalize hH11:upd H10 p11 _=H11
    have S11:Same H10 H11:=by (rw [← hH11]; exact Same.new n11)
    have A11:=(congrFun hH11 p11).symm
    rw [upd_same] at A11
    clear hH11
    have T11:Same H H11:=T10.trans S11
    refine ⟨_,rfl,.inl ⟨rfl,_,SqL.of A11⟩,_,rfl,ea,C,dx,_,_,rfl,(T11 _ _ hE.e),(hE.dk T11),kk.lk,.inl ⟨_,rfl,kk.is 18 _ rfl⟩,p11,_,_,rfl,rfl,A11,by show 18 < sizeLine; decide,?_⟩
    generalize hH12:upd H11 p11 _=H12
    have K12:Keep p11 H11 H12:=by (rw [← hH12]; exact Keep.upd)
    have A12:=(congrFun hH12 p11).symm
    rw [upd_same] at A12
    clear hH12
    have T12:Same H H12:=fun b o e=>K12 b o (ne_of_none (T10 b o e) n11) (T11 b o e)
    refine ⟨_,rfl,_,rfl,ea,C,dx,_,_,rfl,(T12 _ _ hE.e),(hE.dk T12),kk.lk,.inl ⟨_,rfl,kk.is 19 _ rfl⟩,_,rfl,ea,C,dx,_,_,rfl,(T12 _ _ hE.e),(hE.dk T12),kk.lk,.inl ⟨_,rfl,kk.is 20 _ rfl⟩,_,rfl,ea,C,dx,_,_,rfl,(T12 _ _ hE.e),(hE.dk T12),kk.lk,.inl ⟨_,rfl,kk.is 21 _ rfl⟩,by show 3≤sizeLine; decide,?_⟩
    intro p13 n13
    generalize hH13:upd H12 p13 _=H13
    have S13:Same H12 H13:=by (rw [← hH13]; exact Same.new n13)
    have A13:=(congrFun hH13 p13).symm
    rw [upd_same] at A13
    clear hH13
    have T13:Same H H13:=T12.trans S13
    refine ⟨p11,p13,_,_,rfl,rfl,(S13 _ _ A12),A13,by show 22≤sizeLine; decide,?_⟩
    intro p14 n14
    generalize hH14:upd H13 p14 _=H14
    have S14:Same H13 H14:=by (rw [← hH14]; exact Same.new n14)
    have A14:=(congrFun hH14 p14).symm
    rw [upd_same] at A14
    clear hH14
    have T14:Same H H14:=T13.trans S14
    refine ⟨_,rfl,.inl ⟨rfl,_,SqL.of A14⟩,_,rfl,ea,C,dx,_,_,rfl,(T14 _ _ hE.e),(hE.dk T14),kk.lk,.inl ⟨_,rfl,kk.is 22 _ rfl⟩,p14,_,_,rfl,rfl,A14,by show 22 < sizeLine; decide,?_⟩
    generalize hH15:upd H14 p14 _=H15
    have K15:Keep p14 H14 H15:=by (rw [← hH15]; exact Keep.upd)
    have A15:=(congrFun hH15 p14).symm
    rw [upd_same] at A15
    clear hH15
    have T15:Same H H15:=fun b o e=>K15 b o (ne_of_none (T13 b o e) n14) (T14 b o e)
    refine ⟨_,rfl,_,rfl,ea,C,dx,_,_,rfl,(T15 _ _ hE.e),(hE.dk T15),kk.lk,.inl ⟨_,rfl,kk.is 23 _ rfl⟩,_,rfl,ea,C,dx,_,_,rfl,(T15 _ _ hE.e),(hE.dk T15),kk.lk,.inl ⟨_,rfl,kk.is 24 _ rfl⟩,_,rfl,ea,C,dx,_,_,rfl,(T15 _ _ hE.e),(hE.dk T15),kk.lk,.inl ⟨_,rfl,kk.is 25 _ rfl⟩,by show 3≤sizeLine; decide,?_⟩
    intro p16 n16
    generalize hH16:upd H15 p16 _=H16
    have S16:Same H15 H16:=by (rw [← hH16]; exact Same.new n16)
    have A16:=(congrFun hH16 p16).symm
    rw [upd_same] at A16
    clear hH16
    have T16:Same H H16:=T15.trans S16
    refine ⟨p14,p16,_,_,rfl,rfl,(S16 _ _ A15),A16,by show 26≤sizeLine; decide,?_⟩
    intro p17 n17
    generalize hH17:upd H16 p17 _=H17
    have S17:Same H16 H17:=by (rw [← hH17]; exact Same.new n17)
    have A17:=(congrFun hH17 p17).symm
    rw [upd_same] at A17
    clear hH17
    have T17:Same H H17:=T16.trans S17
    exact q _ _ T17 A17
abbrev s__law_word:Stmt:=top 66
theorem ok__law_word (F:Fun K "_law_word" "_law_word" s__law_word f fd) {cl:Str→Addr} (Z:Ek K mg cl) (H__law_marks:CalH P w K mg base "_law_marks" 1 ["_law_e"] (sp_marks K cl)):FnOkH P w K mg base 2 f fd ["_law_e"] (sp_word K cl):=by
 have sc:FnScope ["_law_e","_law_words","_law_marks_here","_law_word_here"] ["_law_e"] (defScope s__law_word):=fsc (by decide +kernel)
 refine F.okH sc (fun vs H Q E h=>?_) (fun cdv A outer s H vs Q hr h=>?_)
 · obtain ⟨ea,C,dx,ix,ws,rfl,_⟩:=h
   rfl
 · obtain ⟨ea,C,dx,ix,ws,rfl,hE,kk,hw,q⟩:=h
   have nd:=sc.nd
   have hu:=hu_ofH hr
   have hu1:=Nat.lt_of_succ_lt hu
   refine' ⟨_,?term,?read⟩
   case term =>
    refine' @L2.pss_cons _ _ _ _ _ ?g1 ?g2
    case g1 =>
     refine' @L2.ps_set _ _ (1) _ _ _ _ nd rfl (Or.inl rfl) ?g3 (by rfl) (by first | exact Or.inl rfl | exact Or.inr rfl | assumption)
     case g3 =>
      refine' @L2.pe_lst _ _ _ _ (pa_cons pe_str (pa_cons pe_str (pa_cons pe_str (pa_cons pe_str (pa_cons pe_str (pa_cons pe_str (pa_cons pe_str (pa_cons pe_str (pa_cons pe_str pa_nil rfl) rfl) rfl) rfl) rfl) rfl) rfl) rfl) rfl)
    case g2 =>
     refine' @L2.pss_cons _ _ _ _ _ ?g4 ?g5
     case g4 =>
      refine' @L2.ps_set _ _ (1) _ _ _ _ nd rfl (Or.inl rfl) ?g6 (by rfl) (by first | exact Or.inl rfl | exact Or.inr rfl | assumption)
      case g6 =>
       refine' @L2.pe_op _ _ _ _ _ _ _ _ op_cat (pv 1) ?g7
       case g7 =>
        refine' @L2.pe_lst _ _ _ _ (pa_cons pe_str (pa_cons pe_str pa_nil rfl) rfl)
     case g5 =>
      refine' @L2.pss_cons _ _ _ _ _ ?g8 ?g9
      case g8 =>
       refine' @L2.ps_set _ _ (1) _ _ _ _ nd rfl (Or.inl rfl) ?ga (by rfl) (by first | exact Or.inl rfl | exact Or.inr rfl | assumption)
       case ga =>
        refine' @L2.pe_op _ _ _ _ _ _ _ _ op_cat (pv 1) ?gb
        case gb =>
         refine' @L2.pe_lst _ _ _ _ (pa_cons pe_str (pa_cons pe_str (pa_cons pe_str (pa_cons pe_str (pa_cons pe_str (pa_cons pe_str (pa_cons pe_str (pa_cons pe_str pa_nil rfl) rfl) rfl) rfl) rfl) rfl) rfl) rfl)
      case g9 =>
       refine' @L2.pss_cons _ _ _ _ _ ?gc ?gd
       case gc =>
        refine' @L2.ps_set _ _ (1) _ _ _ _ nd rfl (Or.inl rfl) ?ge (by rfl) (by first | exact Or.inl rfl | exact Or.inr rfl | assumption)
        case ge =>
         refine' @L2.pe_op _ _ _ _ _ _ _ _ op_cat (pv 1) ?gf
         case gf =>
          refine' @L2.pe_lst _ _ _ _ (pa_cons pe_str (pa_cons pe_str pa_nil rfl) rfl)
       case gd =>
        refine' @L2.pss_cons _ _ _ _ _ ?gg ?gh
        case gg =>
         refine' @L2.ps_set _ _ (1) _ _ _ _ nd rfl (Or.inl rfl) ?gi (by rfl) (by first | exact Or.inl rfl | exact Or.inr rfl | assumption)
         case gi =>
          refine' @L2.pe_op _ _ _ _ _ _ _ _ op_cat (pv 1) ?gj
          case gj =>
           refine' @L2.pe_lst _ _ _ _ (pa_cons pe_str (pa_cons pe_str (pa_cons pe_str (pa_cons pe_str (pa_cons pe_str pa_nil rfl) rfl) rfl) rfl) rfl)
        case gh =>
         refine' @L2.pss_cons _ _ _ _ _ ?gk ?gl
         case gk =>
          refine' @L2.ps_set _ _ (2) _ _ _ _ nd rfl (Or.inl rfl) (pe_calH H__law_marks hr (by decide) rfl (pa_cons (pv 0) pa_nil rfl)) (by rfl) (by first | exact Or.inl rfl | exact Or.inr rfl | assumption)
         case gl =>
          refine' @L2.pss_cons _ _ _ _ _ ?gm ?gn
          case gm =>
           refine' @L2.ps_if _ _ _ _ _ _ _ _ ?go (pss_one (ps_ret (pe_tup (pa_cons pe_str pa_nil rfl)))) pss_nil
           case go =>
            refine' @L2.PW.pt _ _ _ ?gp
            case gp =>
             refine' @L2.pw_or _ _ _ _ _ _ _ ?gq ?gr
             case gq =>
              refine' @L2.pt_cmpR _ _ _ _ _ _ _ _ op_ne ?gs pe_int (nomark _)
              case gs =>
               refine' @L2.pe_bm _ _ _ _ _ _ _ _ _ _ _ _ PySem.F.plainAttrs_list PySem.F.slot_list_count PySem.F.type_list_count mt_countB (pv 2) (pa_cons pe_bl pa_nil rfl) (by rfl) (by rfl) (by rfl) (by rfl) (by rfl)
             case gr =>
              refine' @L2.pw_or1 _ _ _ _ ?gt
              case gt =>
               refine' @L2.pt_not _ _ _ _ ?gu
               case gu =>
                refine' @L2.pt_truth _ _ _ (pe_callB call_isiE rfl T.b_isinstance bb_isinstance (pa_cons (pv 0) (pa_cons (pe_bltn (v:=.ty "ValueError") rfl Z.vb bb_VE rfl) pa_nil rfl) rfl)) (fun _=>rfl)
          case gn =>
           refine' @L2.pss_cons _ _ _ _ _ ?gv ?gw
           case gv =>
            refine' @L2.ps_set _ _ (3) _ _ _ _ nd rfl (Or.inl rfl) ?gx (by rfl) (by first | exact Or.inl rfl | exact Or.inr rfl | assumption)
            case gx =>
             refine' @L2.pe_ix _ _ _ _ _ _ _ ix_list (pv 1) ?gy (fun _ _=>rfl)
             case gy =>
              refine' @L2.pe_bm _ _ _ _ _ _ _ _ _ _ _ _ PySem.F.plainAttrs_list PySem.F.slot_list_index PySem.F.type_list_index (mt_indexB hu) (pv 2) (pa_cons pe_bl pa_nil rfl) (by rfl) (by rfl) (by rfl) (by rfl) (by rfl)
           case gw =>
            refine' @L2.pss_cons _ _ _ _ _ ?gz ?g10
            case gz =>
             refine' @L2.ps_if _ _ _ _ _ _ _ _ (pt_cmpR op_eq (pv 3) pe_str (nomark _)) (pss_one (ps_ret pe_never)) pss_nil
            case g10 =>
             refine' @L2.pss_one _ _ _ ?g11
             case g11 =>
              refine' @L2.ps_ret _ _ _ _ ?g12
              case g12 =>
               refine' @L2.pe_ifExp _ _ _ _ _ _ _ _ (pt_cmpR op_eq (pv 3) pe_str (nomark _)) (pe_tup (pa_cons (pv 3) (pa_cons (pe_xget (pv 0)) pa_nil rfl) rfl)) (pe_tup (pa_cons (pv 3) pa_nil rfl))
   case read =>
    refine ⟨by show 9≤sizeLine; decide,?_⟩
    intro p1 n1
    generalize hH1:upd H p1 _=H1
    have S1:Same H H1:=by (rw [← hH1]; exact Same.new n1)
    have A1:=(congrFun hH1 p1).symm
    rw [upd_same] at A1
    clear hH1
    have T1:Same H H1:=(Same.refl H).trans S1
    refine ⟨_,rfl,by show 2≤sizeLine; decide,?_⟩
    intro p2 n2
    generalize hH2:upd H1 p2 _=H2
    have S2:Same H1 H2:=by (rw [← hH2]; exact Same.new n2)
    have A2:=(congrFun hH2 p2).symm
    rw [upd_same] at A2
    clear hH2
    have T2:Same H H2:=T1.trans S2
    refine ⟨p1,p2,_,_,rfl,rfl,(S2 _ _ A1),A2,by show 11≤sizeLine; decide,?_⟩
    intro p3 n3
    generalize hH3:upd H2 p3 _=H3
    have S3:Same H2 H3:=by (rw [← hH3]; exact Same.new n3)
    have A3:=(congrFun hH3 p3).symm
    rw [upd_same] at A3
    clear hH3
    have T3:Same H H3:=T2.trans S3
    refine ⟨_,rfl,by show 8≤sizeLine; decide,?_⟩
    intro p4 n4
    generalize hH4:upd H3 p4 _=H4
    have S4:Same H3 H4:=by (rw [← hH4]; exact Same.new n4)
    have A4:=(congrFun hH4 p4).symm
    rw [upd_same] at A4
    clear hH4
    have T4:Same H H4:=T3.trans S4
    refine ⟨p3,p4,_,_,rfl,rfl,(S4 _ _ A3),A4,by show 19≤sizeLine; decide,?_⟩
    intro p5 n5
    generalize hH5:upd H4 p5 _=H5
    have S5:Same H4 H5:=by (rw [← hH5]; exact Same.new n5)
    have A5:=(congrFun hH5 p5).symm
    rw [upd_same] at A5
    clear hH5
    have T5:Same H H5:=T4.trans S5
    refine ⟨_,rfl,by show 2≤sizeLine; decide,?_⟩
    intro p6 n6
    generalize hH6:upd H5 p6 _=H6
    have S6:Same H5 H6:=by (rw [← hH6]; exact Same.new n6)
    have A6:=(congrFun hH6 p6).symm
    rw [upd_same] at A6
    clear hH6
    have T6:Same H H6:=T5.trans S6
    refine ⟨p5,p6,_,_,rfl,rfl,(S6 _ _ A5),A6,by show 21≤sizeLine; decide,?_⟩
    intro p7 n7
    generalize hH7:upd H6 p7 _=H7
    have S7:Same H6 H7:=by (rw [← hH7]; exact Same.new n7)
    have A7:=(congrFun hH7 p7).symm
    rw [upd_same] at A7
    clear hH7
    have T7:Same H H7:=T6.trans S7
    refine ⟨_,rfl,by show 5≤sizeLine; decide,?_⟩
    intro p8 n8
    generalize hH8:upd H7 p8 _=H8
    have S8:Same H7 H8:=by (rw [← hH8]; exact Same.new n8)
    have A8:=(congrFun hH8 p8).symm
    rw [upd_same] at A8
    clear hH8
    have T8:Same H H8:=T7.trans S8
    refine ⟨p7,p8,_,_,rfl,rfl,(S8 _ _ A7),A8,by show 26≤sizeLine; decide,?_⟩
    intro p9 n9
    generalize hH9:upd H8 p9 _=H9
    have S9:Same H8 H9:=by (rw [← hH9]; exact Same.new n9)
    have A9:=(congrFun hH9 p9).symm
    rw [upd_same] at A9
    clear hH9
    have T9:Same H H9:=T8.trans S9
    refine ⟨_,rfl,ea,C,dx,ix,rfl,hE.same T9,kk,fun M HM sM aM=>?_⟩
    have hix:ix=4∨ix=25:=hw.elim (fun z=>.inl z.1) fun z=>.inr z.1
    have cnt:(mk26 ix).countP (· == true)=1:=by rcases hix with rfl | rfl <;> rfl
    refine ⟨_,rfl,.inl ⟨rfl,_,SqL.of aM⟩,M,mk26 ix,true,rfl,rfl,aM,rfl,_,rfl,?_⟩
    rw [cnt]
    refine iteF ?_
    have eM:=(hE.same T9).same sM
    refine ⟨_,rfl,ea,C,dx,_,true,rfl,eM.e,eM.d,kk.lk,.inr ⟨_,rfl,kk.ve⟩,true,rfl,iteF ?_⟩
    have wL:=sM _ _ A9
    obtain ⟨h1,h2⟩:(mk26 ix)[ix]? = some true∧(∀ m,m < ix→(mk26 ix)[m]?≠some true):=by
     rcases hix with rfl | rfl
     · exact ⟨rfl,by decide⟩
     · exact ⟨rfl,by decide⟩
    refine ⟨_,rfl,_,rfl,.inl ⟨rfl,_,SqL.of aM⟩,M,mk26 ix,ix,rfl,rfl,aM,h1,h2,by show 26≤1000; decide,?_⟩
    have ST:=T9.trans sM
    rcases hw with ⟨rfl,rfl⟩ | ⟨rfl,D,n,rfl,hD,xg,rfl⟩
    · refine ⟨p9,_,4,.str "fraction",rfl,rfl,SqL.of wL,rfl,?_⟩
      refine ⟨_,rfl,rfl,_,rfl,?_⟩
      rw [show decide (V.str (Str.ofString "fraction")=V.str (Str.ofString "many"))=false by decide +kernel]
      refine iteF ⟨_,rfl,rfl,_,rfl,?_⟩
      rw [show decide (V.str (Str.ofString "fraction")=V.str (Str.ofString "text"))=false by decide +kernel]
      exact iteF ⟨_,rfl,by show 1≤sizeLine; decide,fun T nT=>q T _ (ST.trans (Same.new nT)) upd_same⟩
    · refine ⟨p9,_,25,.str "text",rfl,rfl,SqL.of wL,rfl,?_⟩
      refine ⟨_,rfl,rfl,_,rfl,?_⟩
      rw [show decide (V.str (Str.ofString "text")=V.str (Str.ofString "many"))=false by decide +kernel]
      refine iteF ⟨_,rfl,rfl,_,rfl,?_⟩
      rw [show decide (V.str (Str.ofString "text")=V.str (Str.ofString "text"))=true from decide_eq_true rfl]
      exact iteT ⟨_,rfl,_,rfl,ea,C,D,_,n,rfl,eM.e,ST _ _ hD,xg,rfl,by show 2≤sizeLine; decide,fun T nT=>q T _ (ST.trans (Same.new nT)) upd_same⟩
abbrev s__law_said:Stmt:=top 67
theorem ok__law_said (F:Fun K "_law_said" "_law_said" s__law_said f fd) {cl:Str→Addr} (Z:Ek K mg cl) (H__law_word:CalH P w K mg base "_law_word" 2 ["_law_e"] (sp_word K cl)):FnOk P w K mg base CX0 9 f fd ["_law_call"] (sp_said P w K mg base cl):=by
 have sc:FnScope ["_law_call","_law_e"] ["_law_call"] (defScope s__law_said):=fsc (by decide +kernel)
 refine F.ok sc (fun vs H Q E h=>?_) (fun cdv A outer s H vs Q E hr h=>?_)
 · obtain ⟨a,sp,o,fd',rfl,_⟩:=h
   rfl
 · obtain ⟨a,sp,o,fd',rfl,ho,hf,L,mo,q⟩:=h
   have nd:=sc.nd
   have hu:=hu_of hr
   have hu1:=Nat.lt_of_succ_lt hu
   refine' ⟨_,?term,?read⟩
   case term =>
    refine' @L2.pss_one _ _ _ ?g1
    case g1 =>
     refine' @L2.ps_try _ _ _ _ _ _ 1 _ _ _ _ _ _ rfl rfl ?b ?h rfl Z.mpe nd rfl rfl (by decide)
     case b =>
      intro pins E
      refine' @L2.pss_one _ _ _ (ps_ret (pe_lst (pa_cons ?c pa_nil rfl)))
      case c =>
       refine' @L2.pe_callL _ 0 8 8 _ E _ _ P w K mg base ?n0 ?n1 ?n2 ?n3 ?n4 (Nat.le_refl _) ?n5 ?n6
       case n0=>exact ⟨rfl,rfl,rfl,rfl,rfl⟩
       case n1=>rfl
       case n2=>exact Or.inl rfl
       case n3=>exact passesT rfl
       case n4=>exact hr
       case n5=>decide
       case n6=>decide
     case h =>
      intro ea
      refine' @L2.pss_one _ _ _ (ps_ret ?d)
      case d=>exact pe_calH H__law_word (hr.marked _) (by decide) rfl (pa_cons (pv 1) pa_nil rfl)
   case read =>
    refine ⟨a,sp,o,fd',rfl,ho,hf,L,mo _ _ _ _ _ (fun v H1 hq=>⟨by show 1≤sizeLine; decide,hq⟩) (fun c a' H1 hq=>?_) q⟩
    obtain ⟨C,ix,ws,rfl,kk,hd,hw,hq⟩:=hq
    refine ⟨C,rfl,kk.pe,fun σ ea hl ne=>?_⟩
    obtain ⟨u1,u2,rfl⟩:∃ u1 u2,σ=[u1,u2]:=by
     match σ,hl with
     | [u1,u2],_=>exact ⟨u1,u2,rfl⟩
    have s1:Same H1 (upd H1 ea (excA ea C a')):=Same.new ne
    refine ⟨_,rfl,ea,C,a',ix,ws,rfl,⟨upd_same,fun D e=>let ⟨o,z⟩:=hd D e; ⟨o,s1 _ _ z⟩⟩,kk,?_,fun T H2 s2 hT=>hq T H2 (s1.trans s2) hT⟩
    rcases hw with z | ⟨z,D,n,e,hD,xg,w⟩
    · exact .inl z
    · exact .inr ⟨z,D,n,e,s1 _ _ hD,xg,w⟩
abbrev s__law_cell_at:Stmt:=top 57
theorem ok__law_cell_at (F:Fun K "_law_cell_at" "_law_cell_at" s__law_cell_at f fd):FnOk P w K mg base CX0 1 f fd ["_law_script","_law_k"] (sp_cell K):=by
 have sc:FnScope ["_law_script","_law_k"] ["_law_script","_law_k"] (defScope s__law_cell_at):=fsc (by decide +kernel)
 refine F.ok sc (fun vs H Q E h=>?_) (fun cdv A outer s H vs Q E hr h=>?_)
 · obtain ⟨a,ns,k,rfl,_⟩:=h
   rfl
 · obtain ⟨a,ns,k,rfl,hS,q⟩:=h
   have nd:=sc.nd
   have hu:=hu_of hr
   have hu1:=Nat.lt_of_succ_lt hu
   refine' ⟨_,?term,?read⟩
   case term =>
    refine' @L2.pss_cons _ _ _ _ _ ?g1 (pss_one (ps_ret pe_int))
    case g1 =>
     refine' @L2.ps_if _ _ _ _ _ _ _ _ (pt_cmpR op_lt (pv 1) (pe_callB call_len_seq rfl T.b_len bb_len (pa_cons (pv 0) pa_nil rfl)) (nomark _)) ?g2 pss_nil
     case g2 =>
      refine' @L2.pss_one _ _ _ ?g3
      case g3 =>
       refine' @L2.ps_ret _ _ _ _ ?g4
       case g4 =>
        refine' @L2.pe_ix _ _ _ _ _ _ _ ix_list (pv 0) (pv 1) (fun _ _=>rfl)
   case read =>
    refine ⟨_,rfl,_,rfl,a,_,rfl,.inl hS,_,_,rfl,rfl,_,rfl,?_⟩
    refine ite2 (fun hlt=>?_) (fun _=>q 0)
    have hk:k < ns.length:=by
     have z:=of_decide_eq_true hlt
     rw [List.length_map] at z
     omega
    exact ⟨_,rfl,_,rfl,a,_,_,_,rfl,rfl,hS,atI_nat (by rw [List.getElem?_map,List.getElem?_eq_getElem hk]; rfl),q _⟩
abbrev s__law_state:Stmt:=top 58
theorem ok__law_state (F:Fun K "_law_state" "_law_state" s__law_state f fd) (C__law_cell_at:Cal P w K mg base "_law_cell_at" 1 ["_law_script","_law_k"] (sp_cell K)):FnOk P w K mg base CX0 2 f fd ["_law_script","_law_k"] (sp_state K):=by
 have sc:FnScope ["_law_script","_law_k","_law_cell"] ["_law_script","_law_k"] (defScope s__law_state):=fsc (by decide +kernel)
 refine F.ok sc (fun vs H Q E h=>?_) (fun cdv A outer s H vs Q E hr h=>?_)
 · obtain ⟨a,ns,k,rfl,_⟩:=h
   rfl
 · obtain ⟨a,ns,k,rfl,hS,q⟩:=h
   have nd:=sc.nd
   have hu:=hu_of hr
   have hu1:=Nat.lt_of_succ_lt hu
   refine' ⟨_,?term,?read⟩
   case term =>
    refine' @L2.pss_cons _ _ _ _ _ ?g1 ?g2
    case g1 =>
     refine' @L2.ps_set _ _ (2) _ _ _ _ nd rfl (Or.inl rfl) (pe_cal C__law_cell_at hr (by decide) rfl (pa_cons (pv 0) (pa_cons (pv 1) pa_nil rfl) rfl)) (by rfl) (by first | exact Or.inl rfl | exact Or.inr rfl | assumption)
    case g2 =>
     refine' @L2.pss_one _ _ _ ?g3
     case g3 =>
      refine' @L2.ps_ret _ _ _ _ ?g4
      case g4 =>
       refine' @L2.pe_lst _ _ _ _ (pa_cons (pe_callB (call_max2 rfl) rfl T.b_max bb_max (pa_cons pe_int (pa_cons (pe_op op_sub (pv 2) (pe_op op_pow pe_int pe_int)) pa_nil rfl) rfl)) (pa_cons (pe_op op_add (pe_op op_modN (pv 2) pe_int) pe_int) (pa_cons pe_int pa_nil rfl) rfl) rfl)
   case read =>
    refine ⟨_,rfl,_,rfl,a,ns,k,rfl,hS,fun c=>?_⟩
    refine ⟨_,rfl,_,_,rfl,rfl,⟨by decide,by decide,by decide⟩,_,_,rfl,rfl,_,_,rfl,?_⟩
    refine ⟨_,rfl,_,_,rfl,rfl,(by show (2147483629:Int)≠0; decide),_,_,rfl,rfl,(by show 3≤sizeLine; decide),fun p hp=>q p _ hp (Same.new hp) ⟨_,_,_,upd_same,?_,?_⟩⟩
    · have:=Int.fmod_nonneg_of_pos c (b:=2147483629) (by decide)
      omega
    · have:=Int.fmod_lt_of_pos c (b:=2147483629) (by decide)
      omega
abbrev s__law_choice:Stmt:=top 59
theorem ok__law_choice (F:Fun K "_law_choice" "_law_choice" s__law_choice f fd):FnOk P w K mg base CX0 1 f fd ["_law_state_here","_law_many"] sp_choice:=by
 have sc:FnScope ["_law_state_here","_law_many","_law_found","_law_mixed"] ["_law_state_here","_law_many"] (defScope s__law_choice):=fsc (by decide +kernel)
 refine F.ok sc (fun vs H Q E h=>?_) (fun cdv A outer s H vs Q E hr h=>?_)
 · obtain ⟨l,m,rfl,_⟩:=h
   rfl
 · obtain ⟨l,m,rfl,⟨s0,s1,s2,hl,h0,h1⟩,hm,hz,q⟩:=h
   have nd:=sc.nd
   have hu:=hu_of hr
   have hu1:=Nat.lt_of_succ_lt hu
   refine' ⟨_,?term,?read⟩
   case term =>
    refine' @L2.pss_cons _ _ _ _ _ ?g1 ?g2
    case g1 =>
     refine' @L2.ps_if _ _ _ _ _ _ _ _ ?g3 ?g4 pss_nil
     case g3 =>
      refine' @L2.pt_cmpR _ _ _ _ _ _ _ _ op_gt ?g5 pe_int (nomark _)
      case g5 =>
       refine' @L2.pe_ix _ _ _ _ _ _ _ ix_list (pv 0) pe_int (fun _ _=>rfl)
     case g4 =>
      refine' @L2.pss_cons _ _ _ _ _ ?g6 ?g7
      case g6 =>
       refine' @L2.ps_set _ _ (2) _ _ _ _ nd rfl (Or.inl rfl) ?g8 (by rfl) (by first | exact Or.inl rfl | exact Or.inr rfl | assumption)
       case g8 =>
        refine' @L2.pe_op _ _ _ _ _ _ _ _ op_modN ?g9 (pv 1)
        case g9 =>
         refine' @L2.pe_ix _ _ _ _ _ _ _ ix_list (pv 0) pe_int (fun _ _=>rfl)
      case g7 =>
       refine' @L2.pss_cons _ _ _ _ _ ?ga (pss_one (ps_ret (pv 2)))
       case ga =>
        refine' @L2.ps_asg _ _ _ _ _ _ ?gb ?gc (by rfl) (by rfl) (by rfl)
        case gb =>
         refine' @L2.pe_op _ _ _ _ _ _ _ _ op_fdivB ?gd (pv 1)
         case gd =>
          refine' @L2.pe_ix _ _ _ _ _ _ _ ix_list (pv 0) pe_int (fun _ _=>rfl)
        case gc =>
         refine' @L2.pg_sub _ _ _ _ _ _ _ (pv 0) pe_int set_list (by intro _ ; rfl)
    case g2 =>
     refine' @L2.pss_cons _ _ _ _ _ ?ge ?gf
     case ge =>
      refine' @L2.ps_asg _ _ _ _ _ _ ?gg ?gh (by rfl) (by rfl) (by rfl)
      case gg =>
       refine' @L2.pe_op _ _ _ _ _ _ _ _ op_add ?gi pe_int
       case gi =>
        refine' @L2.pe_ix _ _ _ _ _ _ _ ix_list (pv 0) pe_int (fun _ _=>rfl)
      case gh =>
       refine' @L2.pg_sub _ _ _ _ _ _ _ (pv 0) pe_int set_list (by intro _ ; rfl)
     case gf =>
      refine' @L2.pss_cons _ _ _ _ _ ?gj ?gk
      case gj =>
       refine' @L2.ps_asg _ _ _ _ _ _ ?gl ?gm (by rfl) (by rfl) (by rfl)
       case gl =>
        refine' @L2.pe_op _ _ _ _ _ _ _ _ op_modN ?gn pe_int
        case gn =>
         refine' @L2.pe_op _ _ _ _ _ _ _ _ op_add ?go ?gp
         case go =>
          refine' @L2.pe_op _ _ _ _ _ _ _ _ op_add ?gq pe_int
          case gq =>
           refine' @L2.pe_op _ _ _ _ _ _ _ _ op_mulB ?gr pe_int
           case gr =>
            refine' @L2.pe_ix _ _ _ _ _ _ _ ix_list (pv 0) pe_int (fun _ _=>rfl)
         case gp =>
          refine' @L2.pe_ix _ _ _ _ _ _ _ ix_list (pv 0) pe_int (fun _ _=>rfl)
       case gm =>
        refine' @L2.pg_sub _ _ _ _ _ _ _ (pv 0) pe_int set_list (by intro _ ; rfl)
      case gk =>
       refine' @L2.pss_cons _ _ _ _ _ ?gs ?gt
       case gs =>
        refine' @L2.ps_set _ _ (3) _ _ _ _ nd rfl (Or.inl rfl) ?gu (by rfl) (by first | exact Or.inl rfl | exact Or.inr rfl | assumption)
        case gu =>
         refine' @L2.pe_op _ _ _ _ _ _ _ _ op_modN ?gv pe_int
         case gv =>
          refine' @L2.pe_op _ _ _ _ _ _ _ _ op_add ?gw pe_int
          case gw =>
           refine' @L2.pe_op _ _ _ _ _ _ _ _ op_add ?gx ?gy
           case gx =>
            refine' @L2.pe_op _ _ _ _ _ _ _ _ op_mulB ?gz ?g10
            case gz =>
             refine' @L2.pe_ix _ _ _ _ _ _ _ ix_list (pv 0) pe_int (fun _ _=>rfl)
            case g10 =>
             refine' @L2.pe_ix _ _ _ _ _ _ _ ix_list (pv 0) pe_int (fun _ _=>rfl)
           case gy =>
            refine' @L2.pe_op _ _ _ _ _ _ _ _ op_mulB pe_int ?g11
            case g11 =>
             refine' @L2.pe_ix _ _ _ _ _ _ _ ix_list (pv 0) pe_int (fun _ _=>rfl)
       case gt =>
        refine' @L2.pss_cons _ _ _ _ _ ?g12 (pss_one (ps_ret (pe_op op_modN (pe_op op_fdivB (pv 3) pe_int) (pv 1))))
        case g12 =>
         refine' @L2.ps_set _ _ (3) _ _ _ _ nd rfl (Or.inl rfl) (pe_op op_modN (pe_op op_add (pe_op op_mulB (pv 3) (pv 3)) (pe_op op_mulB pe_int (pv 3))) pe_int) (by rfl) (by first | exact Or.inl rfl | exact Or.inr rfl | assumption)
   case read =>
    have hm0:m≠0:=by omega
    refine ⟨_,rfl,l,_,0,_,rfl,rfl,SqL.of hl,rfl,_,_,rfl,rfl,_,rfl,?_⟩
    refine ite2 (fun _=>?_) (fun _=>?_)
    · refine ⟨_,rfl,l,_,0,_,rfl,rfl,SqL.of hl,rfl,_,rfl,_,_,rfl,rfl,hm0,?_⟩
      refine ⟨_,rfl,l,_,0,_,rfl,rfl,SqL.of hl,rfl,_,rfl,_,_,rfl,rfl,⟨hm0,hz⟩,?_⟩
      refine ⟨_,rfl,l,_,0,0,rfl,rfl,hl,rfl,?_⟩
      exact ⟨_,rfl,q _ _ (Int.fmod_nonneg_of_pos _ hm) (Int.fmod_lt_of_pos _ hm) Keep.upd ⟨_,_,_,upd_same,h0,h1⟩⟩
    ·
     refine ⟨_,rfl,l,_,2,_,rfl,rfl,SqL.of hl,rfl,_,_,rfl,rfl,?_⟩
     refine ⟨_,rfl,l,_,2,2,rfl,rfl,hl,rfl,?_⟩
     refine ⟨_,rfl,l,_,1,_,rfl,rfl,SqL.of upd_same,rfl,_,_,rfl,rfl,mulS (by rw [p64]; omega) (by decide),_,_,rfl,rfl,?_⟩
     refine ⟨_,rfl,l,_,2,_,rfl,rfl,SqL.of upd_same,rfl,_,_,rfl,rfl,_,_,rfl,rfl,(by show (2147483647:Int)≠0; decide),?_⟩
     refine ⟨_,rfl,l,_,1,1,rfl,rfl,upd_same,rfl,?_⟩
     generalize hs:Int.fmod (s1 * 48271+29+(s2+1)) 2147483647=u
     have u0:0≤u:=by rw [← hs]; exact Int.fmod_nonneg_of_pos _ (by decide)
     have u1:u < 2147483647:=by rw [← hs]; exact Int.fmod_lt_of_pos _ (by decide)
     refine ⟨_,rfl,l,_,1,_,rfl,rfl,SqL.of upd_same,rfl,_,rfl,l,_,1,_,rfl,rfl,SqL.of upd_same,rfl,u,u,by rw [← hs],by rw [← hs],mulS (by rw [p64]; omega) (by rw [p64]; omega),?_⟩
     refine ⟨_,rfl,l,_,1,_,rfl,rfl,SqL.of upd_same,rfl,39373,u,rfl,by rw [← hs],mulS (by decide) (by rw [p64]; omega),_,_,rfl,rfl,_,_,rfl,rfl,_,_,rfl,rfl,(by show (2147483629:Int)≠0; decide),?_⟩
     generalize hv:Int.fmod (u * u+39373 * u+7) 2147483629=v
     have v0:0≤v:=by rw [← hv]; exact Int.fmod_nonneg_of_pos _ (by decide)
     have v1:v < 2147483629:=by rw [← hv]; exact Int.fmod_lt_of_pos _ (by decide)
     refine ⟨_,rfl,_,rfl,v,v,by rw [← hv],by rw [← hv],mulS (by rw [p64]; omega) (by rw [p64]; omega),_,rfl,50021,v,rfl,by rw [← hv],mulS (by decide) (by rw [p64]; omega),_,_,rfl,rfl,_,_,rfl,rfl,(by show (2147483587:Int)≠0; decide),?_⟩
     refine ⟨_,rfl,_,_,rfl,rfl,⟨by decide,lt8999 (by decide)⟩,_,rfl,_,_,rfl,rfl,hm0,?_⟩
     exact q _ _ (Int.fmod_nonneg_of_pos _ hm) (Int.fmod_lt_of_pos _ hm) (Keep.upd.trans Keep.upd) ⟨_,u,_,by rw [← hs]; exact upd_same,u0,by omega⟩
abbrev s__law_low:Stmt:=top 60
theorem ok__law_low (F:Fun K "_law_low" "_law_low" s__law_low f fd):FnOk P w K mg base CX0 1 f fd ["_law_top","_law_bottom"] sp_low:=by
 have sc:FnScope ["_law_top","_law_bottom","_law_one","_law_other"] ["_law_top","_law_bottom"] (defScope s__law_low):=fsc (by decide +kernel)
 refine F.ok sc (fun vs H Q E h=>?_) (fun cdv A outer s H vs Q E hr h=>?_)
 · obtain ⟨t,b,rfl,_⟩:=h
   rfl
 · obtain ⟨t,b,rfl,hb,hz,q⟩:=h
   have nd:=sc.nd
   have hu:=hu_of hr
   have hu1:=Nat.lt_of_succ_lt hu
   refine' ⟨_,?term,?read⟩
   case term =>
    refine' @L2.pss_cons _ _ _ _ _ ?g1 ?g2
    case g1 =>
     refine' @L2.ps_par _ _ (2) (3) _ _ _ _ _ _ _ _ _ _ _ rfl nd rfl rfl (by decide) rfl rfl (pa_cons (pe_callB call_abs rfl T.b_abs bb_abs (pa_cons (pv 0) pa_nil rfl)) (pa_cons (pe_callB call_abs rfl T.b_abs bb_abs (pa_cons (pv 1) pa_nil rfl)) pa_nil rfl) rfl) rfl (by rfl)
    case g2 =>
     refine' @L2.pss_cons _ _ _ _ _ ?g3 ?g4
     case g3 =>
      refine' @L2.ps_while _ _ _ _ _ _ PassesOwn.never (pt_cmpR op_gt (pv 3) pe_int (nomark _)) ?g5
      case g5 =>
       refine' @L2.pss_one _ _ _ ?g6
       case g6 =>
        refine' @L2.ps_par _ _ (2) (3) _ _ _ _ _ _ _ _ _ _ _ rfl nd rfl rfl (by decide) rfl rfl (pa_cons (pv 3) (pa_cons (pe_op op_modN (pv 2) (pv 3)) pa_nil rfl) rfl) rfl (by rfl)
     case g4 =>
      refine' @L2.pss_one _ _ _ ?g7
      case g7 =>
       refine' @L2.ps_ret _ _ _ _ ?g8
       case g8 =>
        refine' @L2.pe_tup _ _ _ _ _ ?g9
        case g9 =>
         refine' @L2.pa_cons _ _ _ _ _ ?ga (pa_cons (pe_op op_fdivB (pe_callB call_abs rfl T.b_abs bb_abs (pa_cons (pv 1) pa_nil rfl)) (pv 2)) pa_nil rfl) rfl
         case ga =>
          refine' @L2.pe_ifExp _ _ _ _ _ _ _ _ (pt_cmpR op_gt (pv 1) pe_int (nomark _)) (pe_op op_fdivB (pv 0) (pv 2)) (pe_op op_sub pe_int (pe_op op_fdivB (pv 0) (pv 2)))
   case read =>
    have hg:=FM.gcd_ne (t:=t) hb
    have hgz:(Int.gcd t b) < 2 ^ 8999:=Nat.lt_of_le_of_lt (Nat.gcd_le_right _ (Int.natAbs_pos.mpr hb)) (lt4000 hz)
    have ab:∀ x:Int,(if x < 0 then -x else x)=(x.natAbs:Int):=fun x=>by split <;> omega
    refine ⟨_,rfl,t,rfl,_,rfl,b,rfl,_,_,rfl,?_⟩
    refine while_by (fun σ H'=>∃ x y:Int,σ=[some (.int t),some (.int b),some (.int x),some (.int y)]∧H'=H∧0≤x∧0≤y∧Int.gcd x y=Int.gcd t b) (fun σ _=>match σ with | [_,_,_,some (.int y)]=>y.natAbs | _=>0)
     ⟨_,_,rfl,rfl,by rw [ab]; omega,by rw [ab]; omega,by rw [ab,ab]; simp [Int.gcd]⟩ ?_ ?_
    · rintro σ H' ⟨x,y,rfl,rfl,hx,hy,e⟩
      refine ⟨_,rfl,_,_,rfl,rfl,_,rfl,?_⟩
      refine ite2 (fun hlt=>?_) (fun hlt=>?_)
      · have hy':0 < y:=of_decide_eq_true hlt
        have hy0:y≠0:=by omega
        refine ⟨_,rfl,_,rfl,_,rfl,x,y,rfl,rfl,hy0,_,_,rfl,⟨y,x.fmod y,rfl,rfl,hy,Int.fmod_nonneg_of_pos _ hy',by rw [FM.gcd_fmod hy0]; exact e⟩,FM.fmod_abs_lt hy0⟩
      · have hy':¬ 0 < y:=fun z=>hlt (decide_eq_true z)
        have y0:y=0:=by omega
        subst y0
        have x0:x=(Int.gcd t b:Int):=by rw [← e,Int.gcd_zero_right]; omega
        subst x0
        refine ⟨_,rfl,_,_,rfl,rfl,_,rfl,?_⟩
        have fin:∀ n:Int,n=(if 0 < b then t.fdiv (Int.gcd t b:Int) else 0 - t.fdiv (Int.gcd t b:Int))→∀ p,H' p=none→Q (.ref p) (upd H' p (.tup [.int n,.int (Int.fdiv (if b < 0 then -b else b) (Int.gcd t b:Int))])):=by
         rintro n rfl p hp
         rw [ab,FM.low_num hb,FM.low_den hb]
         exact q p _ (Same.new hp) upd_same
        refine ite2 (fun hlt=>?_) (fun hlt=>?_)
        · have hb':0 < b:=of_decide_eq_true hlt
          refine ⟨_,rfl,_,rfl,_,_,rfl,rfl,⟨hg,hgz⟩,_,rfl,b,rfl,_,rfl,_,_,rfl,rfl,⟨hg,hgz⟩,by show 2≤sizeLine; decide,?_⟩
          exact fin _ (by rw [if_pos hb'])
        · have hb':¬ 0 < b:=fun z=>hlt (decide_eq_true z)
          refine ⟨_,rfl,_,rfl,_,_,rfl,rfl,⟨hg,hgz⟩,_,_,rfl,rfl,_,rfl,b,rfl,_,rfl,_,_,rfl,rfl,⟨hg,hgz⟩,by show 2≤sizeLine; decide,?_⟩
          exact fin _ (by rw [if_neg hb'])
    · rintro σ H' Q1 Q2 hq ⟨v,e,i,j,e1,e2,k,e3,q'⟩
      exact ⟨v,e,i,j,e1,e2,k,e3,hq _ _ q'⟩
abbrev s__law_fraction:Stmt:=top 61
theorem ok__law_fraction (F:Fun K "_law_fraction" "_law_fraction" s__law_fraction f fd) (C__law_choice:Cal P w K mg base "_law_choice" 1 ["_law_state_here","_law_many"] sp_choice) (C__law_low:Cal P w K mg base "_law_low" 1 ["_law_top","_law_bottom"] sp_low):FnOk P w K mg base CX0 2 f fd ["_law_state_here"] (sp_drawn6 44):=by
 have sc:FnScope ["_law_state_here","_law_top","_law_way"] ["_law_state_here"] (defScope s__law_fraction):=fsc (by decide +kernel)
 refine F.ok sc (fun vs H Q E h=>?_) (fun cdv A outer s H vs Q E hr h=>?_)
 · obtain ⟨l,rfl,_⟩:=h
   rfl
 · obtain ⟨l,rfl,hl,q⟩:=h
   have nd:=sc.nd
   have hu:=hu_of hr
   have hu1:=Nat.lt_of_succ_lt hu
   refine' ⟨_,?term,?read⟩
   case term =>
    refine' @L2.pss_cons _ _ _ _ _ ?g1 ?g2
    case g1 =>
     refine' @L2.ps_set _ _ (1) _ _ _ _ nd rfl (Or.inl rfl) (pe_op op_sub (pe_cal C__law_choice hr (by decide) rfl (pa_cons (pv 0) (pa_cons pe_int pa_nil rfl) rfl)) pe_int) (by rfl) (by first | exact Or.inl rfl | exact Or.inr rfl | assumption)
    case g2 =>
     refine' @L2.pss_cons _ _ _ _ _ ?g3 ?g4
     case g3 =>
      refine' @L2.ps_set _ _ (2) _ _ _ _ nd rfl (Or.inl rfl) (pe_cal C__law_choice hr (by decide) rfl (pa_cons (pv 0) (pa_cons pe_int pa_nil rfl) rfl)) (by rfl) (by first | exact Or.inl rfl | exact Or.inr rfl | assumption)
     case g4 =>
      refine' @L2.pss_cons _ _ _ _ _ ?g5 ?g6
      case g5 =>
       refine' @L2.ps_if _ _ _ _ _ _ _ _ (pt_cmpR op_lt (pv 2) pe_int (nomark _)) ?g7 pss_nil
       case g7 =>
        refine' @L2.pss_one _ _ _ ?g8
        case g8 =>
         refine' @L2.ps_ret _ _ _ _ ?g9
         case g9 =>
          refine' @L2.pe_ix _ _ _ _ _ _ _ ix_list ?ga (pv 2) (fun _ _=>rfl)
          case ga =>
           refine' @L2.pe_lst _ _ _ _ (pa_cons (pe_tup (pa_cons pe_int (pa_cons pe_int pa_nil rfl) rfl)) (pa_cons (pe_tup (pa_cons pe_int (pa_cons pe_int pa_nil rfl) rfl)) (pa_cons (pe_tup (pa_cons (pv 1) (pa_cons pe_int pa_nil rfl) rfl)) pa_nil rfl) rfl) rfl)
      case g6 =>
       refine' @L2.pss_one _ _ _ ?gb
       case gb =>
        refine' @L2.ps_ret _ _ _ _ ?gc
        case gc =>
         refine' @L2.pe_cal _ _ _ _ _ _ _ _ _ _ _ C__law_low hr (by decide) rfl ?gd (by decide) (by rfl) (by rfl)
         case gd =>
          refine' @L2.pa_cons _ _ _ _ _ ?ge (pa_cons (pe_op op_add pe_int (pe_cal C__law_choice hr (by decide) rfl (pa_cons (pv 0) (pa_cons pe_int pa_nil rfl) rfl))) pa_nil rfl) rfl
          case ge =>
           refine' @L2.pe_op _ _ _ _ _ _ _ _ op_mulB (pv 1) ?gf
           case gf =>
            refine' @L2.pe_ix _ _ _ _ _ _ _ ix_list ?gg (pe_callTy call_int1 rfl T.b_int bb_int (pa_cons (pe_cmpR op_eq (pe_cal C__law_choice hr (by decide) rfl (pa_cons (pv 0) (pa_cons pe_int pa_nil rfl) rfl)) pe_int (nomark _)) pa_nil rfl)) (fun _ _=>rfl)
            case gg =>
             refine' @L2.pe_lst _ _ _ _ (pa_cons pe_int (pa_cons (pe_op op_add (pe_op op_pow pe_int pe_int) pe_int) pa_nil rfl) rfl)
   case read =>
    refine ⟨_,rfl,l,19,rfl,hl,by decide,lt8999 (by decide),fun r1 H1 a1 b1 k1 l1=>?_⟩
    refine ⟨_,_,rfl,rfl,?_⟩
    refine ⟨_,rfl,l,5,rfl,l1,by decide,lt8999 (by decide),fun r2 H2 a2 b2 k2 l2=>?_⟩
    refine ⟨_,rfl,_,_,rfl,rfl,_,rfl,?_⟩
    have k12:=k1.trans k2
    refine ite2 (fun hlt=>?_) (fun hlt=>?_)
    · have hlt':r2 < 3:=of_decide_eq_true hlt
      refine ⟨by show 2≤sizeLine; decide,?_⟩
      intro p3 n3
      generalize hH3:upd H2 p3 _=H3
      have S3:Same H2 H3:=by (rw [← hH3]; exact Same.new n3)
      have A3:=(congrFun hH3 p3).symm
      rw [upd_same] at A3
      refine ⟨by show 2≤sizeLine; decide,?_⟩
      intro p4 n4
      generalize hH4:upd H3 p4 _=H4
      have S4:Same H3 H4:=by (rw [← hH4]; exact Same.new n4)
      have A4:=(congrFun hH4 p4).symm
      rw [upd_same] at A4
      refine ⟨_,rfl,by show 2≤sizeLine; decide,?_⟩
      intro p5 n5
      generalize hH5:upd H4 p5 _=H5
      have S5:Same H4 H5:=by (rw [← hH5]; exact Same.new n5)
      have A5:=(congrFun hH5 p5).symm
      rw [upd_same] at A5
      refine ⟨by show 3≤sizeLine; decide,?_⟩
      intro p6 n6
      generalize hH6:upd H5 p6 _=H6
      have S6:Same H5 H6:=by (rw [← hH6]; exact Same.new n6)
      have A6:=(congrFun hH6 p6).symm
      rw [upd_same] at A6
      refine ⟨_,rfl,?_⟩
      have hk:Keep l H H6:=k12.trans (((S3.trans S4).trans (S5.trans S6)).keep)
      have l6:StAt H6 l:=l2.same ((S3.trans S4).trans (S5.trans S6))
      have B3:=S6 _ _ (S5 _ _ (S4 _ _ A3))
      have B4:=S6 _ _ (S5 _ _ A4)
      have B5:=S6 _ _ A5
      have hr2:r2=0∨r2=1∨r2=2:=by omega
      have w1:=FM.whole (r1 - 9)
      rcases hr2 with rfl | rfl | rfl
      · exact ⟨p6,_,0,_,rfl,rfl,SqL.of A6,rfl,q _ p3 0 hk l6 B3 ⟨⟨by decide,by decide⟩,by decide⟩⟩
      · exact ⟨p6,_,1,_,rfl,rfl,SqL.of A6,rfl,q _ p4 1 hk l6 B4 ⟨⟨by decide,by decide⟩,by decide⟩⟩
      · refine ⟨p6,_,2,_,rfl,rfl,SqL.of A6,rfl,q _ p5 (Rat.divInt (r1 - 9) 1) hk l6 (by rw [rt,w1.1,w1.2]; exact B5) ⟨⟨?_,?_⟩,den60 _ (by decide) (by decide)⟩⟩
        · rw [w1.1]; show _ < 17592186044416; omega
        · have:=w1.2; show _ < 17592186044416; omega
    · refine ⟨_,rfl,?_⟩
      refine ⟨_,_,rfl,rfl,⟨by decide,by decide,by decide⟩,_,_,rfl,rfl,by show 2≤sizeLine; decide,?_⟩
      intro p3 n3
      generalize hH3:upd H2 p3 _=H3
      have S3:Same H2 H3:=by (rw [← hH3]; exact Same.new n3)
      have A3:=(congrFun hH3 p3).symm
      rw [upd_same] at A3
      refine ⟨_,rfl,l,9,rfl,l2.same S3,by decide,lt8999 (by decide),fun r4 H4 a4 b4 k4 l4=>?_⟩
      refine ⟨rfl,.inr ⟨_,rfl,?_⟩⟩
      have B3:=k4 _ _ (fun z=>l2.ne n3 z.symm) A3
      have hk4:Keep l H H4:=k12.trans (S3.keep.trans k4)
      by_cases h0:V.int r4=V.int 0
      · rw [decide_eq_true h0]
        refine ⟨p3,_,_,_,rfl,rfl,SqL.of B3,rfl,?_⟩
        have hz:(10 ^ Int.toNat 12+7:Int).natAbs≤1000000000007:=by decide
        refine ⟨_,_,rfl,rfl,mulS (by rw [p64]; omega) (by decide),?_⟩
        refine ⟨_,rfl,l,6,rfl,l4,by decide,lt8999 (by decide),fun r5 H5 a5 b5 k5 l5=>⟨_,_,rfl,rfl,_,_,rfl,by omega,lt8999 (by rw [p64]; omega),fun p H6 s6 at6=>?_⟩⟩
        refine q _ p _ (hk4.trans (k5.trans s6.keep)) (l5.same s6) at6 ⟨FM.B_divInt (by omega) ?_ ?_,den60 _ (by omega) (by omega)⟩
        · rw [Int.natAbs_mul]
          have h9:(r1 - 9).natAbs≤9:=by omega
          have:=Nat.mul_le_mul h9 hz
          show _ < 17592186044416
          omega
        · show _ < 17592186044416
          omega
      · rw [decide_eq_false h0]
        refine ⟨p3,_,_,_,rfl,rfl,SqL.of B3,rfl,?_⟩
        have hz:(1:Int).natAbs≤1000000000007:=by decide
        refine ⟨_,_,rfl,rfl,mulS (by rw [p64]; omega) (by decide),?_⟩
        refine ⟨_,rfl,l,6,rfl,l4,by decide,lt8999 (by decide),fun r5 H5 a5 b5 k5 l5=>⟨_,_,rfl,rfl,_,_,rfl,by omega,lt8999 (by rw [p64]; omega),fun p H6 s6 at6=>?_⟩⟩
        refine q _ p _ (hk4.trans (k5.trans s6.keep)) (l5.same s6) at6 ⟨FM.B_divInt (by omega) ?_ ?_,den60 _ (by omega) (by omega)⟩
        · rw [Int.natAbs_mul]
          have h9:(r1 - 9).natAbs≤9:=by omega
          have:=Nat.mul_le_mul h9 hz
          show _ < 17592186044416
          omega
        · show _ < 17592186044416
          omega
abbrev s__law_row:Stmt:=top 62
theorem ok__law_row (F:Fun K "_law_row" "_law_row" s__law_row f fd) (C__law_fraction:Cal P w K mg base "_law_fraction" 2 ["_law_state_here"] (sp_drawn6 44)):FnOk P w K mg base CX0 3 f fd ["_law_state_here","_law_many"] sp_rowQ:=by
 have sc:FnScope ["_law_state_here","_law_many"] ["_law_state_here","_law_many"] (defScope s__law_row):=fsc (by decide +kernel)
 refine F.ok sc (fun vs H Q E h=>?_) (fun cdv A outer s H vs Q E hr h=>?_)
 · obtain ⟨l,n,rfl,_⟩:=h
   rfl
 · obtain ⟨l,n,rfl,hl,h1000,q⟩:=h
   have nd:=sc.nd
   have hu:=hu_of hr
   have hu1:=Nat.lt_of_succ_lt hu
   refine' ⟨_,?term,?read⟩
   case term =>
    refine' @L2.pss_one _ _ _ ?g1
    case g1 =>
     refine' @L2.ps_ret _ _ _ _ ?g2
     case g2 =>
      refine' @L2.pe_callTy _ _ _ _ _ _ _ _ _ call_tuple_of rfl T.b_tuple bb_tuple ?g3 (by decide) (by decide) (by rfl) (by rfl)
      case g3 =>
       refine' @L2.pa_cons _ _ _ _ _ ?g4 pa_nil rfl
       case g4 =>
        refine' @L2.pe_lc _ _ _ _ _ _ _ (["_law_turn","_law_state_here"]) ([none,some 0]) _ _ _ _ _ rfl (lcs_gen (XN:=["_law_state_here","_law_many"]) (Scope.names (defScope s__law_row)) rfl rfl rfl (fun _ h=>cell_has h) (by decide +kernel) rfl) ?g5 (fun _ _ _ _=>(pg_name (i:=0) (show List.Nodup (["_law_turn","_law_state_here"]:List Str) by decide) rfl (Or.inl rfl) (Or.inr rfl))) (fun _ _ _ _=>pifs_nil) (fun _ _ _ _=>(pe_cal C__law_fraction hr (by decide) rfl (pa_cons (pv 1) pa_nil rfl))) (by intro _ ; rfl)
        case g5 =>
         refine' @L2.pi_range1 _ _ _ _ _ _ rfl T.b_range (pa_cons (pv 1) pa_nil rfl) (by rfl)
   case read =>
    refine ⟨_,rfl,n,rfl,by omega,by omega,fun D nD=>?_⟩
    refine lc_draw (n:=n) (l:=l) (fun H v (x:Rat)=>IsQ H v x∧FM.B 44 x∧x.den ∣ 60) (fun H1 H2 v x t r=>⟨r.1.tk t,r.2⟩) h1000 (fun σ=>∃ u,σ=[u,some (.ref l)]) ⟨_,rfl⟩ nD hl (fun i H2 k hi=>hi) (fun H2 k=>Nat.le_refl _) (fun i x σ2 H2 H3 C hi k2 l2 y o c=>?_) (fun H2 vs ys k2 l2 e2 hy a2=>?_)
    · obtain ⟨u,rfl⟩:=o
      obtain ⟨rfl,rfl⟩:=y
      exact ⟨_,rfl,l,rfl,l2,fun H5 p x k5 l5 hp hB=>c _ _ _ x ⟨_,rfl⟩ k5 l5 ⟨⟨p,rfl,hp⟩,hB⟩⟩
    · refine ⟨D,vs,rfl,.inl ⟨SqL.of e2,fun t nt=>?_⟩⟩
      have s3:Same H2 (upd H2 t (.tup vs)):=Same.new nt
      refine q _ t vs ys (k2.trans s3.keep) (l2.same s3) upd_same (a2.imp fun v x r=>r.1.tk s3.tk) hy fun x hx=>?_
      obtain ⟨i,hi,e⟩:=List.getElem_of_mem hx
      obtain ⟨v,_,r⟩:=a2.got (show ys[i]? = some x by rw [List.getElem?_eq_getElem hi,e])
      exact r.2
abbrev s__law_same:Stmt:=top 63
theorem ok__law_same (F:Fun K "_law_same" "_law_same" s__law_same f fd):FnOk P w K mg base CX0 1 f fd ["_law_found","_law_due"] sp_sameR:=by
 have sc:FnScope ["_law_found","_law_due"] ["_law_found","_law_due"] (defScope s__law_same):=fsc (by decide +kernel)
 refine F.ok sc (fun vs H Q E h=>?_) (fun cdv A outer s H vs Q E hr h=>?_)
 · obtain ⟨u,v,d,rfl,_⟩:=h
   rfl
 · obtain ⟨u,v,d,rfl,h1,h2,q⟩:=h
   have nd:=sc.nd
   have hu:=hu_of hr
   have hu1:=Nat.lt_of_succ_lt hu
   refine' ⟨_,?term,?read⟩
   case term =>
    refine' @L2.pss_one _ _ _ (ps_ret (pe_cmpR op_eq (pe_callB (call_reprA hr) rfl T.b_repr bb_repr (pa_cons (pv 0) pa_nil rfl)) (pe_callB (call_reprA hr) rfl T.b_repr bb_repr (pa_cons (pv 1) pa_nil rfl)) (nomark _)))
   case read =>
    refine ⟨_,rfl,u,d,rfl,h1,_,rfl,v,d,rfl,h2,rfl,?_⟩
    rw [decide_eq_true rfl]
    exact q
abbrev s__law_shown:Stmt:=top 70
theorem ok__law_shown (F:Fun K "_law_shown" "_law_shown" s__law_shown f fd):FnOk P w K mg base CX0 1 f fd ["_law_one"] sp_written:=by
 have sc:FnScope ["_law_one"] ["_law_one"] (defScope s__law_shown):=fsc (by decide +kernel)
 refine F.ok sc (fun vs H Q E h=>?_) (fun cdv A outer s H vs Q E hr h=>?_)
 · obtain ⟨p,x,rfl,_⟩:=h
   rfl
 · obtain ⟨p,x,rfl,hp,hx,q⟩:=h
   have nd:=sc.nd
   have hu:=hu_of hr
   have hu1:=Nat.lt_of_succ_lt hu
   refine' ⟨_,?term,?read⟩
   case term =>
    refine' @L2.pss_one _ _ _ ?g1
    case g1 =>
     refine' @L2.ps_ret _ _ _ _ ?g2
     case g2 =>
      refine' @L2.pe_ifExp _ _ _ _ _ _ _ _ ?g3 ?g4 ?g5
      case g3 =>
       refine' @L2.pt_cmpR _ _ _ _ _ _ _ _ op_eq ?g6 pe_int (nomark _)
       case g6 =>
        refine' @L2.pe_ix _ _ _ _ _ _ _ ix_tup (pv 0) pe_int (fun _ _=>rfl)
      case g4 =>
       refine' @L2.pe_callTy _ _ _ _ _ _ _ _ _ call_str_int rfl T.b_str bb_str ?g7 (by decide) (by decide) (by rfl) (by rfl)
       case g7 =>
        refine' @L2.pa_cons _ _ _ _ _ ?g8 pa_nil rfl
        case g8 =>
         refine' @L2.pe_ix _ _ _ _ _ _ _ ix_tup (pv 0) pe_int (fun _ _=>rfl)
      case g5 =>
       refine' @L2.pe_op _ _ _ _ _ _ _ _ op_add_str ?g9 ?ga
       case g9 =>
        refine' @L2.pe_op _ _ _ _ _ _ _ _ op_add_str ?gb pe_str
        case gb =>
         refine' @L2.pe_callTy _ _ _ _ _ _ _ _ _ call_str_int rfl T.b_str bb_str ?gc (by decide) (by decide) (by rfl) (by rfl)
         case gc =>
          refine' @L2.pa_cons _ _ _ _ _ ?gd pa_nil rfl
          case gd =>
           refine' @L2.pe_ix _ _ _ _ _ _ _ ix_tup (pv 0) pe_int (fun _ _=>rfl)
       case ga =>
        refine' @L2.pe_callTy _ _ _ _ _ _ _ _ _ call_str_int rfl T.b_str bb_str ?ge (by decide) (by decide) (by rfl) (by rfl)
        case ge =>
         refine' @L2.pa_cons _ _ _ _ _ ?gf pa_nil rfl
         case gf =>
          refine' @L2.pe_ix _ _ _ _ _ _ _ ix_tup (pv 0) pe_int (fun _ _=>rfl)
   case read =>
    have hd:((x.den:Int)).natAbs < 10 ^ 60:=by have:=hx.2; omega
    have l1:=wd_len60 hx.1
    have l2:=wd_len60 hd
    have l3:(Str.ofString "/").length=1:=by decide +kernel
    have sl:=sizeLine_eq
    refine ⟨_,rfl,p,_,1,_,rfl,rfl,SqT.of hp,rfl,rfl,_,rfl,?_⟩
    by_cases c:x.den=1
    · have e:tw x=wd x.num:=if_pos c
      rw [e] at q
      rw [show decide (V.int (x.den:Int)=V.int 1)=true from decide_eq_true (by rw [c]; rfl)]
      exact iteT ⟨_,rfl,p,_,0,_,rfl,rfl,SqT.of hp,rfl,_,rfl,lg60 hx.1,q _ (Same.refl H)⟩
    · have e:tw x=wd x.num++⟨#[47]⟩++wd x.den:=if_neg c
      rw [e] at q
      rw [show decide (V.int (x.den:Int)=V.int 1)=false from decide_eq_false fun z=>c (by have:=V.int.inj z; omega)]
      refine iteF ⟨_,rfl,p,_,0,_,rfl,rfl,SqT.of hp,rfl,_,rfl,lg60 hx.1,_,_,rfl,rfl,by show (wd _).length+_≤_; omega,?_⟩
      refine ⟨_,rfl,p,_,1,_,rfl,rfl,SqT.of hp,rfl,_,rfl,lg60 hd,_,_,rfl,rfl,by rw [Str.length_append]; show (wd _).length+_+(wd _).length≤_; omega,?_⟩
      rw [s_bar]
      exact q _ (Same.refl H)
abbrev s__law_row_text:Stmt:=top 71
theorem ok__law_row_text (F:Fun K "_law_row_text" "_law_row_text" s__law_row_text f fd) (C__law_shown:Cal P w K mg base "_law_shown" 1 ["_law_one"] sp_written):FnOk P w K mg base CX0 2 f fd ["_law_spot"] sp_rowWr:=by
 have sc:FnScope ["_law_spot"] ["_law_spot"] (defScope s__law_row_text):=fsc (by decide +kernel)
 refine F.ok sc (fun vs H Q E h=>?_) (fun cdv A outer s H vs Q E hr h=>?_)
 · obtain ⟨a,us,qs,rfl,_⟩:=h
   rfl
 · obtain ⟨a,us,qs,rfl,ha,al,hn,hs,q⟩:=h
   have nd:=sc.nd
   have hu:=hu_of hr
   have hu1:=Nat.lt_of_succ_lt hu
   refine' ⟨_,?term,?read⟩
   case term =>
    refine' @L2.pss_one _ _ _ ?g1
    case g1 =>
     refine' @L2.ps_ret _ _ _ _ ?g2
     case g2 =>
      refine' @L2.pe_ifExp _ _ _ _ _ _ _ _ (pt_cmpR (op_neG eqT_Q (hu_d2 hr)) (pv 0) (pe_tup pa_nil) (nomark _)) ?g3 pe_str
      case g3 =>
       refine' @L2.pe_bm _ _ _ _ _ _ _ _ _ _ _ _ PySem.F.plainAttrs_str PySem.F.slot_str_join PySem.F.type_str_join mt_join pe_str ?g4 (by rfl) (by rfl) (by rfl) (by rfl) (by rfl)
       case g4 =>
        refine' @L2.pa_cons _ _ _ _ _ ?g5 pa_nil rfl
        case g5 =>
         refine' @L2.pe_lc _ _ _ _ _ _ _ (["_law_one"]) ([none]) _ _ _ _ _ rfl (lcs_plain (by decide) rfl (by decide) rfl rfl) (pi_tup (pv 0)) (fun _ _ _ _=>(pg_name (i:=0) (show List.Nodup (["_law_one"]:List Str) by decide) rfl (Or.inl rfl) (Or.inr rfl))) (fun _ _ _ _=>pifs_nil) (fun _ _ _ _=>(pe_cal C__law_shown hr (by decide) rfl (pa_cons (pv 0) pa_nil rfl))) (by intro _ ; rfl)
   case read =>
    have l1:=al.1
    refine ⟨_,rfl,by show 0≤sizeLine; decide,fun T nT=>?_⟩
    have S1:Same H (upd H T (.tup [])):=Same.new nT
    have e1:=upd_same (H:=H) (a:=T) (o:=.tup [])
    generalize upd H T (.tup [])=H1 at S1 e1 ⊢
    refine ⟨qs,[],⟨a,us,rfl,S1 _ _ ha,al.imp fun v x r=>r.tk S1.tk⟩,⟨T,[],rfl,e1,.nil⟩,_,rfl,?_⟩
    by_cases c:qs=[]
    · rw [show rw' qs=⟨#[45]⟩ from if_pos c] at q
      rw [if_pos rfl,decide_eq_true c]
      exact iteF (by rw [s_dash]; exact q _ S1)
    · rw [show rw' qs=Str.join ⟨#[32]⟩ (qs.map tw) from if_neg c] at q
      rw [if_pos rfl,decide_eq_false c]
      refine iteT ⟨rfl,_,rfl,a,rfl,⟨_,SqT.of (S1 _ _ ha)⟩,fun D nD=>?_⟩
      refine lc_T (k:=.t) (vs:=us) IsS hIsS (qs.map tw) (by simp; omega) (by omega) nD (S1 _ _ ha) (fun i w H2 C hw s2 c=>?_) (fun H2 us' s2 e2 a2=>?_)
      · obtain ⟨x,ex,p,rfl,hp⟩:=al.get hw
        exact ⟨_,rfl,p,x,rfl,s2 _ _ (S1 _ _ hp),hs x (List.mem_of_getElem? ex),fun H3 s3=>c _ _ (tw x) s3 (by rw [List.getElem?_map,ex]; rfl) rfl⟩
      · rw [al_strs a2] at e2
        refine ⟨_,D,qs.map tw,rfl,rfl,SqL.of e2,?_,?_⟩
        · rw [s_sp]
          unfold JoinOk
          rw [Bool.not_eq_true']
          refine StrLaws.joinFits (B:=123) (fun y hy=>?_) (by rw [List.length_map,show (⟨#[32]⟩:Str).length=1 from rfl]; have:=sizeLine_eq; omega)
          obtain ⟨x,hx,rfl⟩:=List.mem_map.mp hy
          exact tw_len (hs x hx)
        · rw [join_nl_eq,s_sp]
          exact q _ (S1.trans s2)
abbrev s__law_number:Stmt:=top 72
theorem ok__law_number (F:Fun K "_law_number" "_law_number" s__law_number f fd):FnOk P w K mg base CX0 1 f fd ["_law_word_here"] sp_numb:=by
 have sc:FnScope ["_law_word_here","_law_body"] ["_law_word_here"] (defScope s__law_number):=fsc (by decide +kernel)
 refine F.ok sc (fun vs H Q E h=>?_) (fun cdv A outer s H vs Q E hr h=>?_)
 · obtain ⟨z,rfl,_⟩:=h
   rfl
 · obtain ⟨z,rfl,hl,ha,q⟩:=h
   have nd:=sc.nd
   have hu:=hu_of hr
   have hu1:=Nat.lt_of_succ_lt hu
   refine' ⟨_,?term,?read⟩
   case term =>
    refine' @L2.pss_cons _ _ _ _ _ ?g1 ?g2
    case g1 =>
     refine' @L2.ps_set _ _ (1) _ _ _ _ nd rfl (Or.inl rfl) ?g3 (by rfl) (by first | exact Or.inl rfl | exact Or.inr rfl | assumption)
     case g3 =>
      refine' @L2.pe_ifExp _ _ _ _ _ _ _ _ ?g4 ?g5 (pv 0)
      case g4 =>
       refine' @L2.pt_cmpR _ _ _ _ _ _ _ _ op_eq ?g6 pe_str (nomark _)
       case g6 =>
        refine' @L2.pe_slice _ _ _ _ _ _ _ _ _ _ sl_str (pv 0) po_none (po_some pe_int)
      case g5 =>
       refine' @L2.pe_slice _ _ _ _ _ _ _ _ _ _ sl_str (pv 0) (po_some pe_int) po_none
    case g2 =>
     refine' @L2.pss_cons _ _ _ _ _ ?g7 ?g8
     case g7 =>
      refine' @L2.ps_if _ _ _ _ _ _ _ _ ?g9 (pss_one (ps_ret pe_non)) pss_nil
      case g9 =>
       refine' @L2.PW.pt _ _ _ ?ga
       case ga =>
        refine' @L2.pw_or _ _ _ _ _ _ _ (pt_cmpR op_eq (pv 1) pe_str (nomark _)) ?gb
        case gb =>
         refine' @L2.pw_or _ _ _ _ _ _ _ ?gc ?gd
         case gc =>
          refine' @L2.pt_cmpR _ _ _ _ _ _ _ _ (op_neLG eqT_str (hu_d1 hr)) ?ge ?gf (nomark _)
          case ge =>
           refine' @L2.pe_lc _ _ _ _ _ _ _ (["_law_sign"]) ([none]) _ _ _ _ _ rfl (lcs_plain (by decide) rfl (by decide) rfl rfl) (pi_str (pv 1)) (fun _ _ _ _=>(pg_name (i:=0) (show List.Nodup (["_law_sign"]:List Str) by decide) rfl (Or.inl rfl) (Or.inr rfl))) (fun _ _ _ _=>(pifs_one (pt_cmpR op_notin_str (pv 0) pe_str rfl))) (fun _ _ _ _=>(pv 0)) (by intro _ ; rfl)
          case gf =>
           refine' @L2.pe_lst _ _ _ _ pa_nil
         case gd =>
          refine' @L2.pw_or1 _ _ _ _ ?gg
          case gg =>
           refine' @L2.PW.pt _ _ _ ?gh
           case gh =>
            refine' @L2.pw_and _ _ _ _ _ _ _ ?gi ?gj
            case gi =>
             refine' @L2.pt_cmpR _ _ _ _ _ _ _ _ op_eq ?gk pe_str (nomark _)
             case gk =>
              refine' @L2.pe_ix _ _ _ _ _ _ _ ix_str (pv 1) pe_int (fun _ _=>rfl)
            case gj =>
             refine' @L2.pw_and1 _ _ _ _ (pt_cmpR op_ne (pv 0) pe_str (nomark _))
     case g8 =>
      refine' @L2.pss_one _ _ _ ?gl
      case gl =>
       refine' @L2.ps_ret _ _ _ _ ?gm
       case gm =>
        refine' @L2.pe_ifExp _ _ _ _ _ _ _ _ (pt_cmpR op_eq (pv 1) (pv 0) (nomark _)) (pe_callTy call_intN rfl T.b_int bb_int (pa_cons (pv 1) pa_nil rfl)) (pe_op op_sub pe_int (pe_callTy call_intN rfl T.b_int bb_int (pa_cons (pv 1) pa_nil rfl)))
   case read =>
    have sz:=sz_str hl (by decide)
    refine asg_inv0 (fun v H1=>H1=H∧∃ b:Str,v=.str b∧b.cps.toList=bodyL z.cps.toList) (fun Q' key=>?_) (fun v H1 hv=>?_)
    · refine ⟨_,rfl,_,rfl,z,rfl,sz,rfl,_,rfl,?_⟩
      rw [sl_head]
      by_cases c:z.cps.toList.head? = some 45
      · rw [decide_eq_true c]
        exact iteT ⟨_,rfl,_,rfl,z,rfl,sz,key _ _ ⟨rfl,_,rfl,by rw [sl_tail z c]; unfold bodyL; rw [if_pos c]⟩⟩
      · rw [decide_eq_false c]
        exact iteF ⟨_,rfl,key _ _ ⟨rfl,z,rfl,by unfold bodyL; rw [if_neg c]⟩⟩
    obtain ⟨rfl,b,rfl,eb⟩:=hv
    refine gset (σ':=[some (.str z),some (.str b)]) rfl ?_
    have ab:b.cps.all (· < 128)=true:=by
     rw [← Array.all_toList,eb]
     have az:z.cps.all (· < 128)=true:=ha
     rw [← Array.all_toList] at az
     refine List.all_eq_true.mpr fun c hc=>List.all_eq_true.mp az c ?_
     unfold bodyL at hc
     split at hc
     · exact List.mem_of_mem_tail hc
     · exact hc
    have lb:b.length≤z.length:=by
     rw [len_eq,len_eq,eb]
     unfold bodyL
     split
     · rw [List.length_tail]; omega
     · exact Nat.le_refl _
    have sb:b.length≤sizeLine:=by omega
    refine ifs_inv0 (fun c H2=>Same H1 H2∧c = !(okD (bodyL z.cps.toList) && !(decide ((bodyL z.cps.toList).head? = some 48) && decide (z.cps.toList≠[48])))) (fun H2 h2=>?_) (fun H2 h2=>?_) (fun Q' key=>?_)
    · obtain ⟨s2,hc⟩:=h2
      have:wS z=none:=by unfold wS wL; rw [if_neg (by intro w; rw [w] at hc; cases hc)]
      rw [this] at q
      exact q _ s2
    · obtain ⟨s2,hc⟩:=h2
      have hc':(okD (bodyL z.cps.toList) && !(decide ((bodyL z.cps.toList).head? = some 48) && decide (z.cps.toList≠[48])))=true:=by
       cases w:(okD (bodyL z.cps.toList) && !(decide ((bodyL z.cps.toList).head? = some 48) && decide (z.cps.toList≠[48]))) with
       | true=>rfl
       | false=>rw [w] at hc; cases hc
      have ew:wS z=some (if z.cps.toList.head? = some 45 then -((NumText.digitsVal (bodyL z.cps.toList):Nat):Int) else ((NumText.digitsVal (bodyL z.cps.toList):Nat):Int)):=by unfold wS wL; rw [if_pos hc']
      rw [ew] at q
      have ok:okD b.cps.toList=true:=by rw [eb]; exact (Bool.and_eq_true_iff.mp hc').1
      have iv:=okD_int ok (by omega)
      rw [eb] at iv
      refine ⟨_,rfl,_,rfl,rfl,_,rfl,?_⟩
      by_cases c:z.cps.toList.head? = some 45
      · rw [if_pos c] at q
        rw [show decide (V.str b=V.str z)=false from decide_eq_false fun w=>by
         have w:=V.str.inj w
         rw [w] at eb
         unfold bodyL at eb
         rw [if_pos c] at eb
         cases hz:z.cps.toList with
         | nil=>rw [hz] at c; cases c
         | cons x l=>rw [hz] at eb; have:=congrArg List.length eb; simp at this]
        refine iteF ⟨_,rfl,b,_,rfl,ab,iv,_,_,rfl,rfl,?_⟩
        show Q (.int (0 - _)) H2
        rw [Int.zero_sub]
        exact q _ s2
      · rw [if_neg c] at q
        rw [show decide (V.str b=V.str z)=true from decide_eq_true (congrArg V.str (str_eq (by rw [eb]; unfold bodyL; rw [if_neg c])))]
        exact iteT ⟨_,rfl,b,_,rfl,ab,iv,q _ s2⟩
    · refine ⟨_,rfl,rfl,_,rfl,?_⟩
      have ebn:decide (V.str b=V.str (Str.ofString ""))=(bodyL z.cps.toList).isEmpty:=by
       rw [← eb,show Str.ofString "" = Str.empty by decide +kernel]
       by_cases c:b=Str.empty
       · rw [c]; rfl
       · rw [decide_eq_false fun w=>c (V.str.inj w)]
         cases hb:b.cps.toList with
         | nil=>exact absurd (str_eq hb) c
         | cons _ _=>rfl
      rw [ebn]
      cases e0:(bodyL z.cps.toList).isEmpty with
      | true=>exact iteT (key _ _ ⟨Same.refl _,by unfold okD; rw [e0]; rfl⟩)
      | false =>
      refine iteF ⟨_,rfl,b,rfl,ab,fun D nD=>?_⟩
      have bl:b.cps.size=b.cps.toList.length:=by simp
      refine lc_gen (n:=b.cps.size) (fun i σ H2=>Same H1 H2∧(∃ u,σ=[u])∧H2 D=some (.lst (((noD (b.cps.toList.take i)).map fun c=>V.str ⟨#[c]⟩)))) ⟨Same.new nD,⟨_,rfl⟩,upd_same⟩ (fun i σ H2 hi p=>hi) (fun σ H2 p=>Nat.le_refl _) (fun i x σ2 H2 H3 hi y p=>?_) (fun σ2 H2 p=>?_)
      · obtain ⟨rfl,c,ec,rfl⟩:=y
        obtain ⟨s2,⟨u,rfl⟩,e2⟩:=p
        have ec':b.cps.toList[i]? = some c:=by rw [Array.getElem?_toList]; exact ec
        have hi':i < b.cps.toList.length:=by omega
        have et:b.cps.toList.take (i+1)=b.cps.toList.take i++[c]:=by
         rw [List.take_succ_eq_append_getElem hi']
         rw [List.getElem?_eq_getElem hi'] at ec'
         rw [Option.some.inj ec']
        have c128:c < 128:=by
         rw [← Array.all_toList] at ab
         exact of_decide_eq_true (List.all_eq_true.mp ab c (List.mem_of_getElem? ec'))
        refine ⟨_,rfl,_,_,rfl,rfl,_,rfl,?_⟩
        rw [occ_dig c c128,Bool.not_not]
        have sn:=nd_snoc (b.cps.toList.take i) c
        cases ed:isD c with
        | true =>
          rw [ed,if_pos rfl] at sn
          refine iteF ⟨_,Nat.sub_lt_sub_left hi (Nat.lt_succ_self i),hi,rfl,s2,⟨_,rfl⟩,?_⟩
          rw [et,sn]; exact e2
        | false =>
          rw [ed,if_neg (by decide)] at sn
          refine iteT ⟨_,rfl,lcN_push hi e2 ?_ ⟨fun w o e=>?_,⟨_,rfl⟩,?_⟩⟩
          · rw [List.length_map]
            have:=List.length_filter_le (fun c=>!isD c) (b.cps.toList.take i)
            rw [List.length_take] at this
            have:(noD (b.cps.toList.take i)).length≤i:=by unfold noD; omega
            have:b.cps.size=b.length:=rfl
            omega
          · rw [upd_ne (ne_of_none e nD)]; exact s2 _ _ e
          · rw [upd_same,et,sn,List.map_append]; rfl
      · obtain ⟨s2,_,e2⟩:=p
        rw [bl,List.take_length] at e2
        refine ⟨by show 0≤sizeLine; decide,fun M nM=>?_⟩
        have s3:Same H2 (upd H2 M (.lst [])):=Same.new nM
        refine ⟨D,M,_,_,noD b.cps.toList |>.map fun c=>(⟨#[c]⟩:Str),[],rfl,rfl,s3 _ _ e2,upd_same,?_,.nil,_,rfl,?_⟩
        · refine ⟨by simp,fun i v x h1 h2=>?_⟩
          rw [List.getElem?_map] at h1 h2
          obtain ⟨c1,f1,rfl⟩:=Option.map_eq_some_iff.mp h1
          obtain ⟨c2,f2,rfl⟩:=Option.map_eq_some_iff.mp h2
          rw [f1] at f2; cases f2; rfl
        generalize upd H2 M (.lst [])=H3 at s3
        have s13:=s2.trans s3
        rw [if_pos rfl,show decide (List.map (fun c=>(⟨#[c]⟩:Str)) (noD b.cps.toList)=[])=(bodyL z.cps.toList).all isD by rw [← eb,← nd_iff]; exact decide_eq_decide.mpr List.map_eq_nil_iff]
        have eok:okD (bodyL z.cps.toList)=(bodyL z.cps.toList).all isD:=by unfold okD; rw [e0]; rfl
        rw [← eok]
        cases e1:okD (bodyL z.cps.toList) with
        | false=>exact iteT (key _ _ ⟨s13,by rw [e1]; rfl⟩)
        | true =>
          rw [e1,Bool.true_and] at key
          obtain ⟨c0,r0,er⟩:∃ c0 r0,b.cps.toList=c0 :: r0:=by
           cases hb:b.cps.toList with
           | nil=>rw [← eb,hb] at e0; cases e0
           | cons c r=>exact ⟨c,r,rfl⟩
          refine iteF ⟨_,rfl,b,0,c0,rfl,rfl,sb,by rw [er]; exact atI_nat (j:=0) (xs:=c0 :: r0) rfl,rfl,_,rfl,?_⟩
          have h0:decide (V.str ⟨#[c0]⟩=V.str (Str.ofString "0"))=decide ((bodyL z.cps.toList).head? = some 48):=by
           rw [s_nought,← eb,er]
           refine decide_eq_decide.mpr ⟨fun w=>?_,fun w=>?_⟩
           · have:=V.str.inj w
             injection this with this
             injection this with this
             cases this; rfl
           · cases w; rfl
          rw [h0]
          by_cases c:(bodyL z.cps.toList).head? = some 48
          · rw [decide_eq_true c,Bool.true_and] at key
            rw [decide_eq_true c]
            refine iteT ⟨_,rfl,rfl,_,rfl,key _ _ ⟨s13,?_⟩⟩
            rw [Bool.not_not]
            by_cases c2:z.cps.toList=[48]
            · rw [show z=⟨#[48]⟩ from str_eq c2]; decide
            · rw [decide_eq_true (show z.cps.toList≠[48] from c2),show decide (V.str z=V.str (Str.ofString "0"))=false from decide_eq_false fun e=>c2 (by rw [s_nought] at e; rw [V.str.inj e])]; rfl
          · rw [decide_eq_false c,Bool.false_and] at key
            rw [decide_eq_false c]
            exact iteF (key _ _ ⟨s13,rfl⟩)
abbrev s__law_read_one:Stmt:=top 73
theorem ok__law_read_one (F:Fun K "_law_read_one" "_law_read_one" s__law_read_one f fd) (C__law_low:Cal P w K mg base "_law_low" 1 ["_law_top","_law_bottom"] sp_low) (C__law_number:Cal P w K mg base "_law_number" 1 ["_law_word_here"] sp_numb):FnOk P w K mg base CX0 2 f fd ["_law_word_here"] sp_rdOne:=by
 have sc:FnScope ["_law_word_here","_law_pieced","_law_found"] ["_law_word_here"] (defScope s__law_read_one):=fsc (by decide +kernel)
 refine F.ok sc (fun vs H Q E h=>?_) (fun cdv A outer s H vs Q E hr h=>?_)
 · obtain ⟨z,rfl,_⟩:=h
   rfl
 · obtain ⟨z,rfl,hl,ha,q⟩:=h
   have nd:=sc.nd
   have hu:=hu_of hr
   have hu1:=Nat.lt_of_succ_lt hu
   refine' ⟨_,?term,?read⟩
   case term =>
    refine' @L2.pss_cons _ _ _ _ _ ?g1 ?g2
    case g1 =>
     refine' @L2.ps_lcS _ _ _ _ _ _ _ _ _ _ (["_law_one"]) ([none]) _ _ _ _ _ _ rfl rfl (pg_name (i:=1) nd rfl (Or.inl rfl)) (lcs_plain (by decide) rfl (by decide) rfl rfl) ?g3 (fun _ _ _ _=>(pg_name (i:=0) (show List.Nodup (["_law_one"]:List Str) by decide) rfl (Or.inl rfl) (Or.inr rfl))) (fun _ _ _ _=>pifs_nil) (fun _ _ _ _=>(pe_cal C__law_number hr (by decide) rfl (pa_cons (pv 0) pa_nil rfl))) (by intro _ ; rfl)
     case g3 =>
      refine' @L2.pi_list _ _ _ _ ?g4
      case g4 =>
       refine' @L2.pe_bm _ _ _ _ _ _ _ _ _ _ _ _ PySem.F.plainAttrs_str PySem.F.slot_str_split PySem.F.type_str_split mt_split (pv 0) (pa_cons pe_str pa_nil rfl) (by rfl) (by rfl) (by rfl) (by rfl) (by rfl)
    case g2 =>
     refine' @L2.pss_cons _ _ _ _ _ ?g5 ?g6
     case g5 =>
      refine' @L2.ps_if _ _ _ _ _ _ _ _ ?g7 (pss_one (ps_ret pe_non)) pss_nil
      case g7 =>
       refine' @L2.PW.pt _ _ _ ?g8
       case g8 =>
        refine' @L2.pw_or _ _ _ _ _ _ _ (pt_cmpR op_in_seq pe_non (pv 1) rfl) ?g9
        case g9 =>
         refine' @L2.pw_or _ _ _ _ _ _ _ (pt_cmpR op_gt (pe_callB call_len_seq rfl T.b_len bb_len (pa_cons (pv 1) pa_nil rfl)) pe_int (nomark _)) ?ga
         case ga =>
          refine' @L2.pw_or1 _ _ _ _ ?gb
          case gb =>
           refine' @L2.PW.pt _ _ _ ?gc
           case gc =>
            refine' @L2.pw_and _ _ _ _ _ _ _ (pt_cmpR op_eq (pe_callB call_len_seq rfl T.b_len bb_len (pa_cons (pv 1) pa_nil rfl)) pe_int (nomark _)) ?gd
            case gd =>
             refine' @L2.pw_and1 _ _ _ _ ?ge
             case ge =>
              refine' @L2.pt_cmpR _ _ _ _ _ _ _ _ op_lt ?gf pe_int (nomark _)
              case gf =>
               refine' @L2.pe_ix _ _ _ _ _ _ _ ix_list (pv 1) pe_int (fun _ _=>rfl)
     case g6 =>
      refine' @L2.pss_cons _ _ _ _ _ ?gg ?gh
      case gg =>
       refine' @L2.ps_set _ _ (2) _ _ _ _ nd rfl (Or.inl rfl) ?gi (by rfl) (by first | exact Or.inl rfl | exact Or.inr rfl | assumption)
       case gi =>
        refine' @L2.pe_tup _ _ _ _ _ ?gj
        case gj =>
         refine' @L2.pa_cons _ _ _ _ _ ?gk ?gl rfl
         case gk =>
          refine' @L2.pe_ix _ _ _ _ _ _ _ ix_list ?gm pe_int (fun _ _=>rfl)
          case gm =>
           refine' @L2.pe_op _ _ _ _ _ _ _ _ op_cat (pv 1) ?gn
           case gn =>
            refine' @L2.pe_lst _ _ _ _ (pa_cons pe_int pa_nil rfl)
         case gl =>
          refine' @L2.pa_cons _ _ _ _ _ ?go pa_nil rfl
          case go =>
           refine' @L2.pe_ix _ _ _ _ _ _ _ ix_list ?gp pe_int (fun _ _=>rfl)
           case gp =>
            refine' @L2.pe_op _ _ _ _ _ _ _ _ op_cat (pv 1) ?gq
            case gq =>
             refine' @L2.pe_lst _ _ _ _ (pa_cons pe_int pa_nil rfl)
      case gh =>
       refine' @L2.pss_one _ _ _ ?gr
       case gr =>
        refine' @L2.ps_ret _ _ _ _ ?gs
        case gs =>
         refine' @L2.pe_ifExp _ _ _ _ _ _ _ _ ?gt (pv 2) pe_non
         case gt =>
          refine' @L2.pt_cmpR _ _ _ _ _ _ _ _ (op_eqT (Nat.lt_of_succ_lt hu)) ?gu (pv 2) (nomark _)
          case gu =>
           refine' @L2.pe_cal _ _ _ _ _ _ _ _ _ _ _ C__law_low hr (by decide) rfl ?gv (by decide) (by rfl) (by rfl)
           case gv =>
            refine' @L2.pa_cons _ _ _ _ _ ?gw ?gx rfl
            case gw =>
             refine' @L2.pe_ix _ _ _ _ _ _ _ ix_tup (pv 2) pe_int (fun _ _=>rfl)
            case gx =>
             refine' @L2.pa_cons _ _ _ _ _ ?gy pa_nil rfl
             case gy =>
              refine' @L2.pe_ix _ _ _ _ _ _ _ ix_tup (pv 2) pe_int (fun _ _=>rfl)
   case read =>
    have sz:=sz_str (n:=1200) (x:=z) (by omega) (by decide)
    obtain ⟨n1,n2⟩:=split_sizes z 47
    refine ⟨_,rfl,rfl,z,_,rfl,rfl,by decide +kernel,sz,by rw [s_bar]; have:=sizeLine_eq; omega,?_⟩
    rw [s_bar]
    intro p np
    have S1:Same H (upd H p (.lst ((Txt.split z ⟨#[47]⟩).map V.str))):=Same.new np
    have e1:=upd_same (H:=H) (a:=p) (o:=.lst ((Txt.split z ⟨#[47]⟩).map V.str))
    generalize upd H p (.lst ((Txt.split z ⟨#[47]⟩).map V.str))=H1 at S1 e1 ⊢
    refine ⟨p,rfl,⟨_,SqL.of e1⟩,fun D nD=>?_⟩
    refine lc_T (k:=.l) (vs:=(Txt.split z ⟨#[47]⟩).map V.str) IsO hIsO ((Txt.split z ⟨#[47]⟩).map wS) (by simp) (by rw [List.length_map]; omega) nD e1 (fun i w H2 C hw s2 c=>?_) (fun H2 us s2 e2 a2=>?_)
    · rw [List.getElem?_map] at hw
      obtain ⟨y,ey,rfl⟩:=Option.map_eq_some_iff.mp hw
      have my:=List.mem_of_getElem? ey
      exact ⟨_,rfl,y,rfl,by have:=n2 y my; omega,split_asc ha my,fun H3 s3=>c _ _ (wS y) s3 (by rw [List.getElem?_map,ey]; rfl) rfl⟩
    have S2:=S1.trans s2
    refine gset (σ':=[some (.str z),some (.ref D),none]) rfl ?_
    have bd:∀ i:Int,some i∈(Txt.split z ⟨#[47]⟩).map wS→i.natAbs < 2 ^ 3990:=fun i hi=>by
     obtain ⟨y,hy,e⟩:=List.mem_map.mp hi
     exact p1200 (wL_len e) (by rw [← len_eq]; have:=n2 y hy; omega)
    have ne:(Txt.split z ⟨#[47]⟩).map wS≠[]:=by simpa using split_ne z 47
    rw [al_opts a2] at e2
    have ef:fS z=frL ((Txt.split z ⟨#[47]⟩).map wS):=rfl
    rw [ef] at q
    have ll:((Txt.split z ⟨#[47]⟩).map wS).length≤1000:=by rw [List.length_map]; omega
    generalize (Txt.split z ⟨#[47]⟩).map wS=l at bd ne e2 q ll
    refine ifs_invS (fun c H3=>H3=H2∧(c=true→frL l=none)∧(c=false→∃ t b:Int,atI (l.map optV++[.int 1]) 0=some (.int t)∧atI (l.map optV++[.int 1]) 1=some (.int b)∧1≤b∧b.natAbs < 2 ^ 3990∧frL l=if Int.gcd t b=1 then some (t,b) else none)) (fun H3 h3=>?_) (fun H3 h3=>?_) (fun Q' key=>?_)
    · obtain ⟨rfl,h3,_⟩:=h3
      rw [h3 rfl] at q
      exact q _ _ S2 rfl
    · obtain ⟨rfl,_,h3⟩:=h3
      obtain ⟨t,b,a0,a1,b1,bb,ef⟩:=h3 rfl
      rw [ef] at q
      have hz:∀ n:Nat,(l.map optV).length+[V.int 1].length≤sizeLine:=fun n=>by rw [List.length_map]; show l.length+1≤_; have:=sizeLine_eq; omega
      refine ⟨_,rfl,by show 1≤sizeLine; decide,fun M nM=>?_⟩
      have s4:Same H3 (upd H3 M (.lst [.int 1])):=Same.new nM
      have e4:=upd_same (H:=H3) (a:=M) (o:=.lst [.int 1])
      generalize upd H3 M (.lst [.int 1])=H4 at s4 e4 ⊢
      refine ⟨D,M,_,_,rfl,rfl,s4 _ _ e2,e4,hz 0,fun M2 nM2=>?_⟩
      have s5:Same H4 (upd H4 M2 (.lst (l.map optV++[.int 1]))):=Same.new nM2
      have e5:=upd_same (H:=H4) (a:=M2) (o:=.lst (l.map optV++[.int 1]))
      generalize upd H4 M2 (.lst (l.map optV++[.int 1]))=H5 at s5 e5 ⊢
      refine ⟨M2,_,0,_,rfl,rfl,SqL.of e5,a0,?_⟩
      refine ⟨_,rfl,by show 1≤sizeLine; decide,fun M3 nM3=>?_⟩
      have s6:Same H5 (upd H5 M3 (.lst [.int 1])):=Same.new nM3
      have e6:=upd_same (H:=H5) (a:=M3) (o:=.lst [.int 1])
      generalize upd H5 M3 (.lst [.int 1])=H6 at s6 e6 ⊢
      refine ⟨D,M3,_,_,rfl,rfl,s6 _ _ (s5 _ _ (s4 _ _ e2)),e6,hz 0,fun M4 nM4=>?_⟩
      have s7:Same H6 (upd H6 M4 (.lst (l.map optV++[.int 1]))):=Same.new nM4
      have e7:=upd_same (H:=H6) (a:=M4) (o:=.lst (l.map optV++[.int 1]))
      generalize upd H6 M4 (.lst (l.map optV++[.int 1]))=H7 at s7 e7 ⊢
      refine ⟨M4,_,1,_,rfl,rfl,SqL.of e7,a1,by show 2≤sizeLine; decide,fun T nT=>?_⟩
      have s8:Same H7 (upd H7 T (.tup [.int t,.int b])):=Same.new nT
      have e8:=upd_same (H:=H7) (a:=T) (o:=.tup [.int t,.int b])
      generalize upd H7 T (.tup [.int t,.int b])=H8 at s8 e8 ⊢
      have S8:=S2.trans (s4.trans (s5.trans (s6.trans (s7.trans s8))))
      refine gset (σ':=[some (.str z),some (.ref D),some (.ref T)]) rfl ?_
      refine ⟨_,rfl,T,_,0,_,rfl,rfl,SqT.of e8,rfl,_,rfl,T,_,1,_,rfl,rfl,SqT.of e8,rfl,t,b,rfl,by omega,Nat.lt_of_lt_of_le bb (Nat.pow_le_pow_right (by decide) (by decide)),fun r H9 s9 e9=>?_⟩
      refine ⟨_,rfl,r,T,[(Rat.divInt t b).num,((Rat.divInt t b).den:Int)],[t,b],rfl,rfl,SqT.of e9,SqT.of (s9 _ _ e8),_,rfl,?_⟩
      rw [if_neg (by decide),fr_low (by omega),decide_eq_true b1,Bool.true_and]
      by_cases c:Int.gcd t b=1
      · rw [if_pos c] at q
        rw [decide_eq_true c]
        exact iteT ⟨_,rfl,q _ _ (S8.trans s9) ⟨T,rfl,s9 _ _ e8⟩⟩
      · rw [if_neg c] at q
        rw [decide_eq_false c]
        exact iteF (q _ _ (S8.trans s9) rfl)
    · refine ⟨_,rfl,D,_,rfl,.inl (SqL.of e2),rfl,opt_flat l,_,rfl,?_⟩
      rw [if_neg (by decide),opt_in]
      rcases opt_shape l with ⟨h,e⟩ | ⟨ts,rfl⟩
      · rw [h]
        exact iteT (key _ _ ⟨rfl,fun _=>e,fun z=>by cases z⟩)
      · rw [ts_none]
        refine iteF ⟨_,rfl,D,_,rfl,.inl (SqL.of e2),_,_,rfl,rfl,_,rfl,?_⟩
        have len:((ts.map some).map optV).length=ts.length:=by simp
        rw [len]
        by_cases c:2 < (ts.length:Int)
        · rw [decide_eq_true c]
          refine iteT (key _ _ ⟨rfl,fun _=>?_,fun z=>by cases z⟩)
          match ts,c with
          | [],c=>simp at c
          | [_],c=>simp at c
          | [_,_],c=>simp at c
          | _ :: _ :: _ :: _,_=>rfl
        · rw [decide_eq_false c]
          refine iteF ⟨_,rfl,D,_,rfl,.inl (SqL.of e2),rfl,_,rfl,?_⟩
          rw [len]
          match ts,c with
          | [],_=>exact absurd rfl ne
          | [t],_ =>
            refine iteF (key _ _ ⟨rfl,fun z=>(by cases z),fun _=>⟨t,1,rfl,rfl,by decide,Nat.one_lt_two_pow (by decide),?_⟩⟩)
            rw [if_pos (by simp)]; rfl
          | [t,b],_ =>
            refine iteT ⟨_,rfl,D,_,1,.int b,rfl,rfl,SqL.of e2,rfl,_,_,rfl,rfl,_,rfl,key _ _ ⟨rfl,fun z=>?_,fun z=>⟨t,b,rfl,rfl,?_,bd b (by simp),?_⟩⟩⟩
            · have:=of_decide_eq_true z
              exact if_neg (by omega)
            · have:=of_decide_eq_false z
              omega
            · have:=of_decide_eq_false z
              show (if 2≤b∧Int.gcd t b=1 then some (t,b) else none)=_
              by_cases c:Int.gcd t b=1
              · rw [if_pos c,if_pos ⟨by omega,c⟩]
              · rw [if_neg c,if_neg fun w=>c w.2]
          | _ :: _ :: _ :: _,c=>exact absurd (by simp; omega) c
abbrev s__law_row_due:Stmt:=top 74
theorem ok__law_row_due (F:Fun K "_law_row_due" "_law_row_due" s__law_row_due f fd) (C__law_read_one:Cal P w K mg base "_law_read_one" 2 ["_law_word_here"] sp_rdOne):FnOk P w K mg base CX0 3 f fd ["_law_thing"] (sp_due rowO):=by
 have sc:FnScope ["_law_thing","_law_found"] ["_law_thing"] (defScope s__law_row_due):=fsc (by decide +kernel)
 refine F.ok sc (fun vs H Q E h=>?_) (fun cdv A outer s H vs Q E hr h=>?_)
 · obtain ⟨N,k,v,d,rfl,_⟩:=h
   rfl
 · obtain ⟨N,k,v,d,rfl,h,ht,q⟩:=h
   have nd:=sc.nd
   have hu:=hu_of hr
   have hu1:=Nat.lt_of_succ_lt hu
   refine' ⟨_,?term,?read⟩
   case term =>
    refine' @L2.pss_cons _ _ _ _ _ ?g1 ?g2
    case g1 =>
     refine' @L2.ps_if _ _ _ _ _ _ _ _ ?g3 (pss_one (ps_ret (pe_tup (pa_cons pe_str (pa_cons pe_int pa_nil rfl) rfl)))) pss_nil
     case g3 =>
      refine' @L2.pt_not _ _ _ _ ?g4
      case g4 =>
       refine' @L2.pt_truth _ _ _ (pe_callB call_isi rfl T.b_isinstance bb_isinstance (pa_cons (pv 0) (pa_cons (pe_bltn (v:=.ty "str") rfl T.b_str bb_str rfl) pa_nil rfl) rfl)) (fun _=>rfl)
    case g2 =>
     refine' @L2.pss_cons _ _ _ _ _ ?g5 ?g6
     case g5 =>
      refine' @L2.ps_set _ _ (1) _ _ _ _ nd rfl (Or.inl rfl) ?g7 (by rfl) (by first | exact Or.inl rfl | exact Or.inr rfl | assumption)
      case g7 =>
       refine' @L2.pe_ifExp _ _ _ _ _ _ _ _ (pt_cmpR op_ne (pv 0) pe_str (nomark _)) ?g8 ?g9
       case g8 =>
        refine' @L2.pe_lc _ _ _ _ _ _ _ (["_law_word_here"]) ([none]) _ _ _ _ _ rfl (lcs_plain (by decide) rfl (by decide) rfl rfl) ?ga (fun _ _ _ _=>(pg_name (i:=0) (show List.Nodup (["_law_word_here"]:List Str) by decide) rfl (Or.inl rfl) (Or.inr rfl))) (fun _ _ _ _=>pifs_nil) (fun _ _ _ _=>(pe_cal C__law_read_one hr (by decide) rfl (pa_cons (pv 0) pa_nil rfl))) (by intro _ ; rfl)
        case ga =>
         refine' @L2.pi_list _ _ _ _ ?gb
         case gb =>
          refine' @L2.pe_bm _ _ _ _ _ _ _ _ _ _ _ _ PySem.F.plainAttrs_str PySem.F.slot_str_split PySem.F.type_str_split mt_split (pv 0) (pa_cons pe_str pa_nil rfl) (by rfl) (by rfl) (by rfl) (by rfl) (by rfl)
       case g9 =>
        refine' @L2.pe_lst _ _ _ _ pa_nil
     case g6 =>
      refine' @L2.pss_one _ _ _ ?gc
      case gc =>
       refine' @L2.ps_ret _ _ _ _ ?gd
       case gd =>
        refine' @L2.pe_ifExp _ _ _ _ _ _ _ _ (pt_cmpR (op_noneIn hu) pe_non (pv 1) rfl) (pe_tup (pa_cons pe_str (pa_cons pe_int pa_nil rfl) rfl)) ?ge
        case ge =>
         refine' @L2.pe_lst _ _ _ _ (pa_cons (pe_callTy call_tuple_of rfl T.b_tuple bb_tuple (pa_cons (pv 1) pa_nil rfl)) pa_nil rfl)
   case read =>
    cases hd:isSt d with
    | false =>
      obtain ⟨t,ty,ki⟩:=tyS (K:=K) h
      rw [hd] at ki
      refine ⟨_,rfl,_,_,t,_,rfl,ty,ki,_,rfl,iteT ?_⟩
      refine ⟨by show 2≤sizeLine; decide,fun T nT=>q _ _ (Same.new nT) ?_⟩
      rw [show rowO d=.bad 0 by cases d <;> first | rfl | (cases hd)]
      exact rp_bad (by decide) upd_same
    | true =>
    obtain ⟨z,rfl,rfl⟩:∃ z,d=.str z∧v=.str z:=by
     cases h <;> first | exact ⟨_,rfl,rfl⟩ | (cases hd)
    obtain ⟨hl,ha⟩:=ht z rfl
    refine ⟨_,rfl,_,_,_,_,rfl,TyOf.str z,rfl,true,rfl,iteF ?_⟩
    have sz:=sz_str (x:=z) (n:=1200) (by omega) (by decide)
    refine asg_inv (fun v H1=>∃ (L:Addr) (us:List V) (ws:List Str),v=.ref L∧Same H H1∧H1 L=some (.lst us)∧Al (FrV H1) us (ws.map fS)∧(∀ w∈ws,w.length≤1200)∧rS z=allS (ws.map fS)) (fun Q' key=>?_) (fun v H1 hv=>?_)
    · refine ⟨_,rfl,rfl,_,rfl,?_⟩
      by_cases c:z=⟨#[45]⟩
      · rw [show decide (V.str z=V.str (Str.ofString "-"))=true from decide_eq_true (by rw [c,s_dash])]
        refine iteF ⟨by show 0≤sizeLine; decide,fun L nL=>?_⟩
        exact key _ _ ⟨L,[],[],rfl,Same.new nL,upd_same,.nil,fun w hw=>(by cases hw),by unfold rS; rw [if_pos c]; rfl⟩
      · rw [show decide (V.str z=V.str (Str.ofString "-"))=false from decide_eq_false fun w=>c (by rw [V.str.inj w,s_dash])]
        obtain ⟨n1,n2⟩:=split_sizes z 32
        refine iteT ⟨_,rfl,rfl,z,_,rfl,rfl,by decide +kernel,sz,?_,?_⟩
        · rw [s_sp]; have:=sizeLine_eq; omega
        rw [s_sp]
        intro p np
        have S1:Same H (upd H p (.lst ((Txt.split z ⟨#[32]⟩).map V.str))):=Same.new np
        have e1:=upd_same (H:=H) (a:=p) (o:=.lst ((Txt.split z ⟨#[32]⟩).map V.str))
        generalize upd H p (.lst ((Txt.split z ⟨#[32]⟩).map V.str))=H1 at S1 e1 ⊢
        refine ⟨p,rfl,⟨_,SqL.of e1⟩,fun D nD=>?_⟩
        refine lc_T (k:=.l) (vs:=(Txt.split z ⟨#[32]⟩).map V.str) FrV (fun H1 H2 v x t r=>FrV.tk t r) ((Txt.split z ⟨#[32]⟩).map fS) (by simp) (by rw [List.length_map]; omega) nD e1 (fun i w H2 C hw s2 c=>?_) (fun H2 us s2 e2 a2=>?_)
        · rw [List.getElem?_map] at hw
          obtain ⟨y,ey,rfl⟩:=Option.map_eq_some_iff.mp hw
          have my:=List.mem_of_getElem? ey
          exact ⟨_,rfl,y,rfl,by have:=n2 y my; omega,split_asc ha my,fun v H3 s3 f=>c _ _ (fS y) s3 (by rw [List.getElem?_map,ey]; rfl) f⟩
        · exact key _ _ ⟨D,us,_,rfl,S1.trans s2,e2,a2,fun w hw=>(by have:=n2 w hw; omega),by unfold rS; rw [if_neg c]⟩
    · obtain ⟨L,us,ws,rfl,s1,e1,al,hw,er⟩:=hv
      refine gset (σ':=[some (.str z),some (.ref L)]) rfl ?_
      obtain ⟨h1,h2,h3⟩:=fr_all hw al
      refine ⟨_,rfl,L,us,rfl,rfl,e1,h1,_,rfl,?_⟩
      rw [h2]
      rw [rowO_str,er] at q
      cases ea:allS (ws.map fS) with
      | none =>
        rw [ea] at q
        exact iteT ⟨by show 2≤sizeLine; decide,fun T nT=>q _ _ (s1.trans (Same.new nT)) (rp_bad (by decide) upd_same)⟩
      | some l =>
        rw [ea] at q er
        have ln:=rS_len er
        refine iteF ⟨_,rfl,L,us,rfl,.inl ⟨SqL.of e1,fun t nt=>?_⟩⟩
        have s2:Same H1 (upd H1 t (.tup us)):=Same.new nt
        have e2:=upd_same (H:=H1) (a:=t) (o:=.tup us)
        generalize upd H1 t (.tup us)=H2 at s2 e2 ⊢
        refine ⟨by show 1≤sizeLine; decide,fun M nM=>q _ _ (s1.trans (s2.trans (Same.new nM))) ?_⟩
        exact rp_list upd_same (fun N=>.tup (Same.new nM _ _ e2) ((h3 l ea N).same (s2.trans (Same.new nM)))) (ro_row (by omega))
abbrev s__law_one_due:Stmt:=top 75
theorem ok__law_one_due (F:Fun K "_law_one_due" "_law_one_due" s__law_one_due f fd) (C__law_read_one:Cal P w K mg base "_law_read_one" 2 ["_law_word_here"] sp_rdOne):FnOk P w K mg base CX0 3 f fd ["_law_thing"] (sp_due oneO):=by
 have sc:FnScope ["_law_thing","_law_found"] ["_law_thing"] (defScope s__law_one_due):=fsc (by decide +kernel)
 refine F.ok sc (fun vs H Q E h=>?_) (fun cdv A outer s H vs Q E hr h=>?_)
 · obtain ⟨N,k,v,d,rfl,_⟩:=h
   rfl
 · obtain ⟨N,k,v,d,rfl,h,ht,q⟩:=h
   have nd:=sc.nd
   have hu:=hu_of hr
   have hu1:=Nat.lt_of_succ_lt hu
   refine' ⟨_,?term,?read⟩
   case term =>
    refine' @L2.pss_cons _ _ _ _ _ ?g1 ?g2
    case g1 =>
     refine' @L2.ps_if _ _ _ _ _ _ _ _ ?g3 (pss_one (ps_ret (pe_tup (pa_cons pe_str (pa_cons pe_int pa_nil rfl) rfl)))) pss_nil
     case g3 =>
      refine' @L2.pt_not _ _ _ _ ?g4
      case g4 =>
       refine' @L2.pt_truth _ _ _ (pe_callB call_isi rfl T.b_isinstance bb_isinstance (pa_cons (pv 0) (pa_cons (pe_bltn (v:=.ty "str") rfl T.b_str bb_str rfl) pa_nil rfl) rfl)) (fun _=>rfl)
    case g2 =>
     refine' @L2.pss_cons _ _ _ _ _ ?g5 ?g6
     case g5 =>
      refine' @L2.ps_set _ _ (1) _ _ _ _ nd rfl (Or.inl rfl) (pe_cal C__law_read_one hr (by decide) rfl (pa_cons (pv 0) pa_nil rfl)) (by rfl) (by first | exact Or.inl rfl | exact Or.inr rfl | assumption)
     case g6 =>
      refine' @L2.pss_one _ _ _ ?g7
      case g7 =>
       refine' @L2.ps_ret _ _ _ _ ?g8
       case g8 =>
        refine' @L2.pe_ifExp _ _ _ _ _ _ _ _ (pt_cmpR op_isN (pv 1) pe_non (nomark _)) (pe_tup (pa_cons pe_str (pa_cons pe_int pa_nil rfl) rfl)) ?g9
        case g9 =>
         refine' @L2.pe_lst _ _ _ _ (pa_cons (pv 1) pa_nil rfl)
   case read =>
    cases hd:isSt d with
    | false =>
      obtain ⟨t,ty,ki⟩:=tyS (K:=K) h
      rw [hd] at ki
      refine ⟨_,rfl,_,_,t,_,rfl,ty,ki,_,rfl,iteT ?_⟩
      refine ⟨by show 2≤sizeLine; decide,fun T nT=>q _ _ (Same.new nT) ?_⟩
      rw [show oneO d=.bad 0 by cases d <;> first | rfl | (cases hd)]
      exact rp_bad (by decide) upd_same
    | true =>
    obtain ⟨z,rfl,rfl⟩:∃ z,d=.str z∧v=.str z:=by
     cases h <;> first | exact ⟨_,rfl,rfl⟩ | (cases hd)
    obtain ⟨hl,ha⟩:=ht z rfl
    refine ⟨_,rfl,_,_,_,_,rfl,TyOf.str z,rfl,true,rfl,iteF ?_⟩
    refine ⟨_,rfl,z,rfl,hl,ha,fun v H1 s1 f=>gset (σ':=[some (.str z),some v]) rfl ?_⟩
    refine ⟨_,rfl,rfl,_,rfl,?_⟩
    rw [oneO_str] at q
    cases ef:fS z with
    | none =>
      rw [ef] at q f
      obtain rfl:v=.non:=f
      exact iteT ⟨by show 2≤sizeLine; decide,fun T nT=>q _ _ (s1.trans (Same.new nT)) (rp_bad (by decide) upd_same)⟩
    | some x =>
      rw [ef] at q f
      have dt:=frV_dt (by omega) ef f
      obtain ⟨p,rfl,hp⟩:=f
      refine iteF ⟨_,rfl,by show 1≤sizeLine; decide,fun L nL=>q _ _ (s1.trans (Same.new nL)) ?_⟩
      exact rp_list upd_same (fun N=>(dt N).same (Same.new nL)) (ro_fr x)
abbrev s__law_turned_text:Stmt:=top 76
theorem ok__law_turned_text (F:Fun K "_law_turned_text" "_law_turned_text" s__law_turned_text f fd) (C__law_choice:Cal P w K mg base "_law_choice" 1 ["_law_state_here","_law_many"] sp_choice):FnOk P w K mg base CX0 2 f fd ["_law_state_here","_law_wording"] sp_turned:=by
 have sc:FnScope ["_law_state_here","_law_wording","_law_signs","_law_at","_law_sign","_law_some"] ["_law_state_here","_law_wording"] (defScope s__law_turned_text):=fsc (by decide +kernel)
 refine F.ok sc (fun vs H Q E h=>?_) (fun cdv A outer s H vs Q E hr h=>?_)
 · obtain ⟨l,z,rfl,_⟩:=h
   rfl
 · obtain ⟨l,z,rfl,hl,hz,ha,q⟩:=h
   have nd:=sc.nd
   have hu:=hu_of hr
   have hu1:=Nat.lt_of_succ_lt hu
   refine' ⟨_,?term,?read⟩
   case term =>
    refine' @L2.pss_cons _ _ _ _ _ ?g1 ?g2
    case g1 =>
     refine' @L2.ps_set _ _ (2) _ _ _ _ nd rfl (Or.inl rfl) pe_str (by rfl) (by first | exact Or.inl rfl | exact Or.inr rfl | assumption)
    case g2 =>
     refine' @L2.pss_cons _ _ _ _ _ ?g3 ?g4
     case g3 =>
      refine' @L2.ps_par _ _ (3) (4) _ _ _ _ _ _ _ _ _ _ _ rfl nd rfl rfl (by decide) rfl rfl ?g5 rfl (by rfl)
      case g5 =>
       refine' @L2.pa_cons _ _ _ _ _ (pe_cal C__law_choice hr (by decide) rfl (pa_cons (pv 0) (pa_cons (pe_op op_add (pe_callB call_len_str rfl T.b_len bb_len (pa_cons (pv 1) pa_nil rfl)) pe_int) pa_nil rfl) rfl)) ?g6 rfl
       case g6 =>
        refine' @L2.pa_cons _ _ _ _ _ ?g7 pa_nil rfl
        case g7 =>
         refine' @L2.pe_ix _ _ _ _ _ _ _ ix_str (pv 2) (pe_cal C__law_choice hr (by decide) rfl (pa_cons (pv 0) (pa_cons (pe_callB call_len_str rfl T.b_len bb_len (pa_cons (pv 2) pa_nil rfl)) pa_nil rfl) rfl)) (fun _ _=>rfl)
     case g4 =>
      refine' @L2.pss_cons _ _ _ _ _ ?g8 ?g9
      case g8 =>
       refine' @L2.ps_set _ _ (5) _ _ _ _ nd rfl (Or.inl rfl) ?ga (by rfl) (by first | exact Or.inl rfl | exact Or.inr rfl | assumption)
       case ga =>
        refine' @L2.pe_lst _ _ _ _ ?gb
        case gb =>
         refine' @L2.pa_cons _ _ _ _ _ ?gc ?gd rfl
         case gc =>
          refine' @L2.pe_op _ _ _ _ _ _ _ _ op_add_str ?ge ?gf
          case ge =>
           refine' @L2.pe_op _ _ _ _ _ _ _ _ op_add_str ?gg (pv 4)
           case gg =>
            refine' @L2.pe_slice _ _ _ _ _ _ _ _ _ _ sl_str (pv 1) po_none (po_some (pv 3))
          case gf =>
           refine' @L2.pe_slice _ _ _ _ _ _ _ _ _ _ sl_str (pv 1) (po_some (pv 3)) po_none
         case gd =>
          refine' @L2.pa_cons _ _ _ _ _ ?gh pa_nil rfl
          case gh =>
           refine' @L2.pe_op _ _ _ _ _ _ _ _ op_add_str ?gi ?gj
           case gi =>
            refine' @L2.pe_slice _ _ _ _ _ _ _ _ _ _ sl_str (pv 1) po_none (po_some (pv 3))
           case gj =>
            refine' @L2.pe_slice _ _ _ _ _ _ _ _ _ _ sl_str (pv 1) (po_some (pe_op op_add (pv 3) pe_int)) po_none
      case g9 =>
       refine' @L2.pss_cons _ _ _ _ _ ?gk ?gl
       case gk =>
        refine' @L2.ps_expr _ _ _ _ ?gm (by rfl)
        case gm =>
         refine' @L2.pe_bm _ _ _ _ _ _ _ _ _ _ _ _ PySem.F.plainAttrs_list PySem.F.slot_list_append PySem.F.type_list_append mt_append (pv 5) ?gn (by rfl) (by rfl) (by rfl) (by rfl) (by rfl)
         case gn =>
          refine' @L2.pa_cons _ _ _ _ _ ?go pa_nil rfl
          case go =>
           refine' @L2.pe_op _ _ _ _ _ _ _ _ op_add_str ?gp ?gq
           case gp =>
            refine' @L2.pe_op _ _ _ _ _ _ _ _ op_add_str ?gr (pv 4)
            case gr =>
             refine' @L2.pe_slice _ _ _ _ _ _ _ _ _ _ sl_str (pv 1) po_none (po_some (pv 3))
           case gq =>
            refine' @L2.pe_slice _ _ _ _ _ _ _ _ _ _ sl_str (pv 1) (po_some (pe_op op_add (pv 3) pe_int)) po_none
       case gl =>
        refine' @L2.pss_cons _ _ _ _ _ ?gs ?gt
        case gs =>
         refine' @L2.ps_expr _ _ _ _ ?gu (by rfl)
         case gu =>
          refine' @L2.pe_bm _ _ _ _ _ _ _ _ _ _ _ _ PySem.F.plainAttrs_list PySem.F.slot_list_append PySem.F.type_list_append mt_append (pv 5) ?gv (by rfl) (by rfl) (by rfl) (by rfl) (by rfl)
          case gv =>
           refine' @L2.pa_cons _ _ _ _ _ ?gw pa_nil rfl
           case gw =>
            refine' @L2.pe_op _ _ _ _ _ _ _ _ op_add_str (pv 1) ?gx
            case gx =>
             refine' @L2.pe_slice _ _ _ _ _ _ _ _ _ _ sl_str (pv 1) po_none (po_some (pv 3))
        case gt =>
         refine' @L2.pss_one _ _ _ ?gy
         case gy =>
          refine' @L2.ps_ret _ _ _ _ ?gz
          case gz =>
           refine' @L2.pe_ix _ _ _ _ _ _ _ ix_list (pv 5) (pe_cal C__law_choice hr (by decide) rfl (pa_cons (pv 0) (pa_cons pe_int pa_nil rfl) rfl)) (fun _ _=>rfl)
   case read =>
    have sz:=sz_str (n:=1200) (x:=z) (by omega) (by decide)
    have sl:=sizeLine_eq
    refine gset (σ':=[some (.ref l),some (.str z),some (.str sgs),none,none,none]) rfl ?_
    refine ⟨_,rfl,_,rfl,z,rfl,sz,_,_,rfl,rfl,l,_,rfl,hl,by omega,lt8999 (by rw [p64]; omega),fun r1 H1 a1 b1 k1 l1=>?_⟩
    refine ⟨_,rfl,_,rfl,_,rfl,sgs,rfl,by rw [show sgs.length=18 by decide +kernel]; omega,l,_,rfl,l1,by rw [show sgs.length=18 by decide +kernel]; decide,by rw [show sgs.length=18 by decide +kernel]; exact lt8999 (by decide),fun r2 H2 a2 b2 k2 l2=>?_⟩
    rw [show ((sgs.length:Nat):Int)=18 by rw [show sgs.length=18 by decide +kernel]; rfl] at b2
    obtain ⟨c,ec,hc⟩:=sgs_at a2 b2
    refine ⟨sgs,r2,c,rfl,rfl,by rw [show sgs.length=18 by decide +kernel]; omega,ec,_,_,rfl,?_⟩
    refine gset (σ':=[some (.ref l),some (.str z),some (.str sgs),some (.int r1),some (.str ⟨#[c]⟩),none]) rfl ?_
    have ag:asc ⟨#[c]⟩:=by show (#[c]).all (· < 128)=true; simp [hc]
    have lg:(⟨#[c]⟩:Str).length=1:=rfl
    obtain ⟨aP,lP⟩:=slice_sub (l:=none) (u:=some r1) ha
    obtain ⟨aR,lR⟩:=slice_sub (l:=some r1) (u:=none) ha
    obtain ⟨aS,lS⟩:=slice_sub (l:=some (r1+1)) (u:=none) ha
    refine ⟨_,rfl,_,rfl,_,rfl,z,rfl,sz,_,rfl,_,_,rfl,rfl,by omega,_,rfl,_,rfl,_,rfl,z,rfl,sz,_,_,rfl,rfl,by rw [Str.length_append]; omega,_,rfl,_,rfl,_,rfl,z,rfl,sz,_,rfl,_,rfl,_,_,rfl,rfl,_,rfl,z,rfl,sz,_,_,rfl,rfl,by omega,by show 2≤sizeLine; decide,fun L nL=>?_⟩
    refine gset (σ':=[some (.ref l),some (.str z),some (.str sgs),some (.int r1),some (.str ⟨#[c]⟩),some (.ref L)]) rfl ?_
    have nl:L≠l:=(l2.ne nL).symm
    have fr:∀ (X Y:Hp) o,Same H2 X→X L≠none→Y=upd X L o→Same H2 Y:=fun X Y o sx _ ey b u e=>by
     rw [ey,upd_ne (ne_of_none e nL)]; exact sx _ _ e
    generalize hH3:upd H2 L _=H3
    have e3:H3 L=some (.lst [.str (Txt.slice z none (some r1)++⟨#[c]⟩++Txt.slice z (some r1) none),.str (Txt.slice z none (some r1)++Txt.slice z (some (r1+1)) none)]):=by rw [← hH3]; exact upd_same
    have S3:Same H2 H3:=by rw [← hH3]; exact Same.new nL
    clear hH3
    refine ⟨_,rfl,.inl ⟨rfl,_,SqL.of e3⟩,_,rfl,_,rfl,_,rfl,z,rfl,sz,_,rfl,_,_,rfl,rfl,by omega,_,rfl,_,rfl,_,_,rfl,rfl,_,rfl,z,rfl,sz,_,_,rfl,rfl,by rw [Str.length_append]; omega,L,_,_,rfl,rfl,e3,by show 2 < sizeLine; decide,?_⟩
    generalize hH4:upd H3 L _=H4
    have e4:H4 L=some (.lst [.str (Txt.slice z none (some r1)++⟨#[c]⟩++Txt.slice z (some r1) none),.str (Txt.slice z none (some r1)++Txt.slice z (some (r1+1)) none),.str (Txt.slice z none (some r1)++⟨#[c]⟩++Txt.slice z (some (r1+1)) none)]):=by rw [← hH4]; exact upd_same
    have S4:Same H2 H4:=fr H3 H4 _ S3 (by rw [e3]; simp) hH4.symm
    clear hH4
    refine ⟨_,rfl,.inl ⟨rfl,_,SqL.of e4⟩,_,rfl,_,rfl,_,rfl,_,rfl,z,rfl,sz,_,_,rfl,rfl,by omega,L,_,_,rfl,rfl,e4,by show 3 < sizeLine; decide,?_⟩
    generalize hH5:upd H4 L _=H5
    have e5:H5 L=some (.lst [.str (Txt.slice z none (some r1)++⟨#[c]⟩++Txt.slice z (some r1) none),.str (Txt.slice z none (some r1)++Txt.slice z (some (r1+1)) none),.str (Txt.slice z none (some r1)++⟨#[c]⟩++Txt.slice z (some (r1+1)) none),.str (z++Txt.slice z none (some r1))]):=by rw [← hH5]; exact upd_same
    have S5:Same H2 H5:=fr H4 H5 _ S4 (by rw [e4]; simp) hH5.symm
    clear hH5
    refine ⟨_,rfl,_,rfl,l,4,rfl,l2.same S5,by decide,lt8999 (by decide),fun r3 H6 a3 b3 k3 l3=>?_⟩
    have e6:=k3 _ _ nl e5
    have kk:=k1.trans (k2.trans (S5.keep.trans k3))
    have h4:r3=0∨r3=1∨r3=2∨r3=3:=by omega
    rcases h4 with rfl | rfl | rfl | rfl
    · exact ⟨L,_,0,_,rfl,rfl,SqL.of e6,rfl,q _ _ kk l3 (by rw [Str.length_append,Str.length_append]; omega) (asc_app (asc_app aP ag) aR)⟩
    · exact ⟨L,_,1,_,rfl,rfl,SqL.of e6,rfl,q _ _ kk l3 (by rw [Str.length_append]; omega) (asc_app aP aS)⟩
    · exact ⟨L,_,2,_,rfl,rfl,SqL.of e6,rfl,q _ _ kk l3 (by rw [Str.length_append,Str.length_append]; omega) (asc_app (asc_app aP ag) aS)⟩
    · exact ⟨L,_,3,_,rfl,rfl,SqL.of e6,rfl,q _ _ kk l3 (by rw [Str.length_append]; omega) (asc_app ha aP)⟩
abbrev s__law_right:Stmt:=top 77
theorem ok__law_right (F:Fun K "_law_right" "_law_right" s__law_right f fd) {cl:Str→Addr} (Z:Ek K mg cl) {cc Ph:Addr} (hcd:fd.code=.ref cc) (CK:∀ h,K.In h→PySem.W.CodeHd h cc Ph) (BK:BltK K mg) (X_read_rowX:CalX P w K mg base "read_row" 6 ["text"] (sp_readX rowO (cl "NoText"))) (X_read_fractionX:CalX P w K mg base "read_fraction" 6 ["text"] (sp_readX oneO (cl "NoText"))) (C__law_one_due:Cal P w K mg base "_law_one_due" 3 ["_law_thing"] (sp_due oneO)) (C__law_row_due:Cal P w K mg base "_law_row_due" 3 ["_law_thing"] (sp_due rowO)) (C__law_said:Cal P w K mg base "_law_said" 9 ["_law_call"] (sp_said P w K mg base cl)) (C__law_same:Cal P w K mg base "_law_same" 1 ["_law_found","_law_due"] sp_sameR):FnOk P w K mg base CX0 11 f fd ["_law_thing"] (sp_right Ph):=by
 have sc:FnScope ["_law_thing"] ["_law_thing"] (defScope s__law_right):=fsc (by decide +kernel)
 refine F.okC sc (fun vs H Q E h=>?_) (fun cdv ecd A outer s H vs Q E hr h=>?_)
 · obtain ⟨N,k,v,d,rfl,_⟩:=h
   rfl
 · obtain ⟨N,k,v,d,rfl,h,ht,tb,q⟩:=h
   have nd:=sc.nd
   have hu:=hu_of hr
   have hu1:=Nat.lt_of_succ_lt hu
   refine' ⟨_,?term,?read⟩
   case term =>
    refine' @L2.pss_cons _ _ _ _ _ ?g1 (pss_one (ps_ret (pe_cal C__law_same hr (by decide) rfl (pa_cons (pe_fix (i:=0) rfl rfl rfl rfl (pe_cal C__law_said hr (by decide) rfl (pa_cons (pe_lam (cc:=cc) (P:=Ph) (q := "_law_right.<locals>.<lambda>") rfl rfl (ecd.symm.trans hcd) rfl CK BK) pa_nil rfl))) (pa_cons (pe_cal C__law_one_due hr (by decide) rfl (pa_cons (pv 0) pa_nil rfl)) pa_nil rfl) rfl))))
    case g1 =>
     refine' @L2.ps_if _ _ _ _ _ _ _ _ ?g2 (pss_one (ps_ret pe_bl)) pss_nil
     case g2 =>
      refine' @L2.pt_not _ _ _ _ ?g3
      case g3 =>
       refine' @L2.pt_truth _ _ _ (pe_cal C__law_same hr (by decide) rfl (pa_cons (pe_fix (i:=0) rfl rfl rfl rfl (pe_cal C__law_said hr (by decide) rfl (pa_cons (pe_lam (cc:=cc) (P:=Ph) (q := "_law_right.<locals>.<lambda>") rfl rfl (ecd.symm.trans hcd) rfl CK BK) pa_nil rfl))) (pa_cons (pe_cal C__law_row_due hr (by decide) rfl (pa_cons (pv 0) pa_nil rfl)) pa_nil rfl) rfl)) (fun _=>rfl)
   case read =>
    refine if_call ?_
    refine fix_out Z (fun r e=>ro_rowO ht e) (fun n e=>bad_row e) ?_ tb h ht (fun a=>lamRow (c:=s.heap.objs.size+1) X_read_rowX) (fun a=>spT_mono fun _=>readX_mono) (fun a F Q1 E1 lf cf s=>⟨lf,v,cf,s⟩) (fun u H1 k1 t1 rp1=>?_)
    · rfl
    have h1:=h.keepT tb k1
    refine ⟨_,rfl,N,k,v,d,rfl,h1,ht,fun u2 H2 s2 rp2=>⟨u,u2,_,rfl,rpSame s2 rp1,rp2,_,rfl,iteF ?_⟩⟩
    have h2:=h1.same s2
    have t2:=t1.same s2
    refine ret_call ?_
    refine fix_out Z (fun r e=>ro_oneO e) (fun n e=>bad_one e) ?_ t2 h2 ht (fun a=>lamOne (c:=s.heap.objs.size+1) X_read_fractionX) (fun a=>spT_mono fun _=>readX_mono) (fun a F Q1 E1 lf cf s=>⟨lf,v,cf,s⟩) (fun u3 H3 k3 t3 rp3=>?_)
    · rfl
    refine ⟨_,rfl,N,k,v,d,rfl,h2.keepT t2 k3,ht,fun u4 H4 s4 rp4=>⟨u3,u4,_,rfl,rpSame s4 rp3,rp4,q _ (fun b o n e=>s4 _ _ (k3 b o n (s2 _ _ (k1 b o n e)))) (t3.same s4)⟩⟩
abbrev s__law_whole:Stmt:=top 68
theorem ok__law_whole (F:Fun K "_law_whole" "_law_whole" s__law_whole f fd):FnOk P w K mg base CX0 1 f fd ["_law_thing"] sp_wholeD:=by
 have sc:FnScope ["_law_thing"] ["_law_thing"] (defScope s__law_whole):=fsc (by decide +kernel)
 refine F.ok sc (fun vs H Q E h=>?_) (fun cdv A outer s H vs Q E hr h=>?_)
 · obtain ⟨N,k,v,d,rfl,_⟩:=h
   rfl
 · obtain ⟨N,k,v,d,rfl,h,q⟩:=h
   have nd:=sc.nd
   have hu:=hu_of hr
   have hu1:=Nat.lt_of_succ_lt hu
   refine' ⟨_,?term,?read⟩
   case term =>
    refine' @L2.pss_one _ _ _ ?g1
    case g1 =>
     refine' @L2.ps_ret _ _ _ _ ?g2
     case g2 =>
      refine' @L2.pe_and _ _ _ _ _ _ _ (pe_callB call_isi rfl T.b_isinstance bb_isinstance (pa_cons (pv 0) (pa_cons (pe_bltn (v:=.ty "int") rfl T.b_int bb_int rfl) pa_nil rfl) rfl)) ?g3
      case g3 =>
       refine' @L2.pe_one _ _ _ _ _ ?g4
       case g4 =>
        refine' @L2.pe_not _ _ _ _ (pe_callB call_isi rfl T.b_isinstance bb_isinstance (pa_cons (pv 0) (pa_cons (pe_bltn (v:=.ty "bool") rfl T.b_bool bb_bool rfl) pa_nil rfl) rfl))
   case read =>
    cases h with
    | non=>exact ⟨_,rfl,_,_,_,_,rfl,TyOf.non,rfl,false,rfl,iteF q⟩
    | bl b=>exact ⟨_,rfl,_,_,_,_,rfl,TyOf.bl b,rfl,true,rfl,iteT ⟨_,rfl,_,_,_,_,rfl,TyOf.bl b,rfl,true,rfl,q⟩⟩
    | int hi=>exact ⟨_,rfl,_,_,_,_,rfl,TyOf.int _,rfl,true,rfl,iteT ⟨_,rfl,_,_,_,_,rfl,TyOf.int _,rfl,false,rfl,q⟩⟩
    | str x=>exact ⟨_,rfl,_,_,_,_,rfl,TyOf.str x,rfl,false,rfl,iteF q⟩
    | tup h r=>exact ⟨_,rfl,_,_,_,_,rfl,TyOf.tup h,rfl,false,rfl,iteF q⟩
    | lst h n m r=>exact ⟨_,rfl,_,_,_,_,rfl,TyOf.lst h,rfl,false,rfl,iteF q⟩
    | dic h=>exact ⟨_,rfl,_,_,_,_,rfl,TyOf.dK h,rfl,false,rfl,iteF q⟩
abbrev s__law_is_fraction:Stmt:=top 69
theorem ok__law_is_fraction (F:Fun K "_law_is_fraction" "_law_is_fraction" s__law_is_fraction f fd) (C__law_low:Cal P w K mg base "_law_low" 1 ["_law_top","_law_bottom"] sp_low) (C__law_whole:Cal P w K mg base "_law_whole" 1 ["_law_thing"] sp_wholeD):FnOk P w K mg base CX0 2 f fd ["_law_thing"] sp_lawfr:=by
 have sc:FnScope ["_law_thing"] ["_law_thing"] (defScope s__law_is_fraction):=fsc (by decide +kernel)
 refine F.ok sc (fun vs H Q E h=>?_) (fun cdv A outer s H vs Q E hr h=>?_)
 · obtain ⟨N,k,v,d,rfl,_⟩:=h
   rfl
 · obtain ⟨N,k,v,d,rfl,h,hk,q⟩:=h
   have nd:=sc.nd
   have hu:=hu_of hr
   have hu1:=Nat.lt_of_succ_lt hu
   refine' ⟨_,?term,?read⟩
   case term =>
    refine' @L2.pss_cons _ _ _ _ _ ?g1 ?g2
    case g1 =>
     refine' @L2.ps_if _ _ _ _ _ _ _ _ ?g3 (pss_one (ps_ret pe_bl)) pss_nil
     case g3 =>
      refine' @L2.PW.pt _ _ _ ?g4
      case g4 =>
       refine' @L2.pw_or _ _ _ _ _ _ _ ?g5 ?g6
       case g5 =>
        refine' @L2.pt_not _ _ _ _ ?g7
        case g7 =>
         refine' @L2.pt_truth _ _ _ (pe_callB call_isi rfl T.b_isinstance bb_isinstance (pa_cons (pv 0) (pa_cons (pe_bltn (v:=.ty "tuple") rfl T.b_tuple bb_tuple rfl) pa_nil rfl) rfl)) (fun _=>rfl)
       case g6 =>
        refine' @L2.pw_or _ _ _ _ _ _ _ (pt_cmpR op_ne (pe_callB call_len_seq rfl T.b_len bb_len (pa_cons (pv 0) pa_nil rfl)) pe_int (nomark _)) ?g8
        case g8 =>
         refine' @L2.pw_or1 _ _ _ _ ?g9
         case g9 =>
          refine' @L2.pt_not _ _ _ _ ?ga
          case ga =>
           refine' @L2.pt_truth _ _ _ ?gb (fun _=>rfl)
           case gb =>
            refine' @L2.pe_callB _ _ _ _ _ _ _ _ _ (call_allB rfl) rfl T.b_all bb_all ?gc (by decide) (by decide) (by rfl) (by rfl)
            case gc =>
             refine' @L2.pa_cons _ _ _ _ _ ?gd pa_nil rfl
             case gd =>
              refine' @L2.pe_lc _ _ _ _ _ _ _ (["_law_one"]) ([none]) _ _ _ _ _ rfl (lcs_plain (by decide) rfl (by decide) rfl rfl) (pi_tup (pv 0)) (fun _ _ _ _=>(pg_name (i:=0) (show List.Nodup (["_law_one"]:List Str) by decide) rfl (Or.inl rfl) (Or.inr rfl))) (fun _ _ _ _=>pifs_nil) (fun _ _ _ _=>(pe_cal C__law_whole hr (by decide) rfl (pa_cons (pv 0) pa_nil rfl))) (by intro _ ; rfl)
    case g2 =>
     refine' @L2.pss_one _ _ _ ?ge
     case ge =>
      refine' @L2.ps_ret _ _ _ _ ?gf
      case gf =>
       refine' @L2.pe_and _ _ _ _ _ _ _ ?gg ?gh
       case gg =>
        refine' @L2.pe_cmpR _ _ _ _ _ _ _ _ op_gt ?gi pe_int (nomark _)
        case gi =>
         refine' @L2.pe_ix _ _ _ _ _ _ _ ix_tup (pv 0) pe_int (fun _ _=>rfl)
       case gh =>
        refine' @L2.pe_one _ _ _ _ _ ?gj
        case gj =>
         refine' @L2.pe_cmpR _ _ _ _ _ _ _ _ (op_eqT (Nat.lt_of_succ_lt hu)) ?gk (pv 0) (nomark _)
         case gk =>
          refine' @L2.pe_cal _ _ _ _ _ _ _ _ _ _ _ C__law_low hr (by decide) rfl ?gl (by decide) (by rfl) (by rfl)
          case gl =>
           refine' @L2.pa_cons _ _ _ _ _ ?gm ?gn rfl
           case gm =>
            refine' @L2.pe_ix _ _ _ _ _ _ _ ix_tup (pv 0) pe_int (fun _ _=>rfl)
           case gn =>
            refine' @L2.pa_cons _ _ _ _ _ ?go pa_nil rfl
            case go =>
             refine' @L2.pe_ix _ _ _ _ _ _ _ ix_tup (pv 0) pe_int (fun _ _=>rfl)
   case read =>
    rcases h.isT with ⟨p,xs,ds,rfl,rfl,hp,hs⟩ | e
    case inr =>
     obtain ⟨t,ty,ki⟩:=h.ty (K:=K)
     refine ⟨_,rfl,_,_,t,_,rfl,ty,ki,_,rfl,?_⟩
     rw [e]
     have z:isFr d=false:=by cases d <;> first | rfl | (cases e)
     rw [z] at q
     exact iteT (iteT (q _ (Same.refl H)))
    refine ⟨_,rfl,_,_,_,_,rfl,TyOf.tup hp,rfl,true,rfl,iteF ?_⟩
    by_cases h2:xs.length=2
    case neg =>
     rw [hs.len0 h2] at q
     refine ⟨_,rfl,p,_,rfl,.inr (SqT.of hp),rfl,_,rfl,?_⟩
     rw [show decide (V.int (xs.length:Int)=V.int 2)=false from decide_eq_false (fun z=>h2 (by have:=V.int.inj z; omega))]
     exact iteT (iteT (q _ (Same.refl H)))
    obtain ⟨x,y,d1,d2,rfl,rfl,k1,k2⟩:∃ x y d1 d2,xs=[x,y]∧ds=[d1,d2]∧Dt N H k x d1∧Dt N H k y d2:=by
     match xs,ds,hs,h2 with
     | [x,y],[d1,d2],.cons a (.cons b .nil),_=>exact ⟨x,y,d1,d2,rfl,rfl,a,b⟩
    refine ⟨_,rfl,p,_,rfl,.inr (SqT.of hp),rfl,false,rfl,iteF ?_⟩
    refine ⟨_,rfl,p,rfl,⟨_,SqT.of hp⟩,fun D nD=>?_⟩
    refine lc_tup (xs:=[x,y]) (fun n σ2 H2=>Same H H2∧H2 D=some (.lst (([isI d1,isI d2].take n).map V.bl))∧σ2.length=1) ⟨Same.new nD,upd_same,rfl⟩ ?_ ?_ ?_
    · rintro n σ2 H2 _ ⟨s2,_,_⟩
      exact SqT.of (s2 _ _ hp)
    · rintro n z σ2 H2 hn ⟨s2,a2,l2⟩
      obtain ⟨u,rfl⟩:∃ u,σ2=[u]:=by
       match σ2,l2 with
       | [u],_=>exact ⟨u,rfl⟩
      refine gName_yes ?_
      match n,hn with
      | 0,hn =>
        cases (show x=z by simpa using hn)
        refine ⟨_,rfl,N,k,x,d1,rfl,k1.same s2,?_⟩
        refine lcN_push (by show 0 < 2; decide) a2 (by show 0 < sizeLine; decide) ⟨?_,?_,rfl⟩
        · exact fun b o e=>by rw [upd_ne (ne_of_none e nD)]; exact s2 b o e
        · rw [upd_same]; rfl
      | 1,hn =>
        cases (show y=z by simpa using hn)
        refine ⟨_,rfl,N,k,y,d2,rfl,k2.same s2,?_⟩
        refine lcN_push (by show 1 < 2; decide) a2 (by show 1 < sizeLine; decide) ⟨?_,?_,rfl⟩
        · exact fun b o e=>by rw [upd_ne (ne_of_none e nD)]; exact s2 b o e
        · rw [upd_same]; rfl
      | n+2,hn=>simp at hn
    · rintro σ2 H2 ⟨s2,a2,_⟩
      refine ⟨D,[isI d1,isI d2],rfl,SqL.of a2,_,rfl,?_⟩
      rcases k1.isI with ⟨i,rfl,rfl,hi⟩ | e1
      case inr =>
       rw [show List.all [isI d1,isI d2] id=false by simp [e1]]
       have q':=q H2 s2
       rw [fr_1 e1] at q'
       exact iteT q'
      rcases k2.isI with ⟨j,rfl,rfl,hj⟩ | e2
      case inr =>
       rw [show List.all [isI (.int i),isI d2] id=false by simp [e2]]
       have q':=q H2 s2
       rw [fr_2 e2] at q'
       exact iteT q'
      refine iteF ?_
      refine ⟨_,rfl,p,_,1,_,rfl,rfl,SqT.of (s2 _ _ hp),rfl,_,_,rfl,rfl,_,rfl,?_⟩
      refine ite2 (fun hlt=>?_) (fun hlt=>?_)
      · have z:0 < j:=of_decide_eq_true hlt
        refine ⟨_,rfl,p,_,0,_,rfl,rfl,SqT.of (s2 _ _ hp),rfl,_,rfl,p,_,1,_,rfl,rfl,SqT.of (s2 _ _ hp),rfl,i,j,rfl,by omega,lt_8000 hj hk,fun p3 H3 s3 a3=>?_⟩
        refine ⟨_,rfl,p3,p,[(Rat.divInt i j).num,((Rat.divInt i j).den:Int)],[i,j],rfl,rfl,SqT.of a3,SqT.of (s3 _ _ (s2 _ _ hp)),?_⟩
        rw [if_neg (by decide),fr_low z]
        exact q _ (s2.trans s3)
      · have z:¬ 0 < j:=fun z=>hlt (decide_eq_true z)
        have q':=q H2 s2
        have e:isFr (.tuple [.int i,.int j])=false:=by
         show (decide (1≤j) && decide (Int.gcd i j=1))=false
         rw [decide_eq_false (by omega)]; rfl
        rw [e] at q'
        exact q'
abbrev s__law_odd:Stmt:=top 64
theorem ok__law_odd (F:Fun K "_law_odd" "_law_odd" s__law_odd f fd) (C__law_choice:Cal P w K mg base "_law_choice" 1 ["_law_state_here","_law_many"] sp_choice):FnOk P w K mg base CX0 2 f fd ["_law_state_here"] sp_odd:=by
 have sc:FnScope ["_law_state_here","_law_some"] ["_law_state_here"] (defScope s__law_odd):=fsc (by decide +kernel)
 refine F.ok sc (fun vs H Q E h=>?_) (fun cdv A outer s H vs Q E hr h=>?_)
 · obtain ⟨l,N,rfl,_⟩:=h
   rfl
 · obtain ⟨l,N,rfl,hl,hN,hD,q⟩:=h
   have nd:=sc.nd
   have hu:=hu_of hr
   have hu1:=Nat.lt_of_succ_lt hu
   refine' ⟨_,?term,?read⟩
   case term =>
    refine' @L2.pss_cons _ _ _ _ _ ?g1 ?g2
    case g1 =>
     refine' @L2.ps_set _ _ (1) _ _ _ _ nd rfl (Or.inl rfl) ?g3 (by rfl) (by first | exact Or.inl rfl | exact Or.inr rfl | assumption)
     case g3 =>
      refine' @L2.pe_lstN _ _ _ _ ?g4
      case g4 =>
       refine' @L2.pa_cons _ _ _ _ _ pe_non ?g5 rfl
       case g5 =>
        refine' @L2.pa_cons _ _ _ _ _ pe_bl ?g6 rfl
        case g6 =>
         refine' @L2.pa_cons _ _ _ _ _ pe_bl ?g7 rfl
         case g7 =>
          refine' @L2.pa_cons _ _ _ _ _ pe_int ?g8 rfl
          case g8 =>
           refine' @L2.pa_cons _ _ _ _ _ pe_int ?g9 rfl
           case g9 =>
            refine' @L2.pa_cons _ _ _ _ _ (pe_un un_neg pe_int) ?ga rfl
            case ga =>
             refine' @L2.pa_cons _ _ _ _ _ (pe_op op_pow pe_int pe_int) ?gb rfl
             case gb =>
              refine' @L2.pa_cons _ _ _ _ _ pe_str ?gc rfl
              case gc =>
               refine' @L2.pa_cons _ _ _ _ _ pe_str ?gd rfl
               case gd =>
                refine' @L2.pa_cons _ _ _ _ _ (pe_tup pa_nil) ?ge rfl
                case ge =>
                 refine' @L2.pa_cons _ _ _ _ _ ?gf ?gg rfl
                 case gf =>
                  refine' @L2.pe_lstN _ _ _ _ pa_nil
                 case gg =>
                  refine' @L2.pa_cons _ _ _ _ _ pe_dic0 ?gh rfl
                  case gh =>
                   refine' @L2.pa_cons _ _ _ _ _ (pe_tup (pa_cons pe_int (pa_cons pe_int pa_nil rfl) rfl)) ?gi rfl
                   case gi =>
                    refine' @L2.pa_cons _ _ _ _ _ (pe_tup (pa_cons pe_int (pa_cons pe_int pa_nil rfl) rfl)) ?gj rfl
                    case gj =>
                     refine' @L2.pa_cons _ _ _ _ _ ?gk pa_nil rfl
                     case gk =>
                      refine' @L2.pe_lstN _ _ _ _ (pa_cons pe_int (pa_cons pe_int pa_nil rfl) rfl)
    case g2 =>
     refine' @L2.pss_one _ _ _ ?gl
     case gl =>
      refine' @L2.ps_ret _ _ _ _ ?gm
      case gm =>
       refine' @L2.pe_ix _ _ _ _ _ _ _ ix_list ?gn (pe_cal C__law_choice hr (by decide) rfl (pa_cons (pv 0) (pa_cons pe_int pa_nil rfl) rfl)) (fun _ _=>rfl)
       case gn =>
        refine' @L2.pe_op _ _ _ _ _ _ _ _ op_cat (pv 1) ?go
        case go =>
         refine' @L2.pe_lstN _ _ _ _ ?gp
         case gp =>
          refine' @L2.pa_cons _ _ _ _ _ (pe_tup (pa_cons (pe_tup (pa_cons pe_int (pa_cons pe_int pa_nil rfl) rfl)) pa_nil rfl)) (pa_cons (pe_tup (pa_cons pe_int (pa_cons pe_int pa_nil rfl) rfl)) (pa_cons (pe_tup (pa_cons pe_int (pa_cons pe_int pa_nil rfl) rfl)) (pa_cons (pe_tup (pa_cons pe_int (pa_cons pe_int pa_nil rfl) rfl)) (pa_cons (pe_tup (pa_cons pe_bl (pa_cons pe_int pa_nil rfl) rfl)) pa_nil rfl) rfl) rfl) rfl) rfl
   case read =>
    refine ⟨_,rfl,_,_,rfl,rfl,⟨by decide,by decide,by decide⟩,by show 0≤sizeLine; decide,?_⟩
    intro p1 n1
    generalize hH1:upd H p1 _=H1
    have S1:Same H H1:=by (rw [← hH1]; exact Same.new n1)
    have A1:=(congrFun hH1 p1).symm
    rw [upd_same] at A1
    clear hH1
    have st1:=(hl).same S1
    refine ⟨by show 0≤sizeLine; decide,?_⟩
    intro p2 n2 m2
    generalize hH2:upd H1 p2 _=H2
    have S2:Same H1 H2:=by (rw [← hH2]; exact Same.new n2)
    have A2:=(congrFun hH2 p2).symm
    rw [upd_same] at A2
    clear hH2
    have st2:=(st1).same S2
    intro p3 n3
    generalize hH3:upd H2 p3 _=H3
    have S3:Same H2 H3:=by (rw [← hH3]; exact Same.new n3)
    have A3:=(congrFun hH3 p3).symm
    rw [upd_same] at A3
    clear hH3
    have st3:=(st2).same S3
    refine ⟨by show 2≤sizeLine; decide,?_⟩
    intro p4 n4
    generalize hH4:upd H3 p4 _=H4
    have S4:Same H3 H4:=by (rw [← hH4]; exact Same.new n4)
    have A4:=(congrFun hH4 p4).symm
    rw [upd_same] at A4
    clear hH4
    have st4:=(st3).same S4
    refine ⟨by show 2≤sizeLine; decide,?_⟩
    intro p5 n5
    generalize hH5:upd H4 p5 _=H5
    have S5:Same H4 H5:=by (rw [← hH5]; exact Same.new n5)
    have A5:=(congrFun hH5 p5).symm
    rw [upd_same] at A5
    clear hH5
    have st5:=(st4).same S5
    refine ⟨by show 2≤sizeLine; decide,?_⟩
    intro p6 n6 m6
    generalize hH6:upd H5 p6 _=H6
    have S6:Same H5 H6:=by (rw [← hH6]; exact Same.new n6)
    have A6:=(congrFun hH6 p6).symm
    rw [upd_same] at A6
    clear hH6
    have st6:=(st5).same S6
    refine ⟨by show 15≤sizeLine; decide,?_⟩
    intro p7 n7 m7
    generalize hH7:upd H6 p7 _=H7
    have S7:Same H6 H7:=by (rw [← hH7]; exact Same.new n7)
    have A7:=(congrFun hH7 p7).symm
    rw [upd_same] at A7
    clear hH7
    have st7:=(st6).same S7
    refine ⟨_,rfl,by show 2≤sizeLine; decide,?_⟩
    intro p8 n8
    generalize hH8:upd H7 p8 _=H8
    have S8:Same H7 H8:=by (rw [← hH8]; exact Same.new n8)
    have A8:=(congrFun hH8 p8).symm
    rw [upd_same] at A8
    clear hH8
    have st8:=(st7).same S8
    refine ⟨by show 1≤sizeLine; decide,?_⟩
    intro p9 n9
    generalize hH9:upd H8 p9 _=H9
    have S9:Same H8 H9:=by (rw [← hH9]; exact Same.new n9)
    have A9:=(congrFun hH9 p9).symm
    rw [upd_same] at A9
    clear hH9
    have st9:=(st8).same S9
    refine ⟨by show 2≤sizeLine; decide,?_⟩
    intro p10 n10
    generalize hH10:upd H9 p10 _=H10
    have S10:Same H9 H10:=by (rw [← hH10]; exact Same.new n10)
    have A10:=(congrFun hH10 p10).symm
    rw [upd_same] at A10
    clear hH10
    have st10:=(st9).same S10
    refine ⟨by show 2≤sizeLine; decide,?_⟩
    intro p11 n11
    generalize hH11:upd H10 p11 _=H11
    have S11:Same H10 H11:=by (rw [← hH11]; exact Same.new n11)
    have A11:=(congrFun hH11 p11).symm
    rw [upd_same] at A11
    clear hH11
    have st11:=(st10).same S11
    refine ⟨by show 2≤sizeLine; decide,?_⟩
    intro p12 n12
    generalize hH12:upd H11 p12 _=H12
    have S12:Same H11 H12:=by (rw [← hH12]; exact Same.new n12)
    have A12:=(congrFun hH12 p12).symm
    rw [upd_same] at A12
    clear hH12
    have st12:=(st11).same S12
    refine ⟨by show 2≤sizeLine; decide,?_⟩
    intro p13 n13
    generalize hH13:upd H12 p13 _=H13
    have S13:Same H12 H13:=by (rw [← hH13]; exact Same.new n13)
    have A13:=(congrFun hH13 p13).symm
    rw [upd_same] at A13
    clear hH13
    have st13:=(st12).same S13
    refine ⟨by show 5≤sizeLine; decide,?_⟩
    intro p14 n14 m14
    generalize hH14:upd H13 p14 _=H14
    have S14:Same H13 H14:=by (rw [← hH14]; exact Same.new n14)
    have A14:=(congrFun hH14 p14).symm
    rw [upd_same] at A14
    clear hH14
    have st14:=(st13).same S14
    refine ⟨p7,p14,_,_,rfl,rfl,(S14 _ _ (S13 _ _ (S12 _ _ (S11 _ _ (S10 _ _ (S9 _ _ (S8 _ _ A7))))))),A14,by show 20≤sizeLine; decide,?_⟩
    intro p15 n15
    generalize hH15:upd H14 p15 _=H15
    have S15:Same H14 H15:=by (rw [← hH15]; exact Same.new n15)
    have A15:=(congrFun hH15 p15).symm
    rw [upd_same] at A15
    clear hH15
    have st15:=(st14).same S15
    have T1:Tgs N H15 100 2 20 [.non,.bl true,.bl false,.int 0,.int 1,.int (-1),.int (10 ^ Int.toNat 29),.str "",.str "a",.ref p1,.ref p2,.ref p3,.ref p4,.ref p5,.ref p6]:=(Tgs.cons (⟨_,.non,Nat.le_of_ble_eq_true rfl,by decide +kernel⟩) (Tgs.cons (⟨_,(.bl true),Nat.le_of_ble_eq_true rfl,by decide +kernel⟩) (Tgs.cons (⟨_,(.bl false),Nat.le_of_ble_eq_true rfl,by decide +kernel⟩) (Tgs.cons (⟨_,(dint 0 (by decide) (by decide)),Nat.le_of_ble_eq_true rfl,by decide +kernel⟩) (Tgs.cons (⟨_,(dint 1 (by decide) (by decide)),Nat.le_of_ble_eq_true rfl,by decide +kernel⟩) (Tgs.cons (⟨_,(dint (-1) (by decide) (by decide)),Nat.le_of_ble_eq_true rfl,by decide +kernel⟩) (Tgs.cons (⟨_,(dint (10 ^ Int.toNat 29) (by decide) (by decide)),Nat.le_of_ble_eq_true rfl,by decide +kernel⟩) (Tgs.cons (⟨_,(.str ""),Nat.le_of_ble_eq_true rfl,by decide +kernel⟩) (Tgs.cons (⟨_,(.str "a"),Nat.le_of_ble_eq_true rfl,by decide +kernel⟩) (Tgs.cons (⟨_,.tup (S15 _ _ (S14 _ _ (S13 _ _ (S12 _ _ (S11 _ _ (S10 _ _ (S9 _ _ (S8 _ _ (S7 _ _ (S6 _ _ (S5 _ _ (S4 _ _ (S3 _ _ (S2 _ _ A1)))))))))))))) .nil,Nat.le_of_ble_eq_true rfl,by decide +kernel⟩) (Tgs.cons (⟨_,.lst (S15 _ _ (S14 _ _ (S13 _ _ (S12 _ _ (S11 _ _ (S10 _ _ (S9 _ _ (S8 _ _ (S7 _ _ (S6 _ _ (S5 _ _ (S4 _ _ (S3 _ _ A2))))))))))))) ((hD.same S1).new n2) m2 .nil,Nat.le_of_ble_eq_true rfl,by decide +kernel⟩) (Tgs.cons (⟨_,.dic (S15 _ _ (S14 _ _ (S13 _ _ (S12 _ _ (S11 _ _ (S10 _ _ (S9 _ _ (S8 _ _ (S7 _ _ (S6 _ _ (S5 _ _ (S4 _ _ A3)))))))))))),Nat.le_of_ble_eq_true rfl,by decide +kernel⟩) (Tgs.cons (⟨_,.tup (S15 _ _ (S14 _ _ (S13 _ _ (S12 _ _ (S11 _ _ (S10 _ _ (S9 _ _ (S8 _ _ (S7 _ _ (S6 _ _ (S5 _ _ A4))))))))))) (.cons (dint 0 (by decide) (by decide)) (.cons (dint 1 (by decide) (by decide)) .nil)),Nat.le_of_ble_eq_true rfl,by decide +kernel⟩) (Tgs.cons (⟨_,.tup (S15 _ _ (S14 _ _ (S13 _ _ (S12 _ _ (S11 _ _ (S10 _ _ (S9 _ _ (S8 _ _ (S7 _ _ (S6 _ _ A5)))))))))) (.cons (dint 1 (by decide) (by decide)) (.cons (dint 1 (by decide) (by decide)) .nil)),Nat.le_of_ble_eq_true rfl,by decide +kernel⟩) (Tgs.cons (⟨_,.lst (S15 _ _ (S14 _ _ (S13 _ _ (S12 _ _ (S11 _ _ (S10 _ _ (S9 _ _ (S8 _ _ (S7 _ _ A6))))))))) ((hD.same (S1.trans (S2.trans (S3.trans (S4.trans S5))))).new n6) m6 (.cons (dint 0 (by decide) (by decide)) (.cons (dint 1 (by decide) (by decide)) .nil)),Nat.le_of_ble_eq_true rfl,by decide +kernel⟩) Tgs.nil)))))))))))))))
    have T2:Tgs N H15 100 2 20 [.ref p9,.ref p10,.ref p11,.ref p12,.ref p13]:=(Tgs.cons (⟨_,.tup (S15 _ _ (S14 _ _ (S13 _ _ (S12 _ _ (S11 _ _ (S10 _ _ A9)))))) (.cons (.tup (S15 _ _ (S14 _ _ (S13 _ _ (S12 _ _ (S11 _ _ (S10 _ _ (S9 _ _ A8))))))) (.cons (dint 0 (by decide) (by decide)) (.cons (dint 1 (by decide) (by decide)) .nil))) .nil),Nat.le_of_ble_eq_true rfl,by decide +kernel⟩) (Tgs.cons (⟨_,.tup (S15 _ _ (S14 _ _ (S13 _ _ (S12 _ _ (S11 _ _ A10))))) (.cons (dint 2 (by decide) (by decide)) (.cons (dint 4 (by decide) (by decide)) .nil)),Nat.le_of_ble_eq_true rfl,by decide +kernel⟩) (Tgs.cons (⟨_,.tup (S15 _ _ (S14 _ _ (S13 _ _ (S12 _ _ A11)))) (.cons (dint 1 (by decide) (by decide)) (.cons (dint 0 (by decide) (by decide)) .nil)),Nat.le_of_ble_eq_true rfl,by decide +kernel⟩) (Tgs.cons (⟨_,.tup (S15 _ _ (S14 _ _ (S13 _ _ A12))) (.cons (dint 0 (by decide) (by decide)) (.cons (dint 2 (by decide) (by decide)) .nil)),Nat.le_of_ble_eq_true rfl,by decide +kernel⟩) (Tgs.cons (⟨_,.tup (S15 _ _ (S14 _ _ A13)) (.cons (.bl true) (.cons (dint 1 (by decide) (by decide)) .nil)),Nat.le_of_ble_eq_true rfl,by decide +kernel⟩) Tgs.nil)))))
    refine ⟨_,rfl,l,20,rfl,st15,by decide,lt8999 (by decide),fun r Hz r0 r1 kz lz=>?_⟩
    have TT:=T1.app T2
    obtain ⟨v,hv,mv⟩:=atI_mem (xs:=[.non,.bl true,.bl false,.int 0,.int 1,.int (-1),.int (10 ^ Int.toNat 29),.str "",.str "a",.ref p1,.ref p2,.ref p3,.ref p4,.ref p5,.ref p6]++[.ref p9,.ref p10,.ref p11,.ref p12,.ref p13]) r0 (by exact r1)
    exact ⟨p15,_,r,v,rfl,rfl,SqL.of (kz _ _ (fun z=>st14.ne n15 z.symm) A15),hv,q _ _ (((S1.trans (S2.trans (S3.trans (S4.trans (S5.trans (S6.trans (S7.trans (S8.trans (S9.trans (S10.trans (S11.trans (S12.trans (S13.trans (S14.trans S15))))))))))))))).keep.trans kz) lz (Tg.keepS hN st15 (TT v mv) kz)⟩
abbrev s_law:Stmt:=top 78
theorem ok_law (F:Fun K "law" "law" s_law f fd) {cl:Str→Addr} (Z:Ek K mg cl) {cc Pw Ph:Addr} (hcd:fd.code=.ref cc) (CK:∀ h,K.In h→PySem.W.CodeHd h cc Pw) (BK:BltK K mg) (X_row_textX:CalX P w K mg base "row_text" 5 ["row"] (sp_rowTxtX (cl "NoFraction"))) (X_fraction_textX:CalX P w K mg base "fraction_text" 5 ["fraction"] (sp_lookFX (cl "NoFraction"))) (C__law_choice:Cal P w K mg base "_law_choice" 1 ["_law_state_here","_law_many"] sp_choice) (C__law_is_fraction:Cal P w K mg base "_law_is_fraction" 2 ["_law_thing"] sp_lawfr) (C__law_low:Cal P w K mg base "_law_low" 1 ["_law_top","_law_bottom"] sp_low) (C__law_odd:Cal P w K mg base "_law_odd" 2 ["_law_state_here"] sp_odd) (C__law_right:Cal P w K mg base "_law_right" 11 ["_law_thing"] (sp_right Ph)) (C__law_row:Cal P w K mg base "_law_row" 3 ["_law_state_here","_law_many"] sp_rowQ) (C__law_row_text:Cal P w K mg base "_law_row_text" 2 ["_law_spot"] sp_rowWr) (C__law_said:Cal P w K mg base "_law_said" 9 ["_law_call"] (sp_said P w K mg base cl)) (C__law_same:Cal P w K mg base "_law_same" 1 ["_law_found","_law_due"] sp_sameR) (C__law_shown:Cal P w K mg base "_law_shown" 1 ["_law_one"] sp_written) (C__law_state:Cal P w K mg base "_law_state" 2 ["_law_script","_law_k"] (sp_state K)) (C__law_turned_text:Cal P w K mg base "_law_turned_text" 2 ["_law_state_here","_law_wording"] sp_turned) (C_fraction_text:Cal P w K mg base "fraction_text" 5 ["fraction"] sp_frTxt) (C_read_fraction:Cal P w K mg base "read_fraction" 6 ["text"] (sp_read oneO)) (C_read_row:Cal P w K mg base "read_row" 6 ["text"] (sp_read rowO)) (C_row_text:Cal P w K mg base "row_text" 5 ["row"] sp_rowWr) (U_read_row:Cal1 P w K mg base "read_row" 6 "text" (sp_read rowO)) (U_row_text:Cal1 P w K mg base "row_text" 5 "row" sp_rowWr):FnOk P w K mg base CX0 12 f fd ["_law_script"] (sp_law K Ph Pw):=by
 have sc:FnScope ["_law_script","_law_fixed","_law_thing","_law_k","_law_state_here","_law_turn","_law_spot","_law_great","_law_wording","_law_one","_law_lap","_law_bad","_law_again","_law_good"] ["_law_script"] (defScope s_law):=fsc (by decide +kernel)
 refine F.okC sc (fun vs H Q E h=>?_) (fun cdv ecd A outer s H vs Q E hr h=>?_)
 · obtain ⟨a,ns,rfl,_⟩:=h
   rfl
 · obtain ⟨a,ns,rfl,hS,hlen,nP,th,tv,q⟩:=h
   have nd:=sc.nd
   have hu:=hu_of hr
   have hu1:=Nat.lt_of_succ_lt hu
   refine' ⟨_,?term,?read⟩
   case term =>
    refine' @L2.pss_cons _ _ _ _ _ ?g1 ?g2
    case g1 =>
     refine' @L2.ps_set _ _ (1) _ _ _ _ nd rfl (Or.inl rfl) ?g3 (by rfl) (by first | exact Or.inl rfl | exact Or.inr rfl | assumption)
     case g3 =>
      refine' @L2.pe_lst _ _ _ _ (pa_cons pe_str (pa_cons pe_str (pa_cons pe_str (pa_cons pe_str (pa_cons pe_str (pa_cons pe_str (pa_cons pe_str (pa_cons pe_str (pa_cons pe_str (pa_cons pe_str (pa_cons pe_str (pa_cons pe_str (pa_cons pe_str (pa_cons pe_str pa_nil rfl) rfl) rfl) rfl) rfl) rfl) rfl) rfl) rfl) rfl) rfl) rfl) rfl) rfl)
    case g2 =>
     refine' @L2.pss_cons _ _ _ _ _ ?g4 ?g5
     case g4 =>
      refine' @L2.ps_set _ _ (1) _ _ _ _ nd rfl (Or.inl rfl) ?g6 (by rfl) (by first | exact Or.inl rfl | exact Or.inr rfl | assumption)
      case g6 =>
       refine' @L2.pe_op _ _ _ _ _ _ _ _ op_cat (pv 1) ?g7
       case g7 =>
        refine' @L2.pe_lst _ _ _ _ (pa_cons pe_str (pa_cons pe_str (pa_cons pe_str (pa_cons pe_str pa_nil rfl) rfl) rfl) rfl)
     case g5 =>
      refine' @L2.pss_cons _ _ _ _ _ ?g8 ?g9
      case g8 =>
       refine' @L2.ps_for _ _ _ _ _ _ _ _ PassesOwn.never rfl ?ga (pg_name (i:=2) nd rfl (Or.inl rfl)) ?gb (by intro _ ; rfl)
       case ga =>
        refine' @L2.pi_list _ _ _ _ ?gc
        case gc =>
         refine' @L2.pe_op _ _ _ _ _ _ _ _ op_cat (pv 1) ?gd
         case gd =>
          refine' @L2.pe_lst _ _ _ _ ?ge
          case ge =>
           refine' @L2.pa_cons _ _ _ _ _ pe_str ?gf rfl
           case gf =>
            refine' @L2.pa_cons _ _ _ _ _ pe_str ?gg rfl
            case gg =>
             refine' @L2.pa_cons _ _ _ _ _ pe_str ?gh rfl
             case gh =>
              refine' @L2.pa_cons _ _ _ _ _ pe_str ?gi rfl
              case gi =>
               refine' @L2.pa_cons _ _ _ _ _ pe_str ?gj rfl
               case gj =>
                refine' @L2.pa_cons _ _ _ _ _ pe_str ?gk rfl
                case gk =>
                 refine' @L2.pa_cons _ _ _ _ _ pe_str ?gl rfl
                 case gl =>
                  refine' @L2.pa_cons _ _ _ _ _ pe_str ?gm rfl
                  case gm =>
                   refine' @L2.pa_cons _ _ _ _ _ pe_non ?gn rfl
                   case gn =>
                    refine' @L2.pa_cons _ _ _ _ _ pe_int ?go rfl
                    case go =>
                     refine' @L2.pa_cons _ _ _ _ _ (pe_tup (pa_cons pe_str pa_nil rfl)) ?gp rfl
                     case gp =>
                      refine' @L2.pa_cons _ _ _ _ _ ?gq (pa_cons pe_bl pa_nil rfl) rfl
                      case gq =>
                       refine' @L2.pe_lstN _ _ _ _ pa_nil
       case gb =>
        refine' @L2.pss_one _ _ _ ?gr
        case gr =>
         refine' @L2.ps_if _ _ _ _ _ _ _ _ ?gs (pss_one (ps_ret pe_bl)) pss_nil
         case gs =>
          refine' @L2.pt_not _ _ _ _ ?gt
          case gt =>
           refine' @L2.pt_truth _ _ _ (pe_cal C__law_right hr (by decide) rfl (pa_cons (pv 2) pa_nil rfl)) (fun _=>rfl)
      case g9 =>
       refine' @L2.pss_cons _ _ _ _ _ ?gu (pss_one (ps_ret pe_bl))
       case gu =>
        refine' @L2.ps_for _ _ _ _ _ _ _ _ PassesOwn.never rfl ?gv (pg_name (i:=3) nd rfl (Or.inl rfl)) ?gw (by intro _ ; rfl)
        case gv =>
         refine' @L2.pi_range1 _ _ _ _ _ _ rfl T.b_range (pa_cons (pe_callB (call_max2 rfl) rfl T.b_max bb_max (pa_cons pe_int (pa_cons (pe_callB (call_min2 rfl) rfl T.b_min bb_min (pa_cons (pe_callB call_len_seq rfl T.b_len bb_len (pa_cons (pv 0) pa_nil rfl)) (pa_cons pe_int pa_nil rfl) rfl)) pa_nil rfl) rfl)) pa_nil rfl) (by rfl)
        case gw =>
         refine' @L2.pss_cons _ _ _ _ _ ?gx ?gy
         case gx =>
          refine' @L2.ps_set _ _ (4) _ _ _ _ nd rfl (Or.inl rfl) (pe_cal C__law_state hr (by decide) rfl (pa_cons (pv 0) (pa_cons (pv 3) pa_nil rfl) rfl)) (by rfl) (by first | exact Or.inl rfl | exact Or.inr rfl | assumption)
         case gy =>
          refine' @L2.pss_cons _ _ _ _ _ ?gz ?g10
          case gz =>
           refine' @L2.ps_for _ _ _ _ _ _ _ _ PassesOwn.never rfl ?g11 (pg_name (i:=5) nd rfl (Or.inl rfl)) ?g12 (by intro _ ; rfl)
           case g11 =>
            refine' @L2.pi_range1 _ _ _ _ _ _ rfl T.b_range (pa_cons pe_int pa_nil rfl) (by rfl)
           case g12 =>
            refine' @L2.pss_cons _ _ _ _ _ ?g13 ?g14
            case g13 =>
             refine' @L2.ps_set _ _ (6) _ _ _ _ nd rfl (Or.inl rfl) (pe_cal C__law_row hr (by decide) rfl (pa_cons (pv 4) (pa_cons (pe_cal C__law_choice hr (by decide) rfl (pa_cons (pv 4) (pa_cons pe_int pa_nil rfl) rfl)) pa_nil rfl) rfl)) (by rfl) (by first | exact Or.inl rfl | exact Or.inr rfl | assumption)
            case g14 =>
             refine' @L2.pss_cons _ _ _ _ _ ?g15 ?g16
             case g15 =>
              refine' @L2.ps_set _ _ (7) _ _ _ _ nd rfl (Or.inl rfl) (pe_cal C__law_low hr (by decide) rfl (pa_cons (pe_op op_sub (pe_cal C__law_choice hr (by decide) rfl (pa_cons (pv 4) (pa_cons (pe_op op_pow pe_int pe_int) pa_nil rfl) rfl)) (pe_op op_pow pe_int pe_int)) (pa_cons (pe_op op_add pe_int (pe_cal C__law_choice hr (by decide) rfl (pa_cons (pv 4) (pa_cons (pe_op op_pow pe_int pe_int) pa_nil rfl) rfl))) pa_nil rfl) rfl)) (by rfl) (by first | exact Or.inl rfl | exact Or.inr rfl | assumption)
             case g16 =>
              refine' @L2.pss_cons _ _ _ _ _ ?g17 ?g18
              case g17 =>
               refine' @L2.ps_set _ _ (8) _ _ _ _ nd rfl (Or.inl rfl) (pe_cal C__law_row_text hr (by decide) rfl (pa_cons (pv 6) pa_nil rfl)) (by rfl) (by first | exact Or.inl rfl | exact Or.inr rfl | assumption)
              case g18 =>
               refine' @L2.pss_cons _ _ _ _ _ ?g19 ?g1a
               case g19 =>
                refine' @L2.ps_if _ _ _ _ _ _ _ _ ?g1b (pss_one (ps_ret pe_bl)) pss_nil
                case g1b =>
                 refine' @L2.PW.pt _ _ _ ?g1c
                 case g1c =>
                  refine' @L2.pw_or _ _ _ _ _ _ _ (pt_cmpR op_ne (pe_cal C_row_text hr (by decide) rfl (pa_cons (pv 6) pa_nil rfl)) (pv 8) (nomark _)) ?g1d
                  case g1d =>
                   refine' @L2.pw_or1 _ _ _ _ ?g1e
                   case g1e =>
                    refine' @L2.pt_cmpR _ _ _ _ _ _ _ _ op_ne (pe_cal1 U_row_text hr (by decide) rfl (pk_cons (pv 6) pk_nil)) (pv 8) (nomark _)
               case g1a =>
                refine' @L2.pss_cons _ _ _ _ _ ?g1f ?g1g
                case g1f =>
                 refine' @L2.ps_if _ _ _ _ _ _ _ _ ?g1h (pss_one (ps_ret pe_bl)) pss_nil
                 case g1h =>
                  refine' @L2.pt_not _ _ _ _ ?g1i
                  case g1i =>
                   refine' @L2.pt_truth _ _ _ ?g1j (fun _=>rfl)
                   case g1j =>
                    refine' @L2.pe_cal _ _ _ _ _ _ _ _ _ _ _ C__law_same hr (by decide) rfl ?g1k (by decide) (by rfl) (by rfl)
                    case g1k =>
                     refine' @L2.pa_cons _ _ _ _ _ (pe_cal1 U_read_row hr (by decide) rfl (pk_cons (pv 8) pk_nil)) (pa_cons (pv 6) pa_nil rfl) rfl
                case g1g =>
                 refine' @L2.pss_cons _ _ _ _ _ ?g1l ?g1m
                 case g1l =>
                  refine' @L2.ps_for _ _ _ _ _ _ _ _ PassesOwn.never rfl ?g1n (pg_name (i:=9) nd rfl (Or.inl rfl)) ?g1o (by intro _ ; rfl)
                  case g1n =>
                   refine' @L2.pi_list _ _ _ _ ?g1p
                   case g1p =>
                    refine' @L2.pe_op _ _ _ _ _ _ _ _ op_cat (pe_callTy call_listN rfl T.b_list bb_list (pa_cons (pv 6) pa_nil rfl)) ?g1q
                    case g1q =>
                     refine' @L2.pe_lst _ _ _ _ (pa_cons (pv 7) pa_nil rfl)
                  case g1o =>
                   refine' @L2.pss_one _ _ _ ?g1r
                   case g1r =>
                    refine' @L2.ps_if _ _ _ _ _ _ _ _ ?g1s (pss_one (ps_ret pe_bl)) pss_nil
                    case g1s =>
                     refine' @L2.PW.pt _ _ _ ?g1t
                     case g1t =>
                      refine' @L2.pw_or _ _ _ _ _ _ _ (pt_cmpR op_ne (pe_cal C_fraction_text hr (by decide) rfl (pa_cons (pv 9) pa_nil rfl)) (pe_cal C__law_shown hr (by decide) rfl (pa_cons (pv 9) pa_nil rfl)) (nomark _)) ?g1u
                      case g1u =>
                       refine' @L2.pw_or1 _ _ _ _ ?g1v
                       case g1v =>
                        refine' @L2.pt_not _ _ _ _ ?g1w
                        case g1w =>
                         refine' @L2.pt_truth _ _ _ (pe_cal C__law_same hr (by decide) rfl (pa_cons (pe_cal C_read_fraction hr (by decide) rfl (pa_cons (pe_cal C__law_shown hr (by decide) rfl (pa_cons (pv 9) pa_nil rfl)) pa_nil rfl)) (pa_cons (pv 9) pa_nil rfl) rfl)) (fun _=>rfl)
                 case g1m =>
                  refine' @L2.pss_one _ _ _ ?g1x
                  case g1x =>
                   refine' @L2.ps_for _ _ _ _ _ _ _ _ PassesOwn.never rfl ?g1y (pg_name (i:=10) nd rfl (Or.inl rfl)) ?g1z (by intro _ ; rfl)
                   case g1y =>
                    refine' @L2.pi_range1 _ _ _ _ _ _ rfl T.b_range (pa_cons pe_int pa_nil rfl) (by rfl)
                   case g1z =>
                    refine' @L2.pss_cons _ _ _ _ _ ?g20 ?g21
                    case g20 =>
                     refine' @L2.ps_set _ _ (11) _ _ _ _ nd rfl (Or.inr rfl) ?g22 (by rfl) (by first | exact Or.inl rfl | exact Or.inr rfl | assumption)
                     case g22 =>
                      refine' @L2.pe_cal _ _ _ _ _ _ _ _ _ _ _ C__law_turned_text hr (by decide) rfl ?g23 (by decide) (by rfl) (by rfl)
                      case g23 =>
                       refine' @L2.pa_cons _ _ _ _ _ (pv 4) ?g24 rfl
                       case g24 =>
                        refine' @L2.pa_cons _ _ _ _ _ ?g25 pa_nil rfl
                        case g25 =>
                         refine' @L2.pe_ix _ _ _ _ _ _ _ ix_list ?g26 (pe_cal C__law_choice hr (by decide) rfl (pa_cons (pv 4) (pa_cons pe_int pa_nil rfl) rfl)) (fun _ _=>rfl)
                         case g26 =>
                          refine' @L2.pe_lst _ _ _ _ (pa_cons (pv 8) (pa_cons (pe_cal C__law_shown hr (by decide) rfl (pa_cons (pv 7) pa_nil rfl)) pa_nil rfl) rfl)
                    case g21 =>
                     refine' @L2.pss_cons _ _ _ _ _ ?g27 ?g28
                     case g27 =>
                      refine' @L2.ps_for _ _ _ _ _ _ _ _ PassesOwn.never rfl ?g29 (pg_name (i:=12) nd rfl (Or.inl rfl)) ?g2a (by intro _ ; rfl)
                      case g29 =>
                       refine' @L2.pi_range1 _ _ _ _ _ _ rfl T.b_range (pa_cons (pe_cal C__law_choice hr (by decide) rfl (pa_cons (pv 4) (pa_cons pe_int pa_nil rfl) rfl)) pa_nil rfl) (by rfl)
                      case g2a =>
                       refine' @L2.pss_one _ _ _ ?g2b
                       case g2b =>
                        refine' @L2.ps_set _ _ (11) _ _ _ _ nd rfl (Or.inr rfl) (pe_cal C__law_turned_text hr (by decide) rfl (pa_cons (pv 4) (pa_cons (pv 11) pa_nil rfl) rfl)) (by rfl) (by first | exact Or.inl rfl | exact Or.inr rfl | assumption)
                     case g28 =>
                      refine' @L2.pss_one _ _ _ ?g2c
                      case g2c =>
                       refine' @L2.ps_if _ _ _ _ _ _ _ _ ?g2d (pss_one (ps_ret pe_bl)) pss_nil
                       case g2d =>
                        refine' @L2.PW.pt _ _ _ ?g2e
                        case g2e =>
                         refine' @L2.pw_or _ _ _ _ _ _ _ ?g2f ?g2g
                         case g2f =>
                          refine' @L2.pt_not _ _ _ _ ?g2h
                          case g2h =>
                           refine' @L2.pt_truth _ _ _ (pe_cal C__law_right hr (by decide) rfl (pa_cons (pv 11) pa_nil rfl)) (fun _=>rfl)
                         case g2g =>
                          refine' @L2.pw_or1 _ _ _ _ ?g2i
                          case g2i =>
                           refine' @L2.pt_not _ _ _ _ ?g2j
                           case g2j =>
                            refine' @L2.pt_truth _ _ _ (pe_cal C__law_same hr (by decide) rfl (pa_cons (pe_cal C_read_row hr (by decide) rfl (pa_cons (pv 8) pa_nil rfl)) (pa_cons (pv 6) pa_nil rfl) rfl)) (fun _=>rfl)
          case g10 =>
           refine' @L2.pss_cons _ _ _ _ _ ?g2k ?g2l
           case g2k =>
            refine' @L2.ps_for _ _ _ _ _ _ _ _ PassesOwn.never rfl ?g2m (pg_name (i:=11) nd rfl (Or.inr rfl)) ?g2n (by intro _ ; rfl)
            case g2m =>
             refine' @L2.pi_list _ _ _ _ ?g2o
             case g2o =>
              refine' @L2.pe_lst _ _ _ _ ?g2p
              case g2p =>
               refine' @L2.pa_cons _ _ _ _ _ pe_non ?g2q rfl
               case g2q =>
                refine' @L2.pa_cons _ _ _ _ _ ?g2r ?g2s rfl
                case g2r =>
                 refine' @L2.pe_lstN _ _ _ _ pa_nil
                case g2s =>
                 refine' @L2.pa_cons _ _ _ _ _ (pe_tup (pa_cons (pe_tup (pa_cons pe_int (pa_cons pe_int pa_nil rfl) rfl)) pa_nil rfl)) ?g2t rfl
                 case g2t =>
                  refine' @L2.pa_cons _ _ _ _ _ (pe_tup (pa_cons (pe_tup (pa_cons pe_int (pa_cons pe_int pa_nil rfl) rfl)) (pa_cons pe_int pa_nil rfl) rfl)) (pa_cons (pe_callTy call_listN rfl T.b_list bb_list (pa_cons (pv 6) pa_nil rfl)) (pa_cons pe_str (pa_cons (pe_tup (pa_cons pe_int (pa_cons pe_int pa_nil rfl) rfl)) (pa_cons (pe_cal C__law_odd hr (by decide) rfl (pa_cons (pv 4) pa_nil rfl)) pa_nil rfl) rfl) rfl) rfl) rfl
            case g2n =>
             refine' @L2.pss_cons _ _ _ _ _ ?g2u ?g2v
             case g2u =>
              refine' @L2.ps_set _ _ (13) _ _ _ _ nd rfl (Or.inl rfl) ?g2w (by rfl) (by first | exact Or.inl rfl | exact Or.inr rfl | assumption)
              case g2w =>
               refine' @L2.pe_and _ _ _ _ _ _ _ (pe_callB call_isi rfl T.b_isinstance bb_isinstance (pa_cons (pv 11) (pa_cons (pe_bltn (v:=.ty "tuple") rfl T.b_tuple bb_tuple rfl) pa_nil rfl) rfl)) ?g2x
               case g2x =>
                refine' @L2.pe_one _ _ _ _ _ ?g2y
                case g2y =>
                 refine' @L2.pe_callB _ _ _ _ _ _ _ _ _ (call_allB rfl) rfl T.b_all bb_all ?g2z (by decide) (by decide) (by rfl) (by rfl)
                 case g2z =>
                  refine' @L2.pa_cons _ _ _ _ _ ?g30 pa_nil rfl
                  case g30 =>
                   refine' @L2.pe_lc _ _ _ _ _ _ _ (["_law_one"]) ([none]) _ _ _ _ _ rfl (lcs_plain (by decide) rfl (by decide) rfl rfl) (pi_tup (pv 11)) (fun _ _ _ _=>(pg_name (i:=0) (show List.Nodup (["_law_one"]:List Str) by decide) rfl (Or.inl rfl) (Or.inr rfl))) (fun _ _ _ _=>pifs_nil) (fun _ _ _ _=>(pe_cal C__law_is_fraction hr (by decide) rfl (pa_cons (pv 0) pa_nil rfl))) (by intro _ ; rfl)
             case g2v =>
              refine' @L2.pss_cons _ _ _ _ _ ?g31 ?g32
              case g31 =>
               refine' @L2.ps_if _ _ _ _ _ _ _ _ (pt_cmpR op_ne (pe_callB call_isi rfl T.b_isinstance bb_isinstance (pa_cons (pe_fix (i:=11) rfl rfl rfl rfl (pe_cal C__law_said hr (by decide) rfl (pa_cons (pe_lam (cc:=cc) (P:=Pw) (q := "law.<locals>.<lambda>") rfl rfl (ecd.symm.trans hcd) rfl CK BK) pa_nil rfl))) (pa_cons (pe_bltn (v:=.ty "list") rfl T.b_list bb_list rfl) pa_nil rfl) rfl)) (pv 13) (nomark _)) (pss_one (ps_ret pe_bl)) pss_nil
              case g32 =>
               refine' @L2.pss_one _ _ _ ?g33
               case g33 =>
                refine' @L2.ps_if _ _ _ _ _ _ _ _ ?g34 (pss_one (ps_ret pe_bl)) pss_nil
                case g34 =>
                 refine' @L2.PW.pt _ _ _ ?g35
                 case g35 =>
                  refine' @L2.pw_and _ _ _ _ _ _ _ ?g36 ?g37
                  case g36 =>
                   refine' @L2.pt_not _ _ _ _ ?g38
                   case g38 =>
                    refine' @L2.pt_truth _ _ _ (pv 13) (fun _=>rfl)
                  case g37 =>
                   refine' @L2.pw_and1 _ _ _ _ (pt_cmpR (op_neG eqT_str (hu_d1 hr)) (pe_fix (i:=11) rfl rfl rfl rfl (pe_cal C__law_said hr (by decide) rfl (pa_cons (pe_lam (cc:=cc) (P:=Pw) (q := "law.<locals>.<lambda>") rfl rfl (ecd.symm.trans hcd) rfl CK BK) pa_nil rfl))) (pe_tup (pa_cons pe_str pa_nil rfl)) (nomark _))
           case g2l =>
            refine' @L2.pss_one _ _ _ ?g39
            case g39 =>
             refine' @L2.ps_for _ _ _ _ _ _ _ _ PassesOwn.never rfl ?g3a (pg_name (i:=11) nd rfl (Or.inr rfl)) ?g3b (by intro _ ; rfl)
             case g3a =>
              refine' @L2.pi_list _ _ _ _ ?g3c
              case g3c =>
               refine' @L2.pe_lst _ _ _ _ ?g3d
               case g3d =>
                refine' @L2.pa_cons _ _ _ _ _ pe_non ?g3e rfl
                case g3e =>
                 refine' @L2.pa_cons _ _ _ _ _ (pe_tup (pa_cons pe_int (pa_cons pe_int pa_nil rfl) rfl)) ?g3f rfl
                 case g3f =>
                  refine' @L2.pa_cons _ _ _ _ _ ?g3g (pa_cons pe_str (pa_cons (pe_tup (pa_cons pe_int (pa_cons pe_int pa_nil rfl) rfl)) (pa_cons (pe_tup (pa_cons pe_bl (pa_cons pe_int pa_nil rfl) rfl)) (pa_cons pe_int pa_nil rfl) rfl) rfl) rfl) rfl
                  case g3g =>
                   refine' @L2.pe_lstN _ _ _ _ (pa_cons pe_int (pa_cons pe_int pa_nil rfl) rfl)
             case g3b =>
              refine' @L2.pss_one _ _ _ ?g3h
              case g3h =>
               refine' @L2.ps_if _ _ _ _ _ _ _ _ (pt_cmpR (op_neG eqT_str (hu_d1 hr)) (pe_fix (i:=11) rfl rfl rfl rfl (pe_cal C__law_said hr (by decide) rfl (pa_cons (pe_lam (cc:=cc) (P:=Pw) (q := "law.<locals>.<lambda>") rfl rfl (ecd.symm.trans hcd) rfl CK BK) pa_nil rfl))) (pe_tup (pa_cons pe_str pa_nil rfl)) (nomark _)) (pss_one (ps_ret pe_bl)) pss_nil
   case read =>
    refine ⟨by show 14≤sizeLine; decide,?_⟩
    intro pa1 na1
    generalize hH:upd H pa1 _=Ha1
    have Sa1:Same H Ha1:=by (rw [← hH]; exact Same.new na1)
    have Aa1:=(congrFun hH pa1).symm
    rw [upd_same] at Aa1
    clear hH
    have Ta1:Same H Ha1:=(Same.refl H).trans Sa1
    refine ⟨_,rfl,by show 4≤sizeLine; decide,?_⟩
    intro pa2 na2
    generalize hH:upd Ha1 pa2 _=Ha2
    have Sa2:Same Ha1 Ha2:=by (rw [← hH]; exact Same.new na2)
    have Aa2:=(congrFun hH pa2).symm
    rw [upd_same] at Aa2
    clear hH
    have Ta2:Same H Ha2:=Ta1.trans Sa2
    refine ⟨pa1,pa2,_,_,rfl,rfl,(Sa2 _ _ Aa1),Aa2,by show 18≤sizeLine; decide,?_⟩
    intro pa3 na3
    generalize hH:upd Ha2 pa3 _=Ha3
    have Sa3:Same Ha2 Ha3:=by (rw [← hH]; exact Same.new na3)
    have Aa3:=(congrFun hH pa3).symm
    rw [upd_same] at Aa3
    clear hH
    have Ta3:Same H Ha3:=Ta2.trans Sa3
    refine ⟨_,rfl,by show 1≤sizeLine; decide,?_⟩
    intro pa4 na4
    generalize hH:upd Ha3 pa4 _=Ha4
    have Sa4:Same Ha3 Ha4:=by (rw [← hH]; exact Same.new na4)
    have Aa4:=(congrFun hH pa4).symm
    rw [upd_same] at Aa4
    clear hH
    have Ta4:Same H Ha4:=Ta3.trans Sa4
    refine ⟨by show 0≤sizeLine; decide,?_⟩
    intro pa5 na5 ma5
    generalize hH:upd Ha4 pa5 _=Ha5
    have Sa5:Same Ha4 Ha5:=by (rw [← hH]; exact Same.new na5)
    have Aa5:=(congrFun hH pa5).symm
    rw [upd_same] at Aa5
    clear hH
    have Ta5:Same H Ha5:=Ta4.trans Sa5
    refine ⟨by show 13≤sizeLine; decide,?_⟩
    intro pa6 na6
    generalize hH:upd Ha5 pa6 _=Ha6
    have Sa6:Same Ha5 Ha6:=by (rw [← hH]; exact Same.new na6)
    have Aa6:=(congrFun hH pa6).symm
    rw [upd_same] at Aa6
    clear hH
    have Ta6:Same H Ha6:=Ta5.trans Sa6
    refine ⟨pa3,pa6,_,_,rfl,rfl,((Sa4.trans (Sa5.trans Sa6)) _ _ Aa3),Aa6,by show 31≤sizeLine; decide,?_⟩
    intro pa7 na7
    generalize hH:upd Ha6 pa7 _=Ha7
    have Sa7:Same Ha6 Ha7:=by (rw [← hH]; exact Same.new na7)
    have Aa7:=(congrFun hH pa7).symm
    rw [upd_same] at Aa7
    clear hH
    have Ta7:Same H Ha7:=Ta6.trans Sa7
    have PV:∀ v∈((FX1.map V.str++FX2.map V.str)++(FX3.map V.str++[V.non,.int 0,.ref pa4,.ref pa5,.bl true])),∃ d,Dt (fun _=>False) Ha7 100 v d∧TxOk d:=by
     intro v hv
     rcases List.mem_append.mp hv with hv | hv
     · rcases List.mem_append.mp hv with hv | hv
       · exact fxs (by decide +kernel) hv
       · exact fxs (by decide +kernel) hv
     rcases List.mem_append.mp hv with hv | hv
     · exact fxs (by decide +kernel) hv
     simp only [List.mem_cons,List.not_mem_nil,or_false] at hv
     rcases hv with rfl | rfl | rfl | rfl | rfl
     · exact ⟨_,.non,txN rfl⟩
     · exact ⟨_,dint 0 (by decide) (by decide),txN rfl⟩
     · exact ⟨_,.tup ((Sa5.trans (Sa6.trans Sa7)) _ _ Aa4) (.cons (.str _) .nil),txN rfl⟩
     · exact ⟨_,.lst ((Sa6.trans Sa7) _ _ Aa5) (fun z=>z) ma5 .nil,txN rfl⟩
     · exact ⟨_,.bl true,txN rfl⟩
    have aL:Ha7 pa7=some (.lst ((FX1.map V.str++FX2.map V.str)++(FX3.map V.str++[V.non,.int 0,.ref pa4,.ref pa5,.bl true]))):=Aa7
    have lX:((FX1.map V.str++FX2.map V.str)++(FX3.map V.str++[V.non,.int 0,.ref pa4,.ref pa5,.bl true])).length=31:=rfl
    generalize ((FX1.map V.str++FX2.map V.str)++(FX3.map V.str++[V.non,.int 0,.ref pa4,.ref pa5,.bl true]))=X0 at PV aL lX
    have sL:=Ta7
    have thL:=th.same sL
    have twL:=tv.same sL
    refine ⟨pa7,rfl,⟨_,SqL.of aL⟩,?_⟩
    clear Ta7 Aa7 Sa7 Ta6 Aa6 Sa6 Ta5 Aa5 Sa5 Ta4 Aa4 Sa4 Ta3 Aa3 Sa3 Ta2 Aa2 Sa2 Ta1 Aa1 Sa1
    generalize Ha7=HL at *
    generalize pa7=L at *
    refine for_list (xs:=X0) (fun i σ H2=>∃ x2:Option V,σ=[some (.ref a),some (.ref pa3),x2,none,none,none,none,none,none,none,none,none,none,none]∧KeepP Ph HL H2∧TabF H2 Ph "_law_right.<locals>.<lambda>") ⟨_,rfl,fun _ _ _ e=>e,thL⟩ (fun i σ H2 hi p=>?_) (fun i y σ H2 hy p=>?_) (fun σ H2 p=>?_)
    · obtain ⟨x2,rfl,k2,t2⟩:=p
      exact SqL.of (k2 _ _ (tabNe thL aL) aL)
    · obtain ⟨x2,rfl,k2,t2⟩:=p
      obtain ⟨d,hd,ht⟩:=PV y (List.mem_of_getElem? hy)
      refine ⟨_,rfl,_,_,y,d,rfl,hd.keepT thL k2,ht,t2,fun H3 k3 t3=>⟨_,rfl,iteF ?_⟩⟩
      exact ⟨_,rfl,fun b o n e=>k3 b o n (k2 b o n e),t3⟩
    obtain ⟨x2,rfl,k2,t2⟩:=p
    have g2:Gv Ph Pw H H2:=fun b o n1 n2 e=>k2 b o n1 (sL _ _ e)
    have u2:=twL.gvP thL nP.symm k2
    clear PV aL lX thL twL k2 sL
    have hS2:=sqL_gv hS g2 th tv
    refine ⟨_,rfl,a,_,rfl,.inl hS2,_,_,rfl,_,_,rfl,_,rfl,?_,?_,?_⟩
    · split <;> (try split) <;> omega
    · rw [List.length_map]
      split <;> (try split) <;> omega
    refine for_range (fun i σ H3=>∃ x1 x2 x3 x4 x5 x6 x7 x8 x9 x10 x11 x12 x13:Option V,σ=[some (.ref a),x1,x2,x3,x4,x5,x6,x7,x8,x9,x10,x11,x12,x13]∧Gv Ph Pw H H3∧TabF H3 Ph "_law_right.<locals>.<lambda>" ∧ TabF H3 Pw "law.<locals>.<lambda>") ⟨_,_,_,_,_,_,_,_,_,_,_,_,_,rfl,g2,t2,u2⟩ ?_ ?_
    rotate_left
    · rintro σ H3 ⟨x1,x2,x3,x4,x5,x6,x7,x8,x9,x10,x11,x12,x13,rfl,_⟩
      exact q H3
    clear hS2 g2 t2 u2
    rintro i σ H3 _ ⟨x1,x2,x3,x4,x5,x6,x7,x8,x9,x10,x11,x12,x13,rfl,g3,t3,u3⟩
    refine ⟨_,rfl,_,rfl,a,ns,i,by rw [Int.zero_add],sqL_gv hS g3 th tv,fun l H4 nl s4 st4=>?_⟩
    have I4:LI Ph Pw l H3 H4:=⟨st4,Same.gv s4,t3.same s4,u3.same s4⟩
    refine ⟨_,rfl,by decide,by decide,?_⟩
    refine for_range (fun i σ H5=>∃ x1 x2 x3 x5 x6 x7 x8 x9 x10 x11 x12 x13:Option V,σ=[some (.ref a),x1,x2,x3,some (.ref l),x5,x6,x7,x8,x9,x10,x11,x12,x13]∧LI Ph Pw l H3 H5∧(1≤i→∃ t qs,x6=some (.ref t)∧IsR H5 t qs∧RQ qs)) ⟨_,_,_,_,_,_,_,_,_,_,_,_,rfl,I4,fun z=>absurd z (by decide)⟩ ?_ ?_
    · clear I4 st4 s4
      rintro j σ H5 hj ⟨x1,x2,x3,x5,x6,x7,x8,x9,x10,x11,x12,x13,rfl,I5,_⟩
      refine ⟨_,rfl,_,rfl,l,7,rfl,I5.st,by decide,lt8999 (by decide),fun r5 H6 a5 b5 k5 st6=>?_⟩
      have I6:=I5.keep nl k5 st6
      obtain ⟨rn,rfl⟩:=Int.eq_ofNat_of_zero_le a5
      refine ⟨l,rn,rfl,st6,by omega,fun H7 t us qs k6 st7 ht al lq hB=>?_⟩
      have I7:=I6.keep nl k6 st7
      have R7:IsR H7 t qs:=⟨us,ht,al⟩
      have rq:RQ qs:=⟨by omega,hB⟩
      clear ht al hB lq k5 k6 I5 I6 st6 st7 b5
      refine ⟨_,rfl,_,_,rfl,rfl,⟨by decide,by decide,by decide⟩,l,_,rfl,I7.st,by decide,lt200 (by decide),fun r7 H8 a7 b7 k7 st8=>?_⟩
      have I8:=I7.keep nl k7 st8
      have R8:=R7.tk (tkS k7 I7.st)
      refine ⟨_,_,rfl,rfl,⟨by decide,by decide,by decide⟩,_,_,rfl,rfl,_,rfl,_,_,rfl,rfl,⟨by decide,by decide,by decide⟩,l,_,rfl,I8.st,by decide,lt200 (by decide),fun r8 H9 a8 b8 k8 st9=>?_⟩
      have I9:=I8.keep nl k8 st9
      have R9:=R8.tk (tkS k8 I8.st)
      have gq:=gq_mk a7 b7 a8 b8
      refine ⟨_,_,rfl,rfl,_,_,rfl,by omega,Nat.lt_of_lt_of_le (show (1+r8).natAbs < 10 ^ 31 from (by have b8':r8 < 10 ^ 30:=b8; omega)) (of_decide_eq_true (by decide +kernel:decide ((10:Nat) ^ 31≤2 ^ 4000)=true)),fun g H10 s9 eg=>?_⟩
      have G10:IsQ H10 (.ref g) (Rat.divInt (r7 - 10 ^ 39) (1+r8)):=⟨g,rfl,eg⟩
      generalize Rat.divInt (r7 - 10 ^ 39) (1+r8)=gr at gq G10 eg
      have I10:=I9.same s9
      have R10:=R9.tk s9.tk
      clear R7 R8 R9 I7 I8 I9 k7 k8 s9 st8 st9 a7 b7 a8 b8 eg
      obtain ⟨us,ht,al⟩:=id R10
      have n20:qs.length≤20:=Nat.le_trans rq.n (by decide)
      refine ⟨_,rfl,t,us,qs,rfl,ht,al,n20,rq.sm,fun H11 s10=>?_⟩
      have R11:=R10.tk s10.tk
      obtain ⟨_,ht11,al11⟩:=id R11
      refine ⟨_,rfl,t,_,qs,rfl,ht11,al11,n20,rq.sm,fun H12 s11=>?_⟩
      refine ⟨_,rfl,rfl,_,rfl,?_⟩
      rw [decide_eq_true rfl]
      refine iteF ?_
      have R12:=R11.tk s11.tk
      obtain ⟨_,ht12,al12⟩:=id R12
      refine ⟨_,rfl,_,rfl,t,_,qs,rfl,ht12,al12,n20,rq.sm,fun H13 s12=>?_⟩
      refine ⟨_,rfl,rfl,_,rfl,?_⟩
      rw [decide_eq_true rfl]
      refine iteF ?_
      have s13:=s10.trans (s11.trans s12)
      have I13:=I10.same s13
      have R13:=R10.tk s13.tk
      have G13:=G10.tk s13.tk
      clear ht11 al11 ht12 al12 R11 R12 R10 G10 I10 s10 s11 s12 s13 ht al
      have lw:=rq.len
      refine ⟨_,rfl,_,rfl,_,_,rfl,by omega,row_ok qs,fun u H14 s13 tp=>?_⟩
      have rqs:=ro_qs rq.n
      refine ⟨_,rfl,u,.ref t,_,rfl,rp_tup tp rqs,rp_tup ((R13.tk s13.tk).tp rq.sm) rqs,true,rfl,iteF ?_⟩
      have I14:=I13.same s13
      have R14:=R13.tk s13.tk
      have G14:=G13.tk s13.tk
      clear I13 R13 G13 s13 tp
      obtain ⟨us,ht,al⟩:=id R14
      have lus:=al.1
      have lq:=rq.n
      refine ⟨_,rfl,t,us,rfl,.inr (SqT.of ht),fun L1 n1 m1=>?_⟩
      have s14:Same H14 (upd H14 L1 (.lst us)):=Same.new n1
      have e14:=upd_same (H:=H14) (a:=L1) (o:=.lst us)
      generalize upd H14 L1 (.lst us)=H15 at s14 e14 ⊢
      refine ⟨_,rfl,by show 1≤sizeLine; decide,fun L2 n2=>?_⟩
      have s15:Same H15 (upd H15 L2 (.lst [.ref g])):=Same.new n2
      have e15:=upd_same (H:=H15) (a:=L2) (o:=.lst [.ref g])
      generalize upd H15 L2 (.lst [.ref g])=H16 at s15 e15 ⊢
      refine ⟨L1,L2,_,_,rfl,rfl,s15 _ _ e14,e15,by show us.length+1≤sizeLine; have:=sizeLine_eq; omega,fun L3 n3=>?_⟩
      have s16:Same H16 (upd H16 L3 (.lst (us++[.ref g]))):=Same.new n3
      have e16:=upd_same (H:=H16) (a:=L3) (o:=.lst (us++[.ref g]))
      generalize upd H16 L3 (.lst (us++[.ref g]))=H17 at s16 e16 ⊢
      have s17:=s14.trans (s15.trans s16)
      have I17:=I14.same s17
      have R17:=R14.tk s17.tk
      have G17:=G14.tk s17.tk
      have ONE:∀ v∈us++[.ref g],∃ x,IsQ H17 v x∧Sm x∧(tw x).length≤990:=by
       intro v hv
       rcases List.mem_append.mp hv with hv | hv
       · obtain ⟨i,hi,e⟩:=List.getElem_of_mem hv
         obtain ⟨x,ex,r⟩:=al.get (show us[i]? = some v by rw [List.getElem?_eq_getElem hi,e])
         have sx:=rq.sm x (List.mem_of_getElem? ex)
         exact ⟨x,r.tk s17.tk,sx,Nat.le_trans (tw_len sx) (by decide)⟩
       · rw [List.mem_singleton.mp hv]
         exact ⟨gr,G17,gq.sm,Nat.le_trans (tw_len gq.sm) (by decide)⟩
      generalize us++[V.ref g]=OS at e16 ONE
      clear e14 e15 s14 s15 s16 s17 I14 R14 G14 n1 n2 n3 m1
      refine ⟨L3,rfl,⟨_,SqL.of e16⟩,?_⟩
      refine for_list (xs:=OS) (fun m σ H18=>∃ x9:Option V,σ=[some (.ref a),x1,x2,x3,some (.ref l),some (.int (0+j)),some (.ref t),some (.ref g),some (.str (rw' qs)),x9,x10,x11,x12,x13]∧Same H17 H18) ⟨_,rfl,Same.refl _⟩ (fun m σ H18 hm p=>?_) (fun m z σ H18 hz p=>?_) (fun σ H18 p=>?_)
      · obtain ⟨x9,rfl,s18⟩:=p
        exact SqL.of (s18 _ _ e16)
      · obtain ⟨x9,rfl,s18⟩:=p
        obtain ⟨x,⟨b,rfl,hb⟩,sx,lx⟩:=ONE z (List.mem_of_getElem? hz)
        have hb18:=s18 _ _ hb
        refine ⟨_,rfl,b,x,rfl,hb18,sx,fun H19 s19=>?_⟩
        have hb19:=s19 _ _ hb18
        refine ⟨_,rfl,b,x,rfl,hb19,sx,fun H20 s20=>?_⟩
        have hb20:=s20 _ _ hb19
        refine ⟨rfl,_,rfl,?_⟩
        rw [decide_eq_true rfl]
        refine iteF ⟨_,rfl,b,x,rfl,hb20,sx,fun H21 s21=>?_⟩
        have hb21:=s21 _ _ hb20
        refine ⟨_,_,rfl,lx,one_ok x,fun u' H22 s22 tp=>?_⟩
        have hb22:=s22 _ _ hb21
        refine ⟨_,rfl,u',.ref b,_,rfl,rp_tup tp (ro_qD x),rp_tup (tpQ ⟨b,rfl,hb22⟩ sx) (ro_qD x),true,rfl,iteF ?_⟩
        exact ⟨_,rfl,s18.trans (s19.trans (s20.trans (s21.trans s22)))⟩
      obtain ⟨x9,rfl,s18⟩:=p
      have I18:=I17.same s18
      have R18:=R17.tk s18.tk
      have G18:=G17.tk s18.tk
      clear I17 R17 G17 s18 ONE e16
      refine ⟨_,rfl,by decide,by decide,?_⟩
      refine for_range (fun m σ H19=>∃ x10 x11 x12:Option V,σ=[some (.ref a),x1,x2,x3,some (.ref l),some (.int (0+j)),some (.ref t),some (.ref g),some (.str (rw' qs)),x9,x10,x11,x12,x13]∧LI Ph Pw l H3 H19∧IsR H19 t qs∧IsQ H19 (.ref g) gr) ⟨_,_,_,rfl,I18,R18,G18⟩ ?_ ?_
      rotate_left
      · rintro σ H19 ⟨x10,x11,x12,rfl,I19,R19,_⟩
        exact ⟨_,_,_,_,_,_,_,_,_,_,_,_,rfl,I19,fun _=>⟨t,qs,rfl,R19,rq⟩⟩
      clear I18 R18 G18
      rintro m σ H19 hm ⟨x10,x11,x12,rfl,I19,R19,G19⟩
      obtain ⟨_,rfl',hg19⟩:=id G19
      cases rfl'
      refine ⟨_,rfl,_,rfl,_,rfl,g,gr,rfl,hg19,gq.sm,fun H20 s19=>?_⟩
      refine ⟨by show 2≤sizeLine; decide,fun L5 n5=>?_⟩
      have s20:Same H20 (upd H20 L5 (.lst [.str (rw' qs),.str (tw gr)])):=Same.new n5
      have e20:=upd_same (H:=H20) (a:=L5) (o:=.lst [.str (rw' qs),.str (tw gr)])
      generalize upd H20 L5 (.lst [.str (rw' qs),.str (tw gr)])=H21 at s20 e20 ⊢
      have I21:=I19.same (s19.trans s20)
      have n5l:L5≠l:=((I19.same s19).st.ne n5).symm
      refine ⟨_,rfl,l,2,rfl,I21.st,by decide,lt8999 (by decide),fun r2 H22 a2 b2 k2 st22=>?_⟩
      have e22:=k2 _ _ n5l e20
      have I22:=I21.keep nl k2 st22
      obtain ⟨z0,ez0,lz0,az0⟩:∃ z0:Str,atI [V.str (rw' qs),.str (tw gr)] r2=some (.str z0)∧z0.length≤120∧asc z0:=by
       have:r2=0∨r2=1:=by omega
       rcases this with rfl | rfl
       · exact ⟨_,rfl,lw,asc_rw qs⟩
       · exact ⟨_,rfl,Nat.le_trans gq.len (by decide),asc_tw gr⟩
      refine ⟨L5,_,r2,_,rfl,rfl,SqL.of e22,ez0,l,z0,rfl,I22.st,by omega,az0,fun H23 z1 k3 st23 lz1 az1=>?_⟩
      have I23:=I22.keep nl k3 st23
      have t23:Tk H19 H23:=fun b xs e=>tkS k3 I22.st _ _ (tkS k2 I21.st _ _ (s20.tk _ _ (s19.tk _ _ e)))
      have R23:=R19.tk t23
      have G23:=G19.tk t23
      clear I22 I21 k2 k3 e22 e20 s20 s19 t23 R19 G19 hg19 I19 ez0 n5
      refine ⟨_,rfl,l,3,rfl,I23.st,by decide,lt8999 (by decide),fun r3 H24 a3 b3 k4 st24=>?_⟩
      obtain ⟨rn3,rfl⟩:=Int.eq_ofNat_of_zero_le a3
      have I24:=I23.keep nl k4 st24
      have t24:=tkS k4 I23.st
      refine ⟨_,rfl,by omega,by omega,?_⟩
      refine for_range (fun n σ H25=>∃ (z:Str) (x12:Option V),σ=[some (.ref a),x1,x2,x3,some (.ref l),some (.int (0+j)),some (.ref t),some (.ref g),some (.str (rw' qs)),x9,some (.int (0+m)),some (.str z),x12,x13]∧LI Ph Pw l H3 H25∧IsR H25 t qs∧IsQ H25 (.ref g) gr∧asc z∧((n=0→z.length≤241)∧(n=1→z.length≤483)∧(n=2→z.length≤967))) ⟨z1,_,rfl,I24,R23.tk t24,G23.tk t24,az1,by omega,by omega,by omega⟩ ?_ ?_
      · clear I24 t24 k4 I23 R23 G23
        rintro n σ H25 hn ⟨z,x12,rfl,I25,R25,G25,az,lz⟩
        have hn0:(n:Int) < rn3:=by simpa using hn
        have hn2:n < 2:=by omega
        refine ⟨_,rfl,_,rfl,l,z,rfl,I25.st,by omega,az,fun H26 z' k5 st26 lz' az'=>?_⟩
        have t26:=tkS k5 I25.st
        exact ⟨z',_,rfl,I25.keep nl k5 st26,R25.tk t26,G25.tk t26,az',by omega,by omega,by omega⟩
      clear I24 t24 k4 I23 R23 G23
      rintro σ H25 ⟨z,x12,rfl,I25,R25,G25,az,lz⟩
      have lz9:z.length≤990:=by
       have:(rn3:Int).toNat=0∨(rn3:Int).toNat=1∨(rn3:Int).toNat=2:=by omega
       rcases this with w | w | w
       · have:=lz.1 w; omega
       · have:=lz.2.1 w; omega
       · have:=lz.2.2 w; omega
      refine ⟨_,rfl,fun _=>False,100,.str z,.str z,rfl,.str z,fun z' e=>by cases e; exact ⟨lz9,az⟩,I25.th,fun H26 k5 t26=>⟨true,rfl,iteF ?_⟩⟩
      have I26:=I25.kpH nP k5 t26
      have tk26:=Tk.kp k5 I25.th
      have R26:=R25.tk tk26
      refine ⟨_,rfl,_,_,rfl,by omega,row_ok qs,fun u' H27 s27 tp=>?_⟩
      refine ⟨_,rfl,u',.ref t,_,rfl,rp_tup tp rqs,rp_tup ((R26.tk s27.tk).tp rq.sm) rqs,true,rfl,iteF ?_⟩
      exact ⟨_,_,_,rfl,I26.same s27,R26.tk s27.tk,(G25.tk tk26).tk s27.tk⟩
    clear I4 st4 s4
    rintro σ H5 ⟨x1,x2,x3,x5,x6,x7,x8,x9,x10,x11,x12,x13,rfl,I5,R5⟩
    obtain ⟨t,qs,rfl,R5,rq⟩:=R5 (by decide)
    obtain ⟨us,ht,al⟩:=id R5
    have lus:=al.1
    have lq:=rq.n
    obtain ⟨N,hN⟩:∃ N:Addr→Prop,N=fun b=>b=l:=⟨_,rfl⟩
    have Nl:N l:=by rw [hN]
    have DN:∀ {H':Hp},StAt H' l→Dom N H':=fun s b z=>by
     obtain ⟨ys,e⟩:=s.lst'
     rw [hN] at z
     exact ⟨_,by rw [show b=l from z]; exact e⟩
    refine ⟨by show 0≤sizeLine; decide,?_⟩
    intro pb1 nb1 mb1
    generalize hH:upd H5 pb1 _=Hb1
    have Sb1:Same H5 Hb1:=by (rw [← hH]; exact Same.new nb1)
    have Ab1:=(congrFun hH pb1).symm
    rw [upd_same] at Ab1
    clear hH
    have Tb1:Same H5 Hb1:=(Same.refl H5).trans Sb1
    refine ⟨by show 2≤sizeLine; decide,?_⟩
    intro pb2 nb2
    generalize hH:upd Hb1 pb2 _=Hb2
    have Sb2:Same Hb1 Hb2:=by (rw [← hH]; exact Same.new nb2)
    have Ab2:=(congrFun hH pb2).symm
    rw [upd_same] at Ab2
    clear hH
    have Tb2:Same H5 Hb2:=Tb1.trans Sb2
    refine ⟨by show 1≤sizeLine; decide,?_⟩
    intro pb3 nb3
    generalize hH:upd Hb2 pb3 _=Hb3
    have Sb3:Same Hb2 Hb3:=by (rw [← hH]; exact Same.new nb3)
    have Ab3:=(congrFun hH pb3).symm
    rw [upd_same] at Ab3
    clear hH
    have Tb3:Same H5 Hb3:=Tb2.trans Sb3
    refine ⟨by show 2≤sizeLine; decide,?_⟩
    intro pb4 nb4
    generalize hH:upd Hb3 pb4 _=Hb4
    have Sb4:Same Hb3 Hb4:=by (rw [← hH]; exact Same.new nb4)
    have Ab4:=(congrFun hH pb4).symm
    rw [upd_same] at Ab4
    clear hH
    have Tb4:Same H5 Hb4:=Tb3.trans Sb4
    refine ⟨by show 2≤sizeLine; decide,?_⟩
    intro pb5 nb5
    generalize hH:upd Hb4 pb5 _=Hb5
    have Sb5:Same Hb4 Hb5:=by (rw [← hH]; exact Same.new nb5)
    have Ab5:=(congrFun hH pb5).symm
    rw [upd_same] at Ab5
    clear hH
    have Tb5:Same H5 Hb5:=Tb4.trans Sb5
    refine ⟨_,rfl,t,us,rfl,.inr (SqT.of (Tb5 _ _ ht)),?_⟩
    intro pb6 nb6 mb6
    generalize hH:upd Hb5 pb6 _=Hb6
    have Sb6:Same Hb5 Hb6:=by (rw [← hH]; exact Same.new nb6)
    have Ab6:=(congrFun hH pb6).symm
    rw [upd_same] at Ab6
    clear hH
    have Tb6:Same H5 Hb6:=Tb5.trans Sb6
    refine ⟨by show 2≤sizeLine; decide,?_⟩
    intro pb7 nb7
    generalize hH:upd Hb6 pb7 _=Hb7
    have Sb7:Same Hb6 Hb7:=by (rw [← hH]; exact Same.new nb7)
    have Ab7:=(congrFun hH pb7).symm
    rw [upd_same] at Ab7
    clear hH
    have Tb7:Same H5 Hb7:=Tb6.trans Sb7
    have Ib:=I5.same Tb7
    have B1:∀ v∈[V.non,.ref pb1,.ref pb3,.ref pb5,.ref pb6,.str "-",.ref pb7],BdOk N Hb7 v:=by
     intro v hv
     simp only [List.mem_cons,List.not_mem_nil,or_false] at hv
     rcases hv with rfl | rfl | rfl | rfl | rfl | rfl | rfl
     · exact ⟨_,.non,by decide +kernel,fun ds e=>by cases e⟩
     · exact ⟨_,.lst ((Sb2.trans (Sb3.trans (Sb4.trans (Sb5.trans (Sb6.trans Sb7))))) _ _ Ab1) ((DN (I5.same (Same.refl H5)).st).new nb1) mb1 .nil,by decide +kernel,fun ds e=>by cases e⟩
     · exact ⟨_,.tup ((Sb4.trans (Sb5.trans (Sb6.trans Sb7))) _ _ Ab3) (.cons (.tup ((Sb3.trans (Sb4.trans (Sb5.trans (Sb6.trans Sb7)))) _ _ Ab2) (.cons (dint 2 (by decide) (by decide)) (.cons (dint 4 (by decide) (by decide)) .nil))) .nil),by decide +kernel,fun ds e=>by cases e; decide⟩
     · exact ⟨_,(.tup ((Sb6.trans Sb7) _ _ Ab5) (.cons (.tup ((Sb5.trans (Sb6.trans Sb7)) _ _ Ab4) (.cons (dint 0 (by decide) (by decide)) (.cons (dint 1 (by decide) (by decide)) .nil))) (.cons (dint 1 (by decide) (by decide)) .nil))),by decide +kernel,fun ds e=>by cases e; decide⟩
     · exact ⟨_,.lst (Sb7 _ _ Ab6) ((DN (I5.same Tb5).st).new nb6) mb6 (al_dts44 (al.imp fun v x r=>r.tk Tb7.tk) fun q hq=>(rq.b q hq).1),by show 1+nzAll (qs.map qD)≤1000; rw [nz_qD]; omega,fun ds e=>by cases e⟩
     · exact ⟨_,.str "-",by decide +kernel,fun ds e=>by cases e⟩
     · exact ⟨_,(.tup Ab7 (.cons (dint 0 (by decide) (by decide)) (.cons (dint 1 (by decide) (by decide)) .nil))),by decide +kernel,fun ds e=>by cases e; decide⟩
    refine ⟨_,rfl,l,N,rfl,Ib.st,Nl,DN Ib.st,fun Hc vo kc stc tgo=>?_⟩
    have Ic:=Ib.keep nl kc stc
    have B2:∀ v∈[V.non,.ref pb1,.ref pb3,.ref pb5,.ref pb6,.str "-",.ref pb7,vo],BdOk N Hc v:=by
     intro v hv
     rcases List.mem_append.mp (show v∈[V.non,.ref pb1,.ref pb3,.ref pb5,.ref pb6,.str "-",.ref pb7]++[vo] from hv) with hv | hv
     · obtain ⟨d,hd,r⟩:=B1 v hv
       exact ⟨d,Dt.keepS Nl Ib.st hd kc,r⟩
     · rw [List.mem_singleton.mp hv]; exact Tg.bd tgo
    refine ⟨by show 8≤sizeLine; decide,fun L nL=>?_⟩
    generalize [V.non,.ref pb1,.ref pb3,.ref pb5,.ref pb6,.str "-",.ref pb7,vo]=XB at B2 ⊢
    have sd:Same Hc (upd Hc L (.lst XB)):=Same.new nL
    have ed:=upd_same (H:=Hc) (a:=L) (o:=.lst XB)
    generalize upd Hc L (.lst XB)=H6 at sd ed ⊢
    have I6:=Ic.same sd
    have R6:=(R5.tk (Tb7.tk.trans ((tkS kc Ib.st).trans sd.tk)))
    have B3:∀ v∈XB,BdOk N H6 v:=fun v hv=>let ⟨d,hd,r⟩:=B2 v hv; ⟨d,hd.same sd,r⟩
    clear B1 B2 sd Ic Ib tgo R5 I5 kc stc ht al Tb7 Ab7 Sb7 Tb6 Ab6 Sb6 Tb5 Ab5 Sb5 Tb4 Ab4 Sb4 Tb3 Ab3 Sb3 Tb2 Ab2 Sb2 Tb1 Ab1 Sb1
    refine ⟨L,rfl,⟨_,SqL.of ed⟩,?_⟩
    refine for_list (xs:=XB) (fun m σ H7=>∃ x11 x13:Option V,σ=[some (.ref a),x1,x2,x3,some (.ref l),x5,some (.ref t),x7,x8,x9,x10,x11,x12,x13]∧KeepP Pw H6 H7∧TabF H7 Pw "law.<locals>.<lambda>") ⟨_,_,rfl,fun _ _ _ e=>e,I6.tw⟩ (fun m σ H7 hm p=>?_) (fun m z σ H7 hz p=>?_) (fun σ H7 p=>?_)
    · obtain ⟨x11,x13,rfl,k7,t7⟩:=p
      exact SqL.of (k7 _ _ (tabNe I6.tw ed) ed)
    · obtain ⟨x11,x13,rfl,k7,t7⟩:=p
      obtain ⟨d,hd0,hzd,hld⟩:=B3 z (List.mem_of_getElem? hz)
      have hd:=hd0.keepT I6.tw k7
      refine gset (σ':=[some (.ref a),x1,x2,x3,some (.ref l),x5,some (.ref t),x7,x8,x9,x10,some z,x12,x13]) rfl ?_
      refine asg_inv0 (fun v H8=>Same H7 H8∧v=.bl (allFr d)) (fun Q' key=>?_) (fun v H8 hv=>?_)
      · rcases hd.isT with ⟨p,us',ds,rfl,rfl,hp,hs⟩ | e
        case inr =>
         obtain ⟨t',ty,ki⟩:=hd.ty (K:=K)
         refine ⟨_,rfl,_,_,t',_,rfl,ty,ki,_,rfl,?_⟩
         rw [e]
         exact iteF (key _ _ ⟨Same.refl _,by cases d <;> first | rfl | (cases e)⟩)
        refine ⟨_,rfl,_,_,_,_,rfl,TyOf.tup hp,rfl,true,rfl,iteT ?_⟩
        have hl:=hs.len
        have h1000:us'.length≤1000:=by have:=hld ds rfl; omega
        refine ⟨_,rfl,p,rfl,⟨_,SqT.of hp⟩,fun D nD=>?_⟩
        refine lc_T (k:=.t) (vs:=us') RB hRB (ds.map isFr) (by simp [hl]) h1000 nD hp (fun i w H9 C hw s2 c=>?_) (fun H9 us'' s2 e2 a2=>?_)
        · obtain ⟨dx,ed,hdx⟩:=hs.get hw
          exact ⟨_,rfl,N,190,w,dx,rfl,hdx.same s2,by decide,fun H10 s10=>c _ _ (isFr dx) s10 (by rw [List.getElem?_map,ed]; rfl) rfl⟩
        · rw [a2.bls] at e2
          refine ⟨D,ds.map isFr,rfl,SqL.of e2,?_⟩
          have z:(ds.map isFr).all id=ds.all isFr:=by rw [List.all_map]; rfl
          rw [z]
          exact key _ _ ⟨s2,rfl⟩
      obtain ⟨s8,rfl⟩:=hv
      refine gset (σ':=[some (.ref a),x1,x2,x3,some (.ref l),x5,some (.ref t),x7,x8,x9,x10,some z,x12,some (.bl (allFr d))]) rfl ?_
      have hd8:=hd.same s8
      have t8:=t7.same s8
      have k8:KeepP Pw H6 H8:=fun b o n e=>s8 _ _ (k7 b o n e)
      clear hd s8 t7 k7
      have hX:∀ {F:Hp} {Q1:VK} {E1:XK},Dt N F 190 z d→(allFr d=true→∀ z H',Same F H'→Q1 (.str z) H')→(allFr d=false→∀ H',Same F H'→E1 (.ref (cl "NoFraction")) none H')→sp_rowTxtX (cl "NoFraction") [z] F Q1 E1:=fun hF h1 h2=>⟨N,190,z,d,rfl,hF,by decide,hzd,hld,by
       cases e:allFr d with
       | true=>rw [if_pos rfl]; exact h1 e
       | false=>rw [if_neg (by decide)]; exact h2 e⟩
      refine if_isi ?_
      refine fix_bad (spX:=sp_rowTxtX (cl "NoFraction")) (allFr d) Z (fun F Q1 E1 hF h1 h2=>hX hF h1 h2) ?_ t8 hd8 (fun a=>lamRB (c:=s.heap.objs.size+1) X_row_textX) (fun a=>spB_mono fun _=>rowX_mono) (fun a F Q1 E1 lf cf s=>⟨lf,z,cf,s⟩) (fun u H9 k9 t9 sb=>?_)
      · rfl
      have hd9:=hd8.keepT t8 k9
      have k69:KeepP Pw H6 H9:=fun b o n e=>k9 b o n (k8 b o n e)
      obtain ⟨L9,rfl,sb⟩:=sb
      cases hg:allFr d with
      | true =>
        rw [hg,if_pos rfl] at sb
        obtain ⟨v9,e9⟩:=sb
        refine ⟨_,_,_,true,rfl,TyOf.lst e9,rfl,_,rfl,rfl,_,rfl,?_⟩
        rw [decide_eq_true rfl]
        refine iteF ?_
        refine if_nx ?_
        refine ⟨_,rfl,true,rfl,iteF ?_⟩
        exact ⟨_,_,rfl,k69,t9⟩
      | false =>
        rw [hg,if_neg (by decide)] at sb
        refine ⟨_,_,_,false,rfl,TyOf.tup sb,rfl,_,rfl,rfl,_,rfl,?_⟩
        rw [decide_eq_true rfl]
        refine iteF ?_
        refine if_nx ?_
        refine ⟨_,rfl,false,rfl,iteT ?_⟩
        refine te_op ?_
        refine fix_bad (spX:=sp_rowTxtX (cl "NoFraction")) false Z (fun F Q1 E1 hF h1 h2=>hX hF (fun z=>by rw [hg] at z; cases z) (fun _=>h2 rfl)) ?_ t9 hd9 (fun a=>lamRB (c:=s.heap.objs.size+1) X_row_textX) (fun a=>spB_mono fun _=>rowX_mono) (fun a F Q1 E1 lf cf s=>⟨lf,z,cf,s⟩) (fun u H10 k10 t10 sb'=>?_)
        · rfl
        obtain ⟨L10,rfl,sb'⟩:=sb'
        rw [if_neg (by decide)] at sb'
        refine ⟨by show 1≤sizeLine; decide,fun M nM=>⟨["fraction"],["fraction"],⟨L10,_,rfl,(Same.new nM) _ _ sb',al1s _⟩,⟨M,_,rfl,upd_same,al1s _⟩,_,rfl,?_⟩⟩
        rw [if_pos rfl,decide_eq_true rfl]
        refine iteF ?_
        exact ⟨_,_,rfl,fun b o n e=>(Same.new nM) _ _ (k10 b o n (k69 b o n e)),t10.same (Same.new nM)⟩
    obtain ⟨x11,x13,rfl,k7,t7⟩:=p
    have I7:=I6.kpW nP k7 t7
    clear I6 B3 ed R6 k7 t7
    refine ⟨by show 2≤sizeLine; decide,?_⟩
    intro pc1 nc1
    generalize hH:upd H7 pc1 _=Hc1
    have Sc1:Same H7 Hc1:=by (rw [← hH]; exact Same.new nc1)
    have Ac1:=(congrFun hH pc1).symm
    rw [upd_same] at Ac1
    clear hH
    have Tc1:Same H7 Hc1:=(Same.refl H7).trans Sc1
    refine ⟨by show 2≤sizeLine; decide,?_⟩
    intro pc2 nc2 mc2
    generalize hH:upd Hc1 pc2 _=Hc2
    have Sc2:Same Hc1 Hc2:=by (rw [← hH]; exact Same.new nc2)
    have Ac2:=(congrFun hH pc2).symm
    rw [upd_same] at Ac2
    clear hH
    have Tc2:Same H7 Hc2:=Tc1.trans Sc2
    refine ⟨by show 2≤sizeLine; decide,?_⟩
    intro pc3 nc3
    generalize hH:upd Hc2 pc3 _=Hc3
    have Sc3:Same Hc2 Hc3:=by (rw [← hH]; exact Same.new nc3)
    have Ac3:=(congrFun hH pc3).symm
    rw [upd_same] at Ac3
    clear hH
    have Tc3:Same H7 Hc3:=Tc2.trans Sc3
    refine ⟨by show 2≤sizeLine; decide,?_⟩
    intro pc4 nc4
    generalize hH:upd Hc3 pc4 _=Hc4
    have Sc4:Same Hc3 Hc4:=by (rw [← hH]; exact Same.new nc4)
    have Ac4:=(congrFun hH pc4).symm
    rw [upd_same] at Ac4
    clear hH
    have Tc4:Same H7 Hc4:=Tc3.trans Sc4
    have B1:∀ v∈[V.non,.ref pc1,.ref pc2,.str "1/2",.ref pc3,.ref pc4,.int 1],∃ d,Dt N Hc4 100 v d∧isFr d=false:=by
     intro v hv
     simp only [List.mem_cons,List.not_mem_nil,or_false] at hv
     rcases hv with rfl | rfl | rfl | rfl | rfl | rfl | rfl
     · exact ⟨_,.non,rfl⟩
     · exact ⟨_,(.tup ((Sc2.trans (Sc3.trans Sc4)) _ _ Ac1) (.cons (dint 2 (by decide) (by decide)) (.cons (dint 4 (by decide) (by decide)) .nil))),rfl⟩
     · exact ⟨_,.lst ((Sc3.trans Sc4) _ _ Ac2) ((DN (I7.same Tc1).st).new nc2) mc2 (.cons (dint 1 (by decide) (by decide)) (.cons (dint 2 (by decide) (by decide)) .nil)),rfl⟩
     · exact ⟨_,.str "1/2",rfl⟩
     · exact ⟨_,(.tup (Sc4 _ _ Ac3) (.cons (dint 1 (by decide) (by decide)) (.cons (dint 0 (by decide) (by decide)) .nil))),rfl⟩
     · exact ⟨_,(.tup Ac4 (.cons (.bl true) (.cons (dint 1 (by decide) (by decide)) .nil))),rfl⟩
     · exact ⟨_,(dint 1 (by decide) (by decide)),rfl⟩
    refine ⟨by show 7≤sizeLine; decide,fun M nM=>?_⟩
    generalize [V.non,.ref pc1,.ref pc2,.str "1/2",.ref pc3,.ref pc4,.int 1]=XD at B1 ⊢
    have sd:Same Hc4 (upd Hc4 M (.lst XD)):=Same.new nM
    have ed:=upd_same (H:=Hc4) (a:=M) (o:=.lst XD)
    generalize upd Hc4 M (.lst XD)=H8 at sd ed ⊢
    have I8:=(I7.same Tc4).same sd
    have B3:∀ v∈XD,∃ d,Dt N H8 100 v d∧isFr d=false:=fun v hv=>let ⟨d,hd,r⟩:=B1 v hv; ⟨d,hd.same sd,r⟩
    refine ⟨M,rfl,⟨_,SqL.of ed⟩,?_⟩
    refine for_list (xs:=XD) (fun m σ H9=>∃ x11:Option V,σ=[some (.ref a),x1,x2,x3,some (.ref l),x5,some (.ref t),x7,x8,x9,x10,x11,x12,x13]∧KeepP Pw H8 H9∧TabF H9 Pw "law.<locals>.<lambda>") ⟨_,rfl,fun _ _ _ e=>e,I8.tw⟩ (fun m σ H9 hm p=>?_) (fun m z σ H9 hz p=>?_) (fun σ H9 p=>?_)
    · obtain ⟨x11,rfl,k9,t9⟩:=p
      exact SqL.of (k9 _ _ (tabNe I8.tw ed) ed)
    · obtain ⟨x11,rfl,k9,t9⟩:=p
      obtain ⟨d,hd0,hfd⟩:=B3 z (List.mem_of_getElem? hz)
      have hd:=hd0.keepT I8.tw k9
      refine gset (σ':=[some (.ref a),x1,x2,x3,some (.ref l),x5,some (.ref t),x7,x8,x9,x10,some z,x12,x13]) rfl ?_
      refine if_te ?_
      refine te_op ?_
      refine fix_bad (spX:=sp_lookFX (cl "NoFraction")) false Z (fun F Q1 E1 hF h1 h2=>⟨N,100,z,d,rfl,hF,by decide,hfd,h2 rfl F (Same.refl F)⟩) ?_ t9 hd (fun a=>lamFB (c:=s.heap.objs.size+1) X_fraction_textX) (fun a=>spB_mono fun _=>lookX_mono) (fun a F Q1 E1 lf cf s=>⟨lf,z,cf,s⟩) (fun u H10 k10 t10 sb'=>?_)
      · rfl
      obtain ⟨L10,rfl,sb'⟩:=sb'
      rw [if_neg (by decide)] at sb'
      refine ⟨by show 1≤sizeLine; decide,fun M nM=>⟨["fraction"],["fraction"],⟨L10,_,rfl,(Same.new nM) _ _ sb',al1s _⟩,⟨M,_,rfl,upd_same,al1s _⟩,_,rfl,?_⟩⟩
      rw [if_pos rfl,decide_eq_true rfl]
      refine iteF ?_
      exact ⟨_,rfl,fun b o n e=>(Same.new nM) _ _ (k10 b o n (k9 b o n e)),t10.same (Same.new nM)⟩
    obtain ⟨x11,rfl,k9,t9⟩:=p
    have I9:=I8.kpW nP k9 t9
    exact ⟨_,_,_,_,_,_,_,_,_,_,_,_,_,rfl,g3.trans I9.gv,I9.th,I9.tw⟩
end
structure EkK (K:PySem.W.Frag) (cl:Str→Addr):Prop where
 nm:∀ x,x∈CLS→PySem.W.nsIn K mainGlobals x=some (some (.ref (cl x)))
 vb:PySem.W.nsIn K mainGlobals "ValueError" = some none
 mpe:PySem.W.nsIn K mainGlobals "PlateError" = some (some (.ref (cl "PlateError")))
 e_NoFraction:ExcK K (cl "NoFraction")
 k_NoFraction:Kind K cl (cl "NoFraction") 4
 k_NoText:Kind K cl (cl "NoText") 25
 xg:XGet K (cl "NoText") "row"
 xa:XAttr K (cl "NoText") "row"
 pk:PEk K (cl "PlateError")
 mv:PySem.W.mroIn K (cl "NoText") (.type "ValueError")=some true
theorem EkK.ek {K:PySem.W.Frag} {cl:Str→Addr} {h:Heap} {mg:Str→Option Value} (z:EkK K cl) (X:K.In h) (G:h.Ns mainGlobals mg):Ek K mg cl:=⟨fun x hx=>PySem.W.mg_of X G (z.nm x hx),PySem.W.mg_none_of X G z.vb,PySem.W.mg_of X G z.mpe,z.e_NoFraction,z.k_NoFraction,z.k_NoText,z.xg,z.xa,z.pk,z.mv⟩
def BkK (K:PySem.W.Frag):Prop:=∃ (bm:Addr) (o:Obj),PySem.W.nsIn K mainGlobals "__builtins__" = some (some (.ref bm))∧bm≠builtinsNs∧bm≠mainGlobals∧K.lookup bm=some o∧o.cls=.type "module" ∧ o.dict=some builtinsNs∧o.data=.plain
theorem BkK.blt {K:PySem.W.Frag} {h:Heap} {mg:Str→Option Value} (z:BkK K) (X:K.In h) (G:h.Ns mainGlobals mg):BltK K mg:=let ⟨bm,o,e,r⟩:=z; ⟨bm,o,PySem.W.mg_of X G e,r⟩
structure Lk (K:PySem.W.Frag) (b:Str) (st:Stmt) (f:Addr):Prop where
 fn:∃ fd,Fun K b b st f fd
 a:PySem.W.nsIn K mainGlobals b=some (some (.ref f))
 k:PySem.W.keepIn K (.ref f)=true
theorem lk_mk {K:PySem.W.Frag} {b:Str} {st:Stmt} {f:Addr} {od an:Option Addr} {sl:Array (Option Value)} {oc kV dc pm cd ct:Value} (a:PySem.W.nsIn K mainGlobals b=some (some (.ref f))) (l:K.lookup f=some ⟨oc,od,.func (PySem.W.fnOf b b (defArgs st) (defBody st) (defScope st) .none kV dc pm an cd ct),sl⟩) (c:PySem.W.codeIn K cd b=true) (k:PySem.W.keepIn K (.ref f)=true):Lk K b st f:=⟨⟨_,fun_mk (st:=st) l c k⟩,a,k⟩
theorem Lk.cal {P:Program} {w:World} {K:PySem.W.Frag} {h:Heap} {mg:Str→Option Value} {base:Heap} {b:Str} {st:Stmt} {f:Addr} {k:Nat} {ps:List Str} {sp:Sp} (L:Lk K b st f) (X:K.In h) (G:h.Ns mainGlobals mg) (ok:∀ {fd},Fun K b b st f fd→FnOk P w K mg base CX0 k f fd ps sp) (hb:∀ (kV doc pm:Value) (an:Option Addr) (cdv ct:Value) (us:List Value),us.length=ps.length→bindArgs (PySem.W.fnOf b b (defArgs st) (defBody st) (defScope st) .none kV doc pm an cdv ct) ⟨us,[]⟩=pure (ps.zip us)):Cal P w K mg base b k ps sp :=
 let ⟨_,F⟩:=L.fn
 ⟨f,_,ok F,PySem.W.mg_of X G L.a,L.k,F.binds (ps:=ps) hb⟩
theorem Lk.calX {P:Program} {w:World} {K:PySem.W.Frag} {h:Heap} {mg:Str→Option Value} {base:Heap} {b:Str} {st:Stmt} {f:Addr} {k:Nat} {ps:List Str} {sp:Sp} (L:Lk K b st f) (X:K.In h) (G:h.Ns mainGlobals mg) (ok:∀ {fd},Fun K b b st f fd→FnOk P w K mg base (CX1 P w) k f fd ps sp) (hb:∀ (kV doc pm:Value) (an:Option Addr) (cdv ct:Value) (us:List Value),us.length=ps.length→bindArgs (PySem.W.fnOf b b (defArgs st) (defBody st) (defScope st) .none kV doc pm an cdv ct) ⟨us,[]⟩=pure (ps.zip us)):CalX P w K mg base b k ps sp :=
 let ⟨_,F⟩:=L.fn
 ⟨f,_,ok F,PySem.W.mg_of X G L.a,L.k,F.binds (ps:=ps) hb⟩
theorem Lk.calH {P:Program} {w:World} {K:PySem.W.Frag} {h:Heap} {mg:Str→Option Value} {base:Heap} {b:Str} {st:Stmt} {f:Addr} {k:Nat} {ps:List Str} {sp:Sp} (L:Lk K b st f) (X:K.In h) (G:h.Ns mainGlobals mg) (ok:∀ {fd},Fun K b b st f fd→FnOkH P w K mg base k f fd ps sp) (hb:∀ (kV doc pm:Value) (an:Option Addr) (cdv ct:Value) (us:List Value),us.length=ps.length→bindArgs (PySem.W.fnOf b b (defArgs st) (defBody st) (defScope st) .none kV doc pm an cdv ct) ⟨us,[]⟩=pure (ps.zip us)):CalH P w K mg base b k ps sp :=
 let ⟨_,F⟩:=L.fn
 ⟨f,_,ok F,PySem.W.mg_of X G L.a,L.k,F.binds (ps:=ps) hb⟩
theorem ln1 {P:List Value→Prop} (h:∀ x0,P [x0]):∀ us:List Value,us.length=1→P us:=fun us e=>match us,e with | [x0],_=>h x0
theorem ln2 {P:List Value→Prop} (h:∀ x0 x1,P [x0,x1]):∀ us:List Value,us.length=2→P us:=fun us e=>match us,e with | [x0,x1],_=>h x0 x1
theorem all_mk {l:PySem.W.OpenLaw} {w:World} {K:PySem.W.Frag} {h:Heap} {mg:Str→Option Value} {fa:Addr} (X:K.In h) (G:h.Ns mainGlobals mg) (hfa:mg "law" = some (.ref fa))
 {f_0:Addr} (h_0:Lk K "is_whole" s_is_whole f_0)
 {f_1:Addr} (h_1:Lk K "plain_divisor" s_plain_divisor f_1)
 {f_2:Addr} (h_2:Lk K "divisor" s_divisor f_2)
 {f_3:Addr} (h_3:Lk K "is_fraction" s_is_fraction f_3)
 {f_4:Addr} (h_4:Lk K "number_of" s_number_of f_4)
 {f_5:Addr} (h_5:Lk K "whole_in" s_whole_in f_5)
 {f_6:Addr} (h_6:Lk K "whole_text" s_whole_text f_6)
 {f_7:Addr} (h_7:Lk K "written" s_written f_7)
 {f_8:Addr} (h_8:Lk K "fraction_in" s_fraction_in f_8)
 {f_9:Addr} (h_9:Lk K "listed" s_listed f_9)
 {f_10:Addr} (h_10:Lk K "row_written" s_row_written f_10)
 {f_11:Addr} (h_11:Lk K "are_fractions" s_are_fractionsD f_11)
 {f_12:Addr} (h_12:Lk K "look_at_fraction" s_look_at_fraction f_12)
 {f_13:Addr} (h_13:Lk K "fraction_text" s_fraction_text f_13)
 {f_14:Addr} (h_14:Lk K "row_text" s_row_text f_14)
 {f_15:Addr} (h_15:Lk K "look_at_text" s_look_at_text f_15)
 {f_16:Addr} (h_16:Lk K "read_fraction" s_read_fraction f_16)
 {f_17:Addr} (h_17:Lk K "read_row" s_read_row f_17)
 {f_18:Addr} (h_18:Lk K "_law_marks" s__law_marks f_18)
 {f_19:Addr} (h_19:Lk K "_law_word" s__law_word f_19)
 {f_20:Addr} (h_20:Lk K "_law_said" s__law_said f_20)
 {f_21:Addr} (h_21:Lk K "_law_cell_at" s__law_cell_at f_21)
 {f_22:Addr} (h_22:Lk K "_law_state" s__law_state f_22)
 {f_23:Addr} (h_23:Lk K "_law_choice" s__law_choice f_23)
 {f_24:Addr} (h_24:Lk K "_law_low" s__law_low f_24)
 {f_25:Addr} (h_25:Lk K "_law_fraction" s__law_fraction f_25)
 {f_26:Addr} (h_26:Lk K "_law_row" s__law_row f_26)
 {f_27:Addr} (h_27:Lk K "_law_same" s__law_same f_27)
 {f_28:Addr} (h_28:Lk K "_law_shown" s__law_shown f_28)
 {f_29:Addr} (h_29:Lk K "_law_row_text" s__law_row_text f_29)
 {f_30:Addr} (h_30:Lk K "_law_number" s__law_number f_30)
 {f_31:Addr} (h_31:Lk K "_law_read_one" s__law_read_one f_31)
 {f_32:Addr} (h_32:Lk K "_law_row_due" s__law_row_due f_32)
 {f_33:Addr} (h_33:Lk K "_law_one_due" s__law_one_due f_33)
 {f_34:Addr} (h_34:Lk K "_law_turned_text" s__law_turned_text f_34)
 {f_35 cc_35 P_35:Addr} {od_35 an_35:Option Addr} {sl_35:Array (Option Value)} {oc_35 kV_35 dc_35 pm_35 ct_35:Value} (hd_35:PySem.W.codeHdIn K cc_35 P_35=true)
 (a_35:PySem.W.nsIn K mainGlobals "_law_right" = some (some (.ref f_35)))
 (l_35:K.lookup f_35=some ⟨oc_35,od_35,.func (PySem.W.fnOf "_law_right" "_law_right" (defArgs s__law_right) (defBody s__law_right) (defScope s__law_right) .none kV_35 dc_35 pm_35 an_35 (.ref cc_35) ct_35),sl_35⟩)
 (c_35:PySem.W.codeIn K (.ref cc_35) "_law_right" = true) (k_35:PySem.W.keepIn K (.ref f_35)=true)
 {f_36:Addr} (h_36:Lk K "_law_whole" s__law_whole f_36)
 {f_37:Addr} (h_37:Lk K "_law_is_fraction" s__law_is_fraction f_37)
 {f_38:Addr} (h_38:Lk K "_law_odd" s__law_odd f_38)
 {f_law cc_law P_law:Addr} {od_law an_law:Option Addr} {sl_law:Array (Option Value)} {oc_law kV_law dc_law pm_law ct_law:Value} (hd_law:PySem.W.codeHdIn K cc_law P_law=true)
 (a_law:PySem.W.nsIn K mainGlobals "law" = some (some (.ref f_law)))
 (l_law:K.lookup f_law=some ⟨oc_law,od_law,.func (PySem.W.fnOf "law" "law" (defArgs s_law) (defBody s_law) (defScope s_law) .none kV_law dc_law pm_law an_law (.ref cc_law) ct_law),sl_law⟩)
 (c_law:PySem.W.codeIn K (.ref cc_law) "law" = true) (k_law:PySem.W.keepIn K (.ref f_law)=true)
 (z_abs:PySem.W.nsIn K mainGlobals "abs" = some none)
 (z_all:PySem.W.nsIn K mainGlobals "all" = some none)
 (z_bool:PySem.W.nsIn K mainGlobals "bool" = some none)
 (z_int:PySem.W.nsIn K mainGlobals "int" = some none)
 (z_isinstance:PySem.W.nsIn K mainGlobals "isinstance" = some none)
 (z_len:PySem.W.nsIn K mainGlobals "len" = some none)
 (z_list:PySem.W.nsIn K mainGlobals "list" = some none)
 (z_max:PySem.W.nsIn K mainGlobals "max" = some none)
 (z_min:PySem.W.nsIn K mainGlobals "min" = some none)
 (z_range:PySem.W.nsIn K mainGlobals "range" = some none)
 (z_repr:PySem.W.nsIn K mainGlobals "repr" = some none)
 (z_str:PySem.W.nsIn K mainGlobals "str" = some none)
 (z_tuple:PySem.W.nsIn K mainGlobals "tuple" = some none)
 {tn_AT_ONCE:Tok} (n_AT_ONCE:PySem.W.nsIn K mainGlobals "AT_ONCE" = some (some (.int 60 tn_AT_ONCE)))
 {tn_BASE:Tok} (n_BASE:PySem.W.nsIn K mainGlobals "BASE" = some (some (.int 1000000000000000000000000000000000000000000000000000000000000 tn_BASE)))
 {tn_GREAT_BITS:Tok} (n_GREAT_BITS:PySem.W.nsIn K mainGlobals "GREAT_BITS" = some (some (.int 4000 tn_GREAT_BITS)))
 {cl:Str→Addr} (zk:EkK K cl) (bk:BkK K)
 {fI_:Addr} (hI_:∃ fd,Fun K "__init__" "NoText.__init__" s_init fI_ fd) (zI_:ExcKI K (cl "NoText") fI_)
 : ∃ fd:FuncData,(∀ (s:Shared) (v:Value),BindsTo s fd ⟨[v],[]⟩ [("_law_script",v)])∧∀ base:Heap,K.In base→base.Ns mainGlobals mg→FnOk l.prog w K mg base CX0 12 fa fd ["_law_script"] (sp_law K P_35 P_law):=by
 have e:=hfa.symm.trans (PySem.W.mg_of X G a_law)
 cases e
 have T:Bt mg:=⟨PySem.W.mg_none_of X G z_abs,PySem.W.mg_none_of X G z_all,PySem.W.mg_none_of X G z_bool,PySem.W.mg_none_of X G z_int,PySem.W.mg_none_of X G z_isinstance,PySem.W.mg_none_of X G z_len,PySem.W.mg_none_of X G z_list,PySem.W.mg_none_of X G z_max,PySem.W.mg_none_of X G z_min,PySem.W.mg_none_of X G z_range,PySem.W.mg_none_of X G z_repr,PySem.W.mg_none_of X G z_str,PySem.W.mg_none_of X G z_tuple,⟨_,PySem.W.mg_of X G n_AT_ONCE⟩,⟨_,PySem.W.mg_of X G n_BASE⟩,⟨_,PySem.W.mg_of X G n_GREAT_BITS⟩⟩
 have Z:Ek K mg cl:=zk.ek X G
 have BK:BltK K mg:=bk.blt X G
 obtain ⟨fdI_,FI_⟩:=hI_
 obtain ⟨_,F_14⟩:=h_14.fn
 obtain ⟨_,F_17⟩:=h_17.fn
 have F_35:=fun_mk (st:=s__law_right) l_35 c_35 k_35
 have F_law:=fun_mk (st:=s_law) l_law c_law k_law
 refine ⟨PySem.W.fnOf "law" "law" (defArgs s_law) (defBody s_law) (defScope s_law) .none kV_law dc_law pm_law an_law (.ref cc_law) ct_law,fun s v=>.of_eq rfl,fun base _ _=>?_⟩
 have IN:IniK l.prog w K mg base cl fI_ fdI_:=⟨zI_,ok_init FI_ Z,FI_.binds (ps:=["self","row"]) fun _ _ _ _ _ _=>ln2 fun _ _=>rfl⟩
 have C_0:Cal l.prog w K mg base "is_whole" 1 ["thing"] sp_wholeD:=h_0.cal X G (fun F=>ok_is_whole T F) fun _ _ _ _ _ _=>ln1 fun _=>rfl
 have C_1:Cal l.prog w K mg base "plain_divisor" 1 ["one","other"] sp_plain:=h_1.cal X G (fun F=>ok_plain_divisor T F) fun _ _ _ _ _ _=>ln2 fun _ _=>rfl
 have C_2:Cal l.prog w K mg base "divisor" 2 ["one","other"] sp_divisor:=h_2.cal X G (fun F=>ok_divisor T F C_1) fun _ _ _ _ _ _=>ln2 fun _ _=>rfl
 have C_3:Cal l.prog w K mg base "is_fraction" 3 ["thing"] sp_frD:=h_3.cal X G (fun F=>ok_is_fraction T F C_2 C_0) fun _ _ _ _ _ _=>ln1 fun _=>rfl
 have C_4:Cal l.prog w K mg base "number_of" 1 ["figures"] sp_numOf:=h_4.cal X G (fun F=>ok_number_of T F) fun _ _ _ _ _ _=>ln1 fun _=>rfl
 have C_5:Cal l.prog w K mg base "whole_in" 2 ["text"] sp_wholeIn:=h_5.cal X G (fun F=>ok_whole_in T F C_4) fun _ _ _ _ _ _=>ln1 fun _=>rfl
 have C_6:Cal l.prog w K mg base "whole_text" 1 ["number"] sp_wtext:=h_6.cal X G (fun F=>ok_whole_text T F) fun _ _ _ _ _ _=>ln1 fun _=>rfl
 have C_7:Cal l.prog w K mg base "written" 2 ["fraction"] sp_written:=h_7.cal X G (fun F=>ok_written T F C_6) fun _ _ _ _ _ _=>ln1 fun _=>rfl
 have C_8:Cal l.prog w K mg base "fraction_in" 4 ["text"] sp_frIn:=h_8.cal X G (fun F=>ok_fraction_in T F C_3 C_5) fun _ _ _ _ _ _=>ln1 fun _=>rfl
 have C_9:Cal l.prog w K mg base "listed" 1 ["texts"] sp_listed:=h_9.cal X G (fun F=>ok_listed T F) fun _ _ _ _ _ _=>ln1 fun _=>rfl
 have C_10:Cal l.prog w K mg base "row_written" 3 ["row"] sp_rowWr:=h_10.cal X G (fun F=>ok_row_written T F C_9 C_7) fun _ _ _ _ _ _=>ln1 fun _=>rfl
 have C_x11:Cal l.prog w K mg base "are_fractions" 4 ["thing","many"] sp_areFrD:=h_11.cal X G (fun F=>ok_are_fractionsD T F C_3) fun _ _ _ _ _ _=>ln2 fun _ _=>rfl
 have C_12:Cal l.prog w K mg base "look_at_fraction" 4 ["thing"] sp_lookF:=h_12.cal X G (fun F=>ok_look_at_fraction T F C_3) fun _ _ _ _ _ _=>ln1 fun _=>rfl
 have X_x13:CalX l.prog w K mg base "look_at_fraction" 4 ["thing"] (sp_lookFX (cl "NoFraction")):=h_12.calX X G (fun F=>ok_look_at_fractionX T F Z C_3) fun _ _ _ _ _ _=>ln1 fun _=>rfl
 have C_13:Cal l.prog w K mg base "fraction_text" 5 ["fraction"] sp_frTxt:=h_13.cal X G (fun F=>ok_fraction_text T F C_12 C_7) fun _ _ _ _ _ _=>ln1 fun _=>rfl
 have X_x15:CalX l.prog w K mg base "fraction_text" 5 ["fraction"] (sp_lookFX (cl "NoFraction")):=h_13.calX X G (fun F=>ok_fraction_textX T F Z X_x13) fun _ _ _ _ _ _=>ln1 fun _=>rfl
 have U_14:Cal1 l.prog w K mg base "row_text" 5 "row" sp_rowWr:=⟨f_14,_,ok_row_text T F_14 C_x11 C_10,PySem.W.mg_of X G h_14.a,h_14.k,fun s u _=>by (obtain ⟨_,_,_,_,_,_,_,_,_,e,_,_⟩:=F_14.ex; subst e; exact .of_eq rfl)⟩
 have C_14:Cal l.prog w K mg base "row_text" 5 ["row"] sp_rowWr:=h_14.cal X G (fun F=>ok_row_text T F C_x11 C_10) fun _ _ _ _ _ _=>ln1 fun _=>rfl
 have X_x17:CalX l.prog w K mg base "row_text" 5 ["row"] (sp_rowTxtX (cl "NoFraction")):=h_14.calX X G (fun F=>ok_row_textX T F Z C_x11 C_10) fun _ _ _ _ _ _=>ln1 fun _=>rfl
 have C_15:Cal l.prog w K mg base "look_at_text" 4 ["thing"] sp_lookT:=h_15.cal X G (fun F=>ok_look_at_text T F) fun _ _ _ _ _ _=>ln1 fun _=>rfl
 have X_x19:CalX l.prog w K mg base "look_at_text" 4 ["thing"] (sp_lookTX (cl "NoText")):=h_15.calX X G (fun F=>ok_look_at_textX T F Z IN) fun _ _ _ _ _ _=>ln1 fun _=>rfl
 have C_16:Cal l.prog w K mg base "read_fraction" 6 ["text"] (sp_read oneO):=h_16.cal X G (fun F=>ok_read_fraction T F C_8 C_15) fun _ _ _ _ _ _=>ln1 fun _=>rfl
 have X_x21:CalX l.prog w K mg base "read_fraction" 6 ["text"] (sp_readX oneO (cl "NoText")):=h_16.calX X G (fun F=>ok_read_fractionX T F Z IN C_8 X_x19) fun _ _ _ _ _ _=>ln1 fun _=>rfl
 have U_17:Cal1 l.prog w K mg base "read_row" 6 "text" (sp_read rowO):=⟨f_17,_,ok_read_row T F_17 C_8 C_15,PySem.W.mg_of X G h_17.a,h_17.k,fun s u _=>by (obtain ⟨_,_,_,_,_,_,_,_,_,e,_,_⟩:=F_17.ex; subst e; exact .of_eq rfl)⟩
 have C_17:Cal l.prog w K mg base "read_row" 6 ["text"] (sp_read rowO):=h_17.cal X G (fun F=>ok_read_row T F C_8 C_15) fun _ _ _ _ _ _=>ln1 fun _=>rfl
 have X_x23:CalX l.prog w K mg base "read_row" 6 ["text"] (sp_readX rowO (cl "NoText")):=h_17.calX X G (fun F=>ok_read_rowX T F Z IN C_8 X_x19) fun _ _ _ _ _ _=>ln1 fun _=>rfl
 have H_18:CalH l.prog w K mg base "_law_marks" 1 ["_law_e"] (sp_marks K cl):=h_18.calH X G (fun F=>ok__law_marks T F Z) fun _ _ _ _ _ _=>ln1 fun _=>rfl
 have H_19:CalH l.prog w K mg base "_law_word" 2 ["_law_e"] (sp_word K cl):=h_19.calH X G (fun F=>ok__law_word T F Z H_18) fun _ _ _ _ _ _=>ln1 fun _=>rfl
 have C_20:Cal l.prog w K mg base "_law_said" 9 ["_law_call"] (sp_said l.prog w K mg base cl):=h_20.cal X G (fun F=>ok__law_said T F Z H_19) fun _ _ _ _ _ _=>ln1 fun _=>rfl
 have C_21:Cal l.prog w K mg base "_law_cell_at" 1 ["_law_script","_law_k"] (sp_cell K):=h_21.cal X G (fun F=>ok__law_cell_at T F) fun _ _ _ _ _ _=>ln2 fun _ _=>rfl
 have C_22:Cal l.prog w K mg base "_law_state" 2 ["_law_script","_law_k"] (sp_state K):=h_22.cal X G (fun F=>ok__law_state T F C_21) fun _ _ _ _ _ _=>ln2 fun _ _=>rfl
 have C_23:Cal l.prog w K mg base "_law_choice" 1 ["_law_state_here","_law_many"] sp_choice:=h_23.cal X G (fun F=>ok__law_choice T F) fun _ _ _ _ _ _=>ln2 fun _ _=>rfl
 have C_24:Cal l.prog w K mg base "_law_low" 1 ["_law_top","_law_bottom"] sp_low:=h_24.cal X G (fun F=>ok__law_low T F) fun _ _ _ _ _ _=>ln2 fun _ _=>rfl
 have C_25:Cal l.prog w K mg base "_law_fraction" 2 ["_law_state_here"] (sp_drawn6 44):=h_25.cal X G (fun F=>ok__law_fraction T F C_23 C_24) fun _ _ _ _ _ _=>ln1 fun _=>rfl
 have C_26:Cal l.prog w K mg base "_law_row" 3 ["_law_state_here","_law_many"] sp_rowQ:=h_26.cal X G (fun F=>ok__law_row T F C_25) fun _ _ _ _ _ _=>ln2 fun _ _=>rfl
 have C_27:Cal l.prog w K mg base "_law_same" 1 ["_law_found","_law_due"] sp_sameR:=h_27.cal X G (fun F=>ok__law_same T F) fun _ _ _ _ _ _=>ln2 fun _ _=>rfl
 have C_28:Cal l.prog w K mg base "_law_shown" 1 ["_law_one"] sp_written:=h_28.cal X G (fun F=>ok__law_shown T F) fun _ _ _ _ _ _=>ln1 fun _=>rfl
 have C_29:Cal l.prog w K mg base "_law_row_text" 2 ["_law_spot"] sp_rowWr:=h_29.cal X G (fun F=>ok__law_row_text T F C_28) fun _ _ _ _ _ _=>ln1 fun _=>rfl
 have C_30:Cal l.prog w K mg base "_law_number" 1 ["_law_word_here"] sp_numb:=h_30.cal X G (fun F=>ok__law_number T F) fun _ _ _ _ _ _=>ln1 fun _=>rfl
 have C_31:Cal l.prog w K mg base "_law_read_one" 2 ["_law_word_here"] sp_rdOne:=h_31.cal X G (fun F=>ok__law_read_one T F C_24 C_30) fun _ _ _ _ _ _=>ln1 fun _=>rfl
 have C_32:Cal l.prog w K mg base "_law_row_due" 3 ["_law_thing"] (sp_due rowO):=h_32.cal X G (fun F=>ok__law_row_due T F C_31) fun _ _ _ _ _ _=>ln1 fun _=>rfl
 have C_33:Cal l.prog w K mg base "_law_one_due" 3 ["_law_thing"] (sp_due oneO):=h_33.cal X G (fun F=>ok__law_one_due T F C_31) fun _ _ _ _ _ _=>ln1 fun _=>rfl
 have C_34:Cal l.prog w K mg base "_law_turned_text" 2 ["_law_state_here","_law_wording"] sp_turned:=h_34.cal X G (fun F=>ok__law_turned_text T F C_23) fun _ _ _ _ _ _=>ln2 fun _ _=>rfl
 have C_35:Cal l.prog w K mg base "_law_right" 11 ["_law_thing"] (sp_right P_35):=⟨f_35,_,ok__law_right T F_35 Z rfl (fun _ Y=>PySem.W.codeHd_of_K Y hd_35) BK X_x23 X_x21 C_33 C_32 C_20 C_27,PySem.W.mg_of X G a_35,k_35,F_35.binds (ps:=["_law_thing"]) fun _ _ _ _ _ _=>ln1 fun _=>rfl⟩
 have C_36:Cal l.prog w K mg base "_law_whole" 1 ["_law_thing"] sp_wholeD:=h_36.cal X G (fun F=>ok__law_whole T F) fun _ _ _ _ _ _=>ln1 fun _=>rfl
 have C_37:Cal l.prog w K mg base "_law_is_fraction" 2 ["_law_thing"] sp_lawfr:=h_37.cal X G (fun F=>ok__law_is_fraction T F C_24 C_36) fun _ _ _ _ _ _=>ln1 fun _=>rfl
 have C_38:Cal l.prog w K mg base "_law_odd" 2 ["_law_state_here"] sp_odd:=h_38.cal X G (fun F=>ok__law_odd T F C_23) fun _ _ _ _ _ _=>ln1 fun _=>rfl
 exact ok_law T F_law Z rfl (fun _ Y=>PySem.W.codeHd_of_K Y hd_law) BK X_x17 X_x15 C_23 C_37 C_24 C_38 C_35 C_26 C_29 C_20 C_27 C_28 C_22 C_34 C_13 C_16 C_17 C_14 U_17 U_14
theorem walk {l:PySem.W.OpenLaw} {q:Program} {loose:List Str} {XP:(Str→Option Value)→Heap→Prop} {YP:World→Heap→Prop} {d:DefRec} {K:Params→PySem.W.Frag} {c1 c2 P1 P2:Addr} (hn:l.most=some 63) (hdf:d.params.defaults=[]) (hne:P1≠P2)
 (hY:∀ (w:World) (h:Heap),YP w h→(K w.params).In h∧h.get? P1=some (PySem.W.tabObj #[])∧h.get? P2=some (PySem.W.tabObj #[]))
 (hc:∀ P,PySem.W.codeHdIn (K P) c1 P1=true∧PySem.W.codeHdIn (K P) c2 P2=true∧(K P).lookup P1=none∧(K P).lookup P2=none)
 (F:∀ (w:World) (mg:Str→Option Value) (fa:Addr) (h:Heap),(K w.params).In h→h.Ns mainGlobals mg→mg d.name=some (.ref fa) →
   ∃ fd:FuncData,(∀ (s:Shared) (u:Value),BindsTo s fd ⟨[u],[]⟩ [("_law_script",u)])∧∀ base:Heap,(K w.params).In base→base.Ns mainGlobals mg→FnOk l.prog w (K w.params) mg base CX0 12 fa fd ["_law_script"] (sp_law (K w.params) P1 P2)) (him:importsNone q=true:=by decide +kernel) :
 PySem.W.WalkO q loose XP YP l.row.toRowW d [] (fun f vs=>PySem.call f vs) :=
 L2.walk_ofT (n:=63) (k:=12) (x := "_law_script") (sp:=fun w=>sp_law (K w.params) P1 P2) hn (by decide) hdf ⟨rfl,by decide,by decide,rfl⟩ hY hc F (fun _ _ a ns hl hS e1 e2=>⟨a,ns,rfl,hS,hl,hne,tabF_nil e1,tabF_nil e2,fun _=>rfl⟩) him
end My

namespace My
open PySem PySem.W PyProof.Rows L2
set_option maxRecDepth 1000000
set_option maxHeartbeats 0
def gE (P : Params) (n : Str) (t : Tok) (v : Value) : DictEntry := ⟨PySem.PyData.keyHash P n, .str n t, v⟩
def gR (P : Params) (n : Str) (t : Tok) (a : Addr) : DictEntry := gE P n t (.ref a)
def fO (n : Str) (i : Nat) (m : Str) (mt : Tok) (c : Addr) (dv : Value) : Obj := { cls := .type "function", data := .func (PySem.W.fnOf n n (defArgs (top i)) (defBody (top i)) (defScope (top i)) dv .none .none (.str m mt) none (.ref c) .none) }
def cO (n : Str) (a : Tok) (l k : Int) (r s : Addr) (u v : Value) (t : Nat) : Obj := { cls := .type "code", data := .fields (Array.mk [.str n a, .str n (a + 1), .str "/claim/cut.py" (a + 2), .int l 0, .int k 0, .int 0 0, .int 0 0, .int 3 0, .ref r, .bool true, .int 181 0, .ref (r + 1), .none, u, v, .ref s, .int t 0, .int l 0, .str "/claim/cut.py" (t + 1)]) }
def dR (n : Str) (i : Nat) (m : Str) (mt a : Tok) (l k : Int) (r : Addr) (t : Nat) : Frag := [(r + 6, fO n i m mt (r + 5) .none), (r + 5, cO n a l k r (r + 4) (.ref (r + 2)) (.ref (r + 3)) t)]
def dN (n : Str) (i : Nat) (m : Str) (mt a : Tok) (l k : Int) (r : Addr) (t : Nat) : Frag := [(r + 4, fO n i m mt (r + 3) .none), (r + 3, cO n a l k r (r + 2) .none .none t)]
def defPos (s : Stmt) : Pos := match s with | .FunctionDef _ _ _ _ _ _ _ _ _ p => p | _ => ⟨0, 0, 0, 0⟩
def vE : List Value := [.type "ValueError", .type "Exception", .type "BaseException", .type "object"]
def clO (n : Str) (a d : Addr) (t : Tok) (bs mr su : List Value) : Addr × Obj := (a, { cls := .type "type", data := .cls { name := n, bases := bs, mro := .ref a :: mr, ns := a - 1, qualname := n, subclasses := su }, slots := #[some (.ref d), none, some (.str n t), some (.str n (t + 8)), some (.builtin "ValueError.__new__"), some (.bool true)] })
def clS (n : Str) (a d : Addr) (t : Tok) : Addr × Obj := clO n a d t [.ref 24] (.ref 24 :: vE) []
def fIO : Obj := { cls := .type "function", data := .func (PySem.W.fnOf "__init__" "NoText.__init__" (defArgs s_init) (defBody s_init) (defScope s_init) .none .none .none (.str "platerest.errors" 187) none (.ref 347) .none) }
def m0 : Str := "platerest.quotients"
def m1 : Str := "platerest.divisors"
def m2 : Str := "platerest.texts"
def m3 : Str := "law_platerest_k75_fractions_and_rows_as_text"
noncomputable def kK (P : Params) : Frag := (3, { cls := .type "dict", data := (.dict #[gE P "__name__" 165 (.str "law_platerest_k75_fractions_and_rows_as_text" 854),
gE P "__doc__" 166 (.none),
gE P "__package__" 167 (.none),
gE P "__loader__" 168 (.builtin "__main__.__loader__#opaque"),
gE P "__spec__" 169 (.none),
gR P "__annotations__" 170 6,
gR P "__builtins__" 171 4,
gE P "__file__" 173 (.str "/claim/cut.py" 172),
gE P "__cached__" 174 (.none),
gR P "PlateError" 206 24,
gR P "NoWhole" 222 37,
gR P "NoFraction" 238 49,
gR P "NoRows" 254 61,
gR P "NoPlate" 270 73,
gR P "NoMotions" 286 85,
gR P "NoLoads" 302 97,
gR P "NoHolding" 318 109,
gR P "NoWays" 334 121,
gR P "NoWay" 350 133,
gR P "NoPiece" 366 145,
gR P "NoStresses" 382 157,
gR P "NoBalance" 398 169,
gR P "NoRest" 414 181,
gR P "NoRounds" 430 193,
gR P "NoFrame" 446 205,
gR P "NoLot" 462 217,
gR P "NoInner" 478 229,
gR P "NoTurning" 494 241,
gR P "NoFirm" 510 253,
gR P "NoThick" 526 265,
gR P "NoDeed" 542 277,
gR P "NoDeeds" 558 289,
gR P "NotHeld" 574 301,
gR P "NoLine" 590 313,
gR P "TooMany" 617 332,
gR P "NoText" 642 351,
gE P "GREAT_BITS" 646 (.int 4000 645),
gE P "FEW_BITS" 648 (.int 200 647),
gR P "plain_divisor" 656 360,
gR P "few_steps" 671 367,
gR P "mixed_by" 686 374,
gR P "shrinking" 706 381,
gR P "divisor" 715 388,
gR P "is_whole" 724 395,
gR P "is_fraction" 733 402,
gR P "are_fractions" 739 407,
gR P "look_at_fraction" 746 414,
gE P "AT_ONCE" 750 (.int 60 749),
gE P "BASE" 754 (.int 1000000000000000000000000000000000000000000000000000000000000 753),
gR P "whole_text" 765 421,
gR P "number_of" 775 428,
gR P "whole_in" 784 435,
gR P "written" 793 442,
gR P "fraction_in" 805 449,
gR P "listed" 812 456,
gR P "row_written" 818 461,
gR P "look_at_text" 825 468,
gR P "fraction_text" 832 475,
gR P "row_text" 839 482,
gR P "read_fraction" 847 489,
gR P "read_row" 853 494,
gR P "_law_cell_at" 863 501,
gR P "_law_state" 872 508,
gR P "_law_choice" 882 515,
gR P "_law_low" 892 522,
gR P "_law_fraction" 901 529,
gR P "_law_row" 907 534,
gR P "_law_same" 915 541,
gR P "_law_odd" 923 548,
gR P "_law_marks" 931 555,
gR P "_law_word" 941 562,
gR P "_law_said" 949 569,
gR P "_law_whole" 956 576,
gR P "_law_is_fraction" 962 581,
gR P "_law_shown" 969 588,
gR P "_law_row_text" 975 593,
gR P "_law_number" 981 598,
gR P "_law_read_one" 987 603,
gR P "_law_row_due" 993 608,
gR P "_law_one_due" 1001 615,
gR P "_law_turned_text" 1013 622,
gR P "_law_right" 1021 629,
gR P "law" 1027 634] 83) }) :: (dR "is_whole" 37 m0 716 718 104 1 389 722 ++
dR "plain_divisor" 31 m1 643 649 66 2 354 654 ++
dR "divisor" 35 m1 643 707 97 2 382 713 ++
dR "is_fraction" 38 m0 716 725 106 1 396 731 ++
dR "number_of" 45 m2 747 766 132 1 422 773 ++
dR "whole_in" 46 m2 747 776 138 1 429 782 ++
dR "whole_text" 44 m2 747 755 123 1 415 763 ++
dR "written" 47 m2 747 785 146 1 436 791 ++
dR "fraction_in" 48 m2 747 794 149 1 443 803 ++
dR "listed" 49 m2 747 806 156 1 450 810 ++
dN "row_written" 50 m2 747 813 158 1 457 816 ++
dN "are_fractions" 39 m0 716 734 113 2 403 737 ++
dR "look_at_fraction" 40 m0 716 740 117 1 408 744 ++
dR "fraction_text" 52 m2 747 826 163 1 469 830 ++
dR "row_text" 53 m2 747 833 166 1 476 837 ++
dR "look_at_text" 51 m2 747 819 160 1 462 823 ++
dR "read_fraction" 54 m2 747 840 170 1 483 845 ++
dN "read_row" 55 m2 747 848 176 1 490 851 ++
dR "_law_marks" 65 m3 854 924 218 1 549 929 ++
dR "_law_word" 66 m3 854 932 230 1 556 939 ++
dR "_law_said" 67 m3 854 942 243 1 563 947 ++
dR "_law_cell_at" 57 m3 854 856 183 2 495 861 ++
dR "_law_state" 58 m3 854 864 187 2 502 870 ++
dR "_law_choice" 59 m3 854 873 190 2 509 880 ++
dR "_law_low" 60 m3 854 883 200 2 516 890 ++
dR "_law_fraction" 61 m3 854 893 205 1 523 899 ++
dN "_law_row" 62 m3 854 902 211 2 530 905 ++
dR "_law_same" 63 m3 854 908 213 2 535 913 ++
dR "_law_shown" 70 m3 854 963 254 1 582 967 ++
dN "_law_row_text" 71 m3 854 970 256 1 589 973 ++
dN "_law_number" 72 m3 854 976 258 1 594 979 ++
dN "_law_read_one" 73 m3 854 982 263 1 599 985 ++
dN "_law_row_due" 74 m3 854 988 269 1 604 991 ++
dR "_law_one_due" 75 m3 854 994 274 1 609 999 ++
dR "_law_turned_text" 76 m3 854 1002 279 2 616 1011 ++
dR "_law_right" 77 m3 854 1014 286 1 623 1019 ++
dR "_law_whole" 68 m3 854 950 248 1 570 954 ++
dN "_law_is_fraction" 69 m3 854 957 250 1 577 960 ++
dR "_law_odd" 64 m3 854 916 215 1 542 921 ++
dN "law" 78 m3 854 1022 290 1 630 1025 ++
[clO "PlateError" 24 15 189 [.type "ValueError"] vE [.ref 37, .ref 49, .ref 61, .ref 73, .ref 85, .ref 97, .ref 109, .ref 121, .ref 133, .ref 145, .ref 157, .ref 169, .ref 181, .ref 193, .ref 205, .ref 217, .ref 229, .ref 241, .ref 253, .ref 265, .ref 277, .ref 289, .ref 301, .ref 313, .ref 332, .ref 351],
clS "NoWhole" 37 28 207,
clS "NoFraction" 49 40 223,
clS "NoRows" 61 52 239,
clS "NoPlate" 73 64 255,
clS "NoMotions" 85 76 271,
clS "NoLoads" 97 88 287,
clS "NoHolding" 109 100 303,
clS "NoWays" 121 112 319,
clS "NoWay" 133 124 335,
clS "NoPiece" 145 136 351,
clS "NoStresses" 157 148 367,
clS "NoBalance" 169 160 383,
clS "NoRest" 181 172 399,
clS "NoRounds" 193 184 415,
clS "NoFrame" 205 196 431,
clS "NoLot" 217 208 447,
clS "NoInner" 229 220 463,
clS "NoTurning" 241 232 479,
clS "NoFirm" 253 244 495,
clS "NoThick" 265 256 511,
clS "NoDeed" 277 268 527,
clS "NoDeeds" 289 280 543,
clS "NotHeld" 301 292 559,
clS "NoLine" 313 304 575,
clS "TooMany" 332 316 591,
clS "NoText" 351 335 618,
(23, { cls := .type "dict", data := (.dict #[gE P "__module__" 196 (.str "platerest.errors" 187), gE P "__firstlineno__" 200 (.int 2 199), gR P "__static_attributes__" 201 22, gR P "__weakref__" 203 25, gE P "__doc__" 204 (.none)] 3) }),
(48, { cls := .type "dict", data := (.dict #[gE P "__module__" 230 (.str "platerest.errors" 187), gE P "__firstlineno__" 234 (.int 6 233), gR P "__static_attributes__" 235 47, gE P "__doc__" 236 (.none)] 2) }),
(350, { cls := .type "dict", data := (.dict #[gE P "__module__" 625 (.str "platerest.errors" 187), gE P "__firstlineno__" 629 (.int 58 628), gR P "__init__" 637 348, gR P "__static_attributes__" 639 349, gE P "__doc__" 640 (.none)] 2) }),
(4, { cls := .type "module", dict := some builtinsNs }),
(348, fIO),
(2, { cls := .none, data := (.dict #[] 0) }),
(347, { cls := .type "code", data := .fields (Array.mk [.str "__init__" 630, .str "NoText.__init__" 631, .str "/claim/cut.py" 632, .int 60 0, .int 2 0, .int 0 0, .int 0 0, .int 3 0, .ref 342, .bool true, .int 181 0, .ref 343, .none, .ref 344, .ref 345, .ref 346, .int 635 0, .int 60 0, .str "/claim/cut.py" 636]) })])
def kA : List Addr := [3, 395, 394, 360, 359, 388, 387, 402, 401, 428, 427, 435, 434, 421, 420, 442, 441, 449, 448, 456, 455, 461, 460, 407, 406, 414, 413, 475, 474, 482, 481, 468, 467, 489, 488, 494, 493, 555, 554, 562, 561, 569, 568, 501, 500, 508, 507, 515, 514, 522, 521, 529, 528, 534, 533, 541, 540, 588, 587, 593, 592, 598, 597, 603, 602, 608, 607, 615, 614, 622, 621, 629, 628, 576, 575, 581, 580, 548, 547, 634, 633, 24, 37, 49, 61, 73, 85, 97, 109, 121, 133, 145, 157, 169, 181, 193, 205, 217, 229, 241, 253, 265, 277, 289, 301, 313, 332, 351, 23, 48, 350, 4, 348, 2, 347]
theorem kAs : ∀ P, kA = (kK P).map (·.1) := fun _ => by kernel_rfl
def kT : List Addr := [624, 631]
def clA (x : Str) : Addr := (List.lookup x [("PlateError", 24), ("NoWhole", 37), ("NoFraction", 49), ("NoRows", 61), ("NoPlate", 73), ("NoMotions", 85), ("NoLoads", 97), ("NoHolding", 109), ("NoWays", 121), ("NoWay", 133), ("NoPiece", 145), ("NoStresses", 157), ("NoBalance", 169), ("NoRest", 181), ("NoRounds", 193), ("NoFrame", 205), ("NoLot", 217), ("NoInner", 229), ("NoTurning", 241), ("NoFirm", 253), ("NoThick", 265), ("NoDeed", 277), ("NoDeeds", 289), ("NotHeld", 301), ("NoLine", 313), ("TooMany", 332), ("NoText", 351)]).getD 0
theorem kind_is {K : PySem.W.Frag} {cl : Str → Addr} {C : Addr} {ix : Nat} (h : (CLS.map fun x => PySem.W.kitOne K (.ref C) (.ref (cl x))) = (List.range 26).map fun i => some (decide (i = ix))) : ∀ (i : Nat) x, CLS[i]? = some x → PySem.W.kitOne K (.ref C) (.ref (cl x)) = some (decide (i = ix)) := by
  intro i x e
  have q := congrArg (fun l => l[i]?) h
  simp only [List.getElem?_map, e, Option.map_some] at q
  have hi : i < 26 := (List.getElem?_eq_some_iff.mp e).1
  rw [List.getElem?_range hi] at q
  exact Option.some.inj q
theorem kz_nm (P : Params) : (CLS.map fun x => PySem.W.nsIn (kK P) mainGlobals x) = CLS.map fun x => some (some (.ref (clA x))) := by kernel_rfl
theorem kx_NoFraction (P : Params) : ExcK (kK P) (clA "NoFraction") := ⟨_, _, _, PySem.F.excBase_ValueError, by kernel_rfl⟩
theorem ky_NoFraction (P : Params) : Kind (kK P) clA (clA "NoFraction") 4 := ⟨kind_is (by kernel_rfl), by kernel_rfl, by kernel_rfl, by kernel_rfl, by kernel_rfl, by kernel_rfl, fun _ => by kernel_rfl, by kernel_rfl, by kernel_rfl⟩
theorem ky_NoText (P : Params) : Kind (kK P) clA (clA "NoText") 25 := ⟨kind_is (by kernel_rfl), by kernel_rfl, by kernel_rfl, by kernel_rfl, by kernel_rfl, by kernel_rfl, fun _ => by kernel_rfl, by kernel_rfl, by kernel_rfl⟩
theorem kxg (P : Params) : XGet (kK P) (clA "NoText") "row" := ⟨(ky_NoText P).lk, by kernel_rfl, by kernel_rfl, by kernel_rfl⟩
theorem kxa (P : Params) : XAttr (kK P) (clA "NoText") "row" := ⟨by kernel_rfl, by kernel_rfl, by kernel_rfl⟩
theorem kpk (P : Params) : PEk (kK P) (clA "PlateError") := ⟨by kernel_rfl, by kernel_rfl, by kernel_rfl⟩
theorem kfI (P : Params) : (kK P).lookup 348 = some fIO := by kernel_rfl
theorem khI (P : Params) : ∃ fd, Fun (kK P) "__init__" "NoText.__init__" s_init 348 fd := ⟨_, fun_mk (st := s_init) (kfI P) (by kernel_rfl) (by kernel_rfl)⟩
theorem kzI (P : Params) : ExcKI (kK P) (clA "NoText") 348 := ⟨⟨_, _, _, PySem.F.excBase_ValueError, by kernel_rfl⟩, ⟨_, kfI P, rfl⟩⟩
theorem kz (P : Params) : EkK (kK P) clA := ⟨List.map_inj_left.mp (kz_nm P), by kernel_rfl, by kernel_rfl, kx_NoFraction P, ky_NoFraction P, ky_NoText P, kxg P, kxa P, kpk P, by kernel_rfl⟩
theorem kb (P : Params) : BkK (kK P) := ⟨4, { cls := .type "module", dict := some builtinsNs }, by kernel_rfl, by decide, by decide, by kernel_rfl, rfl, rfl, rfl⟩
theorem h3 : ∀ w os, (topK pw 14466 w os).map (fun s => (kA.map s.abs.heap.get?, kT.map s.abs.heap.get?)) = some (((kK w.params).map fun p => some p.2, kT.map fun _ => some (tabObj #[]))) := fun w os => by
  unfold topK topStub
  rw [PySem.W.Fast.te4652649595001227023, PySem.W.Fast.te14364793385576792824, PySem.W.Fast.te17154629097778926822, PySem.W.Fast.te12822647523644345616]
  kernel_rfl
theorem left : LeftO pw qq ll (fun s => xlAt qq [] s && recOk (RowW.records (OpenRow.toRowW rr)) s) (Hook.obs (kmHook kK kA kAs kT)) (Hook.val (kmHook kK kA kAs kT)) 14466 :=
  left_of_run (T0 := bootT) (life := {}) (by kernel_rfl) (by kernel_rfl) (fun s => by kernel_rfl) boot_abs boot_size (run_of_parts (R := topK pw 14466) h1 h2 h3)
theorem lk4 {P : Params} {b : Str} {i : Nat} {f : Addr} (c : Addr) (m : Str) (mt : Tok) (h : ((kK P).lookup f, PySem.W.nsIn (kK P) mainGlobals b, PySem.W.codeIn (kK P) (.ref c) b, PySem.W.keepIn (kK P) (.ref f)) = (some (fO b i m mt c .none), some (some (.ref f)), true, true)) : Lk (kK P) b (top i) f := lk_mk (Prod.mk.inj (Prod.mk.inj h).2).1 (Prod.mk.inj h).1 (Prod.mk.inj (Prod.mk.inj (Prod.mk.inj h).2).2).1 (Prod.mk.inj (Prod.mk.inj (Prod.mk.inj h).2).2).2
theorem kh__law_right (P : Params) : PySem.W.codeHdIn (kK P) 628 624 = true := by kernel_rfl
theorem kl__law_right (P : Params) : (kK P).lookup 629 = some (fO "_law_right" 77 m3 854 628 .none) := by kernel_rfl
theorem ka__law_right (P : Params) : PySem.W.nsIn (kK P) mainGlobals "_law_right" = some (some (.ref 629)) := by kernel_rfl
theorem kc__law_right (P : Params) : PySem.W.codeIn (kK P) (.ref 628) "_law_right" = true := by kernel_rfl
theorem kk__law_right (P : Params) : PySem.W.keepIn (kK P) (.ref 629) = true := by kernel_rfl
theorem kh_law (P : Params) : PySem.W.codeHdIn (kK P) 633 631 = true := by kernel_rfl
theorem kl_law (P : Params) : (kK P).lookup 634 = some (fO "law" 78 m3 854 633 .none) := by kernel_rfl
theorem ka_law (P : Params) : PySem.W.nsIn (kK P) mainGlobals "law" = some (some (.ref 634)) := by kernel_rfl
theorem kc_law (P : Params) : PySem.W.codeIn (kK P) (.ref 633) "law" = true := by kernel_rfl
theorem kk_law (P : Params) : PySem.W.keepIn (kK P) (.ref 634) = true := by kernel_rfl
theorem hcL : ∀ P, PySem.W.codeHdIn (kK P) 628 624 = true ∧ PySem.W.codeHdIn (kK P) 633 631 = true ∧ (kK P).lookup 624 = none ∧ (kK P).lookup 631 = none := fun P => ⟨kh__law_right P, kh_law P, by kernel_rfl, by kernel_rfl⟩
def dL : DefRec := ⟨"law", defArgs (top 78), defBody (top 78), defScope (top 78), defPos (top 78)⟩
theorem hdL : defOf qq (OpenRow.toRowW rr).name = some (dL, []) := by kernel_rfl
theorem hpL : (OpenRow.toRowW rr).prog.theDef (OpenRow.toRowW rr).name = some (dL.params, dL.body, dL.scope) := by kernel_rfl
theorem hkL : kwWritten? dL.params.kwonlyargs dL.params.kw_defaults = some [] := by kernel_rfl
theorem okL : (chainsOk qq && opensWell (OpenRow.toRowW rr).prog && (frees (OpenRow.toRowW rr) && (OpenRow.toRowW rr).within.isEmpty)) = true := by kernel_rfl
theorem dfL : dL.params.defaults = [] := by kernel_rfl
theorem wkL : WalkO qq ll (XL qq []) (Hook.says (kmHook kK kA kAs kT)) (OpenRow.toRowW rr) dL [] (fun f vs => PySem.call f vs) := by
  refine My.walk (l := PySem.Challenge.rw_platerest_k75_fractions_and_rows_as_text) rfl dfL (by decide) (fun w h Y => ⟨PySem.W.km_in_of Y, PySem.W.km_tabs_of Y _ (by decide), PySem.W.km_tabs_of Y _ (by decide)⟩) hcL ?F
  intro w mg fa h KX G hmg
  exact all_mk KX G hmg (lk4 (f:=395) 394 m0 716 (by kernel_rfl)) (lk4 (f:=360) 359 m1 643 (by kernel_rfl)) (lk4 (f:=388) 387 m1 643 (by kernel_rfl)) (lk4 (f:=402) 401 m0 716 (by kernel_rfl)) (lk4 (f:=428) 427 m2 747 (by kernel_rfl)) (lk4 (f:=435) 434 m2 747 (by kernel_rfl)) (lk4 (f:=421) 420 m2 747 (by kernel_rfl)) (lk4 (f:=442) 441 m2 747 (by kernel_rfl)) (lk4 (f:=449) 448 m2 747 (by kernel_rfl)) (lk4 (f:=456) 455 m2 747 (by kernel_rfl)) (lk4 (f:=461) 460 m2 747 (by kernel_rfl)) (lk4 (f:=407) 406 m0 716 (by kernel_rfl)) (lk4 (f:=414) 413 m0 716 (by kernel_rfl)) (lk4 (f:=475) 474 m2 747 (by kernel_rfl)) (lk4 (f:=482) 481 m2 747 (by kernel_rfl)) (lk4 (f:=468) 467 m2 747 (by kernel_rfl)) (lk4 (f:=489) 488 m2 747 (by kernel_rfl)) (lk4 (f:=494) 493 m2 747 (by kernel_rfl)) (lk4 (f:=555) 554 m3 854 (by kernel_rfl)) (lk4 (f:=562) 561 m3 854 (by kernel_rfl)) (lk4 (f:=569) 568 m3 854 (by kernel_rfl)) (lk4 (f:=501) 500 m3 854 (by kernel_rfl)) (lk4 (f:=508) 507 m3 854 (by kernel_rfl)) (lk4 (f:=515) 514 m3 854 (by kernel_rfl)) (lk4 (f:=522) 521 m3 854 (by kernel_rfl)) (lk4 (f:=529) 528 m3 854 (by kernel_rfl)) (lk4 (f:=534) 533 m3 854 (by kernel_rfl)) (lk4 (f:=541) 540 m3 854 (by kernel_rfl)) (lk4 (f:=588) 587 m3 854 (by kernel_rfl)) (lk4 (f:=593) 592 m3 854 (by kernel_rfl)) (lk4 (f:=598) 597 m3 854 (by kernel_rfl)) (lk4 (f:=603) 602 m3 854 (by kernel_rfl)) (lk4 (f:=608) 607 m3 854 (by kernel_rfl)) (lk4 (f:=615) 614 m3 854 (by kernel_rfl)) (lk4 (f:=622) 621 m3 854 (by kernel_rfl)) (kh__law_right _) (ka__law_right _) (kl__law_right _) (kc__law_right _) (kk__law_right _) (lk4 (f:=576) 575 m3 854 (by kernel_rfl)) (lk4 (f:=581) 580 m3 854 (by kernel_rfl)) (lk4 (f:=548) 547 m3 854 (by kernel_rfl)) (kh_law _) (ka_law _) (kl_law _) (kc_law _) (kk_law _) (by kernel_rfl) (by kernel_rfl) (by kernel_rfl) (by kernel_rfl) (by kernel_rfl) (by kernel_rfl) (by kernel_rfl) (by kernel_rfl) (by kernel_rfl) (by kernel_rfl) (by kernel_rfl) (by kernel_rfl) (by kernel_rfl) (tn_AT_ONCE:=749) (by kernel_rfl) (tn_BASE:=753) (by kernel_rfl) (tn_GREAT_BITS:=645) (by kernel_rfl) (kz _) (kb _) (khI _) (kzI _)
end My
open PySem PySem.W PyProof.Rows
set_option maxRecDepth 1000000 in
set_option maxHeartbeats 0 in
theorem PySem.Challenge.cw_platerest_k75_fractions_and_rows_as_text_holds : PySem.Challenge.rw_platerest_k75_fractions_and_rows_as_text.Holds := by
  refine holds_law My.ws fun said => ?_
  refine holds_open (q := My.qq) (loose := My.ll) (Xt := fun s => xlAt My.qq [] s && recOk (RowW.records (OpenRow.toRowW My.rr)) s) (XP := XL My.qq []) (Yf := Hook.obs (kmHook My.kK My.kA My.kAs My.kT)) (Ya := Hook.val (kmHook My.kK My.kA My.kAs My.kT)) (YP := Hook.says (kmHook My.kK My.kA My.kAs My.kT)) My.left (Hook.of (kmHook My.kK My.kA My.kAs My.kT)) (Hook.keeps (kmHook My.kK My.kA My.kAs My.kT)) (fun s e => xl_of s (Bool.and_eq_true_iff.mp e).1) XL.keeps My.hdL My.hpL My.hkL (fun s e => recFacts_of (Bool.and_eq_true_iff.mp e).2) rfl said My.okL ⟨rfl, rfl, rfl, rfl, rfl, by decide +kernel⟩ ?hw My.wkL
  case hw => w_witness2
