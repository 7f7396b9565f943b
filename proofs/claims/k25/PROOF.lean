import PyProof.Rows.All
import Wide.All
import OpenK.AllK
import Wide.FinOn
import Lean
import PyProof.EqAt
import PyProof.EqKinds
import PyProof.TupleCall
import PyProof.NeKinds
import PyProof.ConsumeWalk
import PyProof.ReprRoads
import PyProof.ReprLen
import PyProof.ZipIter
import PyProof.Draws
import PyProof.EnumMake
import PySem.SetTable
import PyProof.TupleKey
import PyProof.Rows.SetFrom
import PyProof.InstEq
import PyProof.WalksMore
import PyProof.SumWalkG
import PyProof.Rows.SortWalk
import PyProof.ListRange
import KE.KSortTup
import PyProof.ListMulRoad
import PyProof.FactsAll.tuple_2
import PySem.Challenge.RW_platerest_k25_whole_two_motions_work_ali
set_option Elab.async false
set_option linter.all false
set_option maxRecDepth 100000
namespace L2
open PySem PySem.W PyProof.Rows
def topRunT (tb:String→Option Builtin) (p:Program) (w:World) (n0:Nat) (ann:Option Value):Nat→SharedT→Thread→Option SharedT
  | 0,_,_=>none
  | n+1,s,t=>match through t with
    | true=>some s
    | false=>match stepOk n0 ann t with
      | false=>none
      | true=>match stepT (denote tb) p w s t with
        | some (s',t')=>topRunT tb p w n0 ann n s' t'
        | none=>none
theorem Zh9 {tb:String→Option Builtin} {p:Program} {w:World} {n0:Nat} {ann:Option Value}:∀ {n:Nat} {s s':SharedT} {t:Thread},topRunT tb p w n0 ann n s t=some s'→topRun tb p w n0 ann n s.abs t=some s'.abs
  | 0,_,_,_,h=>by cases h
  | n+1,s,s',t,h=>by
    unfold topRunT at h;unfold topRun;cases he:through t with
    | true=>rw [he] at h;cases h;rfl
    | false =>
      rw [he] at h;cases hk:stepOk n0 ann t with
      | false=>rw [hk] at h;cases h
      | true =>
        rw [hk] at h;cases hs:stepT (denote tb) p w s t with
        | none=>rw [hs] at h;cases h
        | some r=>obtain ⟨s2,t2⟩:=r;rw [hs] at h;rw [stepT_spec hs];exact Zh9 h
def btOf:List Obj→Nat→BT→BT
  | [],_,t=>t
  | o :: os,n,t=>btOf os (n+1) (t.ins n o)
theorem Zjp {p q:Program} {loose:List Str} {Xt:Shared→Bool} {α:Type} {Yf:Shared→α} {Ya:World→α} {N:Nat} {g0:Bool} {T0:Params→BT} {n0:Nat} {life:Life} {ann:Option Value}
    (e:opening p=plainProg p.main.scope.names) (hN:Nat.ble 600 N=true) (f:∀ s,fenceModules? p s=some s)
    (h0:∀ P,absHeap (T0 P) n0 life=boot_heap P)
    (size:∀ P,((boot_heap P).isNs mainGlobals,(boot_heap P).objs.size,(boot_heap P).nsMap mainGlobals "__annotations__")=(true,n0,ann))
    (run:∀ (w:World) (os:OsState),(topRunT treeTable p w n0 ann N ⟨T0 w.params,n0,life,Array.mk [],boot_drawn,boot_toks,os⟩ (topStub p)).map (fun s=>((staticsOk (importedModules p.main.body) (boot_heap w.params) s.abs.heap&&namesBound p s.abs.heap&&gensDone s.abs&&laidKept (boot_heap w.params) s.abs.heap),openSeen q loose (importedModules p.main.body) Xt g0 s.abs,Yf s.abs))=some (true,openGood q loose,Ya w)):LeftO p q loose Xt Yf Ya N g0:=fun w=>by
  obtain ⟨⟨h,gs,d,k,os⟩,e1,e2⟩:=Option.map_eq_some_iff.mp (boot_open e hN f w);obtain ⟨rfl,rfl,rfl,rfl⟩:h=boot_heap w.params∧gs=Array.mk []∧d=boot_drawn∧k=boot_toks:=by simpa using e2
  obtain ⟨z1,z2,z3⟩:_∧_∧_:=by simpa only [Prod.mk.injEq] using size w.params
  obtain ⟨s,r1,r2⟩:=Option.map_eq_some_iff.mp (run w os);obtain ⟨l1,l2,l3⟩:_∧_∧_:=by simpa only [Prod.mk.injEq] using r2
  have r:=Zh9 r1
  have ha:SharedT.abs ⟨T0 w.params,n0,life,Array.mk [],boot_drawn,boot_toks,os⟩=⟨boot_heap w.params,Array.mk [],boot_drawn,boot_toks,os⟩:=by
    unfold SharedT.abs;rw [h0]
  rw [ha] at r
  have t:topFrom treeTable p w N ⟨boot_heap w.params,Array.mk [],boot_drawn,boot_toks,os⟩=some s.abs:=by
    unfold topFrom;dsimp only;rw [z1,z2,z3,r];show (match staticsOk (importedModules p.main.body) (boot_heap w.params) s.abs.heap&&namesBound p s.abs.heap&&gensDone s.abs&&laidKept (boot_heap w.params) s.abs.heap with|true=>_|false=>_)=_
    rw [l1]
  unfold openEnds;rw [e1];show (topFrom treeTable p w N _).map _=_
  rw [t];exact congrArg some (Prod.ext l2 l3)
lay_quick L2.topRunT
end L2
namespace L2
open PySem PySem.W PyProof.Rows
theorem Zid {p q:Program} {loose:List Str} {Xt:Shared→Bool} {α:Type} {Yf:Shared→α} {Ya:World→α} {g0:Bool} {R:World→OsState→Option SharedT}
    (h1:∀ w os,(R w os).map (fun s=>(staticsOk (importedModules p.main.body) (boot_heap w.params) s.abs.heap&&namesBound p s.abs.heap&&gensDone s.abs&&laidKept (boot_heap w.params) s.abs.heap))=some true)
    (h2:∀ w os,(R w os).map (fun s=>openSeen q loose (importedModules p.main.body) Xt g0 s.abs)=some (openGood q loose))
    (h3:∀ w os,(R w os).map (fun s=>Yf s.abs)=some (Ya w)) (w:World) (os:OsState) :
    (R w os).map (fun s=>((staticsOk (importedModules p.main.body) (boot_heap w.params) s.abs.heap&&namesBound p s.abs.heap&&gensDone s.abs&&laidKept (boot_heap w.params) s.abs.heap),openSeen q loose (importedModules p.main.body) Xt g0 s.abs,Yf s.abs))=some (true,openGood q loose,Ya w):=by
  have a:=h1 w os;have b:=h2 w os;have c:=h3 w os;cases e:R w os with
  | none=>rw [e] at a;cases a
  | some s =>
    rw [e] at a b c;exact congrArg some (Prod.ext (Option.some.inj a) (Prod.ext (Option.some.inj b) (Option.some.inj c)))
noncomputable abbrev bootT (P:Params):BT:=btOf (boot_heap P).objs.toList 0 .nil
noncomputable def topK (p:Program) (N:Nat) (w:World) (os:OsState):Option SharedT:=topRunT treeTable p w 11 (some (.ref 6)) N ⟨bootT w.params,11,{},Array.mk [],boot_drawn,boot_toks,os⟩ (topStub p)
theorem Zp0:∀ P,absHeap (bootT P) 11 {}=boot_heap P:=fun P=>by kernel_rfl
theorem Zn1:∀ P,((boot_heap P).isNs mainGlobals,(boot_heap P).objs.size,(boot_heap P).nsMap mainGlobals "__annotations__")=(true,11,some (.ref 6)):=fun P=>by kernel_rfl
def Zss (p:Program) (names:List Str):List Str:=((p.main.body.flatMap bindsAtTop).filter fun x=>!startupNames.contains x&&!names.contains x).eraseDups
end L2

namespace My
open PySem PySem.W PyProof.Rows L2
noncomputable abbrev pw:Program:=PySem.Challenge.pw_platerest_k25_whole_two_motions_work_ali
noncomputable abbrev rr:OpenRow:=OpenLaw.row PySem.Challenge.rw_platerest_k25_whole_two_motions_work_ali
noncomputable abbrev qq:Program:=view pw [93]
noncomputable abbrev ll:List Str:=Zss pw ["law"]
set_option maxRecDepth 1000000
set_option maxHeartbeats 0
theorem ws:OpenLaw.wellSaid PySem.Challenge.rw_platerest_k25_whole_two_motions_work_ali=true:=by kernel_rfl
theorem h1:∀ w os,(topK pw 6806 w os).map (fun s=>(staticsOk (importedModules pw.main.body) (boot_heap w.params) s.abs.heap&&namesBound pw s.abs.heap&&gensDone s.abs&&laidKept (boot_heap w.params) s.abs.heap))=some true:=fun w os=>by
  unfold topK topStub;rw [PySem.W.Fast.te4652649595001227023,PySem.W.Fast.te14364793385576792824,PySem.W.Fast.te17154629097778926822,PySem.W.Fast.te12822647523644345616]
  kernel_rfl
theorem h2:∀ w os,(topK pw 6806 w os).map (fun s=>openSeen qq ll (importedModules pw.main.body) (fun s=>xlAt qq [] s&&recOk (RowW.records (OpenRow.toRowW rr)) s) true s.abs)=some (openGood qq ll):=fun w os=>by
  unfold topK topStub;rw [PySem.W.Fast.te4652649595001227023,PySem.W.Fast.te14364793385576792824,PySem.W.Fast.te17154629097778926822,PySem.W.Fast.te12822647523644345616,PySem.W.Fast.te4187177175401517315]
  kernel_rfl
end My
set_option Elab.async false
set_option linter.all false
set_option maxRecDepth 100000
namespace L2
open PySem PySem.Spec PyProof.Rows
theorem z0_:0≤sizeLine:=by decide
theorem z1_:1≤sizeLine:=by decide
theorem z2_:2≤sizeLine:=by decide
theorem z3_:3≤sizeLine:=by decide
theorem z4_:4≤sizeLine:=by decide
theorem z5_:5≤sizeLine:=by decide
abbrev Key:=Sum Int Str
def Ztz:Key→Value→Bool
 | .inl k,v=>Value.isInt k v
 | .inr x,v=>Value.isStrOf x v
def keyH (w:World):Key→Int
 | .inl k=>hashInt k
 | .inr x=>hashStr w x
theorem Yh:∀ {k:Key} {v:Value},Ztz k v=true→(∃ i t,k=Sum.inl i∧v=Value.int i t)∨(∃ x t,k=Sum.inr x∧v=Value.str x t)
 | .inl i,v,h=>by
   obtain ⟨t,e⟩:=Value.isInt_shape (k:=i) (v:=v) h;exact .inl ⟨i,t,rfl,e⟩
 | .inr x,v,h=>by
   obtain ⟨t,e⟩:=Value.isStrOf_shape (x:=x) (v:=v) h;exact .inr ⟨x,t,rfl,e⟩
theorem Zvv (a b:Int):decide ((Sum.inl a:Key)=Sum.inl b)=(a == b):=by
 by_cases e:a=b
 · subst e;simp
 · have h:¬ (Sum.inl a:Key)=Sum.inl b:=fun q=>e (Sum.inl.inj q);rw [decide_eq_false h];exact (beq_eq_false_iff_ne.mpr e).symm
theorem Zuw (a b:Str):decide ((Sum.inr a:Key)=Sum.inr b)=decide (a=b):=by
 by_cases e:a=b
 · subst e;simp
 · have h:¬ (Sum.inr a:Key)=Sum.inr b:=fun q=>e (Sum.inr.inj q);rw [decide_eq_false h,decide_eq_false e]
theorem Zvi (a:Int) (b:Str):decide ((Sum.inl a:Key)=Sum.inr b)=false:=decide_eq_false (fun q=>nomatch q)
theorem Zt7 (a:Str) (b:Int):decide ((Sum.inr a:Key)=Sum.inl b)=false:=decide_eq_false (fun q=>nomatch q)
def Zjf (prog:Program) (w:World):PySem.KeyKind prog w Key where
 is:=Ztz
 hash:=keyH w
 inj:=fun v a b ha hb=>by
  rcases Yh ha with ⟨i,t,rfl,rfl⟩|⟨x,t,rfl,rfl⟩
  · rcases Yh hb with ⟨j,u,rfl,e⟩|⟨y,u,rfl,e⟩
    · injection e with e1 _;rw [e1]
    · exact nomatch e
  · rcases Yh hb with ⟨j,u,rfl,e⟩|⟨y,u,rfl,e⟩
    · exact nomatch e
    · injection e with e1 _;rw [e1]
 byValue:=fun k v h=>by
  rcases Yh h with ⟨i,t,rfl,rfl⟩|⟨x,t,rfl,rfl⟩<;>rfl
 pyHash:=fun hv h=>by
  rcases Yh hv with ⟨i,t,rfl,rfl⟩|⟨x,t,rfl,rfl⟩
  · exact wpAny_pyHash_int h
  · exact wpAny_pyHash_str h
 eqBool:=fun hu hv h=>by
  rcases Yh hu with ⟨i,t,rfl,rfl⟩|⟨x,t,rfl,rfl⟩
  · rcases Yh hv with ⟨j,u,rfl,rfl⟩|⟨y,u,rfl,rfl⟩
    · rw [Zvv] at h;exact wpAny_eqBool_int h
    · rw [Zvi] at h;exact SeqAt.EqAt.int_str i t y u _ _ _ _ h
  · rcases Yh hv with ⟨j,u,rfl,rfl⟩|⟨y,u,rfl,rfl⟩
    · rw [Zt7] at h;exact SeqAt.EqAt.str_int x t j u _ _ _ _ h
    · rw [Zuw] at h;exact wpAny_eqBool_str h
 «strs»:=fun k x t v h=>by
  rcases Yh h with ⟨i,u,rfl,e⟩|⟨y,u,rfl,e⟩
  · exact nomatch e
  · injection e with e1 _
    subst e1;cases v<;>rfl
inductive V where
 | non|bl (b:Bool)|int (i:Int)|str (x:Str)|byt (b:Array UInt8)|flt (b:UInt64)|ref (a:Addr)|ty (n:String)
 deriving DecidableEq
def RelV:V→Value→Prop
 | .non,u=>u=Value.none
 | .bl b,u=>u=Value.bool b
 | .int i,u=>∃ t,u=Value.int i t
 | .str x,u=>∃ t,u=Value.str x t
 | .byt b,u=>∃ t,u=Value.bytes b t
 | .flt b,u=>∃ t,u=Value.float b t
 | .ref a,u=>u=Value.ref a
 | .ty n,u=>u=Value.type n
abbrev Vals:List V→List Value→Prop:=Paired RelV
theorem Vals.length {xs:List V} {us:List Value} (r:Vals xs us):xs.length=us.length:=Paired.length r
theorem Vals.get:∀ {xs:List V} {us:List Value} {i:Nat} {x:V},Vals xs us→xs[i]? = some x→∃ u,us[i]? = some u∧RelV x u
 | _,_,_,_,.nil,e=>by simp at e
 | _,_,0,_,.cons r _,e=>by simp at e;subst e;exact ⟨_,rfl,r⟩
 | _,_,i+1,x,.cons _ t,e=>by
   obtain ⟨u,h1,h2⟩:=Vals.get (i:=i) (x:=x) t (by simpa using e);exact ⟨u,by simpa using h1,h2⟩
theorem Vals.set {x:V} {u:Value} (r:RelV x u):∀ {xs:List V} {us:List Value} (i:Nat),Vals xs us→Vals (xs.set i x) (us.set i u)
 | _,_,_,.nil=>.nil
 | _,_,0,.cons _ t=>.cons r t
 | _,_,i+1,.cons q t=>.cons q (Vals.set r i t)
theorem Vals.append:∀ {xs ys:List V} {us ws:List Value},Vals xs us→Vals ys ws→Vals (xs++ys) (us++ws)
 | _,_,_,_,.nil,s=>s
 | _,_,_,_,.cons r t,s=>.cons r (Vals.append t s)
theorem Vals.take:∀ {xs:List V} {us:List Value} (n:Nat),Vals xs us→Vals (xs.take n) (us.take n)
 | _,_,0,_=>.nil
 | _,_,_+1,.nil=>.nil
 | _,_,n+1,.cons r t=>.cons r (Vals.take n t)
theorem Vals.drop:∀ {xs:List V} {us:List Value} (n:Nat),Vals xs us→Vals (xs.drop n) (us.drop n)
 | _,_,0,r=>r
 | _,_,_+1,.nil=>.nil
 | _,_,n+1,.cons _ t=>Vals.drop n t
def RelO:Option V→Option Value→Prop
 | some v,some u=>RelV v u
 | none,none=>True
 | _,_=>False
def KV {κ:Type}:List (κ×V)→List (κ×Value)→Prop:=Paired fun (p:κ×V) (q:κ×Value)=>p.1=q.1∧RelV p.2 q.2
def kV:Key→V
 | .inl i=>.int i
 | .inr x=>.str x
inductive HO where
 | lst (xs:List V)
 | tup (xs:List V)
 | dK (kvs:List (Key×V))|dT (kvs:List (List Key×V))
 | set (S:Int→Bool) (n:Nat)
 | ins (C dx:Addr) (fs:List (Str×V))
 | own (x:Addr)
 | xd (fs:List (Str×V))
 | met (f x:Addr)
 | rng (lo hi:Int)
 | frz (o:Obj) (u:HO)
 | tbl (ps:Array Value)
 | ext (φ:Heap→Prop)
abbrev Hp:=Addr→Option HO
def upd (H:Hp) (a:Addr) (o:HO):Hp:=fun b=>if b=a then some o else H b
theorem Zj {H:Hp} {a:Addr} {o:HO}:upd H a o a=some o:=by unfold upd;rw [if_pos rfl]
theorem Zr {H:Hp} {a b:Addr} {o:HO} (h:b≠a):upd H a o b=H b:=by unfold upd;rw [if_neg h]
theorem Ztq {H:Hp} {a:Addr} {o u:HO}:upd (upd H a o) a u=upd H a u:=by
 funext b;unfold upd;split<;>rfl
theorem Zto {H:Hp} {a b:Addr} {o u:HO} (h:H a=some o) (h':H b=some u) (d:o≠u):a≠b:=by
 intro e;subst e;rw [h] at h';exact d (Option.some.inj h')
theorem Zo {H:Hp} {a b:Addr} {o:HO} (h:H a=some o) (h':H b=none):a≠b:=by
 intro e;subst e;rw [h] at h';cases h'
section
variable (P:Program) (w:World)
def ObjOk (H:Hp) (h:Heap) (a:Addr):HO→Prop
 | .lst xs=>xs.length≤sizeLine∧∃ (its:List Value) (n:Nat),Vals xs its∧h.get? a=some { cls:=.type "list",data:=.seq its.toArray n }
 | .tup xs=>xs.length≤sizeLine∧∃ its:List Value,Vals xs its∧IsTup h a its.toArray
 | .dK kvs=>kvs.length≤sizeLine∧(a == sysModules)=false∧∃ vs,KV kvs vs∧h.DictOf (Zjf P w) a vs
 | .dT kvs=>kvs.length≤sizeLine∧(a == sysModules)=false∧∃ xs:List (List Key×Addr×Value),
    Paired (fun (p:List Key×V) (q:List Key×Addr×Value)=>p.1=q.1∧H q.2.1=some (.tup (p.1.map kV))∧RelV p.2 q.2.2) kvs xs ∧
    ∃ o es ep,h.get? a=some o∧o.ExactDict∧o.data=.dict es ep∧es.toList=xs.map (entryOfKey (tupleKind (Zjf P w)))∧(xs.map (·.1)).Nodup
 | .set S n=>h.SetOf (intKind P w) a S n
 | .ins C dx fs=>H dx=some (.own a)∧fs.length≤1000∧dx≠a∧h.get? a=some (PySem.W.instObj C dx) ∧
    ∃ mA,h.Ns1 dx mA∧(∀ f,RelO (fs.lookup f) (mA f))∧PySem.Within mA (fs.map (·.1))
 | .own _=>∃ o,h.get? a=some o
 | .xd fs=>∃ mA,h.Ns1 a mA∧∀ f,RelO (fs.lookup f) (mA f)
 | .rng lo hi=>∃ t u v,h.get? a=some { cls:=.type "range",data:=.fields #[.int lo t,.int hi u,.int 1 v] }
 | .frz o u=>h.get? a=some o∧ObjOk H h a u
 | .tbl ps=>h.get? a=some { cls:=.none,data:=.fields ps }
 | .met f x=>h.get? a=some (PySem.W.methodObj (.ref f) (.ref x))
 | .ext φ=>φ h∧(∃ o,h.get? a=some o)∧∀ h1 h2:Heap,φ h1→(∀ o,h1.get? a=some o→h2.get? a=some o)→φ h2
def HOk (H:Hp) (h:Heap):Prop:=∀ a o,H a=some o→ObjOk P w H h a o
end
section
variable {P:Program} {w:World} {H H':Hp} {h h':Heap} {a:Addr} {o:HO}
theorem ObjOk.lt (x:ObjOk P w H h a o):a<h.objs.size:=by
 cases o with
 | lst xs=>obtain ⟨_,_,_,_,e⟩:=x;exact Heap.lt_size e
 | tup xs=>obtain ⟨_,_,_,p⟩:=x;exact p.lt
 | dK kvs=>obtain ⟨_,_,_,_,o,_,_,e,_⟩:=x;exact Heap.lt_size e
 | dT kvs=>obtain ⟨_,_,_,_,o,_,_,e,_⟩:=x;exact Heap.lt_size e
 | set S n=>obtain ⟨o,_,_,_,e,_⟩:=x;exact Heap.lt_size e
 | ins C dx fs=>obtain ⟨_,_,_,e,_⟩:=x;exact Heap.lt_size e
 | own y=>obtain ⟨_,e⟩:=x;exact Heap.lt_size e
 | xd fs=>obtain ⟨_,⟨_,_,_,e,_⟩,_⟩:=x;exact Heap.lt_size e
 | rng lo hi=>obtain ⟨_,_,_,e⟩:=x;exact Heap.lt_size e
 | frz ob u=>obtain ⟨e,_⟩:=x;exact Heap.lt_size e
 | tbl ps=>exact Heap.lt_size (show h.get? a=some _ from x)
 | met f y=>exact Heap.lt_size (show h.get? a=some _ from x)
 | ext φ=>obtain ⟨_,⟨_,e⟩,_⟩:=x;exact Heap.lt_size e
theorem Paired.mapP {α β:Type} {F G:α→β→Prop}:∀ {l₁:List α} {l₂:List β},Paired F l₁ l₂→(∀ a b,F a b→G a b)→Paired G l₁ l₂
 | _,_,.nil,_=>.nil
 | _,_,.cons r t,f=>.cons (f _ _ r) (Paired.mapP t f)
theorem ObjOk.stay (x:ObjOk P w H h a o) (k:∀ b u,(b=a∨H b=some (.own a))→h.get? b=some u→h'.get? b=some u)
 (ho:∀ b,H b=some (.own a)→H' b=some (.own a)) (ht:∀ b xs,H b=some (.tup xs)→H' b=some (.tup xs)):ObjOk P w H' h' a o:=by
 induction o with
 | lst xs=>obtain ⟨z,its,n,r,e⟩:=x;exact ⟨z,its,n,r,k _ _ (.inl rfl) e⟩
 | tup xs=>obtain ⟨z,its,r,ob,e,c⟩:=x;exact ⟨z,its,r,ob,k _ _ (.inl rfl) e,c⟩
 | dK kvs=>obtain ⟨z,y,vs,r,ob,es,ep,e,c⟩:=x;exact ⟨z,y,vs,r,ob,es,ep,k _ _ (.inl rfl) e,c⟩
 | dT kvs =>
   obtain ⟨z,y,xs,r,ob,es,ep,e,c⟩:=x;exact ⟨z,y,xs,Paired.mapP r fun p q z=>⟨z.1,ht _ _ z.2.1,z.2.2⟩,ob,es,ep,k _ _ (.inl rfl) e,c⟩
 | set S n=>obtain ⟨ob,es,ep,t,e,c⟩:=x;exact ⟨ob,es,ep,t,k _ _ (.inl rfl) e,c⟩
 | ins C dx fs =>
   obtain ⟨d,z,ne,e,mA,⟨od,es,ep,e2,c⟩,r⟩:=x;exact ⟨ho _ d,z,ne,k _ _ (.inl rfl) e,mA,⟨od,es,ep,k _ _ (.inr d) e2,c⟩,r⟩
 | own y=>obtain ⟨ob,e⟩:=x;exact ⟨ob,k _ _ (.inl rfl) e⟩
 | xd fs=>obtain ⟨mA,⟨od,es,ep,e,c⟩,r⟩:=x;exact ⟨mA,⟨od,es,ep,k _ _ (.inl rfl) e,c⟩,r⟩
 | rng lo hi=>obtain ⟨t,u,v,e⟩:=x;exact ⟨t,u,v,k _ _ (.inl rfl) e⟩
 | frz ob u ih=>obtain ⟨e,q⟩:=x;exact ⟨k _ _ (.inl rfl) e,ih q⟩
 | tbl ps =>
   have e:h.get? a=some { cls:=.none,data:=.fields ps }:=x;show h'.get? a=some { cls:=.none,data:=.fields ps }
   exact k a _ (.inl rfl) e
 | met f y =>
   have e:h.get? a=some (PySem.W.methodObj (.ref f) (.ref y)):=x;show h'.get? a=some (PySem.W.methodObj (.ref f) (.ref y))
   exact k a _ (.inl rfl) e
 | ext φ=>obtain ⟨p,⟨o,e⟩,st⟩:=x;exact ⟨st _ _ p fun o q=>k _ _ (.inl rfl) q,⟨o,k _ _ (.inl rfl) e⟩,st⟩
theorem HOk.lt (x:HOk P w H h) (e:H a=some o):a<h.objs.size:=(x a o e).lt
theorem HOk.fresh (x:HOk P w H h) (e:h.objs.size≤a):H a=none:=by
 cases q:H a with
 | none=>rfl
 | some u=>exact absurd (Nat.lt_of_lt_of_le (x.lt q) e) (Nat.lt_irrefl _)
theorem HOk.kept (x:HOk P w H h) (k:∀ b u,h.get? b=some u→h'.get? b=some u):HOk P w H h':=fun a o e =>
 (x a o e).stay (fun b u _ q=>k b u q) (fun _ q=>q) fun _ _ q=>q
theorem HOk.laid (x:HOk P w H h) (k:∀ b u,h.get? b=some u→h'.get? b=some u) (hp:h.objs.size≤a) (new:ObjOk P w (upd H a o) h' a o):HOk P w (upd H a o) h':=fun b u e=>by
 have hn:=x.fresh hp
 by_cases hb:b=a
 · subst hb;rw [Zj] at e;cases e;exact new
 · rw [Zr hb] at e;exact (x b u e).stay (fun c v _ q=>k c v q) (fun c q=>by rw [Zr (Zo q hn)];exact q) fun c xs q=>by rw [Zr (Zo q hn)];exact q
end
def Rd (H:Hp) (a:Addr) (u:HO):Prop:=H a=some u∨∃ o,H a=some (.frz o u)
theorem Rd.ok {P:Program} {w:World} {H:Hp} {h:Heap} {a:Addr} {u:HO} (r:Rd H a u) (x:HOk P w H h):ObjOk P w H h a u:=by
 rcases r with r|⟨o,r⟩
 · exact x a u r
 · obtain ⟨_,q⟩:=x a _ r;exact q
def Mut:Option HO→Prop
 | some (.lst _)=>True
 | some (.dK _)=>True
 | some (.dT _)=>True
 | some (.set _ _)=>True
 | some (.ins _ _ _)=>True
 | some (.ext _)=>True
 | _=>False
section
variable {P:Program} {w:World} {H:Hp} {h h':Heap} {x e:Addr} {o':HO}
theorem HOk.write (ok:HOk P w H h) (mu:Mut (H x)) (he:e=x∨H e=some (.own x)) (k:∀ b u,b≠e→h.get? b=some u→h'.get? b=some u) (heo:∃ u,h'.get? e=some u)
 (new:ObjOk P w (upd H x o') h' x o'):HOk P w (upd H x o') h':=fun b u q=>by
 have nown:∀ c y,H c=some (.own y)→c≠x:=fun c y r z=>by subst z;rw [r] at mu;exact mu
 have ntup:∀ c xs,H c=some (.tup xs)→c≠x:=fun c xs r z=>by subst z;rw [r] at mu;exact mu
 by_cases hb:b=x
 · subst hb;rw [Zj] at q;cases q;exact new
 · rw [Zr hb] at q
   by_cases hbe:b=e
   · have q':H b=some (.own x):=by
      rcases he with z|z
      · exact absurd (hbe.trans z) hb
      · rw [hbe];exact z
     rw [q] at q';cases q';obtain ⟨v,hv⟩:=heo;exact ⟨v,by rw [hbe];exact hv⟩
   · refine (ok b u q).stay (fun c v hc r=>k c v ?_ r) (fun c r=>by rw [Zr (nown c b r)];exact r) fun c xs r=>by rw [Zr (ntup c xs r)];exact r
     rcases hc with rfl|hc
     · exact hbe
     · rintro rfl
       rcases he with z|z
       · exact nown c b hc z
       · rw [hc] at z;cases z;exact hb rfl
end
structure Un (fs ex:List Addr) (H H':Hp) (h h':Heap):Prop where
 keep:∀ b o,h.get? b=some o→H b=none→b∉fs→b∉ex→h'.get? b=some o
 slot:∀ b o,h.get? b=some o→H b=none→b∈fs→b∉ex→∃ sl,h'.get? b=some { o with slots:=sl }
 free:∀ b o,h.get? b=some o→H b=none→b∉ex→H' b=none
 there:∀ b o,h.get? b=some o→b∉ex→∃ o',h'.get? b=some o'
 tups:∀ b xs,H b=some (.tup xs)→H' b=some (.tup xs)
 frzs:∀ b o u,H b=some (.frz o u)→H' b=some (.frz o u)
 tbls:∀ b ps,H b=some (.tbl ps)→∃ more,H' b=some (.tbl (ps++more))
section
variable {fs fs' ex ex':List Addr} {H H1 H2:Hp} {h h1 h2 h':Heap} {a x e:Addr} {o:HO}
theorem Un.any (u:Un fs ex H H1 h h1) {b:Addr} {ob:Obj} (q:h.get? b=some ob) (n:H b=none) (hx:b∉ex):∃ sl,h1.get? b=some { ob with slots:=sl }:=by
 by_cases hb:b∈fs
 · exact u.slot b ob q n hb hx
 · exact ⟨ob.slots,u.keep b ob q n hb hx⟩
theorem Un.kept (k:∀ b u,h.get? b=some u→h'.get? b=some u):Un fs ex H H h h' :=
 ⟨fun b ob q _ _ _=>k b ob q,fun b ob q _ _ _=>⟨ob.slots,k b ob q⟩,fun _ _ _ n _=>n,fun b ob q _=>⟨ob,k b ob q⟩,fun _ _ q=>q,fun _ _ _ q=>q,fun _ ps q=>⟨#[],by rw [q];simp⟩⟩
theorem Un.refl:Un fs ex H H h h:=Un.kept fun _ _ q=>q
theorem Un.laid (k:∀ b u,h.get? b=some u→h'.get? b=some u) (hp:h.objs.size≤a) (hn:H a=none):Un fs ex H (upd H a o) h h' where
 keep:=fun b u q _ _ _=>k b u q
 slot:=fun b u q _ _ _=>⟨u.slots,k b u q⟩
 free:=fun b u q n _=>by rw [Zr (Nat.ne_of_lt (Nat.lt_of_lt_of_le (Heap.lt_size q) hp))];exact n
 there:=fun b u q _=>⟨u,k b u q⟩
 tups:=fun b xs q=>by rw [Zr (Zo q hn)];exact q
 frzs:=fun b u xs q=>by rw [Zr (Zo q hn)];exact q
 tbls:=fun b ps q=>⟨#[],by rw [Zr (Zo q hn),q];simp⟩
theorem Un.write (mu:Mut (H x)) (he:e=x∨H e=some (.own x)) (k:∀ b u,b≠e→h.get? b=some u→h'.get? b=some u) (heo:∃ u,h'.get? e=some u):Un fs ex H (upd H x o) h h':=by
 have hx:∀ b,H b=none→b≠x:=fun b n z=>by subst z;rw [n] at mu;exact mu
 have hb:∀ b,H b=none→b≠e:=fun b n z=>by
  subst z
  rcases he with r|r
  · exact hx b n r
  · rw [n] at r;cases r
 have hm:∀ b u,H b=some u→¬ Mut (some u)→b≠x:=fun b u q nm z=>by subst z;rw [q] at mu;exact nm mu
 refine ⟨fun b u q n _ _=>k b u (hb b n) q,fun b u q n _ _=>⟨u.slots,k b u (hb b n) q⟩,fun b u q n _=>by rw [Zr (hx b n)];exact n,fun b u q _=>?_,
  fun b xs q=>by rw [Zr (hm b _ q fun z=>z)];exact q,fun b u xs q=>by rw [Zr (hm b _ q fun z=>z)];exact q,fun b ps q=>⟨#[],by rw [Zr (hm b _ q fun z=>z),q];simp⟩⟩
 by_cases hbe:b=e
 · subst hbe;exact heo
 · exact ⟨u,k b u hbe q⟩
end
def trk (h:Heap) (H:Hp):List Addr:=(List.range h.objs.size).filter fun a=>(H a).isSome
def hidT (h:Heap) (H:Hp):Heap:=PySem.W.hideAll h (trk h H)
theorem Zmp (h:Heap) (H:Hp):(hidT h H).objs.size=h.objs.size:=PySem.W.hideAll_size _ _
theorem Zqp {h:Heap} {H:Hp} {b:Addr} {o:Obj} (e:h.get? b=some o) (n:H b=none):(hidT h H).get? b=some o :=
 PySem.W.hideAll_get _ e fun hm=>by
  have q:(H b).isSome=true:=(List.mem_filter.mp hm).2;rw [n] at q;simp at q
theorem Zr5 {h:Heap} {H:Hp} {b:Addr} {o:Obj} (e:(hidT h H).get? b=some o):h.get? b=some o∧H b=none:=by
 have e':h.get? b=some o:=PySem.W.of_hideAll (trk h H) e;refine ⟨e',?_⟩;cases q:H b with
 | none=>rfl
 | some x =>
   have hm:b∈trk h H:=List.mem_filter.mpr ⟨List.mem_range.mpr (Heap.lt_size e'),by simp [q]⟩;have z:(hidT h H).get? b=none:=PySem.W.hideAll_none (trk h H) hm;rw [z] at e;cases e
structure Mod (K:PySem.W.Frag) (mg:Str→Option Value) (base:Heap):Prop where
 kin:K.In base
 glob:base.Ns mainGlobals mg
 blt:∃ mb,base.Ns builtinsNs mb∧∀ x:Str,x ≠ "__name__" → mb x=bootBuiltins x
 nolimit:base.NoLimit
structure Cx where
 prog:Program
 w:World
 K:PySem.W.Frag
 mg:Str→Option Value
 base:Heap
 A:Around
 N:List Str
 s₀:Shared
 H₀:Hp
 env:Env
 outer:List Env
 stack:List Env
 ex:List Addr
 fn:Str→Bool
 calm:Bool
 pn:List (Addr×Obj)
 xe:Value→Shared→Prop
def frs (l:List Env):List Addr:=l.filterMap (·.frame)
abbrev Cx.fs (X:Cx):List Addr:=frs X.outer
def Vis (sc:Scope) (x:Str):Prop:=sc.names.lookup x=some .local∨sc.names.lookup x=some .cell∨sc.names.lookup x=some .free
def Loc (sc:Scope) (x:Str):Prop:=sc.names.lookup x=some .local∨sc.names.lookup x=some .cell
def Look (env:Env) (h:Heap) (m:Str→Option Value) (x:Str) (u:Value):Prop :=
 (env.kindOf x=some .local∧m x=some u)∨((env.kindOf x=some .cell∨env.kindOf x=some .free)∧∃ c,env.cells.lookup x=some c∧h.IsCell c (some u))
structure Cx.Ok (X:Cx):Prop where
 mod:Mod X.K X.mg X.base
 kind:X.env.scope.kind=.function
 glob:X.env.globals=mainGlobals
 blt:X.env.builtins=builtinsNs
 above:X.s₀.heap.objs.size≤X.env.locals
 inj:∀ x y c,X.env.cells.lookup x=some c→X.env.cells.lookup y=some c→x=y
 has:∀ x,(X.env.kindOf x=some .cell∨X.env.kindOf x=some .free)→∃ c,X.env.cells.lookup x=some c
 cab:∀ x c,X.fn x=true→X.env.cells.lookup x=some c→X.s₀.heap.objs.size≤c
 hd:X.calm=true→X.A.handled=none
 frames:X.A.frames=some X.stack
 stk:X.stack=X.outer∨(X.stack=X.env :: X.outer∧X.env.frame=some X.env.locals)
 exf:∀ b∈X.ex,b≠X.env.locals∧∀ x c,X.env.cells.lookup x=some c→c≠b
 bs:∀ b o,X.base.get? b=some o→X.s₀.heap.get? b=some o∧X.H₀ b=none
 bsz:X.base.objs.size≤X.s₀.heap.objs.size
 noex:∀ b o,X.base.get? b=some o→b∉X.ex
 exfs:∀ b∈X.ex,b∉X.fs
 funs:X.s₀.heap.FunFrames X.base X.outer
 frf:∀ b∈X.fs,X.H₀ b=none
structure Inv (X:Cx) (pins:List (Addr×Obj)) (σ:List (Option V)) (H:Hp) (s:Shared):Prop where
 ok:X.Ok
 os:s.os=X.s₀.os
 bare:AllBare s.gens
 base:Un X.fs X.ex X.H₀ H X.s₀.heap s.heap
 loc:∃ m,s.heap.Ns X.env.locals m∧∀ (i:Nat) (x:Str) (v:V),X.N[i]? = some x→σ[i]? = some (some v)→Vis X.env.scope x→∃ u,RelV v u∧Look X.env s.heap m x u
 cell:∀ x c,X.env.cells.lookup x=some c→∃ v,s.heap.IsCell c v
 free:H X.env.locals=none
 freeC:∀ x c,X.env.cells.lookup x=some c→H c=none
 pin:∀ p∈X.pn++pins,s.heap.get? p.1=some p.2∧H p.1=none∧p.1≠X.env.locals∧p.1∉X.fs∧∀ v,p.2.data≠.cell v
 hok:HOk X.prog X.w H s.heap
 len:σ.length=X.N.length
section
variable {X:Cx} {pins:List (Addr×Obj)} {σ:List (Option V)} {H H':Hp} {s:Shared} {h':Heap}
theorem Cx.Ok.nofr (ok:X.Ok) {b:Addr} {o:Obj} (e:X.base.get? b=some o):b∉X.fs:=fun hb=>by
 have:=(ok.funs.mem hb).1
 rw [e] at this;cases this
theorem Inv.bs (I:Inv X pins σ H s):∀ b o,X.base.get? b=some o→s.heap.get? b=some o∧H b=none:=fun b o e =>
 ⟨I.base.keep b o (I.ok.bs b o e).1 (I.ok.bs b o e).2 (I.ok.nofr e) (I.ok.noex b o e),I.base.free b o (I.ok.bs b o e).1 (I.ok.bs b o e).2 (I.ok.noex b o e)⟩
theorem Inv.bk (I:Inv X pins σ H s):∀ b o,X.base.get? b=some o→s.heap.get? b=some o:=fun b o e=>(I.bs b o e).1
theorem Inv.mod (I:Inv X pins σ H s):Mod X.K X.mg X.base:=I.ok.mod
theorem Inv.kIn (I:Inv X pins σ H s):X.K.In s.heap:=I.ok.mod.kin.keeps I.bk
theorem Inv.lt (I:Inv X pins σ H s):X.env.locals<s.heap.objs.size:=let ⟨_,hn,_⟩:=I.loc;hn.lt
theorem Inv.sz (I:Inv X pins σ H s):X.s₀.heap.objs.size≤s.heap.objs.size:=Nat.le_trans I.ok.above (Nat.le_of_lt I.lt)
theorem Inv.nofs (I:Inv X pins σ H s) {a:Addr} (h:s.heap.objs.size≤a):a∉X.fs:=fun hb=>by
 obtain ⟨_,o,ho,_⟩:=I.ok.funs.mem hb;exact absurd (Nat.lt_of_lt_of_le (Heap.lt_size ho) (Nat.le_trans I.sz h)) (Nat.lt_irrefl _)
theorem Inv.cne (I:Inv X pins σ H s):∀ x c,X.env.cells.lookup x=some c→c≠X.env.locals:=fun x c e z=>by
 obtain ⟨v,o,ho,hd⟩:=I.cell x c e;obtain ⟨m,⟨o',es,ep,ho',hd',_⟩,_⟩:=I.loc;rw [z,ho'] at ho;cases ho;rw [hd'] at hd;cases hd
theorem Inv.funs (I:Inv X pins σ H s):s.heap.FunFrames X.base X.outer:=by
 have all:∀ (l:List Env),(∀ b∈frs l,b∈X.fs)→X.s₀.heap.FunFrames X.base l→s.heap.FunFrames X.base l:=by
  intro l
  induction l with
  | nil=>intro _ _;trivial
  | cons env r ih =>
    intro hs hl;obtain ⟨hk,⟨L,o,hf,hn,ho,hd⟩,hr⟩:=hl;have hL:L∈X.fs:=hs L (by unfold frs;rw [List.filterMap_cons,hf];exact List.mem_cons_self);obtain ⟨sl,e⟩:=I.base.slot L o ho (I.ok.frf L hL) hL fun z=>I.ok.exfs L z hL;exact ⟨hk,⟨L,_,hf,hn,e,hd⟩,ih (fun b hb=>hs b (by unfold frs;rw [List.filterMap_cons,hf];exact List.mem_cons_of_mem _ hb)) hr⟩
 exact all X.outer (fun _ hb=>hb) I.ok.funs
theorem Inv.stack (I:Inv X pins σ H s):s.heap.FunFrames X.base X.stack:=by
 rcases I.ok.stk with e|⟨e,hf⟩
 · rw [e];exact I.funs
 · rw [e];obtain ⟨m,hn,_⟩:=I.loc;refine .cons (by rw [I.ok.kind];decide) hf hn ?_ I.funs;exact Heap.get?_none_of_le (Nat.le_trans I.ok.bsz I.ok.above)
theorem Inv.stkSub (I:Inv X pins σ H s):∀ b∈frs X.stack,b∈X.env.locals :: X.fs:=fun b hb=>by
 rcases I.ok.stk with e|⟨e,hf⟩
 · rw [e] at hb;exact List.mem_cons_of_mem _ hb
 · rw [e] at hb;unfold frs at hb;rw [List.filterMap_cons,hf] at hb;exact hb
theorem Inv.stkFree (I:Inv X pins σ H s):∀ b∈frs X.stack,H b=none:=fun b hb=>by
 rcases List.mem_cons.mp (I.stkSub b hb) with e|hb
 · rw [e];exact I.free
 · obtain ⟨_,o,ho,_⟩:=I.ok.funs.mem hb;exact I.base.free b o ho (I.ok.frf b hb) fun z=>I.ok.exfs b z hb
theorem Inv.step {g':Array GenState} {t':Nat} {d':Drawn} {ch:List Addr} (I:Inv X pins σ H s)
 (hch:∀ b∈ch,(b∈X.ex∨X.s₀.heap.objs.size≤b)∧b≠X.env.locals∧(∀ x c,X.env.cells.lookup x=some c→c≠b)∧∀ p∈X.pn++pins,p.1≠b)
 (keep:∀ b o,b≠X.env.locals→b∉X.fs→b∉ch→s.heap.get? b=some o→H b=none→h'.get? b=some o)
 (slot:∀ b o,b≠X.env.locals→b∈X.fs→b∉ch→s.heap.get? b=some o→H b=none→∃ sl,h'.get? b=some { o with slots:=sl }) (free:∀ b o,b∉ch→s.heap.get? b=some o→H b=none→H' b=none)
 (there:∀ b o,b∉ch→s.heap.get? b=some o→∃ o',h'.get? b=some o')
 (tups:∀ b xs,H b=some (.tup xs)→H' b=some (.tup xs)) (frzs:∀ b o u,H b=some (.frz o u)→H' b=some (.frz o u)) (tbls:∀ b ps,H b=some (.tbl ps)→∃ more,H' b=some (.tbl (ps++more)))
 (ns:∀ m,s.heap.Ns X.env.locals m→h'.Ns X.env.locals m) (hok:HOk X.prog X.w H' h') (hg:AllBare g') :
 Inv X pins σ H' { s with heap:=h',gens:=g',drawn:=d',toks:=t' }:=by
 have neL:∀ b o,X.s₀.heap.get? b=some o→b≠X.env.locals:=fun b o e=>Nat.ne_of_lt (Nat.lt_of_lt_of_le (Heap.lt_size e) I.ok.above)
 have neC:∀ b o,X.s₀.heap.get? b=some o→b∉X.ex→b∉ch:=fun b o e hx hb=>by
  rcases (hch b hb).1 with z|z
  · exact hx z
  · exact absurd (Nat.lt_of_lt_of_le (Heap.lt_size e) z) (Nat.lt_irrefl _)
 have cellK:∀ x c,X.env.cells.lookup x=some c→∀ v,s.heap.IsCell c v→h'.IsCell c v:=fun x c e v ⟨o,ho,hd⟩=>by
  have nch:c∉ch:=fun z=>(hch c z).2.2.1 x c e rfl
  by_cases hc:c∈X.fs
  · obtain ⟨sl,q⟩:=slot c o (I.cne x c e) hc nch ho (I.freeC x c e);exact ⟨_,q,hd⟩
  · exact ⟨o,keep c o (I.cne x c e) hc nch ho (I.freeC x c e),hd⟩
 refine ⟨I.ok,I.os,hg,⟨fun b o e n hb hx=>?_,fun b o e n hb hx=>?_,fun b o e n hx=>?_,fun b o e hx=>?_,fun b xs e=>tups b xs (I.base.tups b xs e),fun b o xs e=>frzs b o xs (I.base.frzs b o xs e),fun b ps e=>?_⟩,?_,fun x c e=>?_,?_,fun x c e=>?_,fun p hp=>?_,hok,I.len⟩
 · exact keep b o (neL b o e) hb (neC b o e hx) (I.base.keep b o e n hb hx) (I.base.free b o e n hx)
 · obtain ⟨sl,e1⟩:=I.base.slot b o e n hb hx;obtain ⟨sl',e2⟩:=slot b _ (neL b o e) hb (neC b o e hx) e1 (I.base.free b o e n hx);exact ⟨sl',e2⟩
 · obtain ⟨o',e1⟩:=I.base.there b o e hx;exact free b o' (neC b o e hx) e1 (I.base.free b o e n hx)
 · obtain ⟨o',e1⟩:=I.base.there b o e hx;exact there b o' (neC b o e hx) e1
 · obtain ⟨m1,e1⟩:=I.base.tbls b ps e;obtain ⟨m2,e2⟩:=tbls b _ e1;exact ⟨m1++m2,by rw [e2,Array.append_assoc]⟩
 · obtain ⟨m,hn,hl⟩:=I.loc;refine ⟨m,ns m hn,fun i x v e1 e2 e3=>?_⟩;obtain ⟨u,r,l⟩:=hl i x v e1 e2 e3;refine ⟨u,r,?_⟩
   rcases l with l|⟨k,c,e,z⟩
   · exact .inl l
   · exact .inr ⟨k,c,e,cellK x c e _ z⟩
 · obtain ⟨v,z⟩:=I.cell x c e;exact ⟨v,cellK x c e v z⟩
 · obtain ⟨m,⟨o,_,_,ho,_⟩,_⟩:=I.loc;exact free _ o (fun z=>(hch _ z).2.1 rfl) ho I.free
 · obtain ⟨v,o,ho,hd⟩:=I.cell x c e;exact free c o (fun z=>(hch c z).2.2.1 x c e rfl) ho (I.freeC x c e)
 · obtain ⟨e,n,ne,nf,d⟩:=I.pin p hp;have nch:p.1∉ch:=fun z=>(hch p.1 z).2.2.2 p hp rfl;exact ⟨keep p.1 p.2 ne nf nch e n,free p.1 p.2 nch e n,ne,nf,d⟩
theorem Inv.un {t':Nat} (I:Inv X pins σ H s) (u:Un X.fs [] H H' s.heap h') (hok:HOk X.prog X.w H' h'):Inv X pins σ H' { s with heap:=h',toks:=t' }:=by
 obtain ⟨m,⟨o,es,ep,ho,r⟩,_⟩:=id I.loc;obtain ⟨sl,hL⟩:=u.any ho I.free (by simp)
 exact I.step (g':=s.gens) (d':=s.drawn) (ch:=[]) (fun _ z=>nomatch z) (fun b o _ hb _ e n=>u.keep b o e n hb (by simp)) (fun b o _ hb _ e n=>u.slot b o e n hb (by simp)) (fun b o _ e n=>u.free b o e n (by simp)) (fun b o _ e=>u.there b o e (by simp)) u.tups u.frzs u.tbls (fun m' hm=>by
  obtain ⟨o',es',ep',ho',r'⟩:=hm;rw [ho] at ho';cases ho';exact ⟨_,es',ep',hL,r'⟩) hok I.bare
theorem Inv.call {g':Array GenState} {t':Nat} {d':Drawn} {ch:List Addr} (I:Inv X pins σ H s) (u:Un (frs X.stack) ch H H' s.heap h') (hok:HOk X.prog X.w H' h') (hg:AllBare g')
 (hch:∀ b∈ch,(b∈X.ex∨X.s₀.heap.objs.size≤b)∧b≠X.env.locals∧(∀ x c,X.env.cells.lookup x=some c→c≠b)∧∀ p∈X.pn++pins,p.1≠b) :
 Inv X pins σ H' { s with heap:=h',gens:=g',drawn:=d',toks:=t' }:=by
 obtain ⟨m,⟨o,es,ep,ho,r⟩,_⟩:=id I.loc;obtain ⟨sl,hL⟩:=u.any ho I.free fun z=>(hch _ z).2.1 rfl
 exact I.step (ch:=ch) hch (fun b o hL hb hc e n=>u.keep b o e n (fun z=>(List.mem_cons.mp (I.stkSub b z)).elim hL hb) hc) (fun b o _ _ hc e n=>u.any e n hc) (fun b o hc e n=>u.free b o e n hc) (fun b o hc e=>u.there b o e hc) u.tups u.frzs u.tbls (fun m' hm=>by
  obtain ⟨o',es',ep',ho',r'⟩:=hm;rw [ho] at ho';cases ho';exact ⟨_,es',ep',hL,r'⟩) hok hg
theorem Inv.turned {t':Nat} {it:Addr} (I:Inv X pins σ H s) (k:∀ b o,b≠it→s.heap.get? b=some o→h'.get? b=some o) (hn:H it=none) (hL:it≠X.env.locals)
 (h1:it∈X.ex∨X.s₀.heap.objs.size≤it) (h2:∀ x c,X.env.cells.lookup x=some c→c≠it) (h3:∀ p∈X.pn++pins,p.1≠it):Inv X pins σ H { s with heap:=h',toks:=t' }:=by
 have nit:∀ b u,H b=some u→b≠it:=fun b u e z=>by rw [z,hn] at e;cases e
 refine I.step (g':=s.gens) (d':=s.drawn) (ch:=[it]) (fun b hb=>?_) (fun b o _ _ hc e _=>k b o (fun z=>hc (by simp [z])) e) (fun b o _ _ hc e _=>⟨o.slots,k b o (fun z=>hc (by simp [z])) e⟩) (fun _ _ _ _ n=>n)
  (fun b o hc e=>⟨o,k b o (fun z=>hc (by simp [z])) e⟩) (fun _ _ e=>e) (fun _ _ _ e=>e) (fun b ps e=>⟨#[],by rw [e];simp⟩) (fun m hm=>?_) (fun b u e=>?_) I.bare
 · have e:b=it:=by simpa using hb
   subst e;exact ⟨h1,hL,h2,h3⟩
 · obtain ⟨o,es,ep,ho,r⟩:=hm;exact ⟨o,es,ep,k _ o (Ne.symm hL) ho,r⟩
 · refine (I.hok b u e).stay (fun c v hc q=>k c v ?_ q) (fun _ q=>q) fun _ _ q=>q
   rcases hc with z|z
   · rw [z];exact nit b u e
   · exact nit c _ z
theorem Inv.tok (I:Inv X pins σ H s) (t:Nat):Inv X pins σ H { s with toks:=t }:=I.un (h':=s.heap) (t':=t) Un.refl I.hok
theorem Inv.kept {t':Nat} (I:Inv X pins σ H s) (k:∀ b u,s.heap.get? b=some u→h'.get? b=some u):Inv X pins σ H { s with heap:=h',toks:=t' }:=I.un (Un.kept k) (I.hok.kept k)
theorem Inv.laid {a:Addr} {o:HO} {t':Nat} (I:Inv X pins σ H s) (k:∀ b u,s.heap.get? b=some u→h'.get? b=some u) (hp:s.heap.objs.size≤a) (new:ObjOk X.prog X.w (upd H a o) h' a o) :
 Inv X pins σ (upd H a o) { s with heap:=h',toks:=t' }:=I.un (Un.laid k hp (I.hok.fresh hp)) (I.hok.laid k hp new)
theorem Inv.write {x e:Addr} {o:HO} {t':Nat} (I:Inv X pins σ H s) (mu:Mut (H x)) (he:e=x∨H e=some (.own x)) (k:∀ b u,b≠e→s.heap.get? b=some u→h'.get? b=some u) (heo:∃ u,h'.get? e=some u)
 (new:ObjOk X.prog X.w (upd H x o) h' x o):Inv X pins σ (upd H x o) { s with heap:=h',toks:=t' }:=I.un (Un.write mu he k heo) (I.hok.write mu he k heo new)
theorem Inv.pins_of {pins':List (Addr×Obj)} (I:Inv X pins σ H s) (h:∀ p∈pins',s.heap.get? p.1=some p.2∧H p.1=none∧p.1≠X.env.locals∧p.1∉X.fs∧∀ v,p.2.data≠.cell v):Inv X pins' σ H s :=
 ⟨I.ok,I.os,I.bare,I.base,I.loc,I.cell,I.free,I.freeC,fun p hp=>(List.mem_append.mp hp).elim (fun z=>I.pin p (List.mem_append_left _ z)) (h p),I.hok,I.len⟩
theorem Zlt {N:List Str} (hN:N.Nodup) {i j:Nat} {x:Str} (a:N[i]? = some x) (b:N[j]? = some x):i=j:=by
 obtain ⟨h1,e1⟩:=List.getElem?_eq_some_iff.mp a;obtain ⟨h2,e2⟩:=List.getElem?_eq_some_iff.mp b;exact (List.getElem_inj hN).mp (e1.trans e2.symm)
theorem Znq {M:Model} {A:Around} {E:Value→Shared→Prop} {i:Nat} {x:Str} {v:V} {u:Value} {Q:Unit→Shared→Prop} (I:Inv X pins σ H s) (hN:X.N.Nodup) (hi:X.N[i]? = some x) (hx:Loc X.env.scope x) (r:RelV v u)
 (h:∀ s',Inv X pins (σ.set i (some v)) H s'→(∃ a,Heap.SameBut a s.heap s'.heap∧(a=X.env.locals∨X.env.cells.lookup x=some a))→Q () s') (hf:X.fn x=true∨X.env.scope.names.lookup x=some .local:=by first|exact .inl rfl|exact .inr rfl|assumption):wpAny M A (storeName X.env x u) Q E s:=by
 obtain ⟨m,hn,hl⟩:=id I.loc;have hcls:(X.env.scope.kind == .class||(X.env.scope.kind == .module&&X.env.locals != X.env.globals))=false:=by rw [I.ok.kind];rfl
 have hiσ:i<σ.length:=by rw [I.len];exact (List.getElem?_eq_some_iff.mp hi).1
 have cne:=I.cne
 have tracked:∀ {a:Addr} {h':Heap},(∃ o,s.heap.get? a=some o∧H a=none)→Heap.SameBut a s.heap h'→HOk X.prog X.w H h':=fun {a h'} ha hs b ob e=>by
  obtain ⟨_,_,hfree⟩:=ha;refine (I.hok b ob e).stay (fun c w' hc q=>(hs.2 c ?_).trans q) (fun _ q=>q) fun _ _ q=>q;rintro rfl
  rcases hc with rfl|hc
  · rw [hfree] at e;cases e
  · rw [hfree] at hc;cases hc
 rcases hx with hk|hk
 · refine wpAny_storeName_local hk hn (fun h' hn' hs=>?_) hcls;obtain ⟨oL,_,_,hoL,_⟩:=id hn;refine h _ ⟨I.ok,I.os,I.bare,⟨fun b o e n hb hx=>?_,fun b o e n hb hx=>?_,I.base.free,fun b o e hx=>?_,I.base.tups,I.base.frzs,I.base.tbls⟩,⟨_,hn',fun j y v' e1 e2 e3=>?_⟩,fun y c e=>?_,I.free,I.freeC,fun p hp=>?_,tracked ⟨oL,hoL,I.free⟩ hs,by simpa using I.len⟩ ⟨_,hs,.inl rfl⟩
   · exact (hs.2 b (Nat.ne_of_lt (Nat.lt_of_lt_of_le (Heap.lt_size e) I.ok.above))).trans (I.base.keep b o e n hb hx)
   · obtain ⟨sl,e1⟩:=I.base.slot b o e n hb hx;exact ⟨sl,(hs.2 b (Nat.ne_of_lt (Nat.lt_of_lt_of_le (Heap.lt_size e) I.ok.above))).trans e1⟩
   · obtain ⟨o',e1⟩:=I.base.there b o e hx;exact ⟨o',(hs.2 b (Nat.ne_of_lt (Nat.lt_of_lt_of_le (Heap.lt_size e) I.ok.above))).trans e1⟩
   · by_cases hj:j=i
     · subst hj;rw [hi] at e1;cases e1;rw [List.getElem?_set_self hiσ] at e2;cases e2
       exact ⟨u,r,.inl ⟨hk,by simp⟩⟩
     · rw [List.getElem?_set_ne (Ne.symm hj)] at e2;obtain ⟨u',r',q⟩:=hl j y v' e1 e2 e3;refine ⟨u',r',?_⟩
       rcases q with ⟨k,e⟩|⟨k,c,e,z⟩
       · refine .inl ⟨k,?_⟩
         have:y≠x:=fun e=>hj (Zlt hN e1 (e ▸ hi))
         simp [this,e]
       · exact .inr ⟨k,c,e,z.sameBut hs (cne y c e)⟩
   · obtain ⟨w',z⟩:=I.cell y c e;exact ⟨w',z.sameBut hs (cne y c e)⟩
   · obtain ⟨e,n,ne,nf,d⟩:=I.pin p hp;exact ⟨(hs.2 p.1 ne).trans e,n,ne,nf,d⟩
 · have hfn:X.fn x=true:=by
    rcases hf with z|z
    · exact z
    · rw [z] at hk;cases hk
   obtain ⟨c,hc⟩:=I.ok.has x (.inl hk);obtain ⟨w',z⟩:=I.cell x c hc;refine wpAny_storeName_cell I.ok.kind hk hc z (fun h' hc' hs=>?_);obtain ⟨oc,hoc,hocd⟩:=id z;refine h { s with heap:=h' } ⟨I.ok,I.os,I.bare,⟨fun b o e n hb hx=>?_,fun b o e n hb hx=>?_,I.base.free,fun b o e hx=>?_,I.base.tups,I.base.frzs,I.base.tbls⟩,⟨m,hn.sameBut hs (Ne.symm (cne x c hc)),fun j y v' e1 e2 e3=>?_⟩,fun y c' e=>?_,I.free,I.freeC,fun p hp=>?_,tracked ⟨oc,hoc,I.freeC x c hc⟩ hs,by simpa using I.len⟩ ⟨c,hs,.inr hc⟩
   · exact (hs.2 b (Nat.ne_of_lt (Nat.lt_of_lt_of_le (Heap.lt_size e) (I.ok.cab x c hfn hc)))).trans (I.base.keep b o e n hb hx)
   · obtain ⟨sl,e1⟩:=I.base.slot b o e n hb hx;exact ⟨sl,(hs.2 b (Nat.ne_of_lt (Nat.lt_of_lt_of_le (Heap.lt_size e) (I.ok.cab x c hfn hc)))).trans e1⟩
   · obtain ⟨o',e1⟩:=I.base.there b o e hx;exact ⟨o',(hs.2 b (Nat.ne_of_lt (Nat.lt_of_lt_of_le (Heap.lt_size e) (I.ok.cab x c hfn hc)))).trans e1⟩
   · by_cases hj:j=i
     · subst hj;rw [hi] at e1;cases e1;rw [List.getElem?_set_self hiσ] at e2;cases e2
       exact ⟨u,r,.inr ⟨.inl hk,c,hc,hc'⟩⟩
     · rw [List.getElem?_set_ne (Ne.symm hj)] at e2;obtain ⟨u',r',q⟩:=hl j y v' e1 e2 e3;refine ⟨u',r',?_⟩
       rcases q with q|⟨k,c',e,z'⟩
       · exact .inl q
       · refine .inr ⟨k,c',e,z'.sameBut hs ?_⟩;rintro rfl
         exact hj (Zlt hN e1 (I.ok.inj _ _ _ e hc ▸ hi))
   · by_cases hcc:c'=c
     · subst hcc;exact ⟨_,hc'⟩
     · obtain ⟨w2,z2⟩:=I.cell y c' e;exact ⟨w2,z2.sameBut hs hcc⟩
   · obtain ⟨e,n,ne,nf,d⟩:=I.pin p hp;refine ⟨(hs.2 p.1 ?_).trans e,n,ne,nf,d⟩;intro q;rw [q,hoc] at e;have q':oc=p.2:=Option.some.inj e;exact d w' (by rw [← q'];exact hocd)
theorem X6 {M:Model} {A:Around} {E:Value→Shared→Prop} {i:Nat} {x:Str} {v:V} {u:Value} {Q:Unit→Shared→Prop} (I:Inv X pins σ H s) (hN:X.N.Nodup) (hi:X.N[i]? = some x) (hx:Loc X.env.scope x) (r:RelV v u)
 (h:∀ s',Inv X pins (σ.set i (some v)) H s'→Q () s') (hf:X.fn x=true∨X.env.scope.names.lookup x=some .local:=by first|exact .inl rfl|exact .inr rfl|assumption):wpAny M A (storeName X.env x u) Q E s :=
 Znq I hN hi hx r (fun s' I' _=>h s' I') hf
theorem Inv.call' {s':Shared} {ch:List Addr} (I:Inv X pins σ H s) (ho:s'.os=s.os) (u:Un (frs X.stack) ch H H' s.heap s'.heap) (hok:HOk X.prog X.w H' s'.heap) (hg:AllBare s'.gens)
 (hch:∀ b∈ch,(b∈X.ex∨X.s₀.heap.objs.size≤b)∧b≠X.env.locals∧(∀ x c,X.env.cells.lookup x=some c→c≠b)∧∀ p∈X.pn++pins,p.1≠b):Inv X pins σ H' s':=by
 obtain ⟨h',g',d',t',o'⟩:=s';have e:o'=s.os:=ho;subst e;exact I.call (g':=g') (t':=t') (d':=d') u hok hg hch
end
abbrev XK:=Value→Option Addr→Hp→Prop
abbrev St:=List (Option V)
abbrev VK:=V→Hp→Prop
abbrev TE:=St→Hp→VK→Prop
abbrev TT:=St→Hp→(Bool→Hp→Prop)→Prop
abbrev TA:=St→Hp→(List V→Hp→Prop)→Prop
structure Ends where
 nx:St→Hp→Prop
 rt:VK
 bk:St→Hp→Prop:=fun _ _=>False
 ct:St→Hp→Prop:=fun _ _=>False
abbrev TS:=Ends→St→Hp→Prop
def EP (X:Cx) (pins:List (Addr×Obj)) (σ:St) (Q:VK) (u:Value) (s':Shared):Prop:=∃ v H',Inv X pins σ H' s'∧RelV v u∧Q v H'
def TP (X:Cx) (pins:List (Addr×Obj)) (σ:St) (Q:Bool→Hp→Prop) (b:Bool) (s':Shared):Prop:=∃ H',Inv X pins σ H' s'∧Q b H'
def AP (X:Cx) (pins:List (Addr×Obj)) (σ:St) (Q:List V→Hp→Prop) (us:List Value) (s':Shared):Prop:=∃ vs H',Inv X pins σ H' s'∧Vals vs us∧Q vs H'
def SP (X:Cx) (pins:List (Addr×Obj)) (D:Ends) (f:Flow) (s':Shared):Prop :=
 match f with
 | .next=>∃ σ' H',Inv X pins σ' H' s'∧D.nx σ' H'
 | .brk=>∃ σ' H',Inv X pins σ' H' s'∧D.bk σ' H'
 | .cont=>∃ σ' H',Inv X pins σ' H' s'∧D.ct σ' H'
 | .ret u=>∃ v σ' H',Inv X pins σ' H' s'∧RelV v u∧D.rt v H'
def PE (X:Cx) (e:Expr) (t:TE):Prop :=
 ∀ (pins:List (Addr×Obj)) (s:Shared) (σ:St) (H:Hp) (Q:VK),Inv X pins σ H s→t σ H Q→wpAny (model X.prog X.w) X.A (eval e X.env) (EP X pins σ Q) X.xe s
def PT (X:Cx) (e:Expr) (t:TT):Prop :=
 ∀ (pins:List (Addr×Obj)) (s:Shared) (σ:St) (H:Hp) (Q:Bool→Hp→Prop),Inv X pins σ H s→t σ H Q→wpAny (model X.prog X.w) X.A (isTrue e X.env (eval e X.env)) (TP X pins σ Q) X.xe s
def PW (X:Cx) (e:Expr) (t:TT):Prop :=
 ∀ (whole:Sem Value) (pins:List (Addr×Obj)) (s:Shared) (σ:St) (H:Hp) (Q:Bool→Hp→Prop),Inv X pins σ H s→t σ H Q→wpAny (model X.prog X.w) X.A (isTrue e X.env whole) (TP X pins σ Q) X.xe s
theorem PW.pt {X:Cx} {e:Expr} {t:TT} (h:PW X e t):PT X e t:=h _
def PA (X:Cx) (es:List Expr) (t:TA):Prop :=
 ∀ (pos:Pos) (pins:List (Addr×Obj)) (s:Shared) (σ:St) (H:Hp) (Q:List V→Hp→Prop),Inv X pins σ H s→t σ H Q→wpAny (model X.prog X.w) X.A (spliced (backTo pos (starEach es X.env))) (AP X pins σ Q) X.xe s
def PS (X:Cx) (st:Stmt) (t:TS):Prop :=
 ∀ (pins:List (Addr×Obj)) (s:Shared) (σ:St) (H:Hp) (D:Ends),Inv X pins σ H s→t D σ H→wpAny (model X.prog X.w) X.A (exec st X.env) (SP X pins D) X.xe s
def PSs (X:Cx) (st:List Stmt) (t:TS):Prop :=
 ∀ (pins:List (Addr×Obj)) (s:Shared) (σ:St) (H:Hp) (D:Ends),Inv X pins σ H s→t D σ H→wpAny (model X.prog X.w) X.A (execs st X.env) (SP X pins D) X.xe s
theorem thn {α:Type} {t:Sem α} {Q Q':α→Shared→Prop} {M:Model} {A:Around} {E:Value→Shared→Prop} {s:Shared} (h:wpAny M A t Q E s) (hQ:∀ a s,Q a s→Q' a s):wpAny M A t Q' E s:=wpAny_mono h hQ fun _ _ x=>x
section
variable {X:Cx}
def tVar (i:Nat):TE:=fun σ H Q=>∃ v,σ[i]? = some (some v)∧Q v H
def tC (v:V):TE:=fun _ H Q=>Q v H
theorem Zvn {i:Nat} {x:Str} {pos:Pos} (hN:X.N[i]? = some x) (hv:Vis X.env.scope x) (hd:(x == ("__debug__" : Str))=false:=by decide) (hcd:(x == ("__classdict__" : Str))=false:=by decide):PE X (.Name x pos) (tVar i):=by
 intro pins s σ H Q I h;obtain ⟨v,e,h⟩:=h;obtain ⟨m,hn,hl⟩:=I.loc;obtain ⟨u,r,l⟩:=hl i x v hN e hv;have fin:EP X pins σ Q u s:=⟨v,H,I,r,h⟩
 rcases l with ⟨hk,hm⟩|⟨hk,c,hc,hcell⟩
 · exact wpAny_Name (wpAny_loadName_local I.ok.kind hk hn hm fin) hd
 · rcases hk with hk|hk
   · exact wpAny_Name (wpAny_loadName_cell I.ok.kind hk hc hcell fin) hd
   · exact wpAny_Name (wpAny_loadName_free I.ok.kind hk hc hcell fin hcd) hd
theorem Zf {i j pos}:PE X (.Constant (.int i) j pos) (tC (.int i)):=fun _ _ _ H _ I h=>wpAny_Constant_int ⟨.int i,H,I.tok _,⟨_,rfl⟩,h⟩
theorem Xw {b j pos}:PE X (.Constant (.bool b) j pos) (tC (.bl b)):=fun _ _ _ H _ I h=>Constant_bool ⟨.bl b,H,I,rfl,h⟩
def Gl (X:Cx) (x:Str):Prop:=X.env.kindOf x=some .globalImplicit
theorem Zke {E:Value→Shared→Prop} {pins:List (Addr×Obj)} {s:Shared} {σ:St} {H:Hp} {x:Str} {u:Value} {pos:Pos} {Q:Value→Shared→Prop} (I:Inv X pins σ H s) (hg:Gl X x) (hm:X.mg x=some u) (h:Q u s)
 (hd:(x == ("__debug__" : Str))=false:=by decide):wpAny (model X.prog X.w) X.A (eval (.Name x pos) X.env) Q E s :=
 Calls.Name_function_global I.ok.kind hg (Calls.loadGlobal_global (by rw [I.ok.glob];exact I.mod.glob.keeps I.bk) hm h) hd
theorem Zcf {E:Value→Shared→Prop} {pins:List (Addr×Obj)} {s:Shared} {σ:St} {H:Hp} {x:Str} {u:Value} {pos:Pos} {Q:Value→Shared→Prop} (I:Inv X pins σ H s) (hg:Gl X x) (hm:X.mg x=none) (hv:bootBuiltins x=some u) (h:Q u s)
 (hn:x ≠ "__name__" := by decide) (hd:(x == ("__debug__" : Str))=false:=by decide):wpAny (model X.prog X.w) X.A (eval (.Name x pos) X.env) Q E s:=by
 obtain ⟨mb,h1,h2⟩:=I.mod.blt;exact Calls.Name_function_global I.ok.kind hg (Calls.loadGlobal_builtin (by rw [I.ok.glob];exact I.mod.glob.keeps I.bk) hm (by rw [I.ok.blt];exact h1.keeps I.bk) ((h2 x hn).trans hv) h) hd
theorem Zrv {x:Str} {v:V} {u:Value} {pos:Pos} (hg:Gl X x) (hm:X.mg x=some u) (r:RelV v u) (hd:(x == ("__debug__" : Str))=false:=by decide):PE X (.Name x pos) (tC v) :=
 fun _ _ _ H _ I h=>Zke I hg hm ⟨v,H,I,r,h⟩ hd
theorem Zc0 {x:Str} {v:V} {u:Value} {pos:Pos} (hg:Gl X x) (hm:X.mg x=none) (hv:bootBuiltins x=some u) (r:RelV v u) (hn:x ≠ "__name__" := by decide) (hd:(x == ("__debug__" : Str))=false:=by decide):PE X (.Name x pos) (tC v) :=
 fun _ _ _ H _ I h=>Zcf I hg hm hv ⟨v,H,I,r,h⟩ hn hd
variable {a b:Expr} {ta tb:TE} {pos:Pos}
variable {tA tB':TT} {rest:List Expr}
def tOr (t u:TT):TT:=fun σ H Q=>t σ H fun c H1=>if c=true then Q true H1 else u σ H1 Q
def tNot (t:TT):TT:=fun σ H Q=>t σ H fun c H1=>Q (!c) H1
theorem Zbg (ha:PT X a tA):PW X (.BoolOp .Or [a] pos) tA:=by
 intro wh pins s σ H Q I h;refine isTrue_or (thn (ha pins s σ H Q I h) fun c s1 e=>?_);cases c with
 | false=>exact isTrue_or_nil e
 | true=>exact e
theorem Zei (ha:PT X a tA) (hb:PW X (.BoolOp .Or (b :: rest) pos) tB'):PW X (.BoolOp .Or (a :: b :: rest) pos) (tOr tA tB'):=by
 intro wh pins s σ H Q I h;refine isTrue_or (thn (ha pins s σ H _ I h) fun c s1 ⟨H1,I1,q1⟩=>?_);cases c with
 | true=>exact ⟨H1,I1,q1⟩
 | false=>exact hb wh pins s1 σ H1 Q I1 q1
theorem Ys (ha:PT X a tA):PT X (.UnaryOp .Not a pos) (tNot tA):=by
 intro pins s σ H Q I h;exact isTrue_not (ha pins s σ H (fun c H1=>Q (!c) H1) I h)
def Zwh (ta tb:TE):TE:=fun σ H Q=>ta σ H fun x H1=>∃ c,x=.bl c∧if c=true then tb σ H1 Q else Q (.bl false) H1
def tOrV (ta tb:TE):TE:=fun σ H Q=>ta σ H fun x H1=>∃ c,x=.bl c∧if c=true then Q (.bl true) H1 else tb σ H1 Q
def Zwg (ta:TE):TE:=fun σ H Q=>ta σ H fun x H1=>∃ c,x=.bl c∧Q (.bl (!c)) H1
theorem Zc5 {op} {t:TE} (h:PE X a t):PE X (.BoolOp op [a] pos) t:=fun pins s σ H Q I hw=>BoolOp_one (h pins s σ H Q I hw)
theorem Zem (ha:PE X a ta) (hb:PE X (.BoolOp .And (b :: rest) pos) tb):PE X (.BoolOp .And (a :: b :: rest) pos) (Zwh ta tb):=by
 intro pins s σ H Q I h;refine BoolOp_and (thn (ha pins s σ H _ I h) fun v s1 ⟨x,H1,I1,r1,q1⟩=>?_);obtain ⟨c,rfl,q1⟩:=q1;cases r1
 refine wpAny_truthy_bool ?_;cases c with
 | true=>exact hb pins s1 σ H1 Q I1 q1
 | false=>exact ⟨.bl false,H1,I1,rfl,q1⟩
theorem Zv6 (ha:PE X a ta) (hb:PE X (.BoolOp .Or (b :: rest) pos) tb):PE X (.BoolOp .Or (a :: b :: rest) pos) (tOrV ta tb):=by
 intro pins s σ H Q I h;refine BoolOp_or (thn (ha pins s σ H _ I h) fun v s1 ⟨x,H1,I1,r1,q1⟩=>?_);obtain ⟨c,rfl,q1⟩:=q1;cases r1
 refine wpAny_truthy_bool ?_;cases c with
 | false=>exact hb pins s1 σ H1 Q I1 q1
 | true=>exact ⟨.bl true,H1,I1,rfl,q1⟩
theorem Zra (ha:PE X a ta):PE X (.UnaryOp .Not a pos) (Zwg ta):=by
 intro pins s σ H Q I h;refine UnaryOp_ (thn (ha pins s σ H _ I h) fun v s1 ⟨x,H1,I1,r1,q1⟩=>?_);obtain ⟨c,rfl,q1⟩:=q1;cases r1
 exact not_of (wpAny_truthy_bool ⟨.bl (!c),H1,I1,rfl,q1⟩)
def tIf (t:TT) (ta tb:TE):TE:=fun σ H Q=>t σ H fun c H1=>if c=true then ta σ H1 Q else tb σ H1 Q
theorem Zkv {c:Expr} (hc:PT X c tA) (ha:PE X a ta) (hb:PE X b tb):PE X (.IfExp c a b pos) (tIf tA ta tb):=by
 intro pins s σ H Q I h;refine wpAny_IfExp (thn (hc pins s σ H _ I h) fun d s1 ⟨H1,I1,q1⟩=>?_);cases d with
 | true=>exact ha pins s1 σ H1 Q I1 q1
 | false=>exact hb pins s1 σ H1 Q I1 q1
end
def SqL (K:PySem.W.Frag) (H:Hp) (a:Addr) (xs:List V):Prop :=
 Rd H a (.lst xs) ∨
  ∃ (o:Obj) (its:Array Value) (n:Nat),K.lookup a=some o∧o.cls=.type "list" ∧ o.dict=none∧o.data=.seq its n∧its.size≤sizeLine∧Vals xs its.toList
def SqT (K:PySem.W.Frag) (H:Hp) (a:Addr) (xs:List V):Prop :=
 Rd H a (.tup xs) ∨
  ∃ (o:Obj) (its:Array Value) (n:Nat),K.lookup a=some o∧o.cls=.type "tuple" ∧ o.data=.seq its n∧its.size≤sizeLine∧Vals xs its.toList
def absV:Value→Option V
 | .none=>some .non
 | .bool b=>some (.bl b)
 | .int i _=>some (.int i)
 | .str x _=>some (.str x)
 | .bytes b _=>some (.byt b)
 | .float b _=>some (.flt b)
 | .ref a=>some (.ref a)
 | .type n=>some (.ty n)
 | _=>none
theorem RelV.abs {x:V} {u:Value} (r:RelV x u):absV u=some x:=by
 cases x with
 | non=>cases r;rfl
 | bl _=>cases r;rfl
 | int _=>obtain ⟨t,rfl⟩:=r;rfl
 | str _=>obtain ⟨t,rfl⟩:=r;rfl
 | byt _=>obtain ⟨t,rfl⟩:=r;rfl
 | flt _=>obtain ⟨t,rfl⟩:=r;rfl
 | ref _=>cases r;rfl
 | ty _=>cases r;rfl
theorem RelV.inj {x y:V} {u:Value} (r:RelV x u) (q:RelV y u):x=y:=Option.some.inj (r.abs.symm.trans q.abs)
theorem Vals.inj:∀ {xs ys:List V} {us:List Value},Vals xs us→Vals ys us→xs=ys
 | _,_,_,.nil,.nil=>rfl
 | _,_,_,.cons r t,.cons r' t'=>by rw [r.inj r',Vals.inj t t']
section
variable {X:Cx} {pins:List (Addr×Obj)} {σ:St} {H:Hp} {s:Shared} {a:Addr} {xs ys:List V}
theorem SqL.of {K:PySem.W.Frag} (h:H a=some (.lst xs)):SqL K H a xs:=.inl (.inl h)
theorem SqT.of {K:PySem.W.Frag} (h:H a=some (.tup xs)):SqT K H a xs:=.inl (.inl h)
theorem Inv.list (I:Inv X pins σ H s) (h:SqL X.K H a xs):∃ its:List Value,Vals xs its∧PlainL s.heap a its.toArray∧xs.length≤sizeLine:=by
 rcases h with h|⟨o,its,n,hk,hc,hd,hs,hz,r⟩
 · obtain ⟨z,its,n,r,e⟩:=h.ok I.hok;exact ⟨its,r,⟨_,n,e,rfl,rfl,rfl⟩,z⟩
 · refine ⟨its.toList,r,⟨o,n,I.kIn a o hk,hc,hd,by simpa using hs⟩,?_⟩;have e:=r.length;simp only [Array.length_toList] at e;omega
theorem Inv.tuple (I:Inv X pins σ H s) (h:SqT X.K H a xs):∃ its:List Value,Vals xs its∧IsTup s.heap a its.toArray∧xs.length≤sizeLine:=by
 rcases h with h|⟨o,its,n,hk,hc,hs,hz,r⟩
 · obtain ⟨z,its,r,p⟩:=h.ok I.hok;exact ⟨its,r,p,z⟩
 · refine ⟨its.toList,r,⟨o,I.kIn a o hk,hc,n,by simpa using hs⟩,?_⟩;have e:=r.length;simp only [Array.length_toList] at e;omega
theorem Inv.list_inj (I:Inv X pins σ H s) (h:SqL X.K H a xs) (h':SqL X.K H a ys):xs=ys:=by
 obtain ⟨its,r,⟨o,n,e,_,_,d⟩,_⟩:=I.list h;obtain ⟨its',r',⟨o',n',e',_,_,d'⟩,_⟩:=I.list h';rw [e] at e';cases e';rw [d] at d';injection d' with d1 _
 have:its=its':=by simpa using congrArg Array.toList d1
 subst this;exact r.inj r'
theorem Inv.tuple_inj (I:Inv X pins σ H s) (h:SqT X.K H a xs) (h':SqT X.K H a ys):xs=ys:=by
 obtain ⟨its,r,⟨o,e,_,n,d⟩,_⟩:=I.tuple h;obtain ⟨its',r',⟨o',e',_,n',d'⟩,_⟩:=I.tuple h';rw [e] at e';cases e';rw [d] at d';injection d' with d1 _
 have:its=its':=by simpa using congrArg Array.toList d1
 subst this;exact r.inj r'
end
abbrev Cx.wish (X:Cx) (E:Value→Shared→Prop):Cx:={ X with xe:=E }
abbrev Cx.nox (X:Cx):Cx:=X.wish fun _ _=>False
theorem Cx.Ok.wish {X:Cx} (ok:X.Ok) (E:Value→Shared→Prop):(X.wish E).Ok :=
 ⟨ok.mod,ok.kind,ok.glob,ok.blt,ok.above,ok.inj,ok.has,ok.cab,ok.hd,ok.frames,ok.stk,ok.exf,ok.bs,ok.bsz,ok.noex,ok.exfs,ok.funs,ok.frf⟩
theorem Cx.Ok.unwish {X:Cx} {E:Value→Shared→Prop} (ok:(X.wish E).Ok):X.Ok :=
 ⟨ok.mod,ok.kind,ok.glob,ok.blt,ok.above,ok.inj,ok.has,ok.cab,ok.hd,ok.frames,ok.stk,ok.exf,ok.bs,ok.bsz,ok.noex,ok.exfs,ok.funs,ok.frf⟩
section
variable {X:Cx} {pins:List (Addr×Obj)} {σ:St} {H:Hp} {s:Shared} {E:Value→Shared→Prop}
theorem Inv.wish (I:Inv X pins σ H s) (E:Value→Shared→Prop):Inv (X.wish E) pins σ H s:=⟨I.ok.wish E,I.os,I.bare,I.base,I.loc,I.cell,I.free,I.freeC,I.pin,I.hok,I.len⟩
theorem Inv.unwish (I:Inv (X.wish E) pins σ H s):Inv X pins σ H s:=⟨I.ok.unwish,I.os,I.bare,I.base,I.loc,I.cell,I.free,I.freeC,I.pin,I.hok,I.len⟩
theorem SP.unwish {D:Ends} {f:Flow} {s':Shared} (h:SP (X.wish E) pins D f s'):SP X pins D f s':=by
 cases f with
 | next=>obtain ⟨σ',H',I,q⟩:=h;exact ⟨σ',H',I.unwish,q⟩
 | brk=>obtain ⟨σ',H',I,q⟩:=h;exact ⟨σ',H',I.unwish,q⟩
 | cont=>obtain ⟨σ',H',I,q⟩:=h;exact ⟨σ',H',I.unwish,q⟩
 | ret u=>obtain ⟨v,σ',H',I,r,q⟩:=h;exact ⟨v,σ',H',I.unwish,r,q⟩
theorem PSs.nox {st:List Stmt} {t:TS} (h:PSs X.nox st t):PSs X st t:=fun pins s σ H D I hw =>
 wpAny_mono (h pins s σ H D (I.wish _) hw) (fun _ _ q=>q.unwish) fun _ _ z=>False.elim z
end
section
variable {X:Cx} {st:Stmt} {rest:List Stmt} {t u:TS} {e:Expr} {te:TE} {pos:Pos}
def Zwd:TS:=fun D σ H=>D.nx σ H
def tSeq (t u:TS):TS:=fun D σ H=>t { D with nx:=u D } σ H
theorem Z2:PSs X [] Zwd:=fun _ _ σ H _ I h=>wpAny_execs_nil ⟨σ,H,I,h⟩
theorem Zd (h1:PS X st t) (h2:PSs X rest u):PSs X (st :: rest) (tSeq t u):=by
 intro pins s σ H D I h;refine wpAny_execs_cons (thn (h1 pins s σ H { D with nx:=u D } I h) fun f s1 q=>?_);cases f with
 | next =>
   obtain ⟨σ',H',I',q⟩:=q;exact h2 pins s1 σ' H' D I' q
 | ret v=>exact q
 | brk=>exact q
 | cont=>exact q
theorem Zi (h1:PS X st t):PSs X [st] t:=by
 intro pins s σ H D I h;refine wpAny_execs_cons (thn (h1 pins s σ H D I h) fun f s1 q=>?_);cases f with
 | next=>exact wpAny_execs_nil q
 | ret v=>exact q
 | brk=>exact q
 | cont=>exact q
theorem Inv.quiet {pins:List (Addr×Obj)} {σ:St} {H:Hp} {s:Shared} (I:Inv X pins σ H s):interactive X.env=false:=by simp [interactive,I.ok.kind]
def Zwp (te:TE):TS:=fun D σ H=>te σ H fun _ H1=>D.nx σ H1
theorem Xe (he:PE X e te) (hs:swapsWith e none pos.line X.env=pure false:=by rfl):PS X (.Expr e pos) (Zwp te):=by
 intro pins s σ H D I h;exact wpAny_Expr_any (thn (he pins s σ H _ I h) fun v s1 ⟨x,H1,I1,r1,q1⟩=>⟨σ,H1,I1,q1⟩) I.quiet hs
def tRet (te:TE):TS:=fun D σ H=>te σ H D.rt
theorem Zl (he:PE X e te):PS X (.Return (some e) pos) (tRet te):=by
 intro pins s σ H D I h;exact wpAny_Return_some (thn (he pins s σ H _ I h) fun v s1 ⟨x,H1,I1,r1,q1⟩=>⟨x,σ,H1,I1,r1,q1⟩)
def tIfS (c:TT) (t u:TS):TS:=fun D σ H=>c σ H fun b H1=>if b=true then t D σ H1 else u D σ H1
theorem Xc {c:Expr} {a b:List Stmt} {tc:TT} (hc:PT X c tc) (ha:PSs X a t) (hb:PSs X b u):PS X (.If c a b pos) (tIfS tc t u):=by
 intro pins s σ H D I h;refine wpAny_If (thn (hc pins s σ H _ I h) fun d s1 ⟨H1,I1,q1⟩=>?_);cases d with
 | true=>exact ha pins s1 σ H1 D I1 q1
 | false=>exact hb pins s1 σ H1 D I1 q1
def Ztw:TS:=fun _ _ _=>False
theorem Za3 {sts:List Stmt}:PSs X sts Ztw:=fun _ _ _ _ _ _ h=>h.elim
end
abbrev TG:=V→St→Hp→(St→Hp→Prop)→Prop
abbrev TGs:=List V→St→Hp→(St→Hp→Prop)→Prop
def PG (X:Cx) (target:Expr) (t:TG):Prop :=
 ∀ (pins:List (Addr×Obj)) (s:Shared) (σ:St) (H:Hp) (v:V) (u:Value) (Q:St→Hp→Prop),Inv X pins σ H s→RelV v u→t v σ H Q →
   wpAny (model X.prog X.w) X.A (assign target X.env u) (fun _ s'=>∃ σ' H',Inv X pins σ' H' s'∧Q σ' H') X.xe s
def PGs (X:Cx) (ts:List Expr) (t:TGs):Prop :=
 ∀ (pins:List (Addr×Obj)) (s:Shared) (σ:St) (H:Hp) (vs:List V) (us:List Value) (Q:St→Hp→Prop),Inv X pins σ H s→Vals vs us→t vs σ H Q →
   wpAny (model X.prog X.w) X.A (assignInOrder ((assignEach ts X.env).map (·.2)) us) (fun _ s'=>∃ σ' H',Inv X pins σ' H' s'∧Q σ' H') X.xe s
abbrev TSet:=V→V→V→Hp→(Hp→Prop)→Prop
def PSet (X:Cx) (t:TSet):Prop :=
 ∀ (pins:List (Addr×Obj)) (s:Shared) (σ:St) (H:Hp) (o i v:V) (ov iv u:Value) (Q:Hp→Prop),Inv X pins σ H s→RelV o ov→RelV i iv→RelV v u→t o i v H Q →
   wpAny (model X.prog X.w) X.A (setItem ov iv u) (fun _ s'=>∃ H',Inv X pins σ H' s'∧Q H') X.xe s
section
variable {X:Cx} {pos:Pos}
def Z8 (i:Nat):TG:=fun v σ H Q=>Q (σ.set i (some v)) H
theorem Ze {i:Nat} {x:Str} (hN:X.N.Nodup) (hi:X.N[i]? = some x) (hx:Loc X.env.scope x) (hf:X.fn x=true∨X.env.scope.names.lookup x=some .local:=by first|exact .inl rfl|exact .inr rfl|assumption):PG X (.Name x pos) (Z8 i):=by
 intro pins s σ H v u Q I r h;exact wpAny_assign_Name (X6 I hN hi hx r (fun s' I'=>⟨_,H,I',h⟩) hf)
def gNil:TGs:=fun vs σ H Q=>vs=[]∧Q σ H
def Yi (t:TG) (u:TGs):TGs:=fun vs σ H Q=>∃ v r,vs=v :: r∧t v σ H fun σ' H'=>u r σ' H' Q
theorem Zq:PGs X [] gNil:=by
 intro pins s σ H vs us Q I r h;obtain ⟨e,h⟩:=h;subst e;cases r
 exact assignInOrder_nil ⟨σ,H,I,h⟩
theorem Zg {e:Expr} {es:List Expr} {t:TG} {u:TGs} (h1:PG X e t) (h2:PGs X es u)
 (hs:(assignEach (e :: es) X.env).map (·.2)=assign e X.env :: (assignEach es X.env).map (·.2):=by rfl):PGs X (e :: es) (Yi t u):=by
 intro pins s σ H vs us Q I r h;obtain ⟨v,vr,e1,h⟩:=h;subst e1;cases r with
 | cons r rr =>
   rw [hs];refine assignInOrder_cons (thn (h1 pins s σ H _ _ _ I r h) fun _ s1 ⟨σ1,H1,I1,q1⟩=>?_);exact h2 pins s1 σ1 H1 _ _ Q I1 rr q1
def gTup (K:PySem.W.Frag) (n:Nat) (t:TGs):TG:=fun v σ H Q=>∃ a xs,v=.ref a∧SqT K H a xs∧xs.length=n∧t xs σ H Q
theorem Zy {es:List Expr} {k:Nat} {t:TGs} {n:Nat} (hc:X.calm=true) (h:PGs X es t)
 (hn:(assignEach es X.env).length=n:=by rfl) (hst:(assignEach es X.env).findIdx? (·.1)=none:=by rfl):PG X (.Tuple es k pos) (gTup X.K n t):=by
 intro pins s σ H v u Q I r hw;obtain ⟨a,xs,e1,hq,hl,hw⟩:=hw;subst e1;cases r
 obtain ⟨its,rv,ht,hz⟩:=I.tuple hq;refine assign_Tuple_tuple (I.ok.hd hc) ht (by simp [hn,← hl,rv.length]) hst fun h' hx=>?_;have I1:Inv X pins σ H { s with heap:=h' }:=I.kept (t':=s.toks) fun b o e=>hx b o (Nat.ne_of_lt (Heap.lt_size e)) e;exact h pins _ σ H xs _ Q I1 (by simpa using rv) hw
def gSub (to ti:TE) (t:TSet):TG:=fun v σ H Q=>to σ H fun o H1=>ti σ H1 fun i H2=>t o i v H2 fun H3=>Q σ H3
theorem Zk4 {o i:Expr} {to ti:TE} {t:TSet} (ho:PE X o to) (hi:PE X i ti) (hs:PSet X t)
 (ha:∀ v,assign (.Subscript o i pos) X.env v=(do
   let ov ← holding [v] (eval o X.env)
   let iv ← holding [v,ov] (eval i X.env)
   standAt pos
   holding [v,ov,iv] (setItem ov iv v)
   release [v,ov,iv] []):=by intro _;rfl):PG X (.Subscript o i pos) (gSub to ti t):=by
 intro pins s σ H v u Q I r h;rw [ha];refine wpAny_bind (wpAny_holding (thn (ho pins s σ H _ I h) fun ov s1 ⟨x,H1,I1,r1,q1⟩=>?_));refine wpAny_bind (wpAny_holding (thn (hi pins s1 σ H1 _ I1 q1) fun iv s2 ⟨y,H2,I2,r2,q2⟩=>?_));refine wpAny_bind (wpAny_standAt (wpAny_bind (wpAny_holding (thn (hs pins s2 σ H2 x y v ov iv u _ I2 r1 r2 r q2) fun _ s3 ⟨H3,I3,q3⟩=>?_))));exact wpAny_release ⟨σ,H3,I3,q3⟩
def tAsg (te:TE) (g:TG):TS:=fun D σ H=>te σ H fun x H1=>g x σ H1 D.nx
theorem Yt {tg e:Expr} {te:TE} {g:TG} (he:PE X e te) (hg:PG X tg g) (hs:swapsWithSole [tg] e pos.line X.env=pure false:=by rfl) (hw:swappedStores [tg] e X.env=pure none:=by rfl)
 (h1:(assignEach [tg] X.env).map (·.2)=[assign tg X.env]:=by rfl):PS X (.Assign [tg] e pos) (tAsg te g):=by
 intro pins s σ H D I h;refine wpAny_Assign_stores (thn (he pins s σ H _ I h) fun v s1 ⟨x,H1,I1,r1,q1⟩=>?_) hs hw;rw [h1];exact thn (hg pins s1 σ H1 x v _ I1 r1 q1) fun _ s2 q=>q
theorem Zz {i:Nat} {x:Str} {e:Expr} {te:TE} {pos':Pos} (hN:X.N.Nodup) (hi:X.N[i]? = some x) (hx:Loc X.env.scope x) (he:PE X e te) (hs:swapsWith e (some (.Name x pos')) pos.line X.env=pure false:=by rfl) (hf:X.fn x=true∨X.env.scope.names.lookup x=some .local:=by first|exact .inl rfl|exact .inr rfl|assumption) :
 PS X (.Assign [.Name x pos'] e pos) (tAsg te (Z8 i)):=by
 intro pins s σ H D I h;refine wpAny_Assign_Name (thn (he pins s σ H _ I h) fun v s1 ⟨y,H1,I1,r1,q1⟩=>?_) hs;exact X6 I1 hN hi hx r1 (fun s2 I2=>⟨_,H1,I2,q1⟩) hf
def tPar (i j:Nat) (ta:TA):TS:=fun D σ H=>ta σ H fun vs H1=>∃ v w,vs=[v,w]∧D.nx ((σ.set i (some v)).set j (some w)) H1
theorem Zhp {i j:Nat} {x y:Str} {a b:Expr} {ta:TA} {px py pt:Pos} {kt k2 pt2} (hc:X.calm=true) (hN:X.N.Nodup) (hi:X.N[i]? = some x) (hj:X.N[j]? = some y) (hij:i≠j)
 (hx:X.env.scope.names.lookup x=some .local) (hy:X.env.scope.names.lookup y=some .local) (ha:PA X [a,b] ta)
 (hw:swappedStores [.Tuple [.Name x px,.Name y py] kt pt] (.Tuple [a,b] k2 pt2) X.env=pure (some [x,y]))
 (hs:swapsWithSole [.Tuple [.Name x px,.Name y py] kt pt] (.Tuple [a,b] k2 pt2) pos.line X.env=pure false:=by rfl) :
 PS X (.Assign [.Tuple [.Name x px,.Name y py] kt pt] (.Tuple [a,b] k2 pt2) pos) (tPar i j ta):=by
 intro pins s σ H D I h;rw [exec_Assign_arm];refine wpAny_bind (wpAny_standAt ?_);rw [hs];refine wpAny_bind (wpAny_pure ?_);rw [if_neg (by decide)];refine wpAny_bind (Tuple_ (thn (ha _ pins s σ H _ I h) fun us s1 ⟨vs,H1,I1,r1,q1⟩=>?_));obtain ⟨v,w,e1,q1⟩:=q1;subst e1
 obtain ⟨u1,u2,rfl,rv,rw'⟩:∃ u1 u2,us=[u1,u2]∧RelV v u1∧RelV w u2:=by
  cases r1 with
  | cons p q =>
    cases q with
    | cons p' q' =>
      cases q'
      exact ⟨_,_,rfl,p,p'⟩
 refine wpAny_newObj_type ?_ (z2_);have I2:Inv X pins σ H1 { s1 with heap:=s1.heap.push { cls:=.type "tuple",data:=.seq [u1,u2].toArray } }:=I1.kept (t':=s1.toks) fun b o e=>Heap.get?_push_of_some _ e;rw [hw];refine wpAny_bind (wpAny_pure ?_);show wpAny (model X.prog X.w) X.A (do rule "assign.swapped-stores";let items ← unpackItems (.ref s1.heap.objs.size) 2 none;assignInOrder [fun v=>bindName X.env y v,fun v=>bindName X.env x v] items.reverse;pure Flow.next) _ _ _
 refine wpAny_bind (wpAny_rule (wpAny_bind (unpackItems_tuple (items:=#[u1,u2]) (I.ok.hd hc) (IsTup.new s1.heap _) fun h' hx'=>?_)));have I3:=I2.kept (h':=h') (t':=s1.toks) fun b o e=>hx' b o (Nat.ne_of_lt (Heap.lt_size e)) e;show wpAny _ _ (assignInOrder [fun v=>bindName X.env y v,fun v=>bindName X.env x v] [u2,u1] >>= fun _=>pure Flow.next) _ _ _
 refine wpAny_bind (assignInOrder_cons (wpAny_bindName (X6 I3 hN hj (.inl hy) rw' (fun s2 I4=>?_) (.inr hy))));refine assignInOrder_cons (wpAny_bindName (X6 I4 hN hi (.inl hx) rv (fun s3 I5=>assignInOrder_nil (wpAny_pure ?_)) (.inr hx)));rw [List.set_comm _ _ (Ne.symm hij)] at I5;exact ⟨_,H1,I5,q1⟩
end
section
variable {X:Cx} {pos:Pos}
def Zrd (c:TT) (tb:TS):TS:=fun D σ H=>∃ W:Nat→St→Hp→Prop,(∃ m,W m σ H)∧∀ m σ H,W m σ H →
 c σ H fun b H1=>if b=true then ∃ N:St→Hp→Prop,(∀ σ' H',N σ' H'→∃ m',m'<m∧W m' σ' H')∧tb { D with nx:=N,ct:=N,bk:=D.nx } σ H1 else D.nx σ H1
theorem Zds {c:Expr} {body:List Stmt} {tc:TT} {tb:TS} (hp:PassesOwn (model X.prog X.w) X.A X.env X.xe) (hc:PT X c tc) (hb:PSs X body tb):PS X (.While c body [] pos) (Zrd tc tb):=by
 intro pins s σ H D I h;obtain ⟨W,⟨m0,w0⟩,turn⟩:=h;refine wpAny_While (codeAny_whileLoop (fun n s'=>∃ σ' H',Inv X pins σ' H' s'∧W n σ' H') ?_ m0 ⟨σ,H,I,w0⟩);rintro n s1 ⟨σ1,H1,I1,w1⟩
 refine wpAny_passesOwn hp (thn (hc pins s1 σ1 H1 _ I1 (turn n σ1 H1 w1)) fun b s2 ⟨H2,I2,q2⟩=>?_);cases b with
 | true =>
   obtain ⟨N,hN,q2⟩:=q2;rw [if_pos rfl];refine wpAny_passesOwn hp (thn (hb pins s2 σ1 H2 _ I2 q2) fun f s3 q3=>?_);cases f with
   | next =>
     obtain ⟨σ3,H3,I3,n3⟩:=q3;obtain ⟨m',hm,w3⟩:=hN σ3 H3 n3;exact ⟨m',hm,σ3,H3,I3,w3⟩
   | cont =>
     obtain ⟨σ3,H3,I3,n3⟩:=q3;obtain ⟨m',hm,w3⟩:=hN σ3 H3 n3;exact ⟨m',hm,σ3,H3,I3,w3⟩
   | brk=>exact q3
   | ret v=>exact q3
 | false =>
   rw [if_neg Bool.false_ne_true];exact wpAny_execs_nil ⟨σ1,H2,I2,q2⟩
end
structure It where
 go:Nat→Hp→Prop
 yld:Nat→Hp→V→Hp→Prop
 stop:Nat→Hp→Prop
def FpOk (X:Cx) (pins:List (Addr×Obj)) (H:Hp) (b:Addr):Prop :=
 H b=none∧b≠X.env.locals∧b∉X.fs∧(b∈X.ex∨X.s₀.heap.objs.size≤b)∧(∀ x c,X.env.cells.lookup x=some c→c≠b)∧∀ p∈X.pn++pins,p.1≠b
theorem Inv.fpOk {X:Cx} {pins:List (Addr×Obj)} {σ:St} {H H':Hp} {s:Shared} {b:Addr} (I:Inv X pins σ H s) (hb:s.heap.objs.size≤b) (hn:H' b=none):FpOk X pins H' b:=by
 refine ⟨hn,Nat.ne_of_gt (Nat.lt_of_lt_of_le I.lt hb),I.nofs hb,.inr (Nat.le_trans I.sz hb),fun x c e z=>?_,fun p hp z=>?_⟩
 · obtain ⟨v,q⟩:=I.cell x c e;exact absurd (Nat.lt_of_lt_of_le q.lt (by rw [z];exact hb)) (Nat.lt_irrefl _)
 · exact absurd (Nat.lt_of_lt_of_le (Heap.lt_size (I.pin p hp).1) (by rw [z];exact hb)) (Nat.lt_irrefl _)
structure Turn (P:Program) (w:World) (K:PySem.W.Frag) (tg:Expr) (J:It) (fp:List Addr) (it:Addr) (tn:Nat→Heap→Prop):Prop where
 mem:it∈fp
 obj:∀ i h,tn i h→∀ b∈fp,∃ o,h.get? b=some o∧∀ v,o.data≠.cell v
 keep:∀ i h h',tn i h→(∀ b∈fp,∀ o,h.get? b=some o→h'.get? b=some o)→tn i h'
 item:∀ (X:Cx),X.prog=P→X.w=w→X.K=K→X.calm=true→∀ (i:Nat) (pins:List (Addr×Obj)) (s:Shared) (σ:St) (H:Hp) (E:Value→Shared→Prop),Inv X pins σ H s→(∀ b∈fp,FpOk X pins H b)→tn i s.heap→J.go i H →
  wpAny (model P w) X.A (pyNext (.ref it)) (fun r s1=>∃ u,r=some u ∧
   wpAny (model P w) X.A (letOwnedTupleGo tg (.ref it) u) (fun _ s2=>∃ x H',Inv X pins σ H' s2∧RelV x u∧J.yld i H x H'∧tn (i+1) s2.heap∧∀ b∈fp,H' b=none) E s1) E s
 done:∀ (X:Cx),X.prog=P→X.w=w→X.K=K→X.calm=true→∀ (i:Nat) (pins:List (Addr×Obj)) (s:Shared) (σ:St) (H:Hp) (E:Value→Shared→Prop),Inv X pins σ H s→(∀ b∈fp,FpOk X pins H b)→tn i s.heap→J.stop i H →
  wpAny (model P w) X.A (pyNext (.ref it)) (fun r s1=>r=none∧Inv X pins σ H s1) E s
 self:∀ (A:Around) (i:Nat) (s:Shared) (Q:Value→Shared→Prop) (E:Value→Shared→Prop),tn i s.heap→Q (.ref it) s→wpAny (model P w) A (pyIter (.ref it)) Q E s
abbrev TI:=St→Hp→(It→Hp→Prop)→Prop
def PIE (X:Cx) (pins:List (Addr×Obj)) (σ:St) (tg:Expr) (R:It→Hp→Prop) (itv:Value) (s2:Shared):Prop :=
 ∃ (it:Addr) (fp:List Addr) (tn:Nat→Heap→Prop) (J:It) (H':Hp),itv=.ref it∧Inv X pins σ H' s2∧Turn X.prog X.w X.K tg J fp it tn∧tn 0 s2.heap∧(∀ b∈fp,FpOk X pins H' b)∧R J H'
def PI (X:Cx) (tg iter:Expr) (wi:TI):Prop :=
 ∀ (pins:List (Addr×Obj)) (s:Shared) (σ:St) (H:Hp) (R:It→Hp→Prop),Inv X pins σ H s→wi σ H R →
   wpAny (model X.prog X.w) X.A (eval iter X.env) (fun v s1=>wpAny (model X.prog X.w) X.A (pyIter v) (PIE X pins σ tg R) X.xe s1) X.xe s
theorem Zsn {M:Model} {A:Around} {E:Value→Shared→Prop} {s:Shared} {tg:Expr} {it:Addr} {u:Value} {o:Obj} {n:String} {vs:Array Value} {Q:Unit→Shared→Prop} (ho:s.heap.get? it=some o) (hc:o.cls=.type n) (hd:o.data=.fields vs)
 (hn:["enumerate","zip","dict_itemiterator","dict_reverseitemiterator","odict_iterator","itertools.zip_longest","itertools.pairwise"].contains n=false) (hQ:Q () s):wpAny M A (letOwnedTupleGo tg (.ref it) u) Q E s:=by
 unfold letOwnedTupleGo
 cases tg<;>first
  | exact wpAny_pure hQ
  | (cases u<;>first
      | exact wpAny_pure hQ
      | (refine wpAny_bind (wpAny_load ho ?_)
         rw [hc,hd];show wpAny M A (if (["enumerate","zip","dict_itemiterator","dict_reverseitemiterator","odict_iterator","itertools.zip_longest","itertools.pairwise"].contains n&&vs[0]? == some (rawInt _))=true then _ else _) Q E s
         rw [if_neg (by intro h;rw [hn,Bool.false_and] at h;cases h)];exact wpAny_pure hQ))
def Itl (K:PySem.W.Frag) (a:Addr):It :=
 ⟨fun i H=>∃ xs x,SqL K H a xs∧xs[i]? = some x,fun i H x H'=>H'=H∧∀ xs,SqL K H a xs→xs[i]? = some x,fun i H=>∃ xs,SqL K H a xs∧xs.length≤i⟩
def Itt (K:PySem.W.Frag) (a:Addr):It :=
 ⟨fun i H=>∃ xs x,SqT K H a xs∧xs[i]? = some x,fun i H x H'=>H'=H∧∀ xs,SqT K H a xs→xs[i]? = some x,fun i H=>∃ xs,SqT K H a xs∧xs.length≤i⟩
def Itr (lo:Int) (n:Nat):It:=⟨fun i _=>i<n,fun i H x H'=>H'=H∧x=.int (lo+i),fun i _=>n≤i⟩
theorem Zmt {P:Program} {w:World} {K:PySem.W.Frag} {tg:Expr} (a it:Addr):Turn P w K tg (Itl K a) [it] it (fun i h=>h.IsListIter it a i) where
 mem:=by simp
 obj:=fun i h st b hb=>by
  have e:b=it:=by simpa using hb
  subst e;obtain ⟨o,e,c,d⟩:=st;exact ⟨o,e,fun v z=>by rw [d] at z;cases z⟩
 keep:=fun i h h' st k=>st.at fun o e=>k it (by simp) o e
 item:=by
  intro X hP hw hK hc i pins s σ H E I hf st hg;subst hP hw hK;obtain ⟨xs,x,hq,hx⟩:=hg;obtain ⟨its,rv,p,hz⟩:=I.list hq;obtain ⟨u,hu,ru⟩:=rv.get hx;obtain ⟨f0,f1,f2,f3,f4,f5⟩:=hf it (by simp);refine wpAny_pyNext_list_item st p.isList (x:=u) (by simpa using hu) fun h' st' sb=>?_;have I1:Inv X pins σ H { s with heap:=h' }:=I.turned (t':=s.toks) (fun b o hb e=>(sb.2 b hb).trans e) f0 f1 f3 f4 f5;obtain ⟨o,e,c,d⟩:=id st';exact ⟨u,rfl,Zsn (s:={ s with heap:=h' }) e c d (by decide) ⟨x,H,I1,ru,⟨rfl,fun ys hy=>by rw [I.list_inj hy hq];exact hx⟩,st',fun b hb=>(hf b hb).1⟩⟩
 done:=by
  intro X hP hw hK hc i pins s σ H E I hf st hg;subst hP hw hK;obtain ⟨xs,hq,hx⟩:=hg;obtain ⟨its,rv,p,hz⟩:=I.list hq;obtain ⟨f0,f1,f2,f3,f4,f5⟩:=hf it (by simp);have hl:=rv.length;exact wpAny_pyNext_list_end (I.ok.hd hc) st p.isList (by simp;omega) fun h' eb=>⟨rfl,I.turned (t':=s.toks) (fun b o hb e=>eb b o hb e) f0 f1 f3 f4 f5⟩
 self:=fun _ _ _ _ _ st h=>wpAny_pyIter_listiter st h
theorem Zml {P:Program} {w:World} {K:PySem.W.Frag} {tg:Expr} (a it:Addr):Turn P w K tg (Itt K a) [it] it (fun i h=>h.IsTupleIter it a i) where
 mem:=by simp
 obj:=fun i h st b hb=>by
  have e:b=it:=by simpa using hb
  subst e;obtain ⟨o,e,c,d⟩:=st;exact ⟨o,e,fun v z=>by rw [d] at z;cases z⟩
 keep:=fun i h h' st k=>st.at fun o e=>k it (by simp) o e
 item:=by
  intro X hP hw hK hc i pins s σ H E I hf st hg;subst hP hw hK;obtain ⟨xs,x,hq,hx⟩:=hg;obtain ⟨its,rv,p,hz⟩:=I.tuple hq;obtain ⟨u,hu,ru⟩:=rv.get hx;obtain ⟨f0,f1,f2,f3,f4,f5⟩:=hf it (by simp);refine wpAny_pyNext_tuple_item st (show s.heap.IsTuple a its.toArray from p) (x:=u) (by simpa using hu) fun h' st' sb=>?_;have I1:Inv X pins σ H { s with heap:=h' }:=I.turned (t':=s.toks) (fun b o hb e=>(sb.2 b hb).trans e) f0 f1 f3 f4 f5;obtain ⟨o,e,c,d⟩:=id st';exact ⟨u,rfl,Zsn (s:={ s with heap:=h' }) e c d (by decide) ⟨x,H,I1,ru,⟨rfl,fun ys hy=>by rw [I.tuple_inj hy hq];exact hx⟩,st',fun b hb=>(hf b hb).1⟩⟩
 done:=by
  intro X hP hw hK hc i pins s σ H E I hf st hg;subst hP hw hK;obtain ⟨xs,hq,hx⟩:=hg;obtain ⟨its,rv,p,hz⟩:=I.tuple hq;obtain ⟨f0,f1,f2,f3,f4,f5⟩:=hf it (by simp);have hl:=rv.length;exact wpAny_pyNext_tuple_end (I.ok.hd hc) st (show s.heap.IsTuple a its.toArray from p) (by simp;omega) fun h' eb=>⟨rfl,I.turned (t':=s.toks) (fun b o hb e=>eb b o hb e) f0 f1 f3 f4 f5⟩
 self:=fun _ _ _ _ _ st h=>wpAny_pyIter_tupleiter st h
theorem Zmj {P:Program} {w:World} {K:PySem.W.Frag} {tg:Expr} (it:Addr) (lo:Int) (n:Nat):Turn P w K tg (Itr lo n) [it] it (fun i h=>IsRangeIter h it (lo+(i:Nat)*1) ((n:Int)-(i:Nat)) 1) where
 mem:=by simp
 obj:=fun i h st b hb=>by
  have e:b=it:=by simpa using hb
  subst e
  exact ⟨_,st,fun v z=>by
   have z':Data.fields _=Data.cell v:=z;cases z'⟩
 keep:=fun i h h' st k=>k it (by simp) _ st
 item:=by
  intro X hP hw hK hc i pins s σ H E I hf st hg;subst hP hw hK;obtain ⟨f0,f1,f2,f3,f4,f5⟩:=hf it (by simp);have W:=Walks.range (prog:=X.prog) (w:=X.w) (I.ok.hd hc) it lo 1 n;refine W.item i s _ _ hg st fun v h' tk hv st' kk=>?_;obtain ⟨t,rfl⟩:=hv;have I1:Inv X pins σ H { s with heap:=h',toks:=tk }:=I.turned (fun b o hb e=>kk b o (by simpa using hb) e) f0 f1 f3 f4 f5;refine ⟨_,rfl,Zsn (s:={ s with heap:=h',toks:=tk }) (n := "range_iterator") st' rfl rfl (by decide) ⟨.int (lo+i),H,I1,⟨t,?_⟩,⟨rfl,rfl⟩,st',fun b hb=>(hf b hb).1⟩⟩;rw [Int.mul_one]
 done:=by
  intro X hP hw hK hc i pins s σ H E I hf st hg;subst hP hw hK;obtain ⟨f0,f1,f2,f3,f4,f5⟩:=hf it (by simp);exact wpAny_pyNext_range_end (I.ok.hd hc) st (by have:n≤i:=hg;omega) fun h' eb=>⟨rfl,I.turned (t':=s.toks) (fun b o hb e=>eb b o hb e) f0 f1 f3 f4 f5⟩
 self:=fun _ _ _ _ _ st h=>wpAny_pyIter_rangeiter st h
section
variable {X:Cx} {tg:Expr}
def Zwo (K:PySem.W.Frag) (tl:TE):TI:=fun σ H R=>tl σ H fun x H1=>∃ a,x=.ref a∧(∃ xs,SqL K H1 a xs)∧R (Itl K a) H1
def iTup (K:PySem.W.Frag) (tl:TE):TI:=fun σ H R=>tl σ H fun x H1=>∃ a,x=.ref a∧(∃ xs,SqT K H1 a xs)∧R (Itt K a) H1
theorem Y8 {l:Expr} {tl:TE} (hl:PE X l tl):PI X tg l (Zwo X.K tl):=by
 intro pins s σ H R I h;refine thn (hl pins s σ H _ I h) fun v s1 ⟨x,H1,I1,r1,q1⟩=>?_;obtain ⟨a,e,⟨xs,hq⟩,q⟩:=q1;subst e;cases r1
 obtain ⟨its,rv,p,hz⟩:=I1.list hq;refine wpAny_pyIter_list p.isList ?_;refine ⟨s1.heap.objs.size,[s1.heap.objs.size],_,_,H1,rfl,I1.kept (t':=s1.toks) fun b o e=>Heap.get?_push_of_some _ e,Zmt a _,⟨_,Heap.get?_push_size _ rfl,rfl,rfl⟩,fun b hb=>?_,q⟩;have e:b=s1.heap.objs.size:=by simpa using hb
 subst e;exact I1.fpOk (Nat.le_refl _) (I1.hok.fresh (Nat.le_refl _))
theorem Yu {l:Expr} {tl:TE} (hl:PE X l tl):PI X tg l (iTup X.K tl):=by
 intro pins s σ H R I h;refine thn (hl pins s σ H _ I h) fun v s1 ⟨x,H1,I1,r1,q1⟩=>?_;obtain ⟨a,e,⟨xs,hq⟩,q⟩:=q1;subst e;cases r1
 obtain ⟨its,rv,p,hz⟩:=I1.tuple hq;refine wpAny_pyIter_tuple (show s1.heap.IsTuple a its.toArray from p) ?_;refine ⟨s1.heap.objs.size,[s1.heap.objs.size],_,_,H1,rfl,I1.kept (t':=s1.toks) fun b o e=>Heap.get?_push_of_some _ e,Zml a _,⟨_,Heap.get?_push_size _ rfl,rfl,rfl⟩,fun b hb=>?_,q⟩;have e:b=s1.heap.objs.size:=by simpa using hb
 subst e;exact I1.fpOk (Nat.le_refl _) (I1.hok.fresh (Nat.le_refl _))
theorem Zp7 {pins:List (Addr×Obj)} {σ:St} {H:Hp} {s:Shared} {R:It→Hp→Prop} {E:Value→Shared→Prop} {lo hi:Int} {t u v:Tok} {tk:Nat} (I:Inv X pins σ H s) (h1:-(2^62)≤lo) (h2:lo<2^62) (h3:-(2^62)≤hi) (h4:hi<2^62)
 (q:R (Itr lo (hi-lo).toNat) H):wpAny (model X.prog X.w) X.A (pyIter (.ref s.heap.objs.size)) (PIE X pins σ tg R) E { s with heap:=s.heap.push { cls:=.type "range",data:=.fields #[.int lo t,.int hi u,.int 1 v] },toks:=tk }:=by
 refine wpAny_pyIter_range (IsRange.new ..) (small_one h1 h2 h3 h4) ?_;have I1:Inv X pins σ H { s with heap:=s.heap.push { cls:=.type "range",data:=.fields #[.int lo t,.int hi u,.int 1 v] },toks:=tk }:=I.kept fun b o e=>Heap.get?_push_of_some _ e
 refine ⟨(s.heap.push { cls:=.type "range",data:=.fields #[.int lo t,.int hi u,.int 1 v] }).objs.size,[(s.heap.push { cls:=.type "range",data:=.fields #[.int lo t,.int hi u,.int 1 v] }).objs.size],_,_,H,rfl,
  I1.kept (t':=tk) fun b o e=>Heap.get?_push_of_some _ e,Zmj _ lo (hi-lo).toNat,?_,fun b hb=>?_,q⟩
 · have e1:lo+((0:Nat):Int)*1=lo:=by simp
   have e2:(((hi-lo).toNat:Nat):Int)-((0:Nat):Int)=Builtin.Range.rangeSize lo hi 1:=by rw [rangeSize_one];split<;>omega
   show IsRangeIter _ _ (lo+((0:Nat):Int)*1) ((((hi-lo).toNat:Nat):Int)-((0:Nat):Int)) 1
   rw [e1,e2];exact Heap.get?_push_size _ rfl
 · have e:b=(s.heap.push { cls:=.type "range",data:=.fields #[.int lo t,.int hi u,.int 1 v] }).objs.size:=by simpa using hb
   subst e;exact I1.fpOk (Nat.le_refl _) (I1.hok.fresh (Nat.le_refl _))
def Zv8 (ta:TA):TI:=fun σ H R=>ta σ H fun vs H1=>∃ j:Int,vs=[.int j]∧-(2^62)≤j∧j<2^62∧R (Itr 0 j.toNat) H1
theorem Zch {a:Expr} {ta:TA} {p pos:Pos} (hg:Gl X "range") (hm:X.mg "range" = none) (ha:PA X [a] ta) (hs:starEach [a] X.env=[(false,eval a X.env)]:=by rfl):PI X tg (.Call (.Name "range" p) [a] [] pos) (Zv8 ta):=by
 intro pins s σ H R I h;refine Call_ (Zcf I hg hm boot_range (PyProof.Rows.callWith_type1 (thn (ha pos pins s σ H _ I h) fun us s1 ⟨vs,H1,I1,r1,q1⟩=>?_) hs rfl));obtain ⟨j,e,q1,q2,q⟩:=q1;subst e;cases r1 with
 | cons r rr =>
   cases rr
   obtain ⟨t,rfl⟩:=r;exact call_range_1 (Zp7 I1 (by omega) (by omega) q1 q2 (by simpa using q))
def tFor (wi:TI) (g:TG) (tb:TS):TS:=fun D σ H=>wi σ H fun J H1=>∃ W:Nat→Nat→St→Hp→Prop,(∃ m,W 0 m σ H1)∧∀ i m σ H,W i m σ H →
 (J.stop i H∧D.nx σ H)∨(J.go i H∧∃ N:St→Hp→Prop,(∀ σ' H',N σ' H'→∃ m',m'<m∧W (i+1) m' σ' H')∧∀ x H',J.yld i H x H'→g x σ H' fun σ2 H2=>tb { D with nx:=N,ct:=N,bk:=D.nx } σ2 H2)
def Za2 (fp:List Addr) (h:Heap):List (Addr×Obj):=fp.filterMap fun b=>(h.get? b).map fun o=>(b,o)
theorem Yg {fp:List Addr} {h:Heap} {b:Addr} {o:Obj} (hb:b∈fp) (e:h.get? b=some o):(b,o)∈Za2 fp h:=List.mem_filterMap.mpr ⟨b,hb,by rw [e];rfl⟩
theorem Zoj {fp:List Addr} {h:Heap} {p:Addr×Obj} (hp:p∈Za2 fp h):p.1∈fp∧h.get? p.1=some p.2:=by
 obtain ⟨b,hb,e⟩:=List.mem_filterMap.mp hp;cases q:h.get? b with
 | none=>rw [q] at e;cases e
 | some o =>
   rw [q] at e;have e':(b,o)=p:=Option.some.inj e;subst e';exact ⟨hb,q⟩
theorem Inv.pinned {pins:List (Addr×Obj)} {σ:St} {H:Hp} {s:Shared} {fp:List Addr} (I:Inv X pins σ H s) (hf:∀ b∈fp,FpOk X pins H b) (ho:∀ b∈fp,∃ o,s.heap.get? b=some o∧∀ v,o.data≠.cell v):Inv X (pins++Za2 fp s.heap) σ H s :=
 I.pins_of fun p hp=>(List.mem_append.mp hp).elim (fun z=>I.pin p (List.mem_append_right _ z)) fun z=>by
  obtain ⟨hb,e⟩:=Zoj z;obtain ⟨f0,f1,f2,_⟩:=hf p.1 hb;obtain ⟨o,e',d⟩:=ho p.1 hb;rw [e] at e';cases e';exact ⟨e,f0,f1,f2,d⟩
theorem Inv.unpinned {pins pl:List (Addr×Obj)} {σ:St} {H:Hp} {s:Shared} (I:Inv X (pins++pl) σ H s):Inv X pins σ H s:=I.pins_of fun p hp=>I.pin p (List.mem_append_right _ (List.mem_append_left _ hp))
theorem Zbf {iter:Expr} {body:List Stmt} {wi:TI} {g:TG} {tb:TS} {pos:Pos} (hp:PassesOwn (model X.prog X.w) X.A X.env X.xe) (hc:X.calm=true) (hi:PI X tg iter wi) (hg:PG X tg g) (hb:PSs X body tb)
 (hs:∀ x,foldedSetIterable iter X.env x=pure x:=by intro _;rfl):PS X (.For tg iter body [] pos) (tFor wi g tb):=by
 intro pins s σ H D I h;refine wpAny_For (thn (hi pins s σ H _ I h) fun v s1 h1=>thn h1 fun itv s2 h2=>?_) hs;obtain ⟨it,fp,tn,J,H2,e,I2,T,st2,f2,W,⟨m0,w0⟩,turn⟩:=h2;subst e;have stat:∀ {H':Hp},(∀ b∈fp,H' b=none)→∀ b∈fp,FpOk X pins H' b:=fun hn b hb=>⟨hn b hb,(f2 b hb).2⟩;refine codeAny_forLoop_any (fun n s'=>∃ i σ' H',Inv X pins σ' H' s'∧tn i s'.heap∧(∀ b∈fp,H' b=none)∧W i n σ' H') ?_ m0 ⟨0,σ,H2,I2,st2,fun b hb=>(f2 b hb).1,w0⟩;rintro n s3 ⟨i,σ3,H3,I3,st3,fr3,w3⟩
 rcases turn i n σ3 H3 w3 with ⟨stop,qn⟩|⟨go,N,hN,step⟩
 · refine wpAny_passesOwn hp (thn (T.done X rfl rfl rfl hc i pins s3 σ3 H3 X.xe I3 (stat fr3) st3 stop) fun r s4 ⟨hr,I4⟩=>?_);subst hr;exact wpAny_execs_nil ⟨σ3,H3,I4,qn⟩
 · refine wpAny_passesOwn hp (thn (T.item X rfl rfl rfl hc i pins s3 σ3 H3 X.xe I3 (stat fr3) st3 go) fun r s4 ⟨u,hr,h4⟩=>?_);subst hr;refine wpAny_passesOwn hp (thn h4 fun _ s5 ⟨x,H5,I5,r5,y5,st5,fr5⟩=>?_);have I5':=I5.pinned (stat fr5) (T.obj _ _ st5);refine wpAny_passesOwn hp (thn (hg _ s5 σ3 H5 x u _ I5' r5 (step x H5 y5)) fun _ s6 ⟨σ6,H6,I6,q6⟩=>?_);refine wpAny_passesOwn hp (thn (hb _ s6 σ6 H6 _ I6 q6) fun f s7 q7=>?_)
   have again:∀ {σ7:St} {H7:Hp},Inv X (pins++Za2 fp s5.heap) σ7 H7 s7→N σ7 H7→∃ m,m<n∧∃ i σ' H',Inv X pins σ' H' s7∧tn i s7.heap∧(∀ b∈fp,H' b=none)∧W i m σ' H':=fun {σ7 H7} I7 n7=>by
    obtain ⟨m',hm,w7⟩:=hN σ7 H7 n7;refine ⟨m',hm,i+1,σ7,H7,I7.unpinned,T.keep _ _ _ st5 fun b hb o e=>(I7.pin (b,o) (List.mem_append_right _ (List.mem_append_right _ (Yg hb e)))).1,fun b hb=>?_,w7⟩;obtain ⟨o,e,d⟩:=T.obj _ _ st5 b hb;exact (I7.pin (b,o) (List.mem_append_right _ (List.mem_append_right _ (Yg hb e)))).2.1
   cases f with
   | next=>obtain ⟨σ7,H7,I7,n7⟩:=q7;exact again I7 n7
   | cont=>obtain ⟨σ7,H7,I7,n7⟩:=q7;exact again I7 n7
   | brk=>obtain ⟨σ7,H7,I7,q7⟩:=q7;exact ⟨σ7,H7,I7.unpinned,q7⟩
   | ret v=>obtain ⟨x7,σ7,H7,I7,r7,q7⟩:=q7;exact ⟨x7,σ7,H7,I7.unpinned,r7,q7⟩
end
theorem Zm2 {lo:Int} {n:Nat} {g:TG} {tb:TS} {D:Ends} {σ:St} {H:Hp} (Pv:Nat→St→Hp→Prop) (h0:Pv 0 σ H)
 (hs:∀ i σ H,i<n→Pv i σ H→g (.int (lo+i)) σ H fun σ2 H2=>tb { D with nx:=Pv (i+1),ct:=Pv (i+1),bk:=D.nx } σ2 H2) (hd:∀ σ H,Pv n σ H→D.nx σ H) :
 ∃ W:Nat→Nat→St→Hp→Prop,(∃ m,W 0 m σ H)∧∀ i m σ H,W i m σ H →
   ((Itr lo n).stop i H∧D.nx σ H)∨((Itr lo n).go i H∧∃ N:St→Hp→Prop,(∀ σ' H',N σ' H'→∃ m',m'<m∧W (i+1) m' σ' H')∧∀ x H',(Itr lo n).yld i H x H'→g x σ H' fun σ2 H2=>tb { D with nx:=N,ct:=N,bk:=D.nx } σ2 H2):=by
 refine ⟨fun i m σ H=>m=n-i∧i≤n∧Pv i σ H,⟨n,by simp,Nat.zero_le _,h0⟩,?_⟩;rintro i m σ H ⟨rfl,hi,p⟩
 by_cases hlt:i<n
 · refine .inr ⟨hlt,Pv (i+1),fun σ' H' p'=>⟨n-(i+1),by omega,rfl,hlt,p'⟩,fun x H' y=>?_⟩;obtain ⟨e,y⟩:=y;subst e y;exact hs i σ _ hlt p
 · have e:i=n:=by omega
   subst e;exact .inl ⟨Nat.le_refl _,hd σ H p⟩
theorem Zdt {c:TT} {tb:TS} {D:Ends} {σ:St} {H:Hp} (Pv:St→Hp→Prop) (μ:St→Hp→Nat) (h0:Pv σ H)
 (hs:∀ σ H,Pv σ H→c σ H fun b H1=>if b=true then tb { D with nx:=fun σ' H'=>Pv σ' H'∧μ σ' H'<μ σ H,ct:=fun σ' H'=>Pv σ' H'∧μ σ' H'<μ σ H,bk:=D.nx } σ H1 else D.nx σ H1)
 (mono:∀ σ H Q Q',(∀ b H1,Q b H1→Q' b H1)→c σ H Q→c σ H Q'):Zrd c tb D σ H:=by
 refine ⟨fun m σ H=>m=μ σ H∧Pv σ H,⟨_,rfl,h0⟩,?_⟩;rintro m σ H ⟨rfl,p⟩
 refine mono σ H _ _ (fun b H1 q=>?_) (hs σ H p);cases b with
 | true=>exact ⟨_,fun σ' H' ⟨p',l⟩=>⟨_,l,rfl,p'⟩,q⟩
 | false=>exact q
abbrev R2:=V→V→Hp→VK→Prop
def OpR (X:Cx) (f:Value→Value→Sem Value) (r:R2):Prop :=
 ∀ (pins:List (Addr×Obj)) (s:Shared) (σ:St) (H:Hp) (x y:V) (v u:Value) (Q:VK),Inv X pins σ H s→RelV x v→RelV y u→r x y H Q →
   wpAny (model X.prog X.w) X.A (f v u) (EP X pins σ Q) X.xe s
def UnR (X:Cx) (f:Value→Sem Value) (r:V→Hp→VK→Prop):Prop :=
 ∀ (pins:List (Addr×Obj)) (s:Shared) (σ:St) (H:Hp) (x:V) (v:Value) (Q:VK),Inv X pins σ H s→RelV x v→r x H Q →
   wpAny (model X.prog X.w) X.A (f v) (EP X pins σ Q) X.xe s
def X1 (X:Cx) (f:Value) (r:List V→Hp→VK→Prop):Prop :=
 ∀ (pins:List (Addr×Obj)) (s:Shared) (σ:St) (H:Hp) (xs:List V) (us:List Value) (Q:VK),Inv X pins σ H s→Vals xs us→r xs H Q →
   wpAny (model X.prog X.w) X.A (call f us) (EP X pins σ Q) X.xe s
def TruR (X:Cx) (r:V→Hp→(Bool→Hp→Prop)→Prop):Prop :=
 ∀ (pins:List (Addr×Obj)) (s:Shared) (σ:St) (H:Hp) (x:V) (v:Value) (Q:Bool→Hp→Prop),Inv X pins σ H s→RelV x v→r x H Q →
   wpAny (model X.prog X.w) X.A (truthy v) (TP X pins σ Q) X.xe s
def tOp (r:R2) (ta tb:TE):TE:=fun σ H Q=>ta σ H fun x H1=>tb σ H1 fun y H2=>r x y H2 Q
def tUn (r:V→Hp→VK→Prop) (ta:TE):TE:=fun σ H Q=>ta σ H fun x H1=>r x H1 Q
def rI (C:Int→Int→Prop) (g:Int→Int→V):R2:=fun x y H Q=>∃ i j,x=.int i∧y=.int j∧C i j∧Q (g i j) H
def rI0 (g:Int→Int→V):R2:=fun x y H Q=>∃ i j,x=.int i∧y=.int j∧Q (g i j) H
def rU (g:Int→V):V→Hp→VK→Prop:=fun x H Q=>∃ i,x=.int i∧Q (g i) H
section
variable {X:Cx} {a b c:Expr} {ta tb tc:TE} {pos:Pos}
theorem binT (ha:PE X a ta) (hb:PE X b tb) {pins:List (Addr×Obj)} {s:Shared} {σ:St} {H:Hp} {R:V→V→Hp→Prop} (I:Inv X pins σ H s)
 (h:ta σ H fun x H1=>tb σ H1 fun y H2=>R x y H2) {Q:Value→Shared→Prop} {f:Value→Value→Sem Value}
 (hf:∀ v u s2 x y H2,Inv X pins σ H2 s2→RelV x v→RelV y u→R x y H2→wpAny (model X.prog X.w) X.A (f v u) Q X.xe s2) :
 wpAny (model X.prog X.w) X.A (eval a X.env) (fun v s₁=>wpAny (model X.prog X.w) X.A (eval b X.env) (fun u s₂=>wpAny (model X.prog X.w) X.A (f v u) Q X.xe s₂) X.xe s₁) X.xe s:=by
 refine thn (ha pins s σ H _ I h) fun v s1 ⟨x,H1,I1,r1,q1⟩=>?_;refine thn (hb pins s1 σ H1 _ I1 q1) fun u s2 ⟨y,H2,I2,r2,q2⟩=>?_;exact hf v u s2 x y H2 I2 r1 r2 q2
theorem Zm {op:Operator} {r:R2} (ho:OpR X (binaryOp op) r) (ha:PE X a ta) (hb:PE X b tb):PE X (.BinOp a op b pos) (tOp r ta tb):=by
 intro pins s σ H Q I h;exact wpAny_BinOp (binT ha hb I h fun v u s2 x y H2 I2 rx ry q=>ho pins s2 σ H2 x y v u Q I2 rx ry q)
theorem Zqf {op:UnaryOp} {r:V→Hp→VK→Prop} (ho:UnR X (unaryOp op) r) (ha:PE X a ta):PE X (.UnaryOp op a pos) (tUn r ta):=by
 intro pins s σ H Q I h;exact UnaryOp_ (thn (ha pins s σ H _ I h) fun v s1 ⟨x,H1,I1,r1,q1⟩=>ho pins s1 σ H1 x v Q I1 r1 q1)
theorem opI {f:Value→Value→Sem Value} {C:Int→Int→Prop} {g:Int→Int→Int}
 (rule:∀ (i j:Int) (t u:Tok) (s:Shared) (Q:Value→Shared→Prop) (E:Value→Shared→Prop),C i j→Q (.int (g i j) s.toks) { s with toks:=s.toks+1 }→wpAny (model X.prog X.w) X.A (f (.int i t) (.int j u)) Q E s) :
 OpR X f (rI C fun i j=>.int (g i j)):=by
 intro pins s σ H x y v u Q I rx ry h;obtain ⟨i,j,rfl,rfl,hc,q⟩:=h;obtain ⟨t,rfl⟩:=rx;obtain ⟨t',rfl⟩:=ry;exact rule i j t t' s _ _ hc ⟨.int (g i j),H,I.tok _,⟨_,rfl⟩,q⟩
theorem opI0 {f:Value→Value→Sem Value} {g:Int→Int→Int}
 (rule:∀ (i j:Int) (t u:Tok) (s:Shared) (Q:Value→Shared→Prop) (E:Value→Shared→Prop),Q (.int (g i j) s.toks) { s with toks:=s.toks+1 }→wpAny (model X.prog X.w) X.A (f (.int i t) (.int j u)) Q E s) :
 OpR X f (rI0 fun i j=>.int (g i j)):=by
 intro pins s σ H x y v u Q I rx ry h;obtain ⟨i,j,rfl,rfl,q⟩:=h;obtain ⟨t,rfl⟩:=rx;obtain ⟨t',rfl⟩:=ry;exact rule i j t t' s _ _ ⟨.int (g i j),H,I.tok _,⟨_,rfl⟩,q⟩
theorem opB0 {f:Value→Value→Sem Value} {g:Int→Int→Bool}
 (rule:∀ (i j:Int) (t u:Tok) (s:Shared) (Q:Value→Shared→Prop) (E:Value→Shared→Prop),Q (.bool (g i j)) s→wpAny (model X.prog X.w) X.A (f (.int i t) (.int j u)) Q E s) :
 OpR X f (rI0 fun i j=>.bl (g i j)):=by
 intro pins s σ H x y v u Q I rx ry h;obtain ⟨i,j,rfl,rfl,q⟩:=h;obtain ⟨t,rfl⟩:=rx;obtain ⟨t',rfl⟩:=ry;exact rule i j t t' s _ _ ⟨.bl (g i j),H,I,rfl,q⟩
def CPow (i j:Int):Prop:=0≤j∧j≤1000000∧i.natAbs<2^64
theorem Yw:OpR X (binaryOp .Add) (rI0 fun i j=>.int (i+j)):=opI0 fun _ _ _ _ _ _ _ q=>add_int q
theorem Y1:OpR X (binaryOp .Sub) (rI0 fun i j=>.int (i-j)):=opI0 fun _ _ _ _ _ _ _ q=>sub_int q
theorem Za4:OpR X (binaryOp .Mod) (rI (fun _ j=>j≠0) fun i j=>.int (i.fmod j)):=opI fun _ _ _ _ _ _ _ hc q=>mod_int' hc q
theorem Zoy:OpR X (binaryOp .Pow) (rI CPow fun i j=>.int (i^j.toNat)):=opI fun _ _ _ _ _ _ _ hc q=>pow_int_small hc.1 hc.2.1 hc.2.2 q
theorem unI {f:Value→Sem Value} {g:Int→Int}
 (rule:∀ (i:Int) (t:Tok) (s:Shared) (Q:Value→Shared→Prop) (E:Value→Shared→Prop),Q (.int (g i) s.toks) { s with toks:=s.toks+1 }→wpAny (model X.prog X.w) X.A (f (.int i t)) Q E s) :
 UnR X f (rU fun i=>.int (g i)):=by
 intro pins s σ H x v Q I rx h;obtain ⟨i,rfl,q⟩:=h;obtain ⟨t,rfl⟩:=rx;exact rule i t s _ _ ⟨.int (g i),H,I.tok _,⟨_,rfl⟩,q⟩
theorem Zkt:UnR X (unaryOp .USub) (rU fun i=>.int (-i)):=unI fun _ _ _ _ _ q=>neg_int q
end
def scal:V→V→Bool
 | .non,.non=>true|.non,.int _=>true|.int _,.non=>true|.non,.bl _=>true|.bl _,.non=>true|.non,.str _=>true|.str _,.non=>true
 | .int _,.int _=>true|.bl _,.bl _=>true|.str _,.str _=>true|.byt _,.byt _=>true
 | .int _,.str _=>true|.str _,.int _=>true|.bl _,.str _=>true|.str _,.bl _=>true
 | _,_=>false
def rEq:R2:=fun x y H Q=>scal x y=true∧Q (.bl (decide (x=y))) H
def rNe:R2:=fun x y H Q=>scal x y=true∧Q (.bl (!decide (x=y))) H
theorem Zmo {i j:Int}:decide (V.int i=V.int j)=(i == j):=by
 rw [Bool.eq_iff_iff]
 simp
theorem Zqz {i j:Bool}:decide (V.bl i=V.bl j)=(i == j):=by
 rw [Bool.eq_iff_iff]
 simp
theorem Zo7 {i j:Str}:decide (V.str i=V.str j)=(i == j):=by
 rw [Bool.eq_iff_iff]
 simp
theorem Zm8 {i j:Array UInt8}:decide (V.byt i=V.byt j)=(i.toList == j.toList):=by
 rw [Bool.eq_iff_iff];cases i
 cases j
 simp
section
variable {X:Cx} {a b c:Expr} {ta tb tc:TE} {pos:Pos}
theorem Z7 {pins:List (Addr×Obj)} {σ:St} {H:Hp} {s:Shared} {Q:VK} {k k':Bool} (I:Inv X pins σ H s) (q:Q (.bl k) H) (e:k=k'):EP X pins σ Q (.bool k') s:=by
 subst e;exact ⟨.bl k,H,I,rfl,q⟩
theorem Zm4:OpR X (compareOp .Eq) rEq:=by
 intro pins s σ H x y v u Q I rx ry h;obtain ⟨hs,q⟩:=h;cases x with
 | non =>
   cases rx
   cases y with
   | non=>cases ry;exact PySem.EqNone.eq_none_none (Z7 I q (by simp))
   | bl j=>cases ry;exact PySem.EqNone.eq_none_bool (Z7 I q (by simp))
   | int j=>obtain ⟨t',rfl⟩:=ry;exact PySem.EqNone.eq_none_int (Z7 I q (by simp))
   | str j=>obtain ⟨t',rfl⟩:=ry;exact PySem.EqNone.eq_none_str (Z7 I q (by simp))
   | _=>exact absurd (show false=true from hs) Bool.false_ne_true
 | bl i =>
   cases rx
   cases y with
   | non=>cases ry;exact PySem.EqNone.eq_bool_none (Z7 I q (by simp))
   | bl j=>cases ry;exact eq_bool (Z7 I q Zqz)
   | str j=>obtain ⟨t',rfl⟩:=ry;exact PySem.EqMixed.eq_bool_str (Z7 I q (by simp))
   | _=>exact absurd (show false=true from hs) Bool.false_ne_true
 | int i =>
   obtain ⟨t,rfl⟩:=rx;cases y with
   | non=>cases ry;exact PySem.EqNone.eq_int_none (Z7 I q (by simp))
   | int j=>obtain ⟨t',rfl⟩:=ry;exact eq_int (Z7 I q Zmo)
   | str j=>obtain ⟨t',rfl⟩:=ry;exact PySem.EqMixed.eq_int_str (Z7 I q (by simp))
   | _=>exact absurd (show false=true from hs) Bool.false_ne_true
 | str i =>
   obtain ⟨t,rfl⟩:=rx;cases y with
   | non=>cases ry;exact PySem.EqNone.eq_str_none (Z7 I q (by simp))
   | bl j=>cases ry;exact PySem.EqMixed.eq_str_bool (Z7 I q (by simp))
   | int j=>obtain ⟨t',rfl⟩:=ry;exact PySem.EqMixed.eq_str_int (Z7 I q (by simp))
   | str j=>obtain ⟨t',rfl⟩:=ry;exact eq_str (Z7 I q Zo7)
   | _=>exact absurd (show false=true from hs) Bool.false_ne_true
 | byt i =>
   obtain ⟨t,rfl⟩:=rx;cases y with
   | byt j=>obtain ⟨t',rfl⟩:=ry;exact PySem.W.eq_bytes (Z7 I q Zm8)
   | _=>exact absurd (show false=true from hs) Bool.false_ne_true
 | _=>cases y<;>exact absurd (show false=true from hs) Bool.false_ne_true
theorem Zqc:OpR X (compareOp .NotEq) rNe:=by
 intro pins s σ H x y v u Q I rx ry h;obtain ⟨hs,q⟩:=h;cases x with
 | non =>
   cases rx
   cases y with
   | non=>cases ry;exact PySem.EqNone.ne_none_none (Z7 I q (by simp))
   | bl j=>cases ry;exact PySem.EqNone.ne_none_bool (Z7 I q (by simp))
   | int j=>obtain ⟨t',rfl⟩:=ry;exact PySem.EqNone.ne_none_int (Z7 I q (by simp))
   | str j=>obtain ⟨t',rfl⟩:=ry;exact PySem.EqNone.ne_none_str (Z7 I q (by simp))
   | _=>exact absurd (show false=true from hs) Bool.false_ne_true
 | bl i =>
   cases rx
   cases y with
   | non=>cases ry;exact PySem.EqNone.ne_bool_none (Z7 I q (by simp))
   | bl j=>cases ry;exact ne_bool (Z7 I q (congrArg not Zqz))
   | str j=>obtain ⟨t',rfl⟩:=ry;exact PySem.EqMixed.ne_bool_str (Z7 I q (by simp))
   | _=>exact absurd (show false=true from hs) Bool.false_ne_true
 | int i =>
   obtain ⟨t,rfl⟩:=rx;cases y with
   | non=>cases ry;exact PySem.EqNone.ne_int_none (Z7 I q (by simp))
   | int j=>obtain ⟨t',rfl⟩:=ry;exact ne_int (Z7 I q (congrArg not Zmo))
   | str j=>obtain ⟨t',rfl⟩:=ry;exact PySem.EqMixed.ne_int_str (Z7 I q (by simp))
   | _=>exact absurd (show false=true from hs) Bool.false_ne_true
 | str i =>
   obtain ⟨t,rfl⟩:=rx;cases y with
   | non=>cases ry;exact PySem.EqNone.ne_str_none (Z7 I q (by simp))
   | bl j=>cases ry;exact PySem.EqMixed.ne_str_bool (Z7 I q (by simp))
   | int j=>obtain ⟨t',rfl⟩:=ry;exact PySem.EqMixed.ne_str_int (Z7 I q (by simp))
   | str j=>obtain ⟨t',rfl⟩:=ry;exact ne_str (Z7 I q (congrArg not Zo7))
   | _=>exact absurd (show false=true from hs) Bool.false_ne_true
 | byt i =>
   obtain ⟨t,rfl⟩:=rx;cases y with
   | byt j=>obtain ⟨t',rfl⟩:=ry;exact PySem.W.ne_bytes (Z7 I q (congrArg not Zm8))
   | _=>exact absurd (show false=true from hs) Bool.false_ne_true
 | _=>cases y<;>exact absurd (show false=true from hs) Bool.false_ne_true
theorem Zmi:OpR X (compareOp .Lt) (rI0 fun i j=>.bl (decide (i<j))):=opB0 fun _ _ _ _ _ _ _ q=>lt_int q
theorem Zmx:OpR X (compareOp .LtE) (rI0 fun i j=>.bl (decide (i≤j))):=opB0 fun _ _ _ _ _ _ _ q=>le_int q
theorem Zny:OpR X (compareOp .Gt) (rI0 fun i j=>.bl (decide (j<i))):=opB0 fun _ _ _ _ _ _ _ q=>gt_int q
theorem Zv4:OpR X (compareOp .GtE) (rI0 fun i j=>.bl (decide (j≤i))):=opB0 fun _ _ _ _ _ _ _ q=>ge_int q
theorem Yb (b:Expr) {op:CmpOp} (h:op≠.In:=by decide) (h2:op≠.NotIn:=by decide):behindInMarks op b=false:=by
 have e1:(op == CmpOp.In)=false:=by cases op<;>first|rfl|exact absurd rfl h
 have e2:(op == CmpOp.NotIn)=false:=by cases op<;>first|rfl|exact absurd rfl h2
 cases b<;>simp [behindInMarks,e1,e2]
theorem Zam {op:CmpOp} {r:R2} (ho:OpR X (compareOp op) r) (ha:PE X a ta) (hb:PE X b tb) (hm:behindInMarks op b=false):PE X (.Compare a [op] [b] pos) (tOp r ta tb):=by
 intro pins s σ H Q I h;exact wpAny_Compare1 (binT ha hb I h fun v u s2 x y H2 I2 rx ry q=>ho pins s2 σ H2 x y v u Q I2 rx ry q) hm
def Zwq (t:TE):TT:=fun σ H Q=>t σ H fun x H'=>∃ k,x=.bl k∧Q k H'
theorem Ye {op:CmpOp} {r:R2} (ho:OpR X (compareOp op) r) (ha:PE X a ta) (hb:PE X b tb) (hm:behindInMarks op b=false):PT X (.Compare a [op] [b] pos) (Zwq (tOp r ta tb)):=by
 intro pins s σ H Q I h
 refine wpAny_isTrue_Compare1 (thn (ha pins s σ H _ I h) fun v s1 ⟨x,H1,I1,r1,q1⟩=>thn (hb pins s1 σ H1 _ I1 q1) fun u s2 ⟨y,H2,I2,r2,q2⟩ =>
  thn (ho pins s2 σ H2 x y v u _ I2 r1 r2 q2) fun c s3 ⟨z,H3,I3,r3,k,e,q3⟩=>?_) hm
 subst e;cases r3
 exact wpAny_truthy_bool ⟨H3,I3,q3⟩
def Zuq (r r':R2) (ta tb tc:TE):TE:=fun σ H Q=>ta σ H fun x H1=>tb σ H1 fun y H2=>r x y H2 fun z H3=>∃ k,z=.bl k ∧
 (if k=true then tc σ H3 fun w' H4=>r' y w' H4 Q else Q (.bl false) H3)
theorem Zlk {op op':CmpOp} {r r':R2} (ho:OpR X (compareOp op) r) (ho':OpR X (compareOp op') r') (ha:PE X a ta) (hb:PE X b tb) (hc:PE X c tc)
 (hm:lastMarks [op,op'] [b,c]=false:=by with_unfolding_all rfl):PE X (.Compare a [op,op'] [b,c] pos) (Zuq r r' ta tb tc):=by
 intro pins s σ H Q I h
 refine Compare_chain (thn (ha pins s σ H _ I h) fun v s1 ⟨x,H1,I1,r1,q1⟩=>chain_link (thn (hb pins s1 σ H1 _ I1 q1) fun u s2 ⟨y,H2,I2,r2,q2⟩ =>
  thn (ho pins s2 σ H2 x y v u _ I2 r1 r2 q2) fun d s3 ⟨z,H3,I3,r3,k,e,q3⟩=>?_)) hm
 subst e;cases r3
 refine wpAny_truthy_bool ?_;cases k with
 | false=>exact ite_ff ⟨.bl false,H3,I3,rfl,q3⟩
 | true=>exact ite_tt (chain_last (thn (hc pins s3 σ H3 _ I3 q3) fun w' s4 ⟨z',H4,I4,r4,q4⟩=>ho' pins s4 σ H4 y z' u w' Q I4 r2 r4 q4))
def TruV (K:PySem.W.Frag) (x:V) (H:Hp) (k:Bool):Prop :=
 match x with
 | .non=>k=false
 | .bl b=>k=b
 | .int i=>k=(i != 0)
 | .str y=>y.length≤sizeLine∧k=((y.length:Int) != 0)
 | .byt y=>y.size≤sizeLine∧k=((y.size:Int) != 0)
 | .ref p=>(∃ xs,SqL K H p xs∧k = !xs.isEmpty)∨(∃ xs,SqT K H p xs∧k = !xs.isEmpty)∨∃ kvs,H p=some (.dK kvs)∧k = !kvs.isEmpty
 | _=>False
theorem Zme {κ:Type} {kvs:List (κ×V)} {vs:List (κ×Value)} (r:KV kvs vs):(!vs.isEmpty) = !kvs.isEmpty:=by
 cases r<;>rfl
theorem Zfk {xs:List V} {its:List Value} (r:Vals xs its):(!its.toArray.isEmpty) = !xs.isEmpty:=by
 cases r<;>simp
theorem Zd3:(sizeLine:Nat)<2^63:=by rw [sizeLine_eq];decide
theorem Zve:TruR X (fun x H Q=>∃ k,TruV X.K x H k∧Q k H):=by
 intro pins s σ H x v Q I rx h;obtain ⟨k,e,q⟩:=h;have hl:=Zd3;have hs:sizeLine=16777216:=sizeLine_eq;cases x with
 | non =>
   cases rx
   have e':k=false:=e;subst e';exact truthy_none ⟨H,I,q⟩
 | bl b =>
   cases rx
   have e':k=b:=e;subst e';exact wpAny_truthy_bool ⟨H,I,q⟩
 | int i =>
   obtain ⟨t,rfl⟩:=rx;have e':k=(i != 0):=e;subst e';exact PySem.P.truthy_int ⟨H,I,q⟩
 | str y =>
   obtain ⟨t,rfl⟩:=rx;obtain ⟨hy,e'⟩:y.length≤sizeLine∧k=((y.length:Int) != 0):=e;subst e';exact PySem.P.truthy_str (by omega) ⟨H,I.tok _,q⟩
 | byt y =>
   obtain ⟨t,rfl⟩:=rx;obtain ⟨hy,e'⟩:y.size≤sizeLine∧k=((y.size:Int) != 0):=e;subst e';exact PySem.W.truthy_bytes (by omega) ⟨H,I.tok _,q⟩
 | ref p =>
   cases rx
   have e':(∃ xs,SqL X.K H p xs∧k = !xs.isEmpty)∨(∃ xs,SqT X.K H p xs∧k = !xs.isEmpty)∨∃ kvs,H p=some (.dK kvs)∧k = !kvs.isEmpty:=e
   rcases e' with ⟨xs,hx,e'⟩|⟨xs,hx,e'⟩|⟨kvs,hx,e'⟩
   · subst e';obtain ⟨its,r,pl,hz⟩:=I.list hx;have hlen:=r.length;exact wpAny_truthy_list pl.isList (by simp only [List.size_toArray];omega) ⟨H,I.tok _,by rw [Zfk r];exact q⟩
   · subst e';obtain ⟨its,r,pl,hz⟩:=I.tuple hx;have hlen:=r.length;exact truthy_tuple pl (by simp only [List.size_toArray];omega) ⟨H,I.tok _,by rw [Zfk r];exact q⟩
   · subst e';obtain ⟨hz,hS,vs,r,m⟩:kvs.length≤sizeLine∧(p == sysModules)=false∧∃ vs,KV kvs vs∧s.heap.DictOf (Zjf X.prog X.w) p vs:=I.hok p _ hx;have hlen:kvs.length=vs.length:=Paired.length r;exact wpAny_truthy_dict hS m (by omega) ⟨H,I.tok _,by rw [Zme r];exact q⟩
 | _=>exact (show False from e).elim
theorem Zx (ha:PE X a ta) (he:∀ whole,isTrue a X.env whole=(do let v ← whole;standAt a.pos;holding [v] (truthy v))) :
 PT X a (fun σ H Q=>ta σ H fun x H'=>∃ k,TruV X.K x H' k∧Q k H'):=by
 intro pins s σ H Q I h;exact isTrue_plain (thn (ha pins s σ H _ I h) fun v s1 ⟨x,H1,I1,r1,q1⟩=>Zve pins s1 σ H1 x v Q I1 r1 q1) (he _)
theorem Zno {x:V} {us:List Value} (r:Vals [x] us):∃ u,us=[u]∧RelV x u:=by
 cases r with
 | cons r1 r2=>cases r2;exact ⟨_,rfl,r1⟩
theorem Zvq {x y:V} {us:List Value} (r:Vals [x,y] us):∃ u w',us=[u,w']∧RelV x u∧RelV y w':=by
 cases r with
 | cons r1 r2 =>
   cases r2 with
   | cons r3 r4=>cases r4;exact ⟨_,_,rfl,r1,r3⟩
theorem Zbb:X1 X (.builtin "abs") (fun xs H Q=>∃ i,xs=[.int i]∧Q (.int (if i<0 then -i else i)) H):=by
 intro pins s σ H xs us Q I r h;obtain ⟨i,rfl,q⟩:=h;obtain ⟨u,rfl,t,rfl⟩:=Zno r;exact call_abs_int fun u tk=>⟨.int (if i<0 then -i else i),H,I.tok _,⟨_,rfl⟩,q⟩
theorem Zh8 (hc:X.calm=true):X1 X (.builtin "max") (fun xs H Q=>∃ i j,xs=[.int i,.int j]∧Q (.int (if j>i then j else i)) H):=by
 intro pins s σ H xs us Q I r h;obtain ⟨i,j,rfl,q⟩:=h;obtain ⟨u,w',rfl,⟨t,rfl⟩,⟨t',rfl⟩⟩:=Zvq r;refine max_two_ints (I.ok.hd hc) fun h' tk k=>⟨_,H,I.kept k,?_,q⟩
 by_cases hj:j>i
 · rw [if_pos hj,if_pos hj];exact ⟨_,rfl⟩
 · rw [if_neg hj,if_neg hj];exact ⟨_,rfl⟩
theorem Zhf (hc:X.calm=true):X1 X (.builtin "min") (fun xs H Q=>∃ i j,xs=[.int i,.int j]∧Q (.int (if j<i then j else i)) H):=by
 intro pins s σ H xs us Q I r h;obtain ⟨i,j,rfl,q⟩:=h;obtain ⟨u,w',rfl,⟨t,rfl⟩,⟨t',rfl⟩⟩:=Zvq r;refine min_two_ints (I.ok.hd hc) fun h' tk k=>⟨_,H,I.kept k,?_,q⟩
 by_cases hj:j<i
 · rw [if_pos hj,if_pos hj];exact ⟨_,rfl⟩
 · rw [if_neg hj,if_neg hj];exact ⟨_,rfl⟩
theorem Zo8:X1 X (.type "int") (fun xs H Q=>(∃ i,xs=[.int i]∧Q (.int i) H)∨∃ k,xs=[.bl k]∧Q (.int (if k then 1 else 0)) H):=by
 intro pins s σ H xs us Q I r h
 rcases h with ⟨i,rfl,q⟩|⟨k,rfl,q⟩
 · obtain ⟨u,rfl,t,rfl⟩:=Zno r;exact call_int_int ⟨.int i,H,I,⟨_,rfl⟩,q⟩
 · obtain ⟨u,rfl,r1⟩:=Zno r;cases r1
   exact call_int_bool ⟨.int (if k then 1 else 0),H,I.tok _,⟨_,rfl⟩,q⟩
end
structure ObjM (h:Heap) (x dx C:Addr) (mA:Str→Option Value):Prop where
 obj:h.get? x=some (PySem.W.instObj C dx)
 ns:h.Ns1 dx mA
 ne:dx≠x
theorem Zoc {h:Heap} {dx:Addr} {mA:Str→Option Value} (n:h.Ns1 dx mA):∃ od,h.get? dx=some od∧∀ name,PySem.W.lookIn name od=some (mA name):=by
 obtain ⟨o,es,ep,ho,hd,hk,_,hm⟩:=n;refine ⟨o,ho,fun name=>?_⟩;have e:=hm name;unfold nsFind findBy at e;rw [← Array.find?_toList] at e;unfold PySem.W.lookIn;rw [hd];dsimp only;split
 · rename_i y q
   rw [q] at e;exact congrArg some e
 · rename_i q
   rw [q] at e
   have a:es.toList.any (·.refKey)=false:=by
    rw [List.any_eq_false];intro y hy;obtain ⟨z,t,hkey⟩:=hk y (Array.mem_toList_iff.mp hy);simp [DictEntry.refKey,hkey]
   have a':¬ es.toList.any (·.refKey)=true:=by rw [a];exact Bool.false_ne_true
   rw [if_neg a'];exact congrArg some e
theorem ObjM.look {h:Heap} {x dx C:Addr} {mA:Str→Option Value} (I:ObjM h x dx C mA):∃ od,PySem.W.InstAt h x (PySem.W.instObj C dx) C (some od)∧∀ name,PySem.W.lookIn name od=some (mA name) :=
 let ⟨od,ho,hl⟩:=Zoc I.ns
 ⟨od,⟨I.obj,rfl,rfl,ho⟩,hl⟩
section
variable {prog:Program} {w:World} {A:Around} {E:Value→Shared→Prop} {s:Shared} {K:PySem.W.Frag} {x dx C f:Addr} {mA:Str→Option Value} {name:Str} {v:Value}
end
section
variable {P:Program} {w:World} {H H':Hp} {h h':Heap} {a C dx:Addr} {fs fs':List (Str×V)}
theorem Zsb (hok:HOk P w H h) (e:H a=some (.ins C dx fs)):∃ mA,ObjM h a dx C mA∧(∀ f,RelO (fs.lookup f) (mA f))∧PySem.Within mA (fs.map (·.1))∧fs.length≤1000∧H dx=some (.own a):=by
 obtain ⟨d,z,ne,ob,mA,n,r,q⟩:=(show ObjOk P w H h a (.ins C dx fs) from hok a _ e);exact ⟨mA,⟨ob,n,ne⟩,r,q,z,d⟩
end
structure Cls (K:PySem.W.Frag) (C:Addr):Prop where
 pg:PySem.W.plainGet K C Str.empty=true
 hd:PySem.W.hasDictIn K C=true
 po:PySem.W.plainOver K C=true
 sa:PySem.W.findIn K (.ref C) "__setattr__" = some (some (.builtin "object.__setattr__"))
theorem Cls.get {K:PySem.W.Frag} {C:Addr} (c:Cls K C) (f:Str):PySem.W.plainGet K C f=true:=c.pg
section
variable {X:Cx} {pins:List (Addr×Obj)} {σ:St} {H:Hp} {s:Shared} {a C dx:Addr} {fs:List (Str×V)} {f:Str} {v:V} {A:Around} {E:Value→Shared→Prop}
end
section
variable {X:Cx} {o e value:Expr} {f:Str} {pos pos' tpos:Pos} {ta tv:TE}
end
section
variable {X:Cx} {pins:List (Addr×Obj)} {σ:St} {H:Hp} {s:Shared} {A:Around} {E:Value→Shared→Prop} {Q:Value→Shared→Prop} {c:Value} {b:Bool}
inductive TyOf (K:PySem.W.Frag) (H:Hp):V→Value→Prop where
 | non:TyOf K H .non (.type "NoneType")
 | bl (x:Bool):TyOf K H (.bl x) (.type "bool")
 | int (i:Int):TyOf K H (.int i) (.type "int")
 | str (x:Str):TyOf K H (.str x) (.type "str")
 | flt (x:UInt64):TyOf K H (.flt x) (.type "float")
 | lst {a:Addr} {xs:List V} (e:H a=some (.lst xs)):TyOf K H (.ref a) (.type "list")
 | frz {a:Addr} {o:Obj} {xs:List V} (e:H a=some (.frz o (.lst xs))):TyOf K H (.ref a) (.type "list")
 | tup {a:Addr} {xs:List V} (e:H a=some (.tup xs)):TyOf K H (.ref a) (.type "tuple")
 | dK {a:Addr} {kvs:List (Key×V)} (e:H a=some (.dK kvs)):TyOf K H (.ref a) (.type "dict")
 | dT {a:Addr} {kvs:List (List Key×V)} (e:H a=some (.dT kvs)):TyOf K H (.ref a) (.type "dict")
 | ins {a C dx:Addr} {fs:List (Str×V)} (e:H a=some (.ins C dx fs)) (cl:Cls K C) (ha:PySem.W.findIn K (.ref C) "__class__" = some (some (.builtin "object.__class__")))
    (hn:PySem.W.specialIn K (.builtin "object.__class__") "__get__" = some (some (.builtin "getset_descriptor.__get__"))) (htk:PySem.W.takesIn K (.builtin "object.__class__")=some true)
    (hm:PySem.W.mroIn K C (.type "object")=some true):TyOf K H (.ref a) (.ref C)
theorem Zn6 {x:V} {u t:Value} (I:Inv X pins σ H s) (rx:RelV x u) (ty:TyOf X.K H x t) (e:PySem.W.kitOne X.K t c=some b) (h:∀ tk,Q (.bool b) { s with toks:=tk }) :
 wpAny (model X.prog X.w) A (call (.builtin "isinstance") [u,c]) Q E s:=by
 cases ty with
 | non=>cases (show u=Value.none from rx);exact PySem.W.kia_one PySem.W.kitx_none I.kIn True.intro e (fun z=>nomatch z) h
 | bl y=>cases (show u=Value.bool y from rx);exact PySem.W.kia_one PySem.W.kitx_bool I.kIn True.intro e (fun z=>nomatch z) h
 | int i=>obtain ⟨t,q⟩:=(show ∃ t,u=Value.int i t from rx);cases q;exact PySem.W.kia_one PySem.W.kitx_int I.kIn True.intro e (fun z=>nomatch z) h
 | str y=>obtain ⟨t,q⟩:=(show ∃ t,u=Value.str y t from rx);cases q;exact PySem.W.kia_one PySem.W.kitx_str I.kIn True.intro e (fun z=>nomatch z) h
 | flt y=>obtain ⟨t,q⟩:=(show ∃ t,u=Value.float y t from rx);cases q;exact PySem.W.kia_one PySem.W.kitx_float I.kIn True.intro e (fun z=>nomatch z) h
 | @lst a xs ea =>
   cases (show u=Value.ref a from rx)
   obtain ⟨_,_,n,_,h1⟩:=(show ObjOk X.prog X.w H s.heap a (.lst xs) from I.hok a _ ea);exact PySem.W.kia_one PySem.W.kitx_list I.kIn ⟨_,h1,rfl⟩ e (fun z=>nomatch z) h
 | @frz a ob xs ea =>
   cases (show u=Value.ref a from rx)
   obtain ⟨_,_,_,n,_,h1⟩:=(show ObjOk X.prog X.w H s.heap a (.frz ob (.lst xs)) from I.hok a _ ea);exact PySem.W.kia_one PySem.W.kitx_list I.kIn ⟨_,h1,rfl⟩ e (fun z=>nomatch z) h
 | @tup a xs ea =>
   cases (show u=Value.ref a from rx)
   obtain ⟨_,_,_,p⟩:=(show ObjOk X.prog X.w H s.heap a (.tup xs) from I.hok a _ ea);obtain ⟨o,h1,h2,_⟩:=p;exact PySem.W.kia_one PySem.W.kitx_tuple I.kIn ⟨o,h1,h2⟩ e (fun z=>nomatch z) h
 | @dK a kvs ea =>
   cases (show u=Value.ref a from rx)
   obtain ⟨_,_,vs,_,p⟩:=(show ObjOk X.prog X.w H s.heap a (.dK kvs) from I.hok a _ ea);obtain ⟨o,es,ep,h1,h2,_⟩:=p;exact PySem.W.kia_one PySem.W.kitx_dict I.kIn ⟨o,h1,h2.1⟩ e (fun z=>nomatch z) h
 | @dT a kvs ea =>
   cases (show u=Value.ref a from rx)
   obtain ⟨_,_,xs,_,o,es,ep,h1,h2,_⟩:=(show ObjOk X.prog X.w H s.heap a (.dT kvs) from I.hok a _ ea);exact PySem.W.kia_one PySem.W.kitx_dict I.kIn ⟨o,h1,h2.1⟩ e (fun z=>nomatch z) h
 | @ins a C dx fs ea cl ha hn htk hm =>
   cases (show u=Value.ref a from rx)
   obtain ⟨mA,O,_⟩:=Zsb I.hok ea;obtain ⟨od,J,_⟩:=O.look;exact PySem.W.kia_one (PySem.W.kitx_own (cl.get _) cl.hd ha hn htk hm) I.kIn J e (fun z=>nomatch z) h
end
structure Room (k:Nat) (A:Around):Prop where
 hd:A.handled=none
 dp:A.depth+3*k+5<recursionLimit
 un:A.units+16*k+200<cLine
 gd:A.guards=some []
theorem Room.mono {j k:Nat} {A:Around} (r:Room k A) (h:j≤k):Room j A:=⟨r.hd,by have:=r.dp;omega,by have:=r.un;omega,r.gd⟩
theorem Room.deeper {k:Nat} {A:Around} (r:Room (k+1) A) (env:Env):Room k (A.deeper env) :=
 ⟨r.hd,by have:=r.dp;show A.depth+1+3*k+5<_;omega,by have:=r.un;show A.units+3+16*k+200<_;omega,r.gd⟩
theorem Room.depth {k:Nat} {A:Around} (r:Room k A):A.depth<recursionLimit:=by have:=r.dp;omega
theorem Room.units {k:Nat} {A:Around} (r:Room k A):A.units+64<cLine:=by have:=r.un;omega
def tNil:TA:=fun _ H Q=>Q [] H
def Zwf (ta:TE) (tr:TA):TA:=fun σ H Q=>ta σ H fun x H1=>tr σ H1 fun xs H2=>Q (x :: xs) H2
section
variable {X:Cx} {e:Expr} {es:List Expr} {te:TE} {t:TA} {pos:Pos}
theorem Zb:PA X [] tNil:=fun _ _ _ _ H Q I h=>Calls.spliced_nil ⟨[],H,I,.nil,h⟩
theorem Za (ha:PE X e te) (hr:PA X es t) (hs:starEach (e :: es) X.env=(false,eval e X.env) :: starEach es X.env:=by rfl):PA X (e :: es) (Zwf te t):=by
 intro pos pins s σ H Q I h;rw [hs];show wpAny _ _ (spliced ((false,eval e X.env) :: backTo pos (starEach es X.env))) _ _ s
 refine Calls.spliced_cons (thn (ha pins s σ H _ I h) fun u s1 ⟨x,H1,I1,r1,q1⟩=>?_);exact thn (hr pos pins s1 σ H1 _ I1 q1) fun us s2 ⟨xs,H2,I2,r2,q2⟩=>⟨x :: xs,H2,I2,.cons r1 r2,q2⟩
def tTup (t:TA):TE:=fun σ H Q=>t σ H fun xs H1=>xs.length≤sizeLine∧∀ p,H1 p=none→Q (.ref p) (upd H1 p (.tup xs))
def tLst (t:TA):TE:=fun σ H Q=>t σ H fun xs H1=>xs.length≤sizeLine∧∀ p,H1 p=none→Q (.ref p) (upd H1 p (.lst xs))
theorem Z5 {x1} (h:PA X es t):PE X (.Tuple es x1 pos) (tTup t):=by
 intro pins s σ H Q I hq;refine wpAny_Tuple_spliced (thn (h pos pins s σ H _ I hq) fun us s1 ⟨xs,H1,I1,r,z,q⟩=>⟨by rw [← r.length];exact z,?_⟩);have hf:H1 s1.heap.objs.size=none:=I1.hok.fresh (Nat.le_refl _);refine ⟨.ref s1.heap.objs.size,upd H1 s1.heap.objs.size (.tup xs),I1.laid (t':=s1.toks) (fun b u e=>Heap.get?_push_of_some _ e) (Nat.le_refl _) ?_,rfl,q _ hf⟩;exact ⟨z,us,r,⟨_,Heap.get?_push_size _ rfl,rfl,_,rfl⟩⟩
theorem Xl (h:PA X es t):PE X (.List es pos) (tLst t):=by
 intro pins s σ H Q I hq;refine wpAny_List_spliced (thn (h pos pins s σ H _ I hq) fun us s1 ⟨xs,H1,I1,r,z,q⟩=>⟨by rw [← r.length];exact z,?_⟩);have hf:H1 s1.heap.objs.size=none:=I1.hok.fresh (Nat.le_refl _);refine ⟨.ref s1.heap.objs.size,upd H1 s1.heap.objs.size (.lst xs),I1.laid (t':=s1.toks) (fun b u e=>Heap.get?_push_of_some _ e) (Nat.le_refl _) ?_,rfl,q _ hf⟩;exact ⟨z,us,0,r,Heap.get?_push_size _ rfl⟩
end
abbrev Sp:=List V→Hp→VK→XK→Prop
abbrev CXT:=List Env→Hp→Shared→XK→Value→Shared→Prop
structure Env0 (P:Program) (w:World) (K:PySem.W.Frag) (mg:Str→Option Value) (base:Heap) (A:Around) (outer:List Env) (s:Shared) (H:Hp):Prop where
 frames:A.frames=some outer
 mod:Mod K mg base
 bs:∀ b o,base.get? b=some o→s.heap.get? b=some o∧H b=none
 bsz:base.objs.size≤s.heap.objs.size
 funs:s.heap.FunFrames base outer
 frf:∀ b∈frs outer,H b=none
 hok:HOk P w H s.heap
 bare:AllBare s.gens
def CE (outer:List Env) (P:Program) (w:World) (H:Hp) (s:Shared) (Q:VK) (u:Value) (s':Shared):Prop :=
 ∃ v H',s'.os=s.os∧AllBare s'.gens∧Un (frs outer) [] H H' s.heap s'.heap∧HOk P w H' s'.heap∧RelV v u∧Q v H'
def CR (CX:CXT) (outer:List Env) (P:Program) (w:World) (H:Hp) (s:Shared) (Q:VK) (E:XK) (r:Result) (s':Shared):Prop :=
 match r with
 | .ok (.ret u)=>CE outer P w H s Q u s'
 | .ok _=>False
 | .error e=>CX outer H s E e s'
structure FnOk (P:Program) (w:World) (K:PySem.W.Frag) (mg:Str→Option Value) (base:Heap) (CX:CXT) (k:Nat) (f:Addr) (fd:FuncData) (ps:List Str) (sp:Sp):Prop where
 len:∀ vs H Q E,sp vs H Q E→vs.length=ps.length
 run:∀ (A:Around) (outer:List Env) (s:Shared) (H:Hp) (args:Args) (us:List Value) (vs:List V) (Q:VK) (E:XK),Room k A→Env0 P w K mg base A outer s H→BindsTo s fd args (ps.zip us)→Vals vs us→sp vs H Q E →
  codeAny (model P w) A (.call (.ref f) args) (CR CX outer P w H s Q E) s
section
variable {X:Cx} {pins:List (Addr×Obj)} {σ:St} {H:Hp} {s s':Shared}
theorem Inv.env0 (I:Inv X pins σ H s):Env0 X.prog X.w X.K X.mg X.base X.A X.stack s H :=
 ⟨I.ok.frames,I.ok.mod,I.bs,Nat.le_trans I.ok.bsz I.sz,I.stack,I.stkFree,I.hok,I.bare⟩
theorem Inv.after {Q:VK} {u:Value} (I:Inv X pins σ H s) (h:CE X.stack X.prog X.w H s Q u s'):EP X pins σ Q u s':=by
 obtain ⟨v,H',os,bare,un,hok,r,q⟩:=h;obtain ⟨hh,g,d,t,os'⟩:=s';obtain rfl:os'=s.os:=os;exact ⟨v,H',I.call (h':=hh) (g':=g) (d':=d) (t':=t) (ch:=[]) un hok bare (fun b z=>absurd z (by simp)),r,q⟩
end
def Ztj (sp:Sp) (dvs:List V) (E:XK) (t:TA):TE:=fun σ H Q=>t σ H fun vs H1=>sp (vs++dvs) H1 Q E
def Binds (K:PySem.W.Frag) (fd:FuncData) (ps:List Str) (ds:List Value):Prop :=
 ∀ (s:Shared) (us:List Value),K.In s.heap→(us++ds).length=ps.length→BindsTo s fd ⟨us,[]⟩ (ps.zip (us++ds))
theorem Binds.all {K:PySem.W.Frag} {fd:FuncData} {ps:List Str} (h:∀ us:List Value,us.length=ps.length→bindArgs fd ⟨us,[]⟩=pure (ps.zip us)):Binds K fd ps []:=fun s us _ hl=>by
 rw [List.append_nil] at hl ⊢;exact .of_eq (h us hl)
def Zkq (CX:CXT) (X:Cx) (E:XK):Prop:=∀ (pins:List (Addr×Obj)) (σ:St) (H:Hp) (s:Shared) (e:Value) (s':Shared),Inv X pins σ H s→CX X.stack H s E e s'→X.xe e s'
section
variable {X:Cx} {CX:CXT} {k:Nat} {f C:Addr} {fd:FuncData} {ps:List Str} {sp:Sp} {dvs:List V} {ds:List Value} {E:XK} {x m:Str} {p pos apos:Pos} {e o:Expr} {es:List Expr} {ta:TE} {t:TA}
theorem Zrj {pins:List (Addr×Obj)} {σ:St} {H:Hp} {s:Shared} {Q:VK} {us:List Value} {vs:List V} (F:FnOk X.prog X.w X.K X.mg X.base CX k f fd ps sp) (hr:Room k X.A) (hb:Binds X.K fd ps ds) (hd:Vals dvs ds) (hx:Zkq CX X E)
 (I:Inv X pins σ H s) (r:Vals vs us) (h:sp (vs++dvs) H Q E):wpAny (model X.prog X.w) X.A (call (.ref f) us) (EP X pins σ Q) X.xe s:=by
 have r2:Vals (vs++dvs) (us++ds):=r.append hd;have hl:(us++ds).length=ps.length:=by rw [← r2.length];exact F.len _ _ _ _ h
 refine wpAny_call (codeAny_mono (F.run X.A X.stack s H ⟨us,[]⟩ (us++ds) (vs++dvs) Q E hr I.env0 (hb s us I.kIn hl) r2 h) fun r s' hq=>?_);cases r with
 | error e=>exact hx pins σ H s e s' I hq
 | ok fl =>
   cases fl with
   | ret u=>exact I.after hq
   | next=>exact False.elim hq
   | brk=>exact False.elim hq
   | cont=>exact False.elim hq
theorem Zmz (F:FnOk X.prog X.w X.K X.mg X.base CX k f fd ps sp) (hr:Room k X.A) (hg:Gl X x) (hm:X.mg x=some (.ref f)) (hk:PySem.W.keepIn X.K (.ref f)=true) (hb:Binds X.K fd ps ds) (hd:Vals dvs ds) (hx:Zkq CX X E)
 (ha:PA X (e :: es) t) (hdb:(x == ("__debug__" : Str))=false:=by decide) (he:starEach (e :: es) X.env=(false,eval e X.env) :: starEach es X.env:=by rfl) (hpl:(backTo pos (starEach es X.env)).any (·.1)=false:=by rfl) :
 PE X (.Call (.Name x p) (e :: es) [] pos) (Ztj sp dvs E t):=by
 intro pins s σ H Q I h;refine wpAny_Call_Name_kw (Zke I hg hm ?_ hdb);refine PySem.W.callWith_K (h₀:=X.base) I.ok.mod.kin hk (thn (ha pos pins s σ H _ I h) fun us s1 ⟨vs,H1,I1,r,q⟩=>⟨I1.kIn,?_⟩) he hpl;exact Zrj F hr hb hd hx I1 r q
theorem Zpv (F:FnOk X.prog X.w X.K X.mg X.base CX k f fd ps sp) (hr:Room k X.A) (hg:Gl X x) (hm:X.mg x=some (.ref f)) (hk:PySem.W.keepIn X.K (.ref f)=true) (hb:Binds X.K fd ps ds) (hd:Vals dvs ds) (hx:Zkq CX X E)
 (hdb:(x == ("__debug__" : Str))=false:=by decide):PE X (.Call (.Name x p) [] [] pos) (Ztj sp dvs E tNil):=by
 intro pins s σ H Q I h;refine wpAny_Call_Name_kw (Zke I hg hm ?_ hdb);exact PySem.W.callWith_K0 I.kIn hk (Zrj (us:=[]) F hr hb hd hx I .nil h)
end
section
variable {X:Cx} {CX:CXT} {k:Nat} {f C:Addr} {fd:FuncData} {ps ks:List Str} {sp:Sp} {E:XK} {x m:Str} {p pos apos kpos:Pos} {e o:Expr} {es:List Expr} {kws:List Keyword} {te ta:TE} {t tk:TA} {nm:Option Str}
variable {g:List Value→List Value→List Value} {gV:List V→List V→List V}
end
structure FnScope (N P:List Str) (sc:Scope):Prop where
 kind:sc.kind=.function
 co:sc.isCoroutine=false
 gen:sc.isGenerator=false
 nd:N.Nodup
 pre:N.take P.length=P
 par:∀ x∈P,sc.names.lookup x=some .local∨sc.names.lookup x=some .cell
 nofree:∀ y∈sc.names,y.2≠.free
theorem Zhw {kindOf:Str→Option NameKind} {x:Str}:∀ {binds:List (Str×Value)} {m:Str→Option Value},(∀ v,(x,v)∉binds)→bindL kindOf binds m x=m x
 | [],_,_=>rfl
 | (n,v) :: r,m,h=>by
   unfold bindL;rw [Zhw fun w hw=>h w (List.mem_cons_of_mem _ hw)];split
   · have:x≠n:=by rintro rfl;exact h v List.mem_cons_self
     simp [this]
   · rfl
theorem Zik {kindOf:Str→Option NameKind} {x:Str}:∀ {binds:List (Str×Value)} {m:Str→Option Value},(∀ v,(x,v)∉binds)→bindC kindOf binds m x=m x
 | [],_,_=>rfl
 | (n,v) :: r,m,h=>by
   unfold bindC;rw [Zik fun w hw=>h w (List.mem_cons_of_mem _ hw)];split
   · rfl
   · have:x≠n:=by rintro rfl;exact h v List.mem_cons_self
     simp [this]
theorem Zhg {kindOf:Str→Option NameKind} {x:Str} {v:Value}:∀ {P:List Str} {vs:List Value} {i:Nat} {m:Str→Option Value},P.Nodup→P[i]? = some x→vs[i]? = some v→kindOf x=some .local →
 bindL kindOf (P.zip vs) m x=some v
 | [],_,_,_,_,h,_,_=>by simp at h
 | _ :: _,[],_,_,_,_,h,_=>by simp at h
 | p :: P,w :: vs,0,m,nd,h1,h2,hk=>by
   simp at h1 h2;subst h1;subst h2;show bindL kindOf ((p,w) :: P.zip vs) m p=_
   unfold bindL;rw [Zhw fun v hv=>(List.nodup_cons.mp nd).1 (List.of_mem_zip hv).1,if_pos hk]
   simp
 | p :: P,w :: vs,i+1,m,nd,h1,h2,hk=>by
   show bindL kindOf ((p,w) :: P.zip vs) m x=_
   unfold bindL;exact Zhg (i:=i) (List.nodup_cons.mp nd).2 (by simpa using h1) (by simpa using h2) hk
theorem Zia {kindOf:Str→Option NameKind} {x:Str} {v:Value}:∀ {P:List Str} {vs:List Value} {i:Nat} {m:Str→Option Value},P.Nodup→P[i]? = some x→vs[i]? = some v→kindOf x≠some .local →
 bindC kindOf (P.zip vs) m x=some v
 | [],_,_,_,_,h,_,_=>by simp at h
 | _ :: _,[],_,_,_,_,h,_=>by simp at h
 | p :: P,w :: vs,0,m,nd,h1,h2,hk=>by
   simp at h1 h2;subst h1;subst h2;show bindC kindOf ((p,w) :: P.zip vs) m p=_
   unfold bindC;rw [Zik fun v hv=>(List.nodup_cons.mp nd).1 (List.of_mem_zip hv).1,if_neg hk]
   simp
 | p :: P,w :: vs,i+1,m,nd,h1,h2,hk=>by
   show bindC kindOf ((p,w) :: P.zip vs) m x=_
   unfold bindC;exact Zia (i:=i) (List.nodup_cons.mp nd).2 (by simpa using h1) (by simpa using h2) hk
def Zbu (N:List Str) (vs:List V):St:=vs.map some++List.replicate (N.length-vs.length) none
def cxOf (CX:CXT) (P:Program) (w:World) (K:PySem.W.Frag) (mg:Str→Option Value) (base:Heap) (N:List Str) (qual:Str) (scope:Scope) (f:Addr) (cd:Value) (A:Around) (outer:List Env) (s:Shared) (H:Hp) (E:XK):Cx where
 prog:=P
 w:=w
 K:=K
 mg:=mg
 base:=base
 A:=A.deeper (envOfC qual scope s.heap.objs.size f cd)
 N:=N
 s₀:=s
 H₀:=H
 env:=envOfC qual scope s.heap.objs.size f cd
 outer:=outer
 stack:=envOfC qual scope s.heap.objs.size f cd :: outer
 ex:=[]
 calm:=true
 fn:=fun _=>true
 pn:=[]
 xe:=fun e s'=>wpAny (model P w) (A.deeper (envOfC qual scope s.heap.objs.size f cd)) (leaving (envOfC qual scope s.heap.objs.size f cd) e) (fun _ s''=>CX outer H s E e s'') (fun e' s''=>CX outer H s E e' s'') s'
theorem Zv {sc:Scope} {n:Nat} {x:Str} (h:sc.names.lookup x=some .cell):∃ c,(cellsFrom n sc.names []).lookup x=some c:=by
 have q:=PySem.W.cellsFrom_some sc.names n [] (.inl h);exact Option.isSome_iff_exists.mp q
theorem Zof {CX:CXT} {P:Program} {w:World} {K:PySem.W.Frag} {mg:Str→Option Value} {base:Heap} {N ps:List Str} {qual:Str} {scope:Scope} {f:Addr} {cd:Value} {A:Around} {outer:List Env} {s s1:Shared} {H:Hp} {E:XK} {us:List Value} {vs:List V}
 (S:FnScope N ps scope) (hd:A.handled=none) (e0:Env0 P w K mg base A outer s H) (hl:vs.length=ps.length) (r:Vals vs us)
 (x:InCallC s s.heap.objs.size (bindL (envOfC qual scope s.heap.objs.size f cd).kindOf (ps.zip us) fun _=>none) (cellsFrom (s.heap.objs.size+1) scope.names []) (bindC (envOfC qual scope s.heap.objs.size f cd).kindOf (ps.zip us) fun _=>none) s1) :
 Inv (cxOf CX P w K mg base N qual scope f cd A outer s H E) [] (Zbu N vs) H s1:=by
 have hpl:ps.length≤N.length:=by have:=congrArg List.length S.pre;rw [List.length_take] at this;omega
 obtain ⟨h1,tk,rfl,hk⟩:=x.done;have noA:∀ b:Addr,b∉(cxOf CX P w K mg base N qual scope f cd A outer s H E).ex:=fun b z=>absurd (show b∈([]:List Addr) from z) (by simp)
 refine ⟨⟨e0.mod,S.kind,rfl,rfl,Nat.le_refl _,fun y z c h1 h2=>?_,fun y hy=>?_,fun y c _ h=>?_,fun _=>hd,Around.frames_deeper e0.frames,.inr ⟨rfl,rfl⟩,fun b z=>absurd z (noA b),e0.bs,e0.bsz,fun b _ _=>noA b,fun b z=>absurd z (noA b),e0.funs,e0.frf⟩,
  rfl,e0.bare,Un.kept hk,⟨_,x.toInCall.ns,fun i y v h1 h2 h3=>?_⟩,fun y c h=>⟨_,x.cell y c h⟩,e0.hok.fresh (Nat.le_refl _),fun y c h=>?_,fun p hp=>absurd (show p∈([]:List (Addr×Obj)) from hp) (by simp),e0.hok.kept hk,?_⟩
 · exact name_of_addr x.apart (PySem.mem_of_lookup h1) (PySem.mem_of_lookup h2)
 · have hy:scope.names.lookup y=some .cell∨scope.names.lookup y=some .free:=hy
   rcases hy with hy|hy
   · exact Zv hy
   · exact absurd rfl (S.nofree _ (PySem.mem_of_lookup hy))
 · exact Nat.le_of_lt (x.above y c (PySem.mem_of_lookup h))
 · have hi:i<vs.length:=by
    unfold Zbu at h2
    by_cases hi:i<vs.length
    · exact hi
    · rw [List.getElem?_append_right (by simpa using hi)] at h2;rw [List.getElem?_replicate] at h2;split at h2<;>cases h2
   have ha:vs[i]? = some v:=by
    unfold Zbu at h2;rw [List.getElem?_append_left (by simpa using hi),List.getElem?_map] at h2;cases e:vs[i]? with
    | none=>rw [e] at h2;cases h2
    | some a=>rw [e] at h2;cases h2;rfl
   obtain ⟨u,hu,rv⟩:=r.get ha
   have hp:ps[i]? = some y:=by
    rw [← S.pre,List.getElem?_take_of_lt (by omega)];exact h1
   have ndP:ps.Nodup:=by rw [← S.pre];exact S.nd.sublist (List.take_sublist _ _)
   refine ⟨u,rv,?_⟩
   rcases S.par y (List.mem_of_getElem? hp) with k|k
   · exact .inl ⟨k,Zhg ndP hp hu k⟩
   · obtain ⟨c,e⟩:=Zv (n:=s.heap.objs.size+1) k;refine .inr ⟨.inl k,c,e,?_⟩;have q:=x.cell y c e;rw [Zia ndP hp hu (by show scope.names.lookup y≠_;rw [k];decide)] at q;exact q
 · exact e0.hok.fresh (Nat.le_of_lt (x.above y c (PySem.mem_of_lookup h)))
 · unfold Zbu;show _=N.length
   rw [List.length_append,List.length_map,List.length_replicate];omega
theorem Ztu {CX:CXT} {P:Program} {w:World} {K:PySem.W.Frag} {mg:Str→Option Value} {base:Heap} {k:Nat} {f:Addr} {name qual:Str} {params:Arguments} {body:List Stmt} {scope:Scope} {dV kV doc pm cdv ct oc:Value} {an od:Option Addr}
 {osl:Array (Option Value)} {N ps:List Str} {sp:Sp} (lk:K.lookup f=some ⟨oc,od,.func (PySem.W.fnOf name qual params body scope dV kV doc pm an cdv ct),osl⟩) (hcd:PySem.W.codeIn K cdv qual=true) (S:FnScope N ps scope)
 (len:∀ vs H Q E,sp vs H Q E→vs.length=ps.length)
 (hbody:∀ (A:Around) (outer:List Env) (s:Shared) (H:Hp) (vs:List V) (Q:VK) (E:XK),Room k (A.deeper (envOfC qual scope s.heap.objs.size f cdv))→sp vs H Q E →
   ∃ t,PSs (cxOf CX P w K mg base N qual scope f cdv A outer s H E) body t∧t { nx:=fun _ H'=>Q .non H',rt:=Q } (Zbu N vs) H) :
 FnOk P w K mg base CX (k+1) f (PySem.W.fnOf name qual params body scope dV kV doc pm an cdv ct) ps sp:=by
 refine ⟨len,fun A outer s H args us vs Q E hr e0 hb r hsp=>?_⟩;have hl:=len _ _ _ _ hsp;have KX:K.In s.heap:=e0.mod.kin.keeps fun b o e=>(e0.bs b o e).1;have lim:s.heap.NoLimit:=e0.mod.nolimit.keeps fun b o e=>(e0.bs b o e).1
 have hkind:∀ y∈ps.zip us,scope.names.lookup y.1=some .local∨(scope.names.lookup y.1=some .cell∧((cellsFrom (s.heap.objs.size+1) scope.names []).lookup y.1).isSome=true):=fun ⟨n,v⟩ hy=>by
  rcases S.par n (List.of_mem_zip hy).1 with q|q
  · exact .inl q
  · exact .inr ⟨q,PySem.W.cellsFrom_some _ _ _ (.inl q)⟩
 refine codeAny_call_function hr.depth (KX _ _ lk) rfl S.co S.gen rfl (PySem.W.codeRec_of KX hcd) (hb _ _ _ _ ?_);refine wpAny_newFunctionEnv_cells S.kind hkind fun env he s1 x=>?_;subst he;refine ⟨lim.keeps x.toInCall.keep,codeAny_func ?_⟩;obtain ⟨t,ht,hq⟩:=hbody A outer s H vs Q E (hr.deeper _) hsp;have I:Inv (cxOf CX P w K mg base N qual scope f cdv A outer s H E) [] (Zbu N vs) H s1:=Zof S hr.hd e0 hl r x;refine wpAny_mono (ht [] s1 (Zbu N vs) H _ I hq) (fun fl s' hs=>?_) fun e s' hs=>hs
 have fin:∀ {σ':St} {H':Hp} {v:V} {u:Value},Inv (cxOf CX P w K mg base N qual scope f cdv A outer s H E) [] σ' H' s'→RelV v u→Q v H'→CE outer P w H s Q u s' :=
  fun {σ' H' v u} J rv q=>⟨v,H',J.os,J.bare,J.base,J.hok,rv,q⟩
 cases fl with
 | ret u =>
   obtain ⟨v,σ',H',J,rv,q⟩:=hs;exact fin J rv q
 | next =>
   obtain ⟨σ',H',J,q⟩:=hs;exact fin (v:=V.non) (u:=Value.none) J rfl q
 | brk =>
   obtain ⟨_,_,_,q⟩:=hs;exact False.elim q
 | cont =>
   obtain ⟨_,_,_,q⟩:=hs;exact False.elim q
section
variable {X:Cx} {x:Str} {p pos:Pos} {e:Expr} {es:List Expr} {t:TA} {id T:String} {r:List V→Hp→VK→Prop}
def tCB (r:List V→Hp→VK→Prop) (t:TA):TE:=fun σ H Q=>t σ H fun vs H1=>r vs H1 Q
theorem Zk (hc:X1 X (.builtin id) r) (hg:Gl X x) (hm:X.mg x=none) (hv:bootBuiltins x=some (.builtin id)) (ha:PA X (e :: es) t) (hn:x ≠ "__name__" := by decide) (hdb:(x == ("__debug__" : Str))=false:=by decide)
 (he:starEach (e :: es) X.env=(false,eval e X.env) :: starEach es X.env:=by rfl) (hpl:(backTo pos (starEach es X.env)).any (·.1)=false:=by rfl):PE X (.Call (.Name x p) (e :: es) [] pos) (tCB r t):=by
 intro pins s σ H Q I h;refine wpAny_Call_Name_kw (Zcf I hg hm hv ?_ hn hdb);exact PyProof.Rows.callWith_builtin1 (thn (ha pos pins s σ H _ I h) fun us s1 ⟨vs,H1,I1,r1,q1⟩=>hc pins s1 σ H1 vs us Q I1 r1 q1) he hpl
theorem Yd (hc:X1 X (.type T) r) (hg:Gl X x) (hm:X.mg x=none) (hv:bootBuiltins x=some (.type T)) (ha:PA X (e :: es) t) (hn:x ≠ "__name__" := by decide) (hdb:(x == ("__debug__" : Str))=false:=by decide)
 (he:starEach (e :: es) X.env=(false,eval e X.env) :: starEach es X.env:=by rfl) (hpl:(backTo pos (starEach es X.env)).any (·.1)=false:=by rfl):PE X (.Call (.Name x p) (e :: es) [] pos) (tCB r t):=by
 intro pins s σ H Q I h;refine wpAny_Call_Name_kw (Zcf I hg hm hv ?_ hn hdb);exact PyProof.Rows.callWith_type1 (thn (ha pos pins s σ H _ I h) fun us s1 ⟨vs,H1,I1,r1,q1⟩=>hc pins s1 σ H1 vs us Q I1 r1 q1) he hpl
end
end L2
namespace HT
open PySem PyProof.Rows
def lexLt:List Int→List Int→Bool
 | [],[]=>false
 | [],_ :: _=>true
 | _ :: _,[]=>false
 | x :: xs,y :: ys=>if x=y then lexLt xs ys else decide (x<y)
theorem lexLt_cons (x y:Int) (xs ys:List Int):lexLt (x :: xs) (y :: ys)=if x=y then lexLt xs ys else decide (x<y):=rfl
theorem Zg6:lexLt [] []=false:=rfl
theorem Ze5 (y:Int) (ys:List Int):lexLt [] (y :: ys)=true:=rfl
theorem Ze7 (x:Int) (xs:List Int):lexLt (x :: xs) []=false:=rfl
theorem Zqg (A:Around) (s:Shared) (a:Int) (t:Tok) (c:Int) (u:Tok):∃ e,SeqAt.EqAt A s (.int a t) (.int c u) e∧(e=true↔a=c) :=
 ⟨(a == c),SeqAt.EqAt.int_int a t c u,by simp⟩
theorem Zqa (A:Around) (s:Shared) (a:Int) (t:Tok) (c:Int) (u:Tok) (prog:Program) (w:World) (E:Value→Shared→Prop) (Q:Value→Shared→Prop) (h:Q (.bool (decide (a<c))) s) :
 wpAny (model prog w) A (richCompare .Lt (.int a t) (.int c u)) Q E s :=
 (PyProof.Rows.lt_int h:wpAny (model prog w) A (compareOp .Lt (.int a t) (.int c u)) Q E s)
section
open PySem.SeqAt
open PySem.AutoSeq1 (wpAny_loadPart')
open PySem.MeetsSeq PySem.MeetsSeq2 PySem.MeetsSeq3
theorem Zgs (l b:Addr) (items items2:Array Value) (n n2:Nat) (dd dd2:Option Addr) (sl sl2:Array (Option Value)) (ns ms:List Int) (hi:IntsAre items.toList ns) (hj:IntsAre items2.toList ms) :
 Meets (Builtin.«tuple.__lt__» ⟨[.ref l,.ref b],[]⟩)
  (fun _ R s=>s.heap.get? l=some { cls:=.type "tuple",dict:=dd,data:=.seq items n,slots:=sl }∧s.heap.get? b=some { cls:=.type "tuple",dict:=dd2,data:=.seq items2 n2,slots:=sl2 } ∧
    R (.ok (.ret (.bool (lexLt ns ms)))) s) :=
 .of_wp fun prog w A R s h=>by
  obtain ⟨hp,g,d,tk,os⟩:=s;obtain ⟨hl,hb,h⟩:=h;have f2:=AutoSeq1.sub_tuple_tuple;have z1:items.size=ns.length:=by rw [← hi.length];simp
  have z2:items2.size=ms.length:=by rw [← hj.length];simp
  wp_walk using wpAny_loadPart' hl,wpAny_loadPart' hb,wpAny_forIn_list _ (fun rest b s'=>b.1=none∧s'=⟨hp,g,d,tk,os⟩∧∃ (vs ws:List Value) (ns' ms':List Int),rest=vs.zip ws ∧
   IntsAre vs ns'∧IntsAre ws ms'∧ns'.length+items2.size=ms'.length+items.size∧R (.ok (.ret (.bool (lexLt ns' ms')))) ⟨hp,g,d,tk,os⟩) _
  case turn =>
   rintro ⟨y,x⟩ rest b s' ⟨hb',rfl,vs,ws,ns',ms',hz,hvi,hwi,hlen,hR⟩
   cases hvi with
   | nil=>rw [List.zip_nil_left] at hz;cases hz
   | cons a t hvi' =>
     cases hwi with
     | nil=>rw [List.zip_nil_right] at hz;cases hz
     | cons c u hwi' =>
       rw [List.zip_cons_cons] at hz;injection hz with hyx hrest
       injection hyx with hy hx
       subst hy hx;rw [lexLt_cons] at hR;simp only [List.length_cons] at hlen;obtain ⟨e,he,hiff⟩:=Zqg A.in1 ⟨hp,g,d,tk,os⟩ a t c u;refine wpAny_bind (he prog w _ _ ?_);cases e with
       | true =>
         rw [if_pos (hiff.mp rfl)] at hR
         wp_walk
         exact ⟨rfl,rfl,_,_,_,_,hrest,hvi',hwi',by omega,hR⟩
       | false =>
         rw [if_neg (fun q=>absurd (hiff.mpr q) Bool.false_ne_true)] at hR;have hri:=Zqa A.in1 ⟨hp,g,d,tk,os⟩ a t c u prog w
         wp_walk using hri
         exact ⟨_,rfl,by simpa using hR⟩
  case fin =>
   rintro ⟨b1,b2⟩ s' ⟨hb',rfl,vs,ws,ns',ms',hz,hvi,hwi,hlen,hR⟩
   simp only at hb';subst hb'
   have hv:lexLt ns' ms'=decide (items.size<items2.size):=by
    cases hvi with
    | nil =>
      cases hwi with
      | nil =>
        simp only [List.length_nil] at hlen;rw [Zg6];exact (decide_eq_false (by omega)).symm
      | cons c u hw =>
        simp only [List.length_nil,List.length_cons] at hlen;rw [Ze5];exact (decide_eq_true (by omega)).symm
    | cons a t hv =>
      cases hwi with
      | nil =>
        simp only [List.length_nil,List.length_cons] at hlen;rw [Ze7];exact (decide_eq_false (by omega)).symm
      | cons c u hw =>
        rw [List.zip_cons_cons] at hz;cases hz
   rw [hv] at hR
   wp_walk
   exact ⟨_,rfl,by simpa [Builtin.Tuple.tupleCompareSizes] using hR⟩
  case h =>
   exact ⟨rfl,rfl,items.toList,items2.toList,ns,ms,rfl,hi,hj,by omega,h⟩
end
section
variable {prog:Program} {w:World} {A:Around} {E:Value→Shared→Prop} {s:Shared}
theorem lt_tupInts {l b:Addr} {items items2:Array Value} {ns ms:List Int} {Q:Value→Shared→Prop} (hl:IsTup s.heap l items) (hb:IsTup s.heap b items2) (hi:IntsAre items.toList ns) (hj:IntsAre items2.toList ms)
 (hu:A.units<cLine) (h:Q (.bool (lexLt ns ms)) s):wpAny (model prog w) A (compareOp .Lt (.ref l) (.ref b)) Q E s:=by
 obtain ⟨⟨cls,dd,data,sl⟩,ho,hc,n,hd⟩:=id hl;obtain ⟨⟨cls2,dd2,data2,sl2⟩,ho2,hc2,n2,hd2⟩:=id hb;simp only at hc hd hc2 hd2;subst hc hd hc2 hd2
 exact richCompare_meets_room (op:=.Lt) ⟨_,ho,rfl⟩ ⟨_,ho2,rfl⟩ PySem.F.slot_tuple_lt PySem.F.entry_tuple_lt (PySem.F.args_tuple_lt_2 _ _) (Zgs l b items items2 n n2 dd dd2 sl sl2 ns ms hi hj)
  ⟨ho,ho2,show Value.bool (lexLt ns ms)≠Value.notImplemented∧Q (.bool (lexLt ns ms)) s from ⟨(fun x=>nomatch x),h⟩⟩ hu
def sIx (n d:Nat):Option Int→Nat
 | none=>d
 | some v=>if v<0 then (v+(n:Int)).toNat else min v.toNat n
theorem sIx_none (n d:Nat):sIx n d none=d:=rfl
theorem sIx_nat (n d k:Nat):sIx n d (some (k:Int))=min k n:=by
 show (if (k:Int)<0 then ((k:Int)+(n:Int)).toNat else min (k:Int).toNat n)=min k n
 rw [if_neg (by omega),Int.toNat_natCast]
theorem Zu7 (n d:Nat) (hd:d≤n) (o:Option Int):sIx n d o≤n:=by
 cases o with
 | none=>exact hd
 | some v =>
   show (if v<0 then (v+(n:Int)).toNat else min v.toNat n)≤n
   by_cases hv:v<0
   · rw [if_pos hv];omega
   · rw [if_neg hv];exact Nat.min_le_right _ _
theorem Zog (v:Int) (n d:Nat):(if v<0 then max (v+(n:Int)) 0 else min v (n:Int))=((sIx n d (some v):Nat):Int):=by
 show (if v<0 then max (v+(n:Int)) 0 else min v (n:Int))=(((if v<0 then (v+(n:Int)).toNat else min v.toNat n):Nat):Int)
 by_cases hv:v<0
 · simp only [if_pos hv];omega
 · simp only [if_neg hv];omega
theorem Zl7 (lo hi:Option Int) (n:Nat):Builtin.Slice.sliceAdjust lo hi 1 (n:Int)=(((sIx n 0 lo:Nat):Int),((sIx n n hi:Nat):Int)):=by
 have h1:¬ ((1:Int)<0):=by omega
 unfold Builtin.Slice.sliceAdjust;simp only [h1,if_false];refine Prod.ext ?_ ?_
 · cases lo with
   | none=>rfl
   | some v=>exact Zog v n 0
 · cases hi with
   | none=>rfl
   | some v=>exact Zog v n n
theorem Zl8 (i j:Nat):Builtin.Slice.slicePlaces (i:Int) (j:Int) 1=j-i:=by
 unfold Builtin.Slice.slicePlaces;have h1:(1:Int)>0:=by omega
 simp only [h1,if_true,Int.ediv_one];split<;>omega
theorem Zfl {v:Value} {o:Option Int} {Q:Option Int→Shared→Prop} (p:IsPart v o) (h:Q o s):wpAny (model prog w) A (Builtin.Slice.slicePartIndex v) Q E s:=by
 cases p with
 | none=>exact slicePart_none h
 | int i t=>exact slicePart_int h
theorem Zao {sl:Addr} {vl vu:Value} {lo hi:Option Int} {n:Nat} {Q:Int×Int×Nat→Shared→Prop} (hs:s.heap.IsSliceOf sl vl vu .none) (pl:IsPart vl lo) (pu:IsPart vu hi)
 (h:Q (((sIx n 0 lo:Nat):Int),1,sIx n n hi-sIx n 0 lo) s):wpAny (model prog w) A (Builtin.Slice.sliceApplied (.ref sl) (pure (n:Int))) Q E s:=by
 obtain ⟨os,hos,hcs,hds⟩:=id hs;unfold Builtin.Slice.sliceApplied Builtin.Slice.sliceFields;refine wpAny_bind (wpAny_bind (wpAny_field hos hds (x:=vl) rfl (wpAny_bind (wpAny_field hos hds (x:=vu) rfl (wpAny_bind (wpAny_field hos hds (x:=.none) rfl (wpAny_pure ?_)))))));refine wpAny_bind (slicePart_none ?_);show wpAny _ _ (if ((1:Int) == 0)=true then _ else _) _ _ s
 rw [if_neg (by decide)];refine wpAny_bind (Zfl pl (wpAny_bind (Zfl pu (wpAny_bind (wpAny_pure ?_)))));show wpAny _ _ (match Builtin.Slice.sliceAdjust lo hi 1 (n:Int) with|(lo,hi)=>pure (lo,(1:Int),Builtin.Slice.slicePlaces lo hi 1)) _ _ s
 rw [Zl7 lo hi n];show wpAny _ _ (pure (((sIx n 0 lo:Nat):Int),(1:Int),Builtin.Slice.slicePlaces ((sIx n 0 lo:Nat):Int) ((sIx n n hi:Nat):Int) 1)) _ _ s
 rw [Zl8];exact wpAny_pure h
theorem Zp2 (xs:Array Value) (i k:Nat):((List.range k).filterMap fun (m:Nat)=>xs[((i:Int)+(m:Int)*1).toNat]?).toArray=((xs.toList.drop i).take k).toArray:=by
 have e:(fun (m:Nat)=>xs[((i:Int)+(m:Int)*1).toNat]?)=fun m=>xs[i+m]?:=by
  funext m
  have:((i:Int)+(m:Int)*1).toNat=i+m:=by omega
  rw [this]
 rw [e]
 have:=pick_run xs i k
 rw [List.filterMap_map] at this;have e2:((fun x=>xs[x]?) ∘ fun x=>i+x)=fun m=>xs[i+m]?:=rfl;rw [e2] at this;rw [this]
theorem getItem_tuple_cut {t sl:Addr} {items:Array Value} {vl vu:Value} {lo hi:Option Int} {Q:Value→Shared→Prop} (ht:IsTup s.heap t items) (hs:s.heap.IsSliceOf sl vl vu .none) (pl:IsPart vl lo) (pu:IsPart vu hi)
 (hw:¬ (sIx items.size 0 lo=0∧sIx items.size items.size hi=items.size))
 (h:Q (.ref s.heap.objs.size) { s with heap:=s.heap.push { cls:=.type "tuple",data:=.seq ((items.toList.drop (sIx items.size 0 lo)).take (sIx items.size items.size hi-sIx items.size 0 lo)).toArray } })
 (hsz:items.size≤sizeLine):wpAny (model prog w) A (getItem (.ref t) (.ref sl)) Q E s:=by
 have htake:sizeOk (.seq ((items.toList.drop (sIx items.size 0 lo)).take (sIx items.size items.size hi-sIx items.size 0 lo)).toArray):=by
  show ((items.toList.drop (sIx items.size 0 lo)).take (sIx items.size items.size hi-sIx items.size 0 lo)).toArray.size≤sizeLine
  rw [List.size_toArray,List.length_take,List.length_drop,Array.length_toList];omega
 have hj:sIx items.size items.size hi≤items.size:=Zu7 _ _ (Nat.le_refl _) hi;obtain ⟨os,hos,hcs,hds⟩:=id hs;have hTs:s.TypeIs (.ref sl) "slice" := ⟨os,hos,hcs⟩;unfold getItem
 try with_reducible refine wpAny_holding ?_
 first|refine wpAny_bind (wpAny_pure ?_)|skip
 refine wpAny_bind (wpAny_sequenceKey ht.typeIs (by decide) ?_)
 refine wpAny_bind (wpAny_callSpecial?_slot (name:=Str.ofString "__getitem__") ht.typeIs PyProof.Rows.slot_tuple_getitem
  (wpAny_call_entry PyProof.Rows.slot_tuple_getitem ht.typeIs entry_tuple_getitem ?_ (args_tuple_getitem _ _)))
 show wpAny _ _ (Builtin.Tuple.tupleItemsOf (.ref t) >>= _) _ _ s
 refine wpAny_bind (tupleItemsOf_ ht ?_);refine wpAny_bind (wpAny_typeOf hTs ?_);rw [if_pos (by decide)];refine wpAny_bind (Zao hs pl pu ?_)
 have hno:¬ ((((sIx items.size 0 lo:Nat):Int) == 0&&(1:Int) == 1&&(sIx items.size items.size hi-sIx items.size 0 lo) == items.size)=true):=by
  intro q;rw [Bool.and_eq_true,Bool.and_eq_true] at q;have q1:((sIx items.size 0 lo:Nat):Int)=0:=eq_of_beq q.1.1;have q2:sIx items.size items.size hi-sIx items.size 0 lo=items.size:=eq_of_beq q.2;exact hw ⟨by omega,by omega⟩
 show wpAny _ _ (if (((sIx items.size 0 lo:Nat):Int) == 0&&(1:Int) == 1&&(sIx items.size items.size hi-sIx items.size 0 lo) == items.size)=true then _ else _) _ _ s
 rw [if_neg hno,Zp2]
 first
  | exact wpAny_bind (m:=Builtin.Tuple.tupleExact _) (wpAny_newObj_type (wpAny_pure ⟨_,rfl,wpAny_pure h⟩) htake)
  | exact wpAny_bind (m:=Builtin.Tuple.tupleExact _) (wpAny_newObj_type (wpAny_bind (wpAny_pure (wpAny_pure ⟨_,rfl,wpAny_pure h⟩))) htake)
  | exact wpAny_bind (wpAny_bind (m:=Builtin.Tuple.tupleExact _) (wpAny_newObj_type (wpAny_pure (wpAny_pure ⟨_,rfl,wpAny_pure h⟩)) htake))
  | exact wpAny_bind (wpAny_bind (m:=Builtin.Tuple.tupleExact _) (wpAny_newObj_type (wpAny_pure ⟨_,rfl,wpAny_pure h⟩) htake))
end
end HT
namespace L2
open PySem PySem.Spec PyProof.Rows
abbrev TO:=St→Hp→(Option Int→Hp→Prop)→Prop
def PO (X:Cx) (e:Option Expr) (t:TO):Prop :=
 ∀ (pins:List (Addr×Obj)) (s:Shared) (σ:St) (H:Hp) (Q:Option Int→Hp→Prop),Inv X pins σ H s→t σ H Q →
   wpAny (model X.prog X.w) X.A (evalPart e X.env) (fun u s'=>∃ o H',Inv X pins σ H' s'∧IsPart u o∧Q o H') X.xe s
def Zr6:TO:=fun _ H Q=>Q none H
def Zwk (t:TE):TO:=fun σ H Q=>t σ H fun x H1=>∃ i,x=.int i∧Q (some i) H1
theorem Za7 {ns:List Int}:∀ {us:List Value},Vals (ns.map V.int) us→IntsAre us ns:=by
 induction ns with
 | nil=>intro us r;rw [List.map_nil] at r;cases r;exact .nil
 | cons n ns ih =>
   intro us r;rw [List.map_cons] at r;cases r with
   | cons r1 r2 =>
     obtain ⟨t,e⟩:=r1;subst e;exact .cons n t (ih r2)
section
variable {X:Cx} {e:Expr} {te:TE} {lo hi:Option Expr} {tl th:TO} {pos p2:Pos}
theorem Zeq:PO X none Zr6:=by
 intro pins s σ H Q I h;rw [evalPart_none];exact wpAny_pure ⟨none,H,I,.none,h⟩
theorem Zek (h:PE X e te):PO X (some e) (Zwk te):=by
 intro pins s σ H Q I hw;rw [evalPart_some];refine thn (h pins s σ H _ I hw) fun u s1 ⟨x,H1,I1,r1,q1⟩=>?_;obtain ⟨i,rfl,q⟩:=q1;obtain ⟨t,rfl⟩:=r1;exact ⟨some i,H1,I1,.int i t,q⟩
def SlR (X:Cx) (r:V→Option Int→Option Int→Hp→VK→Prop):Prop :=
 ∀ (pins:List (Addr×Obj)) (s:Shared) (σ:St) (H:Hp) (x:V) (v vl vu:Value) (lo hi:Option Int) (sl:Addr) (Q:VK),Inv X pins σ H s→RelV x v→s.heap.IsSliceOf sl vl vu .none→IsPart vl lo→IsPart vu hi→r x lo hi H Q →
   ∃ T id,typeLookup (.type T) "__getitem__" = pure (some (.builtin id))∧s.TypeIs v T∧wpAny (model X.prog X.w) X.A (getItem v (.ref sl)) (EP X pins σ Q) X.xe s
def tSl (r:V→Option Int→Option Int→Hp→VK→Prop) (te:TE) (tl th:TO):TE:=fun σ H Q=>te σ H fun x H1=>tl σ H1 fun l H2=>th σ H2 fun u H3=>r x l u H3 Q
theorem Zb9 {r:V→Option Int→Option Int→Hp→VK→Prop} (hr:SlR X r) (he:PE X e te) (hl:PO X lo tl) (hu:PO X hi th):PE X (.Subscript e (.Slice lo hi none p2) pos) (tSl r te tl th):=by
 intro pins s σ H Q I h;refine Subscript_ (thn (he pins s σ H _ I h) fun v s1 ⟨x,H1,I1,r1,q1⟩=>?_);refine wpAny_Slice (thn (hl pins s1 σ H1 _ I1 q1) fun vl s2 ⟨l,H2,I2,pl,q2⟩=>thn (hu pins s2 σ H2 _ I2 q2) fun vu s3 ⟨u,H3,I3,pu,q3⟩=>?_);rw [evalPart_none];refine wpAny_pure ?_;have I4:Inv X pins σ H3 { s3 with heap:=s3.heap.push { cls:=.type "slice",data:=.fields #[vl,vu,.none] } }:=I3.kept (t':=s3.toks) fun b ob q=>Heap.get?_push_of_some _ q;obtain ⟨T,id,hT,ht,hg⟩:=hr pins { s3 with heap:=s3.heap.push { cls:=.type "slice",data:=.fields #[vl,vu,.none] } } σ H3 x v vl vu l u s3.heap.objs.size Q I4 r1 (Heap.IsSliceOf.new ..) pl pu q3;show wpAny (model X.prog X.w) X.A (subscriptTail e (.Slice lo hi none p2) v (.ref s3.heap.objs.size)) (EP X pins σ Q) X.xe { s3 with heap:=s3.heap.push { cls:=.type "slice",data:=.fields #[vl,vu,.none] } }
 exact tail_any (ops:=[.ref s3.heap.objs.size,v]) ht hT hg (by with_unfolding_all rfl)
def cutV (xs:List V) (lo hi:Option Int):List V:=(xs.drop (HT.sIx xs.length 0 lo)).take (HT.sIx xs.length xs.length hi-HT.sIx xs.length 0 lo)
theorem Zee (xs:List V) (lo hi:Option Int):(cutV xs lo hi).length≤xs.length:=by
 unfold cutV;rw [List.length_take,List.length_drop];omega
def rSlT (K:PySem.W.Frag):V→Option Int→Option Int→Hp→VK→Prop:=fun x lo hi H Q=>∃ a xs,x=.ref a∧SqT K H a xs ∧
 ¬ (HT.sIx xs.length 0 lo=0∧HT.sIx xs.length xs.length hi=xs.length)∧∀ p,H p=none→Q (.ref p) (upd H p (.tup (cutV xs lo hi)))
theorem Zu6:SlR X (rSlT X.K):=by
 intro pins s σ H x v vl vu lo hi sl Q I rx hs pl pu h;obtain ⟨a,xs,rfl,hx,hw,q⟩:=h;cases rx
 obtain ⟨its,r,ht,hz⟩:=I.tuple hx;have hlen:its.toArray.size=xs.length:=by rw [List.size_toArray];exact r.length.symm
 refine ⟨"tuple",_,PyProof.Rows.slot_tuple_getitem.lookup,ht.typeIs,?_⟩;refine HT.getItem_tuple_cut ht hs pl pu (by rw [hlen];exact hw) ?_ (by rw [hlen];exact hz);rw [hlen];refine ⟨.ref s.heap.objs.size,_,I.laid (t':=s.toks) (o:=.tup (cutV xs lo hi)) (fun b ob q=>Heap.get?_push_of_some _ q) (Nat.le_refl _) ?_,rfl,q _ (I.hok.fresh (Nat.le_refl _))⟩;exact ⟨Nat.le_trans (Zee xs lo hi) hz,_,(r.drop (HT.sIx xs.length 0 lo)).take (HT.sIx xs.length xs.length hi-HT.sIx xs.length 0 lo),IsTup.new _ _⟩
def rLtT (K:PySem.W.Frag):R2:=fun x y H Q=>∃ a b ns ms,x=.ref a∧y=.ref b∧SqT K H a (ns.map V.int)∧SqT K H b (ms.map V.int)∧Q (.bl (HT.lexLt ns ms)) H
theorem Zvk (hu:X.A.units<cLine):OpR X (compareOp .Lt) (rLtT X.K):=by
 intro pins s σ H x y v u Q I rx ry h;obtain ⟨a,b,ns,ms,rfl,rfl,ha,hb,q⟩:=h;cases rx
 cases ry
 obtain ⟨its,r1,p1,_⟩:=I.tuple ha;obtain ⟨its2,r2,p2,_⟩:=I.tuple hb;have i1:IntsAre its.toArray.toList ns:=Za7 r1;have i2:IntsAre its2.toArray.toList ms:=Za7 r2;exact HT.lt_tupInts p1 p2 i1 i2 hu ⟨.bl (HT.lexLt ns ms),H,I,rfl,q⟩
theorem Vals.nil_iff {xs:List V} {us:List Value} (r:Vals xs us):us=[]↔xs=[]:=by
 cases r with
 | nil=>simp
 | cons _ _=>simp
end
def ixN (n:Nat) (i:Int):Option Nat:=if 0≤i then (if i<n then some i.toNat else none) else if -(n:Int)≤i then some (i+n).toNat else none
def atI {α:Type} (xs:List α) (i:Int):Option α:=(ixN xs.length i).bind fun j=>xs[j]?
theorem Zi4 {n:Nat} {i:Int} {j:Nat} (h:ixN n i=some j):seqIndex? i n=some j∧j<n∧-(n:Int)≤i∧i<n:=by
 unfold ixN at h
 by_cases h0:0≤i
 · rw [if_pos h0] at h
   by_cases h1:i<n
   · rw [if_pos h1] at h;have e:i.toNat=j:=Option.some.inj h;exact ⟨by rw [seqIndex_of h0 h1,e],by omega,by omega,h1⟩
   · rw [if_neg h1] at h;cases h
 · rw [if_neg h0] at h
   by_cases h1:-(n:Int)≤i
   · rw [if_pos h1] at h;have e:(i+n).toNat=j:=Option.some.inj h;exact ⟨by rw [seqIndex_neg (by omega) h1,e],by omega,h1,by omega⟩
   · rw [if_neg h1] at h;cases h
theorem Zo6 {α:Type} {xs:List α} {i:Int} {v:α} (h:atI xs i=some v):∃ j,seqIndex? i xs.length=some j∧xs[j]? = some v∧j<xs.length∧-(xs.length:Int)≤i∧i<xs.length:=by
 unfold atI at h;cases e:ixN xs.length i with
 | none=>rw [e] at h;cases h
 | some j =>
   rw [e] at h;obtain ⟨h1,h2,h3,h4⟩:=Zi4 e;exact ⟨j,h1,h,h2,h3,h4⟩
theorem X2 {α:Type} {xs:List α} {j:Nat} {v:α} (h:xs[j]? = some v):atI xs (j:Int)=some v:=by
 have hj:j<xs.length:=(List.getElem?_eq_some_iff.mp h).1
 have e:ixN xs.length (j:Int)=some j:=by
  unfold ixN;rw [if_pos (by omega),if_pos (by omega)];simp
 unfold atI;rw [e];exact h
def Zr2 (b:Expr):Prop:=∀ o i,subscripted b false o i=operate [o,i] (getItem o i)
def IxR (X:Cx) (r:R2):Prop :=
 ∀ (value slice:Expr) (pins:List (Addr×Obj)) (s:Shared) (σ:St) (H:Hp) (x y:V) (v u:Value) (Q:VK),Inv X pins σ H s→RelV x v→RelV y u→r x y H Q →
   subscripted slice false v u=operate [v,u] (getItem v u)→wpAny (model X.prog X.w) X.A (subscriptTail value slice v u) (EP X pins σ Q) X.xe s
def MtR (X:Cx) (id:String) (r:V→List V→Hp→VK→Prop):Prop :=
 ∀ (pins:List (Addr×Obj)) (s:Shared) (σ:St) (H:Hp) (x:V) (xs:List V) (v:Value) (us:List Value) (Q:VK),Inv X pins σ H s→RelV x v→Vals xs us→r x xs H Q →
   wpAny (model X.prog X.w) X.A (call (.builtin id) (v :: us)) (EP X pins σ Q) X.xe s
section
variable {X:Cx} {a b:Expr} {ta tb:TE} {pos:Pos}
theorem Zt {r:R2} (hr:IxR X r) (ha:PE X a ta) (hb:PE X b tb) (hs:Zr2 b):PE X (.Subscript a b pos) (tOp r ta tb):=by
 intro pins s σ H Q I h;exact Subscript_ (binT ha hb I h fun v u s2 x y H2 I2 rx ry q=>hr a b pins s2 σ H2 x y v u Q I2 rx ry q (hs _ _))
def rIxL (K:PySem.W.Frag):R2:=fun x y H Q=>∃ p xs i v,x=.ref p∧y=.int i∧SqL K H p xs∧atI xs i=some v∧Q v H
def rIxT (K:PySem.W.Frag):R2:=fun x y H Q=>∃ p xs i v,x=.ref p∧y=.int i∧SqT K H p xs∧atI xs i=some v∧Q v H
theorem Yl:IxR X (rIxL X.K):=by
 intro value slice pins s σ H x y v u Q I rx ry h hs;obtain ⟨p,xs,i,z,rfl,rfl,hq,he,q⟩:=h;cases rx
 obtain ⟨t,rfl⟩:=ry;obtain ⟨its,r,pl,hz⟩:=I.list hq;obtain ⟨j,h1,h2,h3,h4,h5⟩:=Zo6 he;obtain ⟨w,ew,rw'⟩:=r.get h2;have hl:=r.length;have hn:=Zd3;have fin:EP X pins σ Q w s:=⟨z,H,I,rw',q⟩
 by_cases h0:0≤i
 · have hj:i.toNat=j:=by
    rw [seqIndex_of h0 h5] at h1;exact Option.some.inj h1
   exact item_listR pl.isList h0 (by omega) (by rw [hj];simpa using ew) fin hs
 · have hj:(i+(its.toArray.size:Int)).toNat=j:=by
    rw [seqIndex_neg (by omega) h4] at h1;rw [List.size_toArray,← hl];exact Option.some.inj h1
   exact subscriptTail_builtinR (x:=w) pl.isList.typeIs slot_list_getitem.lookup
    (wpAny_getItem_list_neg (Q:=fun r s'=>r=w∧EP X pins σ Q r s') pl.isList (by omega) (by rw [List.size_toArray]<;>omega) (by omega) (by rw [hj];simpa using ew) ⟨rfl,fin⟩) hs
theorem Zu:IxR X (rIxT X.K):=by
 intro value slice pins s σ H x y v u Q I rx ry h hs;obtain ⟨p,xs,i,z,rfl,rfl,hq,he,q⟩:=h;cases rx
 obtain ⟨t,rfl⟩:=ry;obtain ⟨its,r,pl,hz⟩:=I.tuple hq;obtain ⟨j,h1,h2,h3,h4,h5⟩:=Zo6 he;obtain ⟨w,ew,rw'⟩:=r.get h2;have hl:=r.length;have hn:=Zd3;have fin:EP X pins σ Q w s:=⟨z,H,I,rw',q⟩
 exact subscriptTail_builtinR (x:=w) pl.typeIs slot_tuple_getitem.lookup
  (getItem_tuple (j:=j) (Q:=fun r s'=>r=w∧EP X pins σ Q r s') pl (by omega) (by omega) (by rw [List.size_toArray,← hl];exact h1) (by simpa using ew) ⟨rfl,fin⟩) hs
theorem Zmc (its:List Value) (n j:Nat) (u:Value):Obj.mapSeq (·.setIfInBounds j u) { cls:=.type "list",data:=.seq its.toArray n }={ cls:=.type "list",data:=.seq (its.set j u).toArray n }:=by
 simp [Obj.mapSeq]
theorem Inv.lst {pins:List (Addr×Obj)} {σ:St} {H:Hp} {s:Shared} {p:Addr} {xs:List V} (I:Inv X pins σ H s) (h:H p=some (.lst xs)) :
 ∃ (its:List Value) (n:Nat),Vals xs its∧s.heap.get? p=some { cls:=.type "list",data:=.seq its.toArray n }∧xs.length≤sizeLine:=by
 obtain ⟨z,its,n,r,e⟩:=I.hok p _ h;exact ⟨its,n,r,e,z⟩
theorem Inv.lstUpd {pins:List (Addr×Obj)} {σ:St} {H:Hp} {s:Shared} {p:Addr} {xs ys:List V} {its its':List Value} {n n':Nat} {f:Obj→Obj} (I:Inv X pins σ H s) (h:H p=some (.lst xs))
 (ho:s.heap.get? p=some { cls:=.type "list",data:=.seq its.toArray n }) (hf:f { cls:=.type "list",data:=.seq its.toArray n }={ cls:=.type "list",data:=.seq its'.toArray n' }) (r:Vals ys its') (hz:ys.length≤sizeLine) (t:Nat) :
 Inv X pins σ (upd H p (.lst ys)) { s with heap:=s.heap.update p f,toks:=t }:=by
 have e:(s.heap.update p f).get? p=some { cls:=.type "list",data:=.seq its'.toArray n' }:=by
  rw [Heap.get?_update_self f ho (by rw [hf]<;>rfl),hf]
 refine I.write (x:=p) (e:=p) (by rw [h];trivial) (.inl rfl) (fun b u hb q=>(Heap.get?_update_other _ _ (Ne.symm hb)).trans q) ⟨_,e⟩ ?_;exact ⟨hz,its',n',r,e⟩
def Zv9:V→V→V→Hp→(Hp→Prop)→Prop:=fun o i v H Q=>∃ p xs k j,o=.ref p∧i=.int k∧H p=some (.lst xs)∧ixN xs.length k=some j∧Q (upd H p (.lst (xs.set j v)))
theorem Zdx:PSet X Zv9:=by
 intro pins s σ H o i v ov iv u Q I ro ri rv h;obtain ⟨p,xs,k,j,rfl,rfl,hp,hj,q⟩:=h;cases ro
 obtain ⟨t,rfl⟩:=ri;obtain ⟨its,n,r,ho,hz⟩:=I.lst hp;obtain ⟨h1,h2,h3,h4⟩:=Zi4 hj;have hl:=r.length;have hn:=Zd3
 have I':Inv X pins σ (upd H p (.lst (xs.set j v))) { s with heap:=s.heap.update p (Obj.mapSeq (·.setIfInBounds j u)) } :=
  I.lstUpd hp ho (Zmc its n j u) (r.set rv j) (by rw [List.length_set];exact hz) s.toks
 by_cases h0:0≤k
 · have hk:k.toNat=j:=by
    rw [seqIndex_of h0 h4] at h1;exact Option.some.inj h1
   exact PySem.W.ki_setAt ho h0 (by omega) (by rw [List.size_toArray,← hl];exact h4) (by rw [hk];exact ⟨_,I',q⟩)
 · have hk:(k+(its.toArray.size:Int)).toNat=j:=by
    rw [seqIndex_neg (by omega) h3] at h1;rw [List.size_toArray,← hl];exact Option.some.inj h1
   exact PySem.W.ki_setBack ho (by omega) (by rw [List.size_toArray,← hl];exact h3) (by omega) (by rw [hk];exact ⟨_,I',q⟩)
theorem Zie (lo hi:Option Int) (n:Nat):(sliceBounds lo hi none n).1=((HT.sIx n 0 lo:Nat):Int)∧(sliceBounds lo hi none n).2.1=((HT.sIx n n hi:Nat):Int)∧(sliceBounds lo hi none n).2.2=1:=by
 refine ⟨?_,?_,rfl⟩
 · cases lo with
   | none=>simp [sliceBounds,HT.sIx]
   | some i =>
     simp only [sliceBounds,HT.sIx,Option.getD_none,show (1:Int)>0 by decide,if_true]
     by_cases h:i<0
     · simp only [h,if_true]<;>omega
     · simp only [h,if_false]<;>omega
 · cases hi with
   | none=>simp [sliceBounds,HT.sIx]
   | some i =>
     simp only [sliceBounds,HT.sIx,Option.getD_none,show (1:Int)>0 by decide,if_true]
     by_cases h:i<0
     · simp only [h,if_true]<;>omega
     · simp only [h,if_false]<;>omega
theorem Zgb (its:List Value) (lo hi:Option Int):slicePick its.toArray lo hi none=((its.drop (HT.sIx its.length 0 lo)).take (HT.sIx its.length its.length hi-HT.sIx its.length 0 lo)).toArray:=by
 obtain ⟨h1,h2,h3⟩:=Zie lo hi its.toArray.size;unfold slicePick;rw [h1,h2,h3];simp only [sliceRange_one,pick_run,List.size_toArray]<;>rfl
def rSlL (K:PySem.W.Frag):V→Option Int→Option Int→Hp→VK→Prop:=fun x lo hi H Q=>∃ a xs,x=.ref a∧SqL K H a xs∧∀ p,H p=none→Q (.ref p) (upd H p (.lst (cutV xs lo hi)))
theorem Zj3:SlR X (rSlL X.K):=by
 intro pins s σ H x v vl vu lo hi sl Q I rx hs pl pu h;obtain ⟨a,xs,rfl,hx,q⟩:=h;cases rx
 obtain ⟨its,r,ht,hz⟩:=I.list hx;have hlen:=r.length;refine ⟨"list",_,slot_list_getitem.lookup,ht.isList.typeIs,?_⟩;refine wpAny_getItem_list_slice ht.isList hs pl pu .none (by simp) ?_ (by rw [List.size_toArray]<;>omega);rw [Zgb,← hlen];refine ⟨.ref s.heap.objs.size,_,I.laid (t':=s.toks) (o:=.lst (cutV xs lo hi)) (fun b ob q=>Heap.get?_push_of_some _ q) (Nat.le_refl _) ?_,rfl,q _ (I.hok.fresh (Nat.le_refl _))⟩;exact ⟨Nat.le_trans (Zee xs lo hi) hz,_,0,(r.drop (HT.sIx xs.length 0 lo)).take (HT.sIx xs.length xs.length hi-HT.sIx xs.length 0 lo),Heap.get?_push_size _ rfl⟩
def Zhj:V→Bool
 | .non=>true
 | .bl _=>true
 | .int _=>true
 | .str _=>true
 | _=>false
def eqV:V→V→Bool
 | .non,.non=>true
 | .bl a,.bl b=>a == b
 | .bl a,.int b=>(if a then 1 else 0) == b
 | .int a,.bl b=>a == (if b then 1 else 0)
 | .int a,.int b=>a == b
 | .str a,.str b=>a == b
 | _,_=>false
theorem Zt8 {A:Around} {s:Shared} {y x:V} {u v:Value} (ry:RelV y u) (rx:RelV x v) (fy:Zhj y=true) (fx:Zhj x=true):SeqAt.EqAt A s u v (eqV y x):=by
 cases y with
 | non =>
   cases ry
   cases x with
   | non=>cases rx;exact SeqAt.EqAt.same _
   | bl b=>cases rx;exact SeqAt.EqAt.none_bool b
   | int b=>obtain ⟨t,rfl⟩:=rx;exact SeqAt.EqAt.none_int b t
   | str b=>obtain ⟨t,rfl⟩:=rx;exact SeqAt.EqAt.none_str b t
   | _=>exact absurd (show false=true from fx) Bool.false_ne_true
 | bl a =>
   cases ry
   cases x with
   | non=>cases rx;exact SeqAt.EqAt.bool_none a
   | bl b=>cases rx;exact SeqAt.EqAt.bool_bool a b
   | int b=>obtain ⟨t,rfl⟩:=rx;exact SeqAt.EqAt.bool_int a b t
   | str b=>obtain ⟨t,rfl⟩:=rx;exact SeqAt.EqAt.bool_str a b t
   | _=>exact absurd (show false=true from fx) Bool.false_ne_true
 | int a =>
   obtain ⟨t',rfl⟩:=ry;cases x with
   | non=>cases rx;exact SeqAt.EqAt.int_none a t'
   | bl b=>cases rx;exact SeqAt.EqAt.int_bool a t' b
   | int b=>obtain ⟨t,rfl⟩:=rx;exact SeqAt.EqAt.int_int a t' b t
   | str b=>obtain ⟨t,rfl⟩:=rx;exact SeqAt.EqAt.int_str a t' b t
   | _=>exact absurd (show false=true from fx) Bool.false_ne_true
 | str a =>
   obtain ⟨t',rfl⟩:=ry;cases x with
   | non=>cases rx;exact SeqAt.EqAt.str_none a t'
   | bl b=>cases rx;exact SeqAt.EqAt.str_bool a t' b
   | int b=>obtain ⟨t,rfl⟩:=rx;exact SeqAt.EqAt.str_int a t' b t
   | str b=>obtain ⟨t,rfl⟩:=rx;exact SeqAt.EqAt.str_str a t' b t
   | _=>exact absurd (show false=true from fx) Bool.false_ne_true
 | _=>exact absurd (show false=true from fy) Bool.false_ne_true
def eqU (x:V) (u:Value):Bool:=match u with
 | .none=>eqV .non x
 | .bool b=>eqV (.bl b) x
 | .int i _=>eqV (.int i) x
 | .str z _=>eqV (.str z) x
 | _=>false
theorem Zrm {x y:V} {u:Value} (r:RelV y u) (f:Zhj y=true):eqU x u=eqV y x:=by
 cases y with
 | non=>cases r;rfl
 | bl b=>cases r;rfl
 | int i=>obtain ⟨t,rfl⟩:=r;rfl
 | str z=>obtain ⟨t,rfl⟩:=r;rfl
 | _=>exact absurd (show false=true from f) Bool.false_ne_true
theorem Zjy {x:V}:∀ {xs:List V} {us:List Value},Vals xs us→xs.all Zhj=true→us.any (eqU x)=xs.any fun y=>eqV y x
 | _,_,.nil,_=>rfl
 | y :: xs,u :: us,.cons r t,f=>by
   rw [List.all_cons,Bool.and_eq_true] at f;rw [List.any_cons,List.any_cons,Zrm r f.1,Zjy t f.2]
theorem Zgc {A:Around} {s:Shared} {x:V} {v:Value} (rx:RelV x v) (fx:Zhj x=true):∀ {xs:List V} {us:List Value},Vals xs us→xs.all Zhj=true→∀ u∈us,SeqAt.EqAt A s u v (eqU x u)
 | _,_,.nil,_=>fun u hu=>by cases hu
 | y :: xs,u :: us,.cons r t,f=>fun u' hu=>by
   rw [List.all_cons,Bool.and_eq_true] at f
   rcases List.mem_cons.mp hu with rfl|hu
   · rw [Zrm r f.1];exact Zt8 r rx f.1 fx
   · exact Zgc rx fx t f.2 u' hu
def inV (x:V) (xs:List V):Bool:=xs.any fun y=>eqV y x
def rIn (K:PySem.W.Frag) (neg:Bool):R2:=fun x y H Q=>∃ p xs,y=.ref p∧(SqL K H p xs∨SqT K H p xs)∧Zhj x=true∧xs.all Zhj=true∧Q (.bl (if neg then !inV x xs else inV x xs)) H
theorem Zhz:OpR X (compareOp .NotIn) (rIn X.K true):=by
 intro pins s σ H x y v u Q I rx ry h;obtain ⟨p,xs,rfl,hq,fx,fs,q⟩:=h;cases ry
 rcases hq with hq|hq
 · obtain ⟨its,r,pl,hz⟩:=I.list hq;refine SeqAt.notIn_listAt (eqU x) pl.isList (fun w hw=>Zgc rx fx r fs w (by simpa using hw)) ⟨.bl _,H,I,rfl,?_⟩;rw [show its.toArray.any (eqU x)=its.any (eqU x) by simp,Zjy r fs];exact q
 · obtain ⟨its,r,pl,hz⟩:=I.tuple hq;refine SeqAt.notIn_tupleAt (eqU x) pl (fun w hw=>Zgc rx fx r fs w (by simpa using hw)) ⟨.bl _,H,I,rfl,?_⟩;rw [show its.toArray.any (eqU x)=its.any (eqU x) by simp,Zjy r fs];exact q
theorem Zp:X1 X (.builtin "len") (fun xs H Q=>∃ p ys,xs=[.ref p]∧(SqL X.K H p ys∨SqT X.K H p ys)∧Q (.int ys.length) H):=by
 intro pins s σ H xs us Q I r h;obtain ⟨p,ys,rfl,hq,q⟩:=h;obtain ⟨u,rfl,rx⟩:=Zno r;cases rx
 have hn:=Zd3
 rcases hq with hq|hq
 · obtain ⟨its,r',pl,hz⟩:=I.list hq;have hlen:=r'.length;exact Calls.call_len_list pl.isList (by simp only [List.size_toArray]<;>omega) ⟨.int ys.length,H,I.tok _,⟨s.toks+1,by rw [List.size_toArray,hlen]⟩,q⟩
 · obtain ⟨its,r',pl,hz⟩:=I.tuple hq;have hlen:=r'.length;exact len_tuple pl (by simp only [List.size_toArray]<;>omega) ⟨.int ys.length,H,I.tok _,⟨s.toks+1,by rw [List.size_toArray,hlen]⟩,q⟩
theorem Z1:X1 X (.type "tuple") (fun xs H Q=>∃ p ys,xs=[.ref p]∧((SqL X.K H p ys∧∀ l,H l=none→Q (.ref l) (upd H l (.tup ys)))∨(SqT X.K H p ys∧Q (.ref p) H))):=by
 intro pins s σ H xs us Q I r h;obtain ⟨p,ys,rfl,h⟩:=h;obtain ⟨u,rfl,rx⟩:=Zno r;cases rx
 rcases h with ⟨hq,q⟩|⟨hq,q⟩
 · obtain ⟨its,r',pl,hz⟩:=I.list hq;have hlen:=r'.length;refine call_tuple_list pl.isList (fun h' kp=>?_) (by simp only [List.size_toArray]<;>omega);have I1:Inv X pins σ H { s with heap:=h' }:=I.kept (t':=s.toks) kp
   have I2:Inv X pins σ (upd H h'.objs.size (.tup ys)) { s with heap:=h'.push { cls:=.type "tuple",data:=.seq its.toArray } } :=
    I1.laid (t':=s.toks) (fun b o e=>Heap.get?_push_of_some _ e) (Nat.le_refl _) (show ObjOk X.prog X.w _ _ _ (.tup ys) from ⟨hz,its,r',IsTup.new _ _⟩)
   exact ⟨.ref h'.objs.size,_,I2,rfl,q _ (I1.hok.fresh (Nat.le_refl _))⟩
 · obtain ⟨its,r',pl,hz⟩:=I.tuple hq;exact call_tuple_same pl ⟨.ref p,H,I,rfl,q⟩
def tyV (K:PySem.W.Frag) (T:String) (x:V) (H:Hp):Prop:=match x with
 | .str _=>T = "str"
 | .int _=>T = "int"
 | .ref p=>(T = "list" ∧ ∃ xs,SqL K H p xs)∨(T = "tuple" ∧ ∃ o,K.lookup p=some o∧o.cls=.type "tuple" ∧ o.dict=none) ∨
    (T = "dict" ∧ ((∃ kvs,H p=some (.dK kvs))∨∃ kvs,H p=some (.dT kvs)))∨(T = "set" ∧ ∃ S n,H p=some (.set S n))
 | _=>False
theorem Zrt {pins:List (Addr×Obj)} {σ:St} {H:Hp} {s:Shared} {T:String} {x:V} {v:Value} (I:Inv X pins σ H s) (r:RelV x v) (ty:tyV X.K T x H) :
 s.TypeIs v T∧∀ a,v=.ref a→∃ ob,s.heap.get? a=some ob∧ob.dict=none:=by
 cases x with
 | str z =>
   obtain ⟨t,rfl⟩:=r;cases (show T = "str" from ty)
   exact ⟨typeIs_str s z t,fun _ e=>nomatch e⟩
 | int i =>
   obtain ⟨t,rfl⟩:=r;cases (show T = "int" from ty)
   exact ⟨typeIs_int s i t,fun _ e=>nomatch e⟩
 | ref p =>
   cases r
   rcases ty with ⟨rfl,xs,hq⟩|⟨rfl,o,hk,hc,hd⟩|⟨rfl,hk⟩|⟨rfl,S,n,hk⟩
   · obtain ⟨its,_,pl,_⟩:=I.list hq;refine ⟨pl.isList.typeIs,fun a e=>?_⟩;cases e
     obtain ⟨o,n,e,c,hd,_⟩:=pl;exact ⟨o,e,hd⟩
   · refine ⟨⟨o,I.kIn p o hk,hc⟩,fun a e=>?_⟩;cases e
     exact ⟨o,I.kIn _ o hk,hd⟩
   · have z:∃ o,s.heap.get? p=some o∧o.ExactDict:=by
      rcases hk with ⟨kvs,hk⟩|⟨kvs,hk⟩
      · obtain ⟨_,_,_,_,o,_,_,e,ex,_⟩:=I.hok p _ hk;exact ⟨o,e,ex⟩
      · obtain ⟨_,_,_,_,o,_,_,e,ex,_⟩:=I.hok p _ hk;exact ⟨o,e,ex⟩
     obtain ⟨o,e,ex⟩:=z;refine ⟨⟨o,e,ex.1⟩,fun a e2=>?_⟩;cases e2
     exact ⟨o,e,ex.2.1⟩
   · obtain ⟨o,_,_,_,e,ex,_⟩:=I.hok p _ hk;refine ⟨⟨o,e,ex.1⟩,fun a e2=>?_⟩;cases e2
     exact ⟨o,e,ex.2.1⟩
 | _=>exact False.elim ty
def tBM0 (K:PySem.W.Frag) (T:String) (r:V→List V→Hp→VK→Prop) (to:TE):TE:=fun σ H Q=>to σ H fun x H1=>tyV K T x H1∧r x [] H1 Q
def tBM (K:PySem.W.Frag) (T:String) (r:V→List V→Hp→VK→Prop) (to:TE) (t:TA):TE:=fun σ H Q=>to σ H fun x H1=>tyV K T x H1∧t σ H1 fun xs H2=>r x xs H2 Q
variable {o e:Expr} {es:List Expr} {to:TE} {t:TA} {name:Str} {apos cpos:Pos} {T id:String} {r:V→List V→Hp→VK→Prop}
theorem Zq2 (pa:PlainAttrs T) (slot:Slot T name id) (hty:typeOf (.builtin id)=pure (.type "method_descriptor")) (hm:MtR X id r) (ho:PE X o to)
 (hbase:attributeBase o name X.env (eval o X.env)=eval o X.env:=by rfl) (hline:(apos.endLine == cpos.line)=true:=by rfl):PE X (.Call (.Attribute o name apos) [] [] cpos) (tBM0 X.K T r to):=by
 intro pins s σ H Q I h;refine wpAny_Call_method0_late hbase hline (thn (ho pins s σ H _ I h) fun v s1 ⟨x,H1,I1,r1,ty,q1⟩=>?_);obtain ⟨h1,h2⟩:=Zrt I1 r1 ty;exact ⟨T,id,pa,slot,hty,h1,h2,Calls.callWith_builtin rfl (PySem.evalArgs_none (hm pins s1 σ H1 x [] v [] Q I1 r1 .nil q1))⟩
theorem Znc (pa:PlainAttrs T) (slot:Slot T name id) (hty:typeOf (.builtin id)=pure (.type "method_descriptor")) (hm:MtR X id r) (ho:PE X o to) (ha:PA X (e :: es) t)
 (hbase:attributeBase o name X.env (eval o X.env)=eval o X.env:=by rfl)
 (hfew:((backTo cpos (starEach (e :: es) X.env)).all (fun x=>!x.1)&&(backToKw cpos (keywordEach [] X.env)).all (fun x=>x.1.isSome)
   && decide ((e :: es).length+([]:List Keyword).length+(if ([]:List Keyword).isEmpty then 0 else 1)<30))=true:=by rfl)
 (hline:(apos.endLine == cpos.line)=true:=by rfl) (hs:starEach (e :: es) X.env=(false,eval e X.env) :: starEach es X.env:=by rfl) (hplain:(backTo cpos (starEach es X.env)).any (·.1)=false:=by rfl) :
 PE X (.Call (.Attribute o name apos) (e :: es) [] cpos) (tBM X.K T r to t):=by
 intro pins s σ H Q I h;refine wpAny_Call_method_late hbase hfew hline rfl (thn (ho pins s σ H _ I h) fun v s1 ⟨x,H1,I1,r1,ty,q1⟩=>?_);obtain ⟨h1,h2⟩:=Zrt I1 r1 ty;refine ⟨T,id,pa,slot,hty,h1,h2,?_⟩;have hA:=ha cpos pins s1 σ H1 _ I1 q1;rw [hs] at hA ⊢;refine Calls.callWith_builtin (by show (false||(backTo cpos (starEach es X.env)).any (·.1))=false;rw [hplain]<;>rfl) (Calls.evalArgs_plain ?_);exact thn hA fun us s2 ⟨vs,H2,I2,r2,q2⟩=>hm pins s2 σ H2 x vs v us Q I2 r1 r2 q2
/- xs.append(e),list.index on a module's tuple .. are MtR facts of 06m -/
end
def MtM (X:Cx) (id:String) (r:V→List V→Hp→VK→Prop):Prop :=
 ∀ (pins:List (Addr×Obj)) (s:Shared) (σ:St) (H:Hp) (x:V) (xs:List V) (v:Value) (us:List Value) (Q:VK),Inv X pins σ H s→RelV x v→Vals xs us→r x xs H Q →
   wpAny (model X.prog X.w) X.A (call (.builtin id) (v :: us)) (EP X pins σ Q) X.xe s
theorem Vals.one:∀ {x:V} {us:List Value},Vals [x] us→∃ u,us=[u]∧RelV x u
 | _,_,.cons r .nil=>⟨_,rfl,r⟩
theorem Vals.eraseIdx:∀ {xs:List V} {us:List Value} (i:Nat),Vals xs us→Vals (xs.eraseIdx i) (us.eraseIdx i)
 | _,_,_,.nil=>.nil
 | _,_,0,.cons _ t=>t
 | _,_,i+1,.cons r t=>.cons r (Vals.eraseIdx i t)
theorem Vals.rep {xs:List V} {us:List Value} (h:Vals xs us):∀ k:Nat,Vals (List.replicate k xs).flatten (List.replicate k us).flatten
 | 0=>.nil
 | k+1=>by
   rw [List.replicate_succ,List.replicate_succ,List.flatten_cons,List.flatten_cons];exact Vals.append h (Vals.rep h k)
theorem Zhs {α:Type}:∀ (l:List α) (i:Nat),(l.eraseIdx i).length≤l.length
 | [],_=>Nat.le_refl _
 | _ :: _,0=>Nat.le_succ _
 | _ :: r,i+1=>Nat.succ_le_succ (Zhs r i)
theorem Zh1 (its:List Value):∀ (k:Nat) (acc:List Value),
 List.foldl (fun x1 x2=>x1++x2) acc.toArray (List.replicate k its.toArray)=(acc++(List.replicate k its).flatten).toArray
 | 0,acc=>by simp
 | k+1,acc=>by
   have e:acc.toArray++its.toArray=(acc++its).toArray:=by simp
   have e2:(acc++its)++(List.replicate k its).flatten=acc++(List.replicate (k+1) its).flatten:=by
    rw [List.replicate_succ,List.flatten_cons,List.append_assoc]
   rw [← e2,← Zh1 its k (acc++its),← e,List.replicate_succ,List.foldl_cons]
section
variable {X:Cx} {pins:List (Addr×Obj)} {σ:St} {H:Hp} {s:Shared} {l b:Addr} {xs ys zs:List V}
theorem Inv.lset {its its':List Value} {n:Nat} {f:Array Value→Array Value} {t':Nat} (I:Inv X pins σ H s) (hH:H l=some (.lst xs))
 (e:s.heap.get? l=some { cls:=.type "list",data:=.seq its.toArray n }) (hf:f its.toArray=its'.toArray) (hv:Vals ys its') (hz:ys.length≤sizeLine) :
 Inv X pins σ (upd H l (.lst ys)) { s with heap:=s.heap.update l (Obj.mapSeq f),toks:=t' }:=by
 have q:=PySem.IsL.update e f;rw [hf] at q;refine I.write (x:=l) (e:=l) (by rw [hH];exact trivial) (.inl rfl) (fun b' u hb hu=>(Heap.get?_update_other s.heap (Obj.mapSeq f) (Ne.symm hb)).trans hu) ⟨_,q⟩ ?_;exact ⟨hz,its',_,hv,q⟩
theorem Inv.lnew {its:List Value} {t':Nat} (I:Inv X pins σ H s) (hv:Vals ys its) (hz:ys.length≤sizeLine) :
 Inv X pins σ (upd H s.heap.objs.size (.lst ys)) { s with heap:=s.heap.push { cls:=.type "list",data:=.seq its.toArray },toks:=t' } :=
 I.laid (fun _ _ q=>Heap.get?_push_of_some _ q) (Nat.le_refl _) ⟨hz,its,0,hv,Heap.get?_push_size _ rfl⟩
theorem Inv.fresh (I:Inv X pins σ H s):H s.heap.objs.size=none:=I.hok.fresh (Nat.le_refl _)
theorem Inv.lstM (I:Inv X pins σ H s) (hH:H l=some (.lst xs)):xs.length≤sizeLine∧∃ (its:List Value) (n:Nat),Vals xs its∧xs.length=its.length∧s.heap.get? l=some { cls:=.type "list",data:=.seq its.toArray n }:=by
 obtain ⟨z,its,n,r,e⟩:=I.hok l _ hH;exact ⟨z,its,n,r,r.length,e⟩
theorem Zpi {n:Nat} (h:n≤sizeLine):Builtin.List.listTooLong n=false:=by
 unfold Builtin.List.listTooLong;exact decide_eq_false (by omega)
end
section
variable {X:Cx}
def Zsz:V→List V→Hp→VK→Prop:=fun x vs H Q=>∃ l xs y,x=.ref l∧vs=[y]∧H l=some (.lst xs)∧xs.length<sizeLine∧Q .non (upd H l (.lst (xs++[y])))
theorem X4:MtM X "list.append" Zsz:=by
 intro pins s σ H x vs v us Q I rx rv h;obtain ⟨l,xs,y,rfl,rfl,hH,hz,q⟩:=h;cases rx
 obtain ⟨u,rfl,ru⟩:=rv.one;obtain ⟨z,its,n,r,hl,e⟩:=I.lstM hH;refine call_meets F.slot_list_append ⟨_,e,rfl⟩ F.entry_list_append (F.args_list_append_2 _ _) (PySem.list_append l its.toArray n u (by rw [List.size_toArray];omega)) ⟨e,?_⟩;refine ⟨.non,_,I.lset (its':=its++[u]) hH e (by simp) (r.append (.cons ru .nil)) ?_,rfl,q⟩;rw [List.length_append,List.length_singleton];omega
def Zvh:V→List V→Hp→VK→Prop:=fun x vs H Q=>∃ l xs i k y,x=.ref l∧vs=[.int i]∧H l=some (.lst xs)∧-(2^63)≤i∧i<2^63∧seqIndex? i xs.length=some k∧xs[k]? = some y∧Q y (upd H l (.lst (xs.eraseIdx k)))
theorem Zqk:MtM X "list.pop" Zvh:=by
 intro pins s σ H x vs v us Q I rx rv h;obtain ⟨l,xs,i,k,y,rfl,rfl,hH,h1,h2,hk,hy,q⟩:=h;cases rx
 obtain ⟨u,rfl,ru⟩:=rv.one;obtain ⟨t,rfl⟩:=ru;obtain ⟨z,its,n,r,hl,e⟩:=I.lstM hH;obtain ⟨w,hw,rw'⟩:=r.get hy
 refine call_meets F.slot_list_pop ⟨_,e,rfl⟩ F.entry_list_pop (F.args_list_pop_2 _ _)
  (MeetsSeq.list_pop_at l its.toArray n i t k w (fitsIndex_both h1 h2) (by rw [List.size_toArray,← hl];exact hk) (by rw [← Array.getElem?_toList];exact hw) (by rw [List.size_toArray];omega)) ⟨e,?_⟩
 refine ⟨y,_,I.lset (its':=its.eraseIdx k) hH e ?_ (r.eraseIdx k) ?_,rw',q⟩
 · show its.toArray.eraseIdxIfInBounds k=(its.eraseIdx k).toArray
   rw [List.eraseIdxIfInBounds_toArray]
 · have:=Zhs xs k
   omega
def rCat:R2:=fun x y H Q=>∃ l b xs zs,x=.ref l∧y=.ref b∧H l=some (.lst xs)∧H b=some (.lst zs)∧xs.length+zs.length≤sizeLine∧∀ p,H p=none→Q (.ref p) (upd H p (.lst (xs++zs)))
theorem Zo5:OpR X (binaryOp .Add) rCat:=by
 intro pins s σ H x y v u Q I rx ry h;obtain ⟨l,b,xs,zs,rfl,rfl,hH,hB,hz,q⟩:=h;cases rx
 cases ry
 obtain ⟨z,its,n,r,hl,e⟩:=I.lstM hH;obtain ⟨z2,its2,n2,r2,hl2,e2⟩:=I.lstM hB;refine PySem.P.add_list e e2 ?_ (by rw [List.size_toArray,List.size_toArray];omega);have ea:its.toArray++its2.toArray=(its++its2).toArray:=by simp
 rw [ea];exact ⟨.ref _,_,I.lnew (t':=s.toks) (r.append r2) (by rw [List.length_append];omega),rfl,q _ I.fresh⟩
def rRep:R2:=fun x y H Q=>∃ l k xs,x=.ref l∧y=.int k∧H l=some (.lst xs)∧-(2^63)≤k∧k<2^63∧xs.length*k.toNat≤sizeLine ∧
 ∀ p,H p=none→Q (.ref p) (upd H p (.lst (List.replicate k.toNat xs).flatten))
theorem Zso {α:Type} (xs:List α) (k:Nat):(List.replicate k xs).flatten.length=k*xs.length:=by
 induction k with
 | zero=>simp
 | succ k ih=>rw [List.replicate_succ,List.flatten_cons,List.length_append,ih,Nat.succ_mul,Nat.add_comm]
theorem Zna:OpR X (binaryOp .Mult) rRep:=by
 intro pins s σ H x y v u Q I rx ry h;obtain ⟨l,k,xs,rfl,rfl,hH,h1,h2,hz,q⟩:=h;cases rx
 obtain ⟨t,rfl⟩:=ry;obtain ⟨z,its,n,r,hl,e⟩:=I.lstM hH;have hlen:its.toArray.size*k.toNat≤sizeLine:=by rw [List.size_toArray,← hl];exact hz
 have hcap:¬ its.toArray.size*k.toNat>(2^63-1)/8:=by
  have:(sizeLine:Nat)≤(2^63-1)/8:=by decide
  omega
 have hfit:¬ (!Builtin.List.listFitsIndex k)=true:=by
  rw [fitsIndex_both h1 h2];exact Bool.false_ne_true
 have hlong:¬ Builtin.List.listTooLong (its.toArray.size*k.toNat)=true:=by
  rw [Zpi hlen];exact Bool.false_ne_true
 have hnew:List.foldl (fun x1 x2=>x1++x2) #[] (List.replicate (if its.toArray.isEmpty=true then 0 else k.toNat) its.toArray)=(List.replicate k.toNat its).flatten.toArray:=by
  have f0:∀ m:Nat,List.foldl (fun x1 x2=>x1++x2) #[] (List.replicate m its.toArray)=(List.replicate m its).flatten.toArray:=fun m=>by
   have:=Zh1 its m []
   rw [List.nil_append] at this;exact this
  rw [f0];cases its with
  | nil=>simp
  | cons a r'=>rw [if_neg (by simp)]
 refine wpAny_binaryOp_repeat_ref (T := "list") (U := "int") (by decide) ⟨_,e,rfl⟩ (fun s'=>typeIs_int s' k t) noFill_list_mul F.fills_int_mul F.slot_int_rmul repeat_list F.slot_int_index.lookup
  (call_meets F.slot_int_rmul (typeIs_int s k t) F.entry_int_rmul (F.args_int_rmul_2 _ _) (int___rmul___int_list k t l its.toArray n)
    ⟨e,rfl,⟨_,e,rfl⟩,call_meets F.slot_list_mul ⟨_,e,rfl⟩ F.entry_list_mul (F.args_list_mul_2 _ _) (AutoListH.list___mul___list_int_3 l its.toArray n k t hfit hcap hlong) ⟨e,?_⟩⟩)
 rw [hnew];exact ⟨.ref _,_,I.lnew (t':=s.toks) (r.rep k.toNat) (by rw [Zso,Nat.mul_comm];exact hz),rfl,q _ I.fresh⟩
end
section
variable {prog:Program} {w:World} {A:Around} {E:Value→Shared→Prop} {s:Shared}
set_option maxRecDepth 100000 in
end
section
variable {X:Cx}
end
end L2
namespace Att
open PySem PySem.W PySem.Calls PyProof.Rows
theorem Zd5 {P:Params} {h:Heap}:∀ (ns:List Int) (vs:List Value),WellAll P h vs (ns.map WData.int)→IntsAre vs ns:=by
 intro ns
 induction ns with
 | nil =>
   intro vs w;rw [List.map_nil] at w;cases w
   exact .nil
 | cons n ns ih =>
   intro vs w;rw [List.map_cons] at w;cases w with
   | cons a b =>
     cases a
     exact .cons _ _ (ih _ b)
theorem Zni {l:OpenLaw} {n:Nat} (hn:l.most=some n) {P:Params} {h:Heap} {args:List WData} {vals:List Value}
 (hpre:l.row.toRowW.claim.pre args=true) (hwl:WellAll P h vals args) :
 ∃ a vs ns,vals=[Value.ref a]∧args=[WData.list (ns.map WData.int)]∧h.get? a=some { cls:=.type "list",data:=.seq vs.toArray }∧IntsAre vs ns∧ns.length≤n:=by
 have hsh:WShape.hasAll [] args [.list .int]=true:=(pre_splitW hpre).1;have hc:l.pre.holds [] { args:=args }=true:=(pre_splitW hpre).2;obtain ⟨d,r,rfl,h1,h2⟩:=hasAllW_cons hsh;obtain rfl:=hasAllW_nil h2;obtain ⟨xs,rfl,h3⟩:=hasW_list h1;obtain ⟨ns,rfl⟩:=items_int h3
 have hlen:ns.length≤n:=by
  unfold OpenLaw.pre at hc
  have h4:(WTm.not (.lt (.lit (.int (n:Int))) (.len (.arg 0)))).holds [] { args:=[.list (ns.map .int)] }=true:=by
   have h4:=(holds_andW hc).1;rw [hn] at h4;exact h4
  have h5:=condW_of h4 (w_not (w_lt w_lit (w_len_list (w_arg rfl))));rw [List.length_map] at h5;refine Nat.le_of_not_lt fun q=>?_;have q':(n:Int)<((ns.length:Nat):Int):=by omega
  first
   | (rw [decide_eq_true q'] at h5;exact absurd h5 (by decide))
   | (simp at h5;omega)
 cases hwl with
 | cons w1 w2 =>
   cases w2
   cases w1 with
   | list ho hall=>exact ⟨_,_,ns,rfl,rfl,ho,Zd5 ns _ hall,hlen⟩
theorem Zmy (l:OpenLaw) (args:List WData):l.row.toRowW.claim.post args (.bool true) args=true :=
 postW_of (r:=l.row.toRowW) (X:=(true == true))
  (show WShape.has [] (.bool true) .bool=true by first|rfl|decide|simp [WShape.has,WShape.arms,WShape.armsAll])
  (show (WTm.eq .res (.lit (.bool true))).value [] { args:=args,res:=some (.bool true),after:=args }=some (.bool (true == true)) from w_eq_bool (w_res rfl) w_lit) rfl
theorem attach_call {l:OpenLaw} {n:Nat} {q:Program} {loose:List Str} {XP:(Str→Option Value)→Heap→Prop} {YP:World→Heap→Prop} {d:DefRec}
 (hn:l.most=some n) (hdf:d.params.defaults=[])
 (call:∀ (w:World) (s₀ s₁:Shared) (mg mb:Str→Option Value) (fa:Addr) (o:Obj) (pm cd doc:Value) (a:Addr) (vs:List Value) (ns:List Int),
   Ground q loose [] XP w s₀ mg mb s₁.heap→YP w s₁.heap →
   s₁.heap.get? fa=some o→o.data=.func (docDef d.name d.params d.body d.scope pm cd doc)→s₁.heap.CodeRec cd d.name→mg d.name=some (.ref fa) →
   s₁.heap.get? a=some { cls:=.type "list",data:=.seq vs.toArray }→IntsAre vs ns→ns.length≤n→s₁.gens=#[] →
   codeAny (model l.prog w) callerA (.call (.ref fa) ⟨[.ref a],[]⟩) (fun r s'=>r=.ok (.ret (.bool true))∧OldK s₁.heap s'.heap∧s'.os=s₁.os∧AllBare s'.gens) s₁) :
 WalkO q loose XP YP l.row.toRowW d [] (fun f vs=>PySem.call f vs):=by
 intro w s₀ s₁ mg mb G Y fa o pm cd doc dV kV ho hd hcd hD hmg hg args vals as hpre hlay hrd hwl hlo;obtain rfl:dV=.none:=Dflts.none hD hdf;obtain rfl:kV=.none:=Dflts.noKw hD;obtain ⟨a,vs,ns,rfl,rfl,hobj,hints,hlen⟩:=Zni hn hpre hwl;refine enter_call (codeAny_mono (call w s₀ s₁ mg mb fa o pm cd doc a vs ns G Y ho (fd_plain hd) hcd hmg hobj hints hlen hg) fun r s' hq=>?_);obtain ⟨rfl,h2,h3,h4⟩:=hq;exact ⟨.inl ⟨.bool true,.bool true,[],rfl,fun _=>rfl,.bool true,Zmy l _,fun _=>⟨List.Pairwise.nil,fun _ hm=>(nomatch hm)⟩⟩,h2,h3,h4⟩
section
variable {prog:Program} {w:World} {A:Around} {E:Value→Shared→Prop} {s:Shared} {K:Frag}
end
end Att
namespace L2
open PySem PySem.Spec PyProof.Rows
theorem Zhh:∀ {vs:List Value} {ns:List Int},IntsAre vs ns→Vals (ns.map V.int) vs
 | _,_,.nil=>.nil
 | _,_,.cons n t h=>.cons ⟨t,rfl⟩ (Zhh h)
def Only (H:Hp):Prop:=∀ b,H b=none∨∃ o xs,H b=some (.frz o (.lst xs))
theorem Zqq {P:Program} {w:World} {K:PySem.W.Frag} {mg mb:Str→Option Value} {CX:CXT} {k:Nat} {fa a:Addr} {fd:FuncData} {x:Str} {sp:Sp} {s₁:Shared} {vs:List Value} {ns:List Int}
 (KX:K.In s₁.heap) (hns:s₁.heap.Ns mainGlobals mg) (hb:s₁.heap.Ns builtinsNs mb) (hbb:∀ x:Str,x ≠ "__name__" → mb x=bootBuiltins x) (hlim:s₁.heap.NoLimit) (hg:s₁.gens=#[])
 (ha:s₁.heap.get? a=some { cls:=.type "list",data:=.seq vs.toArray }) (hi:IntsAre vs ns) (hl:ns.length≤sizeLine) (hr:Room k callerA)
 (F:∀ base:Heap,K.In base→base.Ns mainGlobals mg→FnOk P w K mg base CX k fa fd [x] sp) (hbind:∀ (s:Shared) (u:Value),BindsTo s fd ⟨[u],[]⟩ [(x,u)])
 (hsp:∀ H:Hp,Only H→SqL K H a (ns.map V.int)→sp [.ref a] H (fun v _=>v=.bl true) fun _ _ _=>False)
 (hCX:∀ H e s',CX [] H s₁ (fun _ _ _=>False) e s'→False) :
 codeAny (model P w) callerA (.call (.ref fa) ⟨[.ref a],[]⟩) (fun r s'=>r=.ok (.ret (.bool true))∧OldK s₁.heap s'.heap∧s'.os=s₁.os∧AllBare s'.gens) s₁:=by
 have rv:=Zhh hi;have lenV:=hi.length
 have core:∀ H:Hp,Only H→SqL K H a (ns.map V.int)→HOk P w H s₁.heap→(∀ b,H b≠none→b=a)→(H a≠none→K.lookup a=none) →
  codeAny (model P w) callerA (.call (.ref fa) ⟨[.ref a],[]⟩) (fun r s'=>r=.ok (.ret (.bool true))∧OldK s₁.heap s'.heap∧s'.os=s₁.os∧AllBare s'.gens) s₁:=by
  intro H hO hS hok hA hK;have Zgr:∀ {b:Addr} {o:Obj},s₁.heap.get? b=some o→H b=none→(hidT s₁.heap H).get? b=some o:=fun e n=>Zqp e n
  have noA:∀ {b:Addr} {o:Obj} {es:Array DictEntry} {ep:Nat},s₁.heap.get? b=some o→o.data=.dict es ep→H b=none:=fun {b o es ep} e d=>by
   cases q:H b with
   | none=>rfl
   | some u =>
     have e':b=a:=hA b (by rw [q];simp);subst e';rw [ha] at e;cases e;have d':Data.seq vs.toArray _=Data.dict es ep:=d;cases d'
  have nsK:∀ {b:Addr} {m:Str→Option Value},s₁.heap.Ns b m→(hidT s₁.heap H).Ns b m:=fun {b m} ⟨o,es,ep,e,d,r⟩=>⟨o,es,ep,Zgr e (noA e d),d,r⟩
  have hKb:K.In (hidT s₁.heap H):=fun b o e=>Zgr (KX b o e) (by
   cases q:H b with
   | none=>rfl
   | some u =>
     have e':b=a:=hA b (by rw [q];simp);subst e';rw [hK (by rw [q];simp)] at e;cases e)
  have hM:Mod K mg (hidT s₁.heap H):=⟨hKb,nsK hns,⟨mb,nsK hb,hbb⟩,let ⟨mc,h1,h2⟩:=hlim;⟨mc,nsK h1,h2⟩⟩;have e0:Env0 P w K mg (hidT s₁.heap H) callerA [] s₁ H:=⟨rfl,hM,fun b o e=>Zr5 e,Nat.le_of_eq (Zmp _ _),trivial,fun b hb=>absurd (show b∈([]:List Addr) from hb) (by simp),hok,.of_eq hg⟩;refine codeAny_mono ((F _ hKb (nsK hns)).run callerA [] s₁ H ⟨[.ref a],[]⟩ [.ref a] [.ref a] _ _ hr e0 (hbind s₁ (.ref a)) (.cons rfl .nil) (hsp H hO hS)) fun r s' h=>?_;cases r with
  | error e=>exact (hCX H e s' h).elim
  | ok fl =>
    cases fl with
    | next=>exact False.elim h
    | brk=>exact False.elim h
    | cont=>exact False.elim h
    | ret u =>
      obtain ⟨v,H',os,bare,un,hok',r',q⟩:=h;have q':v=.bl true:=q;subst q';obtain rfl:u=Value.bool true:=r';refine ⟨rfl,OldK.of_keep fun b o e=>?_,os,bare⟩;cases q:H b with
      | none=>exact un.keep b o e q (by intro z;exact absurd (show b∈([]:List Addr) from z) (by simp)) (by simp)
      | some u =>
        rcases hO b with z|⟨ob,xs,z⟩
        · rw [q] at z;cases z
        · have z2:=un.frzs b ob _ z;obtain ⟨e1,_⟩:=hok b _ z;obtain ⟨e2,_⟩:=hok' b _ z2;rw [e] at e1;cases e1;exact e2
 cases hk:K.lookup a with
 | some o =>
   have e:=KX a o hk;rw [ha] at e;cases e
   refine core (fun _=>none) (fun _=>.inl rfl) (.inr ⟨_,vs.toArray,_,hk,rfl,rfl,rfl,by rw [List.size_toArray,lenV];exact hl,by simpa using rv⟩) (fun b u z=>by have z':(none:Option HO)=some u:=z;cases z') (fun b z=>absurd rfl z) fun z=>absurd rfl z
 | none =>
   refine core (fun b=>if b=a then some (.frz { cls:=.type "list",data:=.seq vs.toArray } (.lst (ns.map V.int))) else none) (fun b=>?_) (.inl (.inr ⟨{ cls:=.type "list",data:=.seq vs.toArray },if_pos rfl⟩)) (fun b u z=>?_) (fun b z=>?_) fun _=>hk
   · by_cases hb:b=a
     · exact .inr ⟨_,_,if_pos hb⟩
     · exact .inl (if_neg hb)
   · by_cases hb:b=a
     · have z':=(if_pos hb).symm.trans z;cases z'
       subst hb;exact ⟨ha,by rw [List.length_map];exact hl,vs,_,rv,ha⟩
     · have z':=(if_neg hb).symm.trans z;cases z'
   · by_cases hb:b=a
     · exact hb
     · exact absurd (if_neg hb) z
theorem Zta {l:PySem.W.OpenLaw} {n k:Nat} {q:Program} {loose:List Str} {XP:(Str→Option Value)→Heap→Prop} {YP:World→Heap→Prop} {d:DefRec} {K:Params→PySem.W.Frag} {CX:World→CXT} {sp:World→Sp} {x:Str}
 (hn:l.most=some n) (hn2:n≤sizeLine) (hdf:d.params.defaults=[]) (hr:Room k callerA)
 (hY:∀ (w:World) (h:Heap),YP w h→(K w.params).In h)
 (F:∀ (w:World) (mg:Str→Option Value) (fa:Addr) (h:Heap),(K w.params).In h→h.Ns mainGlobals mg→mg d.name=some (.ref fa) →
   ∃ fd:FuncData,(∀ (s:Shared) (u:Value),BindsTo s fd ⟨[u],[]⟩ [(x,u)]) ∧
     ∀ base:Heap,(K w.params).In base→base.Ns mainGlobals mg→FnOk l.prog w (K w.params) mg base (CX w) k fa fd [x] (sp w))
 (hsp:∀ (w:World) (H:Hp) (a:Addr) (ns:List Int),ns.length≤n→Only H→SqL (K w.params) H a (ns.map V.int)→sp w [.ref a] H (fun v _=>v=.bl true) fun _ _ _=>False)
 (hCX:∀ (w:World) (H:Hp) (s:Shared) (e:Value) (s':Shared),CX w [] H s (fun _ _ _=>False) e s'→False) :
 PySem.W.WalkO q loose XP YP l.row.toRowW d [] (fun f vs=>PySem.call f vs):=by
 refine Att.attach_call hn hdf fun w s₀ s₁ mg mb fa o pm cd doc a vs ns G Y ho hd hcd hmg hobj hints hlen hg=>?_;have KX:=hY w _ Y;obtain ⟨fd,hb,hF⟩:=F w mg fa _ KX G.T.g hmg;exact Zqq KX G.T.g G.T.b G.T.builtins G.T.nolimit hg hobj hints (Nat.le_trans hlen hn2) hr hF hb (fun H hO hS=>hsp w H a ns hlen hO hS) fun H e s'=>hCX w H s₁ e s'
def Xj (s:Stmt):Arguments:=match s with
 | .FunctionDef _ a _ _ _ _ _ _ _ _=>a
 | _=>{ posonlyargs:=[],args:=[],vararg:=none,kwonlyargs:=[],kw_defaults:=[],kwarg:=none,defaults:=[] }
def Y4 (s:Stmt):List Stmt:=match s with
 | .FunctionDef _ _ b _ _ _ _ _ _ _=>b
 | _=>[]
def Zc (s:Stmt):Scope:=match s with
 | .FunctionDef _ _ _ _ _ _ sc _ _ _=>sc
 | _=>{ kind:=.function,names:=[],isGenerator:=false,isCoroutine:=false }
abbrev CX0:CXT:=fun _ _ _ _ _ _=>False
abbrev E0:XK:=fun _ _ _=>False
theorem Ztk {X:Cx}:Zkq CX0 X E0:=fun _ _ _ _ _ _ _ h=>h.elim
structure Fun (K:PySem.W.Frag) (x qual:Str) (st:Stmt) (f:Addr) (fd:FuncData):Prop where
 ex:∃ (oc:Value) (od:Option Addr) (kV doc pm:Value) (an:Option Addr) (cdv ct:Value) (osl:Array (Option Value)),
  fd=PySem.W.fnOf x qual (Xj st) (Y4 st) (Zc st) .none kV doc pm an cdv ct∧K.lookup f=some ⟨oc,od,.func fd,osl⟩∧PySem.W.codeIn K cdv qual=true
 kp:PySem.W.keepIn K (.ref f)=true
section
variable {P:Program} {w:World} {K:PySem.W.Frag} {mg:Str→Option Value} {base:Heap}
theorem Fun.ok {x qual:Str} {st:Stmt} {f:Addr} {fd:FuncData} {N ps:List Str} {k:Nat} {sp:Sp} (F:Fun K x qual st f fd) (S:FnScope N ps (Zc st)) (len:∀ vs H Q E,sp vs H Q E→vs.length=ps.length)
 (hbody:∀ (cdv:Value) (A:Around) (outer:List Env) (s:Shared) (H:Hp) (vs:List V) (Q:VK) (E:XK),Room k (A.deeper (envOfC qual (Zc st) s.heap.objs.size f cdv))→sp vs H Q E →
   ∃ t,PSs (cxOf CX0 P w K mg base N qual (Zc st) f cdv A outer s H E).nox (Y4 st) t∧t { nx:=fun _ H'=>Q .non H',rt:=Q } (Zbu N vs) H):FnOk P w K mg base CX0 (k+1) f fd ps sp:=by
 obtain ⟨oc,od,kV,doc,pm,an,cdv,ct,osl,rfl,lk,hcd⟩:=F.ex;refine Ztu lk hcd S len fun A outer s H vs Q E hr hsp=>?_;obtain ⟨t,h,q⟩:=hbody cdv A outer s H vs Q E hr hsp;exact ⟨t,h.nox,q⟩
theorem Fun.binds {x qual:Str} {st:Stmt} {f:Addr} {fd:FuncData} {ps:List Str} (F:Fun K x qual st f fd)
 (h:∀ (kV doc pm:Value) (an:Option Addr) (cdv ct:Value) (us:List Value),us.length=ps.length→bindArgs (PySem.W.fnOf x qual (Xj st) (Y4 st) (Zc st) .none kV doc pm an cdv ct) ⟨us,[]⟩=pure (ps.zip us)):Binds K fd ps []:=by
 obtain ⟨oc,od,kV,doc,pm,an,cdv,ct,osl,rfl,lk,hcd⟩:=F.ex;exact .all (h kV doc pm an cdv ct)
theorem Zq8 {x qual:Str} {st:Stmt} {f:Addr} {oc:Value} {od an:Option Addr} {osl:Array (Option Value)} {kV doc pm cdv ct:Value} (l:K.lookup f=some ⟨oc,od,.func (PySem.W.fnOf x qual (Xj st) (Y4 st) (Zc st) .none kV doc pm an cdv ct),osl⟩)
 (c:PySem.W.codeIn K cdv qual=true) (k:PySem.W.keepIn K (.ref f)=true):Fun K x qual st f (PySem.W.fnOf x qual (Xj st) (Y4 st) (Zc st) .none kV doc pm an cdv ct):=⟨⟨oc,od,kV,doc,pm,an,cdv,ct,osl,rfl,l,c⟩,k⟩
end
theorem Zs7 {A:Around} {k:Nat} (hr:Room k A):A.units+1<cLine:=Nat.lt_of_le_of_lt (Nat.add_le_add_left (by decide:1≤64) _) hr.units
section
variable {X:Cx}
theorem pv (i:Nat) {x:Str} {pos:Pos} (hN:X.N[i]? = some x:=by rfl) (hv:Vis X.env.scope x:=by first|exact Or.inl rfl|exact Or.inr (Or.inl rfl)|exact Or.inr (Or.inr rfl)) (hd:(x == ("__debug__" : Str))=false:=by decide)
 (hcd:(x == ("__classdict__" : Str))=false:=by decide):PE X (.Name x pos) (tVar i):=Zvn hN hv hd hcd
end
theorem iteF {A B:Prop} (h:B):if false=true then A else B:=by
 rw [if_neg Bool.false_ne_true];exact h
theorem iteT {A B:Prop} (h:A):if true=true then A else B:=by
 rw [if_pos rfl];exact h
theorem ite2 {c A B:Prop} [Decidable c] (h1:c→A) (h2:¬ c→B):if c then A else B:=by
 by_cases h:c
 · rw [if_pos h];exact h1 h
 · rw [if_neg h];exact h2 h
def Same (H H':Hp):Prop:=∀ b o,H b=some o→H' b=some o
theorem Same.refl (H:Hp):Same H H:=fun _ _ h=>h
theorem Same.trans {H H1 H2:Hp} (a:Same H H1) (b:Same H1 H2):Same H H2:=fun c o h=>b c o (a c o h)
theorem Same.seq {K:PySem.W.Frag} {H H':Hp} {a:Addr} {xs:List V} (e:Same H H') (h:SqL K H a xs):SqL K H' a xs:=by
 rcases h with (h|⟨o,h⟩)|h
 · exact .inl (.inl (e _ _ h))
 · exact .inl (.inr ⟨o,e _ _ h⟩)
 · exact .inr h
end L2
namespace FM
def sg (t b:Int):Int:=if b<0 then -(Int.gcd t b:Int) else (Int.gcd t b:Int)
theorem gcd_ne {t b:Int} (h:b≠0):(Int.gcd t b:Int)≠0:=by
 intro e
 have:=Int.gcd_eq_zero_iff.mp (Int.ofNat.inj e)
 exact h this.2
theorem sg_ne {t b:Int} (h:b≠0):sg t b≠0:=by
 have:=gcd_ne (t:=t) h
 unfold sg;split<;>omega
theorem fdiv_mul {c k:Int} (h:k≠0):(c*k).fdiv k=c:=Int.mul_fdiv_cancel c h
theorem fdiv_num {t b:Int} (h:b≠0):t.fdiv (sg t b)=(Rat.divInt t b).num:=by
 rw [Rat.num_divInt];obtain ⟨c,hc⟩:=Int.gcd_dvd_left t b;have hg:=gcd_ne (t:=t) h;have e:(b.gcd t:Int)=(t.gcd b:Int):=by rw [Int.gcd_comm]
 rw [e];unfold sg
 rcases Int.lt_or_gt_of_ne h with hb|hb
 · rw [if_pos hb,Int.sign_eq_neg_one_of_neg hb];generalize (t.gcd b:Int)=g at *;subst hc;rw [show g*c=(-c)*(-g) by rw [Int.neg_mul_neg,Int.mul_comm],fdiv_mul (by omega)];rw [show (-1:Int)*((-c)*(-g))=(-c)*g by rw [Int.neg_mul_neg,Int.neg_mul,Int.one_mul,Int.neg_mul],Int.mul_ediv_cancel _ hg]
 · rw [if_neg (by omega),Int.sign_eq_one_of_pos hb,Int.one_mul];generalize (t.gcd b:Int)=g at *;subst hc;rw [Int.mul_comm,fdiv_mul hg,Int.mul_ediv_cancel _ hg]
theorem fdiv_den {t b:Int} (h:b≠0):b.fdiv (sg t b)=((Rat.divInt t b).den:Int):=by
 rw [Rat.den_divInt,if_neg h];obtain ⟨c,hc⟩:=Int.gcd_dvd_right t b;have hg:=gcd_ne (t:=t) h;have e:b.gcd t=t.gcd b:=by rw [Int.gcd_comm]
 rw [e,Int.natCast_ediv];unfold sg
 rcases Int.lt_or_gt_of_ne h with hb|hb
 · rw [if_pos hb,Int.ofNat_natAbs_of_nonpos (by omega)];generalize (t.gcd b:Int)=g at *;subst hc;rw [show g*c=(-c)*(-g) by rw [Int.neg_mul_neg,Int.mul_comm],fdiv_mul (by omega)];rw [show -((-c)*(-g))=(-c)*g by rw [Int.neg_mul_neg,Int.neg_mul],Int.mul_ediv_cancel _ hg]
 · rw [if_neg (by omega),Int.natAbs_of_nonneg (by omega)];generalize (t.gcd b:Int)=g at *;subst hc;rw [Int.mul_comm,fdiv_mul hg,Int.mul_ediv_cancel _ hg]
theorem low_num {t b:Int} (h:b≠0):(if 0<b then t.fdiv (Int.gcd t b:Int) else 0-t.fdiv (Int.gcd t b:Int))=(Rat.divInt t b).num:=by
 rw [← fdiv_num h];have hg:=gcd_ne (t:=t) h;obtain ⟨c,hc⟩:=Int.gcd_dvd_left t b;unfold sg
 by_cases hb:0<b
 · rw [if_pos hb,if_neg (by omega)]
 · rw [if_neg hb,if_pos (by omega)];generalize (t.gcd b:Int)=g at *;subst hc;rw [show g*c=c*g by simp [Int.mul_comm],fdiv_mul hg];rw [show c*g=(-c)*(-g) by rw [Int.neg_mul_neg],fdiv_mul (by omega)];omega
theorem low_den {t b:Int} (h:b≠0):(b.natAbs:Int).fdiv (Int.gcd t b:Int)=((Rat.divInt t b).den:Int):=by
 rw [← fdiv_den h];have hg:=gcd_ne (t:=t) h;obtain ⟨c,hc⟩:=Int.gcd_dvd_right t b;unfold sg
 by_cases hb:b<0
 · rw [if_pos hb,Int.ofNat_natAbs_of_nonpos (by omega)];generalize (t.gcd b:Int)=g at *;subst hc;rw [show g*c=(-c)*(-g) by rw [Int.neg_mul_neg,Int.mul_comm],fdiv_mul (by omega)];rw [show -((-c)*(-g))=(-c)*g by rw [Int.neg_mul_neg,Int.neg_mul],fdiv_mul hg]
 · rw [if_neg hb,Int.natAbs_of_nonneg (by omega)]
theorem gcd_fmod {a b:Int} (h:b≠0):Int.gcd b (a.fmod b)=Int.gcd a b:=by
 have e:a.fmod b=a-b*a.fdiv b:=by have:=Int.mul_fdiv_add_fmod a b;omega
 rw [e,Int.gcd_comm a b]
 have:=Int.gcd_sub_mul_left_right b a (a.fdiv b)
 first|exact this|(rw [← this])|simpa using this
theorem fmod_abs_lt {a b:Int} (h:b≠0):(a.fmod b).natAbs<b.natAbs:=by
 rcases Int.lt_or_gt_of_ne h with hb|hb
 · have e:a.fmod b = -((-a).fmod (-b)):=by
    have:=Int.neg_fmod_neg a b
    omega
   have h1:=Int.fmod_nonneg_of_pos (-a) (show (0:Int) < -b by omega);have h2:=Int.fmod_lt_of_pos (-a) (show (0:Int) < -b by omega);omega
 · have h1:=Int.fmod_nonneg_of_pos a hb;have h2:=Int.fmod_lt_of_pos a hb;omega
def B (n:Nat) (q:Rat):Prop:=q.num.natAbs<2^n∧q.den<2^n
theorem B.mono {n m:Nat} {q:Rat} (h:B n q) (l:n≤m):B m q :=
 ⟨Nat.lt_of_lt_of_le h.1 (Nat.pow_le_pow_right (by decide) l),Nat.lt_of_lt_of_le h.2 (Nat.pow_le_pow_right (by decide) l)⟩
theorem natAbs_mul_lt {a b:Int} {n m:Nat} (h1:a.natAbs<2^n) (h2:b.natAbs<2^m):(a*b).natAbs<2^(n+m):=by
 rw [Int.natAbs_mul,Nat.pow_add];exact Nat.mul_lt_mul'' h1 h2
theorem Zgx (t:Int) {b:Int} (h:b≠0):(Rat.divInt t b).num.natAbs≤t.natAbs:=by
 rw [Rat.num_divInt]
 have hs:(b.sign*t).natAbs≤t.natAbs:=by
  rw [Int.natAbs_mul]
  have:b.sign.natAbs≤1:=by
   rcases Int.lt_trichotomy b 0 with z|z|z
   · rw [Int.sign_eq_neg_one_of_neg z];decide
   · omega
   · rw [Int.sign_eq_one_of_pos z];decide
  calc b.sign.natAbs*t.natAbs≤1*t.natAbs:=Nat.mul_le_mul_right _ this
   _=t.natAbs:=Nat.one_mul _
 obtain ⟨c,hc⟩:∃ c,b.sign*t=(b.gcd t:Int)*c:=by
  obtain ⟨c,hc⟩:=Int.gcd_dvd_right b t;refine ⟨b.sign*c,?_⟩;rw [← Int.mul_assoc,Int.mul_comm (b.gcd t:Int) b.sign,Int.mul_assoc,← hc]
 have hg:(b.gcd t:Int)≠0:=by
  intro e;exact h (Int.gcd_eq_zero_iff.mp (Int.ofNat.inj e)).1
 rw [hc,Int.mul_ediv_cancel_left _ hg]
 have:c.natAbs≤(b.sign*t).natAbs:=by
  rw [hc,Int.natAbs_mul]
  have:1≤(b.gcd t:Int).natAbs:=by omega
  calc c.natAbs=1*c.natAbs:=(Nat.one_mul _).symm
   _≤_:=Nat.mul_le_mul_right _ this
 omega
theorem Zg8 (t:Int) {b:Int} (h:b≠0):(Rat.divInt t b).den≤b.natAbs:=by
 rw [Rat.den_divInt,if_neg h];exact Nat.div_le_self _ _
theorem B_divInt {n:Nat} {t b:Int} (h:b≠0) (h1:t.natAbs<2^n) (h2:b.natAbs<2^n):B n (Rat.divInt t b) :=
 ⟨Nat.lt_of_le_of_lt (Zgx t h) h1,Nat.lt_of_le_of_lt (Zg8 t h) h2⟩
theorem den_ne (q:Rat):(q.den:Int)≠0:=by have:=q.den_nz;omega
theorem den_pos (q:Rat):(0:Int)<q.den:=by have:=q.den_nz;omega
theorem add_eq (p q:Rat):Rat.divInt (p.num*q.den+q.num*p.den) (p.den*q.den)=p+q:=by
 have:=Rat.divInt_add_divInt p.num q.num (den_ne p) (den_ne q)
 rw [Rat.num_divInt_den,Rat.num_divInt_den] at this;exact this.symm
theorem mul_eq (p q:Rat):Rat.divInt (p.num*q.num) (p.den*q.den)=p*q:=by
 have:=Rat.divInt_mul_divInt p.num q.num (d₁:=p.den) (d₂:=q.den)
 rw [Rat.num_divInt_den,Rat.num_divInt_den] at this;exact this.symm
theorem mul_ne {p q:Rat}:(p.den:Int)*q.den≠0:=Int.mul_ne_zero (den_ne p) (den_ne q)
theorem B_add {n m:Nat} {p q:Rat} (hp:B n p) (hq:B m q):B (n+m+1) (p+q):=by
 rw [← add_eq];refine B_divInt mul_ne ?_ ?_
 · have h1:=natAbs_mul_lt hp.1 (show (q.den:Int).natAbs<2^m from hq.2);have h2:=natAbs_mul_lt hq.1 (show (p.den:Int).natAbs<2^n from hp.2);have h3:=Int.natAbs_add_le (p.num*q.den) (q.num*p.den);rw [Nat.add_comm m n] at h2;rw [Nat.pow_succ];omega
 · have h1:=natAbs_mul_lt (show (p.den:Int).natAbs<2^n from hp.2) (show (q.den:Int).natAbs<2^m from hq.2);rw [Nat.pow_succ];omega
theorem B_mul {n m:Nat} {p q:Rat} (hp:B n p) (hq:B m q):B (n+m) (p*q):=by
 rw [← mul_eq];exact B_divInt mul_ne (natAbs_mul_lt hp.1 hq.1) (natAbs_mul_lt (show (p.den:Int).natAbs<2^n from hp.2) (show (q.den:Int).natAbs<2^m from hq.2))
theorem gcd_one (q:Rat):Int.gcd q.num q.den=1:=by
 have:=q.reduced
 unfold Nat.Coprime at this
 simpa [Int.gcd] using this
theorem Zlv {a b:Int} (hb:0<b) (h:Int.gcd a b=1):(Rat.divInt a b).num=a∧((Rat.divInt a b).den:Int)=b:=by
 rw [Rat.num_divInt,Rat.den_divInt,if_neg (by omega),Int.gcd_comm b a,h,Int.sign_eq_one_of_pos hb];constructor
 · simp
 · simp;omega
theorem whole (a:Int):(Rat.divInt a 1).num=a∧((Rat.divInt a 1).den:Int)=1:=Zlv (by decide) (by simp)
end FM
namespace L2
open PySem PySem.Spec PyProof.Rows
theorem Zc6 {prog:Program} {w:World} {A:Around} {R:Result→Shared→Prop} {s:Shared} {elt target iter:Expr} {ifs:List Expr} {scope:Scope} {pos:Pos} {it acc:Value} {env:Env} (I:Nat→Shared→Prop)
 (turn:∀ n s,I n s→wpAny (model prog w) A (pyNext it) (fun r s₁=>match r with
   | none=>R (.ok .next) s₁
   | some v=>wpAny (model prog w) A (letOwnedTupleGo target it v) (fun _ s₀=>wpAny (model prog w) A (assign target env v) (fun _ s₂ =>
      wpAny (model prog w) A (forIn ifs true fun c r=>if r=true then do let ok ← isTrue c env (eval c env);pure (ForInStep.yield ok) else pure (ForInStep.yield r)) (fun ok s₃ =>
       if ok=true then wpAny (model prog w) A (eval elt env) (fun x s₄ =>
        wpAny (model prog w) A (call (.builtin "list.append") [acc,x]) (fun _ s₅=>∃ m,m<n∧I m s₅) (fun _ _=>False) s₄) (fun _ _=>False) s₃
       else ∃ m,m<n∧I m s₃) (fun _ _=>False) s₂) (fun _ _=>False) s₀) (fun _ _=>False) s₁) (fun _ _=>False) s)
 (n:Nat) (h:I n s) :
 codeAny (model prog w) A (.compLoop (.ListComp elt [⟨target,iter,ifs,0⟩] scope pos) 0 it acc env) R s:=by
 refine codeAny_loop rfl I (fun n s hI=>?_) n h;show wpAny _ A ((compTurn (.ListComp elt [⟨target,iter,ifs,0⟩] scope pos) 0 it acc env).onRaise (fun x=>do noteFrame x env;theTreesLotGoes x)) _ _ s
 refine wpAny_noted ?_;rw [compTurn_list];refine wpAny_bind (wpAny_standAt (wpAny_bind (wpAny_mono (turn n s hI) (fun r s₁ h₁=>?_) fun _ _ h'=>h'.elim)));cases r with
 | none=>exact wpAny_pure h₁
 | some v =>
   refine wpAny_bind (wpAny_mono h₁ (fun _ s₀ h₀=>?_) fun _ _ h'=>h'.elim);refine wpAny_bind (wpAny_mono h₀ (fun _ s₂ h₂=>wpAny_bind (wpAny_mono h₂ (fun ok s₃ h₃=>?_) fun _ _ h'=>h'.elim)) fun _ _ h'=>h'.elim);cases ok with
   | false=>exact wpAny_pure ⟨rfl,h₃⟩
   | true =>
     exact wpAny_bind (wpAny_bind (wpAny_mono h₃ (fun x s₄ h₄=>wpAny_bind (wpAny_mono h₄ (fun _ s₅ h₅=>wpAny_pure (wpAny_pure ⟨rfl,h₅⟩)) fun _ _ h'=>h'.elim)) fun _ _ h'=>h'.elim))
def blk (X:Cx) (scope:Scope) (cl:List (Str×Addr)) (C:Addr) (N:List Str) (s3:Shared) (H3:Hp) (fp:List Addr):Cx where
 prog:=X.prog
 w:=X.w
 K:=X.K
 mg:=X.mg
 base:=X.base
 A:=X.A
 N:=N
 s₀:=s3
 H₀:=H3
 env:=compEnvC scope cl C X.env
 outer:=X.stack
 stack:=X.stack
 ex:=fp
 fn:=fun _=>false
 calm:=X.calm
 pn:=[]
 xe:=fun _ _=>False
structure LcScope (X:Cx) (scope:Scope) (cl:List (Str×Addr)) (N:List Str) (fr:List (Option Nat)):Prop where
 clos:closureFor scope X.env=pure cl
 sub:∀ x c,cl.lookup x=some c→X.env.cells.lookup x=some c
 has:∀ x,((relabel scope X.env).names.lookup x=some .cell∨(relabel scope X.env).names.lookup x=some .free)→∃ c,cl.lookup x=some c
 cell:∀ y∈scope.names,y.2≠.cell
 kind:scope.kind=.function
 names:∀ y∈scope.names,y.2=.local→scope.names.lookup y.1=some .local
 len:fr.length=N.length
 from':∀ (i j:Nat),fr[i]? = some (some j)→∃ x,N[i]? = some x∧X.N[j]? = some x∧(X.env.scope.names.lookup x=some .cell∨X.env.scope.names.lookup x=some .free)∧((relabel scope X.env).names.lookup x=some .cell∨(relabel scope X.env).names.lookup x=some .free)
def Zeb (fr:List (Option Nat)) (σ:St):St:=fr.map fun o=>match o with
 | some j=>match σ[j]? with
   | some v=>v
   | none=>none
 | none=>none
theorem Znk {P:Program} {w:World} {H:Hp} {h h':Heap} {a:Addr} (ok:HOk P w H h) (hfree:H a=none) (hs:Heap.SameBut a h h'):HOk P w H h':=fun b ob e=>by
 refine (ok b ob e).stay (fun c w' hc q=>(hs.2 c ?_).trans q) (fun _ q=>q) fun _ _ q=>q;rintro rfl
 rcases hc with rfl|hc
 · rw [hfree] at e;cases e
 · rw [hfree] at hc;cases hc
theorem Zed {X:Cx} {pins:List (Addr×Obj)} {σ:St} {H:Hp} {s3:Shared} {scope:Scope} {cl:List (Str×Addr)} {N:List Str} {fr:List (Option Nat)} {fp:List Addr} (L:LcScope X scope cl N fr) (I:Inv X pins σ H s3)
 (hf:∀ b∈fp,FpOk X pins H b) (hlt:∀ b∈fp,b<s3.heap.objs.size):(blk X scope cl s3.heap.objs.size N s3 H fp).Ok where
 mod:=I.ok.mod
 kind:=L.kind
 glob:=I.ok.glob
 blt:=I.ok.blt
 above:=Nat.le_refl _
 inj:=fun x y c h1 h2=>I.ok.inj x y c (L.sub x c h1) (L.sub y c h2)
 has:=fun x h=>L.has x h
 cab:=fun x c h=>nomatch h
 hd:=I.ok.hd
 frames:=I.ok.frames
 stk:=.inl rfl
 exf:=fun b hb=>⟨Nat.ne_of_lt (hlt b hb),fun x c h=>(hf b hb).2.2.2.2.1 x c (L.sub x c h)⟩
 bs:=I.bs
 bsz:=Nat.le_trans I.ok.bsz I.sz
 noex:=fun b o e hb=>by
  rcases (hf b hb).2.2.2.1 with z|z
  · exact I.ok.noex b o e z
  · exact absurd (Nat.lt_of_lt_of_le (Heap.lt_size e) (Nat.le_trans I.ok.bsz z)) (Nat.lt_irrefl _)
 exfs:=fun b hb z=>by
  rcases List.mem_cons.mp (I.stkSub b z) with e|e
  · exact (hf b hb).2.1 e
  · exact (hf b hb).2.2.1 e
 funs:=I.stack
 frf:=I.stkFree
theorem Ze0 {X:Cx} {pins:List (Addr×Obj)} {σ:St} {H:Hp} {s3:Shared} {h1:Heap} {t:Nat} {scope:Scope} {cl:List (Str×Addr)} {N:List Str} {fr:List (Option Nat)} {fp:List Addr} (L:LcScope X scope cl N fr) (I:Inv X pins σ H s3)
 (hf:∀ b∈fp,FpOk X pins H b) (hlt:∀ b∈fp,b<s3.heap.objs.size) {m0:Str→Option Value} (hns:h1.Ns s3.heap.objs.size m0) (hk:∀ b o,s3.heap.get? b=some o→h1.get? b=some o) :
 Inv (blk X scope cl s3.heap.objs.size N s3 H fp) [] (Zeb fr σ) H { s3 with heap:=h1,toks:=t } where
 ok:=Zed L I hf hlt
 os:=rfl
 bare:=I.bare
 base:=Un.kept hk
 loc:=⟨m0,hns,fun i x v e1 e2 e3=>by
  unfold Zeb at e2;rw [List.getElem?_map] at e2;cases q:fr[i]? with
  | none=>rw [q] at e2;cases e2
  | some o =>
    rw [q] at e2;cases o with
    | none=>cases e2
    | some j =>
      obtain ⟨y,n1,n2,n3,n4⟩:=L.from' i j q;have e1':N[i]? = some x:=e1;rw [n1] at e1';cases e1'
      have e2':(match σ[j]? with|some v=>v|none=>none)=some v:=Option.some.inj e2
      have e2'':σ[j]? = some (some v):=by
       cases z:σ[j]? with
       | none=>rw [z] at e2';cases e2'
       | some w'=>rw [z] at e2';rw [show w'=some v from e2']
      obtain ⟨m,_,hl⟩:=I.loc;obtain ⟨u,r,lk⟩:=hl j x v n2 e2'' (.inr n3);refine ⟨u,r,.inr ⟨n4,?_⟩⟩;obtain ⟨c,hc⟩:=L.has x n4;refine ⟨c,hc,?_⟩
      rcases lk with ⟨k,_⟩|⟨k,c',hc',z⟩
      ·
       exfalso
       have k':X.env.scope.names.lookup x=some .local:=k
       rcases n3 with z|z<;>rw [k'] at z<;>cases z
      · rw [L.sub x c hc] at hc';cases hc'
        obtain ⟨o,ho,hd⟩:=z;exact ⟨o,hk _ _ ho,hd⟩⟩
 cell:=fun x c e=>by
  obtain ⟨v,o,ho,hd⟩:=I.cell x c (L.sub x c e);exact ⟨v,o,hk _ _ ho,hd⟩
 free:=I.hok.fresh (Nat.le_refl _)
 freeC:=fun x c e=>I.freeC x c (L.sub x c e)
 pin:=fun p hp=>absurd (show p∈([]:List (Addr×Obj)) from hp) (by simp)
 hok:=I.hok.kept hk
 len:=by
  unfold Zeb;rw [List.length_map];exact L.len
def PIfs (X:Cx) (ifs:List Expr) (t:TT):Prop :=
 ∀ (pins:List (Addr×Obj)) (s:Shared) (σ:St) (H:Hp) (Q:Bool→Hp→Prop),Inv X pins σ H s→t σ H Q →
   wpAny (model X.prog X.w) X.A (forIn ifs true fun c r=>if r=true then do let ok ← isTrue c X.env (eval c X.env);pure (ForInStep.yield ok) else pure (ForInStep.yield r)) (TP X pins σ Q) X.xe s
def tYes:TT:=fun _ H Q=>Q true H
theorem Zn {X:Cx}:PIfs X [] tYes:=fun _ _ _ H _ I h=>wpAny_tests_nil ⟨H,I,h⟩
theorem Zp3 {X:Cx} {c:Expr} {t:TT} (h:PT X c t):PIfs X [c] t:=fun pins s σ H Q I hw=>wpAny_tests_one (h pins s σ H Q I hw)
def LcGo (J:It) (g:TG) (tt:TT) (te:TE) (σ0:St) (H1:Hp) (D:Addr) (Q:VK):Prop:=∃ W:Nat→Nat→St→Hp→Prop,(∃ m,W 0 m σ0 (upd H1 D (.lst []))) ∧
 ∀ i m σ2 H2,W i m σ2 H2→(J.stop i H2∧Q (.ref D) H2)∨(J.go i H2∧∀ x H3,J.yld i H2 x H3→g x σ2 H3 fun σ4 H4=>tt σ4 H4 fun b H5=>if b=true then te σ4 H5 fun y H6=>∃ ys,H6 D=some (.lst ys)∧ys.length<sizeLine ∧
   ∃ m',m'<m∧W (i+1) m' σ4 (upd H6 D (.lst (ys++[y]))) else ∃ m',m'<m∧W (i+1) m' σ4 H5)
def tLC (wi:TI) (g:TG) (tt:TT) (te:TE) (fr:List (Option Nat)):TE:=fun σ H Q=>wi σ H fun J H1=>∀ D,H1 D=none→LcGo J g tt te (Zeb fr σ) H1 D Q
theorem Yp {X:Cx} {tg elt iter:Expr} {ifs:List Expr} {scope:Scope} {cl:List (Str×Addr)} {N:List Str} {fr:List (Option Nat)} {pos:Pos} {wi:TI} {g:TG} {tt:TT} {te:TE}
 (hc:X.calm=true) (L:LcScope X scope cl N fr) (hi:PI X tg iter wi) (hg:∀ C s3 H3 fp,PG (blk X scope cl C N s3 H3 fp) tg g)
 (ht:∀ C s3 H3 fp,PIfs (blk X scope cl C N s3 H3 fp) ifs tt) (he:∀ C s3 H3 fp,PE (blk X scope cl C N s3 H3 fp) elt te)
 (hs:∀ x,foldedSetIterable iter X.env x=pure x:=by intro _;rfl):PE X (.ListComp elt [⟨tg,iter,ifs,0⟩] scope pos) (tLC wi g tt te fr):=by
 intro pins s σ H Q I h;rw [eval_ListComp];refine wpAny_comprehension_free (use:=none) rfl hs L.clos L.kind L.names (thn (hi pins s σ H _ I h) fun v s1 h1=>thn h1 fun itv s2 h2=>?_);obtain ⟨it,fp,tn,J,H2,e,I2,T,st2,f2,h⟩:=h2;subst e
 have fplt:∀ b∈fp,b<s2.heap.objs.size:=fun b hb=>by
  obtain ⟨o,q,_⟩:=T.obj _ _ st2 b hb;exact Heap.lt_size q
 have hD:H2 s2.heap.objs.size=none:=I2.hok.fresh (Nat.le_refl _);obtain ⟨W,⟨m0,w0⟩,turn⟩:=h s2.heap.objs.size hD;refine wpAny_newObj_type ?_;generalize hs3:({ s2 with heap:=s2.heap.push { cls:=.type "list",dict:=none,data:=.seq ([]:List Value).toArray } }:Shared)=s3;have hh3:s3.heap=s2.heap.push { cls:=.type "list",dict:=none,data:=.seq ([]:List Value).toArray }:=by rw [← hs3]
 have k3:∀ b o,s2.heap.get? b=some o→s3.heap.get? b=some o:=fun b o e=>by rw [hh3];exact Heap.get?_push_of_some _ e
 have I3:Inv X pins σ (upd H2 s2.heap.objs.size (.lst [])) s3:=by
  rw [← hs3];refine I2.laid (t':=s2.toks) (fun b o e=>Heap.get?_push_of_some _ e) (Nat.le_refl _) ⟨Nat.zero_le _,[],_,.nil,Heap.get?_push_size _ rfl⟩
 have f3:∀ b∈fp,FpOk X pins (upd H2 s2.heap.objs.size (.lst [])) b:=fun b hb=>⟨by rw [Zr (Nat.ne_of_lt (fplt b hb))];exact (f2 b hb).1,(f2 b hb).2⟩
 have fplt3:∀ b∈fp,b<s3.heap.objs.size:=fun b hb=>by
  obtain ⟨o,q,_⟩:=T.obj _ _ st2 b hb;exact Heap.lt_size (k3 _ _ q)
 have st3:tn 0 s3.heap:=T.keep _ _ _ st2 fun b hb o e=>k3 b o e;refine wpAny_newFunctionEnv L.cell (by intro y hy;simp at hy) (fun h1 hns1 hsb1=>?_) L.kind;have k4:∀ b o,s3.heap.get? b=some o→h1.get? b=some o:=fun b o e=>hsb1.extBut b o (Nat.ne_of_lt (Heap.lt_size e)) (Heap.get?_push_of_some _ e);have I4:=Ze0 (t:=s3.toks+([]:List (Str×Value)).length) L I3 f3 fplt3 hns1 k4;have st4:tn 0 h1:=T.keep _ _ _ st3 fun b hb o e=>k4 b o e
 have fpB:∀ {H':Hp} (b:Addr),b∈fp→H' b=none→FpOk (blk X scope cl s3.heap.objs.size N s3 (upd H2 s2.heap.objs.size (.lst [])) fp) [] H' b:=fun b hb hn =>
  ⟨hn,Nat.ne_of_lt (fplt3 b hb),fun z=>(Zed L I3 f3 fplt3).exfs b hb z,.inl hb,fun x c e=>((Zed L I3 f3 fplt3).exf b hb).2 x c e,fun p hp=>absurd (show p∈([]:List (Addr×Obj)) from hp) (by simp)⟩
 have loop:∀ s5:Shared,s5={ s3 with heap:=h1,toks:=s3.toks+([]:List (Str×Value)).length } →
  codeAny (model X.prog X.w) X.A (.compLoop (.ListComp elt [⟨tg,iter,ifs,0⟩] scope pos) 0 (.ref it) (.ref s2.heap.objs.size) (compEnvC scope cl s3.heap.objs.size X.env))
   (compPost (model X.prog X.w) X.A X.xe none (EP X pins σ Q) (.ref s2.heap.objs.size) s3.heap.objs.size) s5:=by
  rintro s5 rfl
  refine Zc6 (fun n s'=>∃ i σ' H',Inv (blk X scope cl s3.heap.objs.size N s3 (upd H2 s2.heap.objs.size (.lst [])) fp) [] σ' H' s'∧tn i s'.heap∧(∀ b∈fp,H' b=none)∧W i n σ' H') ?_ m0
   ⟨0,_,_,I4,st4,fun b hb=>(f3 b hb).1,w0⟩
  rintro n s6 ⟨i,σ6,H6,I6,st6,fr6,w6⟩
  rcases turn i n σ6 H6 w6 with ⟨stop,qn⟩|⟨go,step⟩
  · refine thn (T.done (blk X scope cl s3.heap.objs.size N s3 (upd H2 s2.heap.objs.size (.lst [])) fp) rfl rfl rfl hc i [] s6 σ6 H6 (fun _ _=>False) I6 (fun b hb=>fpB b hb (fr6 b hb)) st6 stop) fun r s7 ⟨hr,I7⟩=>?_;subst hr;obtain ⟨m7,hn7,_⟩:=I7.loc;refine ⟨m7,hn7,fun h8 sb8=>⟨.ref s2.heap.objs.size,H6,?_,rfl,qn⟩⟩;have un:=I7.base;refine I3.call' (s':={ s7 with heap:=h8 }) (ch:=fp) I7.os ?_ (Znk I7.hok I7.free sb8) I7.bare (fun b hb=>⟨(f3 b hb).2.2.2.1,(f3 b hb).2.1,(f3 b hb).2.2.2.2.1,(f3 b hb).2.2.2.2.2⟩);have neC:∀ b o,s3.heap.get? b=some o→b≠s3.heap.objs.size:=fun b o e=>Nat.ne_of_lt (Heap.lt_size e);refine ⟨fun b o e n' hb hx=>?_,fun b o e n' hb hx=>?_,un.free,fun b o e hx=>?_,un.tups,un.frzs,un.tbls⟩
    · exact sb8.extBut b o (neC b o e) (un.keep b o e n' hb hx)
    · obtain ⟨sl,q⟩:=un.slot b o e n' hb hx;exact ⟨sl,sb8.extBut b _ (neC b o e) q⟩
    · obtain ⟨o',q⟩:=un.there b o e hx;exact ⟨o',sb8.extBut b _ (neC b o e) q⟩
  · refine thn (T.item (blk X scope cl s3.heap.objs.size N s3 (upd H2 s2.heap.objs.size (.lst [])) fp) rfl rfl rfl hc i [] s6 σ6 H6 (fun _ _=>False) I6 (fun b hb=>fpB b hb (fr6 b hb)) st6 go) fun r s7 ⟨u,hr,h7⟩=>?_;subst hr;refine thn h7 fun _ s8 ⟨x,H8,I8,r8,y8,st8,fr8⟩=>?_;have I8':=I8.pinned (fun b hb=>fpB b hb (fr8 b hb)) (T.obj _ _ st8);refine thn (hg _ _ _ _ _ s8 σ6 H8 x u _ I8' r8 (step x H8 y8)) fun _ s9 ⟨σ9,H9,I9,q9⟩=>?_;refine thn (ht _ _ _ _ _ s9 σ9 H9 _ I9 q9) fun b s10 ⟨H10,I10,q10⟩=>?_
    have again:∀ {s11:Shared} {H11:Hp} {m':Nat},Inv (blk X scope cl s3.heap.objs.size N s3 (upd H2 s2.heap.objs.size (.lst [])) fp) ([]++Za2 fp s8.heap) σ9 H11 s11→m'<n→W (i+1) m' σ9 H11 →
     ∃ m,m<n∧∃ i σ' H',Inv (blk X scope cl s3.heap.objs.size N s3 (upd H2 s2.heap.objs.size (.lst [])) fp) [] σ' H' s11∧tn i s11.heap∧(∀ b∈fp,H' b=none)∧W i m σ' H':=fun {s11 H11 m'} I11 hm w11=>by
     refine ⟨m',hm,i+1,σ9,H11,I11.unpinned,T.keep _ _ _ st8 fun b hb o e=>(I11.pin (b,o) (List.mem_append_right _ (List.mem_append_right _ (Yg hb e)))).1,fun b hb=>?_,w11⟩;obtain ⟨o,e,d⟩:=T.obj _ _ st8 b hb;exact (I11.pin (b,o) (List.mem_append_right _ (List.mem_append_right _ (Yg hb e)))).2.1
    cases b with
    | false =>
      obtain ⟨m',hm,w11⟩:=q10;exact again I10 hm w11
    | true =>
      refine thn (he _ _ _ _ _ s10 σ9 H10 _ I10 q10) fun y s11 ⟨yv,H11,I11,r11,ys,hys,hz,m',hm,w11⟩=>?_
      have ap:=X4 (X:=blk X scope cl s3.heap.objs.size N s3 (upd H2 s2.heap.objs.size (.lst [])) fp) _ s11 σ9 H11 (.ref s2.heap.objs.size) [yv] (.ref s2.heap.objs.size) [y] (fun _ H'=>W (i+1) m' σ9 H') I11 rfl (.cons r11 .nil)
       ⟨_,ys,yv,rfl,rfl,hys,hz,w11⟩
      exact thn ap fun _ s12 ⟨_,H12,I12,_,q12⟩=>again I12 hm q12
 exact codeAny_compStart_list (loop _ rfl) (T.self _ 0 _ _ _ st4 (loop _ rfl))
theorem Z0 {X:Cx} {scope:Scope} {N:List Str} {fr:List (Option Nat)} (h:scope.names.all (fun y=>y.2 != .cell&&y.2 != .free)=true) (hk:scope.kind=.function)
 (hn:∀ y∈scope.names,y.2=.local→scope.names.lookup y.1=some .local) (hl:fr.length=N.length) (hf:fr.all (·.isNone)=true):LcScope X scope [] N fr where
 clos:=closureFor_none fun x hx=>by
  have:=List.all_eq_true.mp h x hx
  rw [Bool.and_eq_true] at this
  simpa using this.2
 sub:=fun x c e=>by simp at e
 has:=fun x e=>by
  exfalso
  have key:∀ k,(relabel scope X.env).names.lookup x=some k→k≠.cell∧k≠.free:=fun k e=>by
   have m:=PySem.mem_of_lookup e;obtain ⟨⟨n,k'⟩,hm,e2⟩:=List.mem_map.mp m
   have:=List.all_eq_true.mp h _ hm
   rw [Bool.and_eq_true] at this;obtain ⟨t1,t2⟩:=this;have c1:k'≠.cell:=by simpa using t1
   have c2:k'≠.free:=by simpa using t2
   have b:(k' == NameKind.free)=false:=by simpa using c2
   simp only [b,Bool.false_and,Bool.false_eq_true,if_false] at e2;cases e2
   exact ⟨c1,c2⟩
  rcases e with e|e
  · exact (key _ e).1 rfl
  · exact (key _ e).2 rfl
 cell:=fun y hy=>by
  have:=List.all_eq_true.mp h y hy
  rw [Bool.and_eq_true] at this
  simpa using this.1
 kind:=hk
 names:=hn
 len:=hl
 from':=fun i j e=>by
  have m:=List.mem_of_getElem? e
  have:=List.all_eq_true.mp hf _ m
  cases this
def LcN (n:Nat) (Pv:Nat→St→Hp→Prop) (i m:Nat) (σ:St) (H:Hp):Prop:=i≤n∧m=n-i∧Pv i σ H
section
variable {X:Cx}
def Zvw (i j:Int):Prop:=j≠0∧j.natAbs<2^8999
theorem Zq3 {a n:Nat} (h:a<2^n) (hn:0<n):a.log2<n:=by
 rcases Nat.eq_zero_or_pos a with rfl|hp
 · simpa using hn
 · exact (Nat.log2_lt (Nat.ne_of_gt hp)).mpr h
theorem Xk:OpR X (binaryOp .FloorDiv) (rI Zvw fun i j=>.int (i.fdiv j)):=opI fun _ _ _ _ _ _ _ hc q=>floordiv_int hc.1 q (.inl (PyProof.noPylong_of_log2 (Nat.lt_trans (Zq3 hc.2 (by decide)) (by decide))))
def CMulB (i j:Int):Prop:=i.natAbs<2^1000000∧j.natAbs<2^1000000
theorem Zjs {i:Int} {n:Nat} (h:i.natAbs<2^n) (hn:0<n):Builtin.Int.intBits i≤n:=by
 unfold Builtin.Int.intBits;split
 · exact Nat.zero_le _
 · exact Zq3 h hn
theorem CMulB.ok {i j:Int} (h:CMulB i j):IntMulOk i j:=by
 unfold IntMulOk;have h1:=Zjs h.1 (by decide);have h2:=Zjs h.2 (by decide)
 have:Builtin.Int.intTooBig (Builtin.Int.intBits i+Builtin.Int.intBits j:Nat)=false:=by
  unfold Builtin.Int.intTooBig bitsLine;refine decide_eq_false ?_;omega
 intro z;rw [Bool.and_eq_true] at z;rw [show ((Builtin.Int.intBits i:Int)+(Builtin.Int.intBits j:Int))=((Builtin.Int.intBits i+Builtin.Int.intBits j:Nat):Int) by omega,this] at z;exact absurd z.2 (by decide)
theorem Zs:OpR X (binaryOp .Mult) (rI CMulB fun i j=>.int (i*j)):=opI fun _ _ _ _ _ _ _ hc q=>mul_int q hc.ok
theorem Zgj:∀ {ns:List Int} {us:List Value},Vals (ns.map V.int) us→∀ j (h:j<us.length),∃ t,us[j]=Value.int (ns.getD j 0) t
 | [],_,.nil,j,h=>absurd h (by simp)
 | n :: ns,u :: us,.cons r t,0,h=>by
   obtain ⟨k,rfl⟩:=(show ∃ k,u=Value.int n k from r);exact ⟨k,rfl⟩
 | n :: ns,u :: us,.cons r t,j+1,h=>by
   obtain ⟨k,e⟩:=Zgj t j (by simpa using h);exact ⟨k,by simpa using e⟩
def eqNs (ns ms:List Int):Bool:=(List.range (min ns.length ms.length)).all (fun j=>ns.getD j 0 == ms.getD j 0)&&ns.length == ms.length
theorem Zpx {ns ms:List Int}:eqNs ns ms=decide (ns=ms):=by
 unfold eqNs
 by_cases h:ns=ms
 · subst h
   simp
 · rw [decide_eq_false h];rw [Bool.and_eq_false_iff]
   by_cases hl:ns.length=ms.length
   · left
     rw [Bool.eq_false_iff];intro z;rw [List.all_eq_true] at z;apply h
     apply List.ext_getElem hl
     intro i h1 h2
     have:=z i (by simp;omega)
     simpa [h1,h2] using this
   · right
     simpa using hl
def rEqT (K:PySem.W.Frag) (neg:Bool):R2:=fun x y H Q=>∃ (a b:Addr) (ns ms:List Int),x=.ref a∧y=.ref b∧SqT K H a (ns.map V.int)∧SqT K H b (ms.map V.int)∧Q (.bl (if neg then !decide (ns=ms) else decide (ns=ms))) H
theorem Zm5 {A:Around} {s:Shared} {ns ms:List Int} {us ws:List Value} (r1:Vals (ns.map V.int) us) (r2:Vals (ms.map V.int) ws) (j:Nat) (h1:j<us.toArray.size) (h2:j<ws.toArray.size):SeqAt.EqAt A s us.toArray[j] ws.toArray[j] (ns.getD j 0 == ms.getD j 0):=by
 simp only [List.size_toArray] at h1 h2;simp only [List.getElem_toArray];obtain ⟨t,e⟩:=Zgj r1 j h1;obtain ⟨t',e'⟩:=Zgj r2 j h2;rw [e,e'];exact SeqAt.EqAt.int_int _ _ _ _
theorem Zuj (hu:X.A.units<cLine):OpR X (compareOp .NotEq) (rEqT X.K true):=by
 intro pins s σ H x y v u Q I rx ry h;obtain ⟨a,b,ns,ms,rfl,rfl,h1,h2,q⟩:=h;cases rx;cases ry
 obtain ⟨us,r1,p1,_⟩:=I.tuple h1;obtain ⟨ws,r2,p2,_⟩:=I.tuple h2;refine SeqAt.RcNeAt.tuples (e:=fun j=>ns.getD j 0 == ms.getD j 0) p1 p2 hu (fun j h1 h2=>Zm5 r1 r2 j h1 h2) _ _ _ _ ⟨.bl _,H,I,rfl,?_⟩;have l1:=r1.length;have l2:=r2.length;rw [List.length_map] at l1 l2;rw [List.size_toArray,List.size_toArray,← l1,← l2];rw [show ((List.range (min ns.length ms.length)).all (fun j=>ns.getD j 0 == ms.getD j 0)&&ns.length == ms.length)=eqNs ns ms from rfl,Zpx];exact q
theorem Za9:X1 X (.builtin "isinstance") (fun xs H Q=>∃ x T t b,xs=[x,.ty T]∧TyOf X.K H x t∧PySem.W.kitOne X.K t (.type T)=some b∧Q (.bl b) H):=by
 intro pins s σ H xs us Q I r h;obtain ⟨x,T,t,b,rfl,ty,e,q⟩:=h;cases r with
 | cons rx r =>
   cases r with
   | cons ry r =>
     cases r
     cases (show _=Value.type T from ry)
     exact Zn6 I rx ty e fun tk=>⟨.bl b,H,I.tok _,rfl,q⟩
theorem Zck:∀ {bs:List Bool} {us:List Value} {i:Nat} {v:Value},Vals (bs.map V.bl) us→us[i]? = some v→∃ b,bs[i]? = some b∧v=Value.bool b
 | [],_,i,v,.nil,e=>by simp at e
 | b :: bs,u :: us,0,v,.cons r t,e=>by
   simp at e;subst e;exact ⟨b,rfl,r⟩
 | b :: bs,u :: us,i+1,v,.cons r t,e=>by
   obtain ⟨c,h1,h2⟩:=Zck t (by simpa using e);exact ⟨c,by simpa using h1,h2⟩
theorem Zfm:∀ (bs:List Bool),((List.range bs.length).all fun i=>(bs[i]?).getD true)=bs.all id
 | []=>rfl
 | b :: bs=>by
   rw [List.length_cons,List.range_succ_eq_map,List.all_cons,List.all_map,List.all_cons,← Zfm bs];rfl
theorem Zjl {s:Shared} {h':Heap} {o:Obj} (hk:∀ b x,b∉[s.heap.objs.size]→(s.heap.push o).get? b=some x→h'.get? b=some x):∀ b x,s.heap.get? b=some x→h'.get? b=some x :=
 fun b x e=>hk b x (fun hm=>by rw [List.mem_singleton.mp hm] at e;exact Nat.lt_irrefl _ (Heap.lt_size e)) (Heap.get?_push_of_some _ e)
theorem Yo (hc:X.calm=true):X1 X (.builtin "all") (fun xs H Q=>∃ (p:Addr) (bs:List Bool),xs=[.ref p]∧SqL X.K H p (bs.map V.bl)∧Q (.bl (bs.all id)) H):=by
 intro pins s σ H xs us Q I r h;obtain ⟨p,bs,rfl,hq,q⟩:=h;cases r with
 | cons rx r =>
   cases r
   cases (show _=Value.ref p from rx)
   obtain ⟨its,rv,pl,hz⟩:=I.list hq;have hl:=pl.isList;have hlt:p<s.heap.objs.size:=by obtain ⟨_,e,_⟩:=hl;exact Heap.lt_size e
   have hh:X.A.handled=none:=I.ok.hd hc;refine call_all_walk (wpAny_pyIter_list hl ?_)
   refine ⟨s.heap.objs.size,[s.heap.objs.size,p],[s.heap.objs.size],its.toArray.size,_,_,fun i=>(bs[i]?).getD true,rfl,Walks.list (A:=X.A.in1) hh _ p (Nat.ne_of_lt hlt) its.toArray,
    ⟨⟨_,Heap.get?_push_size _ rfl,rfl,rfl⟩,hl.push _⟩,fun i v s' Q' E' hP hQ=>?_,fun h' tk hk=>?_⟩
   · obtain ⟨b,e,rfl⟩:=Zck rv (show its[i]? = some v by simpa using hP);simp only [e,Option.getD_some] at hQ;exact wpAny_truthy_bool hQ
   · have e:((List.range its.toArray.size).all fun i=>(bs[i]?).getD true)=bs.all id:=by
      rw [List.size_toArray,← rv.length,List.length_map];exact Zfm bs
     rw [e];exact ⟨.bl _,H,I.kept (Zjl hk),rfl,q⟩
end
structure Cal (P:Program) (w:World) (K:PySem.W.Frag) (mg:Str→Option Value) (base:Heap) (x:Str) (k:Nat) (ps:List Str) (sp:Sp):Prop where
 ex:∃ (f:Addr) (fd:FuncData),FnOk P w K mg base CX0 k f fd ps sp∧mg x=some (.ref f)∧PySem.W.keepIn K (.ref f)=true∧Binds K fd ps []
theorem Zh {X:Cx} {x:Str} {k j:Nat} {ps:List Str} {sp:Sp} {p pos:Pos} {e:Expr} {es:List Expr} {t:TA} (C:Cal X.prog X.w X.K X.mg X.base x k ps sp) (hr:Room j X.A) (hj:k≤j) (hg:Gl X x) (ha:PA X (e :: es) t)
 (hdb:(x == ("__debug__" : Str))=false:=by decide) (he:starEach (e :: es) X.env=(false,eval e X.env) :: starEach es X.env:=by rfl) (hpl:(backTo pos (starEach es X.env)).any (·.1)=false:=by rfl) :
 PE X (.Call (.Name x p) (e :: es) [] pos) (fun σ H Q=>t σ H fun vs H1=>sp vs H1 Q E0):=by
 obtain ⟨f,fd,F,hm,hk,hb⟩:=C.ex;have h:=Zmz (dvs:=[]) (E:=E0) (p:=p) F (hr.mono hj) hg hm hk hb .nil Ztk ha hdb he hpl;intro pins s σ H Q I hw;refine h pins s σ H Q I ?_;unfold Ztj
 simpa only [List.append_nil] using hw
structure FunD (K:PySem.W.Frag) (x qual:Str) (st:Stmt) (f:Addr) (fd:FuncData):Prop where
 ex:∃ (oc:Value) (od:Option Addr) (dV kV doc pm:Value) (an:Option Addr) (cdv ct:Value) (osl:Array (Option Value)),
  fd=PySem.W.fnOf x qual (Xj st) (Y4 st) (Zc st) dV kV doc pm an cdv ct∧K.lookup f=some ⟨oc,od,.func fd,osl⟩∧PySem.W.codeIn K cdv qual=true
 kp:PySem.W.keepIn K (.ref f)=true
section
variable {P:Program} {w:World} {K:PySem.W.Frag} {mg:Str→Option Value} {base:Heap}
theorem FunD.ok {x qual:Str} {st:Stmt} {f:Addr} {fd:FuncData} {N ps:List Str} {k:Nat} {sp:Sp} (F:FunD K x qual st f fd) (S:FnScope N ps (Zc st)) (len:∀ vs H Q E,sp vs H Q E→vs.length=ps.length)
 (hbody:∀ (cdv:Value) (A:Around) (outer:List Env) (s:Shared) (H:Hp) (vs:List V) (Q:VK) (E:XK),Room k (A.deeper (envOfC qual (Zc st) s.heap.objs.size f cdv))→sp vs H Q E →
   ∃ t,PSs (cxOf CX0 P w K mg base N qual (Zc st) f cdv A outer s H E).nox (Y4 st) t∧t { nx:=fun _ H'=>Q .non H',rt:=Q } (Zbu N vs) H):FnOk P w K mg base CX0 (k+1) f fd ps sp:=by
 obtain ⟨oc,od,dV,kV,doc,pm,an,cdv,ct,osl,rfl,lk,hcd⟩:=F.ex;refine Ztu lk hcd S len fun A outer s H vs Q E hr hsp=>?_;obtain ⟨t,h,q⟩:=hbody cdv A outer s H vs Q E hr hsp;exact ⟨t,h.nox,q⟩
theorem Zsw {x qual:Str} {st:Stmt} {f:Addr} {oc:Value} {od an:Option Addr} {osl:Array (Option Value)} {dV kV doc pm cdv ct:Value} (l:K.lookup f=some ⟨oc,od,.func (PySem.W.fnOf x qual (Xj st) (Y4 st) (Zc st) dV kV doc pm an cdv ct),osl⟩)
 (c:PySem.W.codeIn K cdv qual=true) (k:PySem.W.keepIn K (.ref f)=true):FunD K x qual st f (PySem.W.fnOf x qual (Xj st) (Y4 st) (Zc st) dV kV doc pm an cdv ct):=⟨⟨oc,od,dV,kV,doc,pm,an,cdv,ct,osl,rfl,l,c⟩,k⟩
end
structure CalD (P:Program) (w:World) (K:PySem.W.Frag) (mg:Str→Option Value) (base:Heap) (x:Str) (k:Nat) (ps:List Str) (dvs:List V) (sp:Sp):Prop where
 ex:∃ (f:Addr) (fd:FuncData) (ds:List Value),FnOk P w K mg base CX0 k f fd ps sp∧mg x=some (.ref f)∧PySem.W.keepIn K (.ref f)=true∧Binds K fd ps ds∧Vals dvs ds
theorem Zsa {X:Cx} {x:Str} {k j:Nat} {ps:List Str} {dvs:List V} {sp:Sp} {p pos:Pos} {e:Expr} {es:List Expr} {t:TA} (C:CalD X.prog X.w X.K X.mg X.base x k ps dvs sp) (hr:Room j X.A) (hj:k≤j) (hg:Gl X x) (ha:PA X (e :: es) t)
 (hdb:(x == ("__debug__" : Str))=false:=by decide) (he:starEach (e :: es) X.env=(false,eval e X.env) :: starEach es X.env:=by rfl) (hpl:(backTo pos (starEach es X.env)).any (·.1)=false:=by rfl) :
 PE X (.Call (.Name x p) (e :: es) [] pos) (fun σ H Q=>t σ H fun vs H1=>sp (vs++dvs) H1 Q E0):=by
 obtain ⟨f,fd,ds,F,hm,hk,hb,hd⟩:=C.ex;exact Zmz (dvs:=dvs) (E:=E0) (p:=p) F (hr.mono hj) hg hm hk hb hd Ztk ha hdb he hpl
def Keep (l:Addr) (H H':Hp):Prop:=∀ b o,b≠l→H b=some o→H' b=some o
theorem Keep.refl (l:Addr) (H:Hp):Keep l H H:=fun _ _ _ h=>h
theorem Keep.trans {l:Addr} {H H1 H2:Hp} (a:Keep l H H1) (b:Keep l H1 H2):Keep l H H2:=fun c o n h=>b c o n (a c o n h)
theorem Keep.new {l p:Addr} {H:Hp} {o:HO} (h:H p=none):Keep l H (upd H p o):=fun b u _ e=>by rw [Zr (Zo e h)];exact e
theorem Keep.upd {l:Addr} {H:Hp} {o:HO}:Keep l H (upd H l o):=fun b u n e=>by rw [Zr n];exact e
theorem Same.new {p:Addr} {H:Hp} {o:HO} (h:H p=none):Same H (upd H p o):=fun b u e=>by rw [Zr (Zo e h)];exact e
theorem Same.keep {l:Addr} {H H':Hp} (s:Same H H'):Keep l H H':=fun b o _ e=>s b o e
def Zwl (i j k:Nat) (ta:TA):TS:=fun D σ H=>ta σ H fun vs H1=>∃ v w x,vs=[v,w,x]∧D.nx (((σ.set i (some v)).set j (some w)).set k (some x)) H1
theorem Zjk {X:Cx} {pos:Pos} {i j k:Nat} {x y z:Str} {a b c:Expr} {ta:TA} {px py pz pt:Pos} {kt k2 pt2} (hc:X.calm=true) (hN:X.N.Nodup) (hi:X.N[i]? = some x) (hj:X.N[j]? = some y) (hk:X.N[k]? = some z) (hij:i≠j) (hik:i≠k) (hjk:j≠k)
 (hx:X.env.scope.names.lookup x=some .local) (hy:X.env.scope.names.lookup y=some .local) (hz:X.env.scope.names.lookup z=some .local) (ha:PA X [a,b,c] ta)
 (hw:swappedStores [.Tuple [.Name x px,.Name y py,.Name z pz] kt pt] (.Tuple [a,b,c] k2 pt2) X.env=pure (some [x,y,z]))
 (hs:swapsWithSole [.Tuple [.Name x px,.Name y py,.Name z pz] kt pt] (.Tuple [a,b,c] k2 pt2) pos.line X.env=pure false:=by rfl) :
 PS X (.Assign [.Tuple [.Name x px,.Name y py,.Name z pz] kt pt] (.Tuple [a,b,c] k2 pt2) pos) (Zwl i j k ta):=by
 intro pins s σ H D I h;rw [exec_Assign_arm];refine wpAny_bind (wpAny_standAt ?_);rw [hs];refine wpAny_bind (wpAny_pure ?_);rw [if_neg (by decide)];refine wpAny_bind (Tuple_ (thn (ha _ pins s σ H _ I h) fun us s1 ⟨vs,H1,I1,r1,q1⟩=>?_));obtain ⟨v,w,x',e1,q1⟩:=q1;subst e1
 obtain ⟨u1,u2,u3,rfl,rv,rw',rx⟩:∃ u1 u2 u3,us=[u1,u2,u3]∧RelV v u1∧RelV w u2∧RelV x' u3:=by
  cases r1 with
  | cons p q =>
    cases q with
    | cons p' q' =>
      cases q' with
      | cons p'' q'' =>
        cases q''
        exact ⟨_,_,_,rfl,p,p',p''⟩
 refine wpAny_newObj_type ?_ (z3_);have I2:Inv X pins σ H1 { s1 with heap:=s1.heap.push { cls:=.type "tuple",data:=.seq [u1,u2,u3].toArray } }:=I1.kept (t':=s1.toks) fun b o e=>Heap.get?_push_of_some _ e;rw [hw];refine wpAny_bind (wpAny_pure ?_);show wpAny (model X.prog X.w) X.A (do rule "assign.swapped-stores";let items ← unpackItems (.ref s1.heap.objs.size) 3 none;assignInOrder [fun v=>bindName X.env z v,fun v=>bindName X.env y v,fun v=>bindName X.env x v] items.reverse;pure Flow.next) _ _ _
 refine wpAny_bind (wpAny_rule (wpAny_bind (unpackItems_tuple (items:=#[u1,u2,u3]) (I.ok.hd hc) (IsTup.new s1.heap _) fun h' hx'=>?_)));have I3:=I2.kept (h':=h') (t':=s1.toks) fun b o e=>hx' b o (Nat.ne_of_lt (Heap.lt_size e)) e;show wpAny _ _ (assignInOrder [fun v=>bindName X.env z v,fun v=>bindName X.env y v,fun v=>bindName X.env x v] [u3,u2,u1] >>= fun _=>pure Flow.next) _ _ _
 refine wpAny_bind (assignInOrder_cons (wpAny_bindName (X6 I3 hN hk (.inl hz) rx (fun s2 I4=>?_) (.inr hz))));refine assignInOrder_cons (wpAny_bindName (X6 I4 hN hj (.inl hy) rw' (fun s3 I5=>?_) (.inr hy)));refine assignInOrder_cons (wpAny_bindName (X6 I5 hN hi (.inl hx) rv (fun s4 I6=>assignInOrder_nil (wpAny_pure ?_)) (.inr hx)))
 have e:(((σ.set k (some x')).set j (some w)).set i (some v))=(((σ.set i (some v)).set j (some w)).set k (some x')):=by
  rw [List.set_comm _ _ (Ne.symm hij),List.set_comm _ _ (Ne.symm hik),List.set_comm _ _ (Ne.symm hjk)]
 rw [e] at I6;exact ⟨_,H1,I6,q1⟩
section
variable {X:Cx}
end
def Yq (cells:List (Str×Addr)) (names:List (Str×NameKind)):List (Str×Addr):=((names.filter (fun y=>y.2 == .free)).map fun y=>(y.1,(cells.lookup y.1).getD 0)).reverse
theorem Zc1 {env:Env}:∀ (names:List (Str×NameKind)) (acc:List (Str×Addr)),(∀ y∈names,y.2=.free→∃ c,env.cells.lookup y.1=some c) →
 (forIn names acc (fun (x:Str×NameKind) (r:List (Str×Addr))=>do
   if x.2 == .free then do
    let a ← cellOf env x.1
    pure (ForInStep.yield ((x.1,a) :: r))
   else pure (ForInStep.yield r)):Sem (List (Str×Addr)))=pure (Yq env.cells names++acc)
 | [],acc,_=>rfl
 | (n,k) :: rest,acc,h=>by
   have ih:=fun acc=>Zc1 rest acc fun y hy=>h y (List.mem_cons_of_mem _ hy);rw [List.forIn_cons]
   by_cases hk:k=.free
   · subst hk;obtain ⟨c,hc⟩:=h (n,.free) List.mem_cons_self rfl;have e:cellOf env n=pure c:=by unfold cellOf;rw [hc]
     have e2:Yq env.cells ((n,.free) :: rest)=Yq env.cells rest++[(n,c)]:=by
      unfold Yq;rw [List.filter_cons_of_pos (by rfl),List.map_cons,List.reverse_cons,hc];rfl
     simp only [beq_self_eq_true,if_true,e,pure_bind];rw [ih,e2,List.append_assoc];rfl
   · have b:(k == NameKind.free)=false:=by simpa using hk
     have e2:Yq env.cells ((n,k) :: rest)=Yq env.cells rest:=by
      unfold Yq;rw [List.filter_cons_of_neg (by simpa using hk)]
     simp only [b,Bool.false_eq_true,if_false,pure_bind];rw [ih,e2]
theorem Zdp {scope:Scope} {env:Env} (h:∀ y∈scope.names,y.2=.free→∃ c,env.cells.lookup y.1=some c):closureFor scope env=pure (Yq env.cells scope.names):=by
 have e:=Zc1 scope.names [] h;rw [List.append_nil] at e;unfold closureFor
 first
  | (rw [← e];rfl)
  | (simp only [bind_pure];exact e)
  | simpa using e
theorem Zpc {X:Cx} {scope:Scope} {N:List Str} {fr:List (Option Nat)} (hc:∀ x,X.env.scope.names.lookup x=some .cell→∃ c,X.env.cells.lookup x=some c)
 (hf:∀ y∈scope.names,y.2=.free→X.env.scope.names.lookup y.1=some .cell) (hcell:∀ y∈scope.names,y.2≠.cell) (hk:scope.kind=.function)
 (hn:∀ y∈scope.names,y.2=.local→scope.names.lookup y.1=some .local) (hl:fr.length=N.length)
 (hfr:∀ (i j:Nat),fr[i]? = some (some j)→∃ x,N[i]? = some x∧X.N[j]? = some x∧(X.env.scope.names.lookup x=some .cell∨X.env.scope.names.lookup x=some .free)∧((relabel scope X.env).names.lookup x=some .cell∨(relabel scope X.env).names.lookup x=some .free)) :
 LcScope X scope (Yq X.env.cells scope.names) N fr where
 clos:=Zdp fun y hy e=>hc _ (hf y hy e)
 sub:=fun x c e=>by
  have m:=PySem.mem_of_lookup e;unfold Yq at m;obtain ⟨⟨n,k⟩,hm,e2⟩:=List.mem_map.mp (List.mem_reverse.mp m);obtain ⟨h1,h2⟩:=List.mem_filter.mp hm;have h2':k=.free:=by simpa using h2
  obtain ⟨c',hc'⟩:=hc _ (hf _ h1 h2');injection e2 with e3 e4
  subst e3;rw [hc'] at e4;rw [hc',← e4];rfl
 has:=fun x e=>by
  have key:(x,NameKind.free)∈scope.names:=by
   have go:∀ kd,(kd=.cell∨kd=.free)→(relabel scope X.env).names.lookup x=some kd→(x,NameKind.free)∈scope.names:=fun kd hkd e=>by
    have m:=PySem.mem_of_lookup e;obtain ⟨⟨n,k'⟩,hm,e2⟩:=List.mem_map.mp m
    by_cases hfree:k'=.free
    · subst hfree
      have:n=x:=by
       dsimp only at e2;split at e2<;>(injection e2)
      subst this;exact hm
    · have b:(k' == NameKind.free)=false:=by simpa using hfree
      simp only [b,Bool.false_and,Bool.false_eq_true,if_false] at e2;injection e2 with e3 e4
      subst e4
      rcases hkd with z|z
      · exact absurd z (hcell _ hm)
      · exact absurd z hfree
   rcases e with e|e
   · exact go _ (.inl rfl) e
   · exact go _ (.inr rfl) e
  have hm:∃ c,(x,c)∈Yq X.env.cells scope.names:=⟨_,by
   unfold Yq;exact List.mem_reverse.mpr (List.mem_map.mpr ⟨(x,.free),List.mem_filter.mpr ⟨key,rfl⟩,rfl⟩)⟩
  obtain ⟨c,hm⟩:=hm;cases q:(Yq X.env.cells scope.names).lookup x with
  | some c'=>exact ⟨c',rfl⟩
  | none =>
    exfalso
    exact (List.lookup_eq_none_iff.mp q) _ hm |> fun z=>by simp at z
 cell:=hcell
 kind:=hk
 names:=hn
 len:=hl
 from':=hfr
variable {N:Addr→Prop} {k:Nat}
section
variable {X:Cx}
end
end L2
namespace HT
open PySem PyProof.Rows
section
variable {prog:Program} {w:World} {A:Around} {E:Value→Shared→Prop} {s:Shared}
theorem getItem_tuple_whole {t sl:Addr} {items:Array Value} {vl vu:Value} {lo hi:Option Int} {Q:Value→Shared→Prop} (ht:IsTup s.heap t items) (hs:s.heap.IsSliceOf sl vl vu .none) (pl:IsPart vl lo) (pu:IsPart vu hi)
 (hw:sIx items.size 0 lo=0∧sIx items.size items.size hi=items.size)
 (h:Q (.ref t) s):wpAny (model prog w) A (getItem (.ref t) (.ref sl)) Q E s:=by
 obtain ⟨os,hos,hcs,hds⟩:=id hs;have hTs:s.TypeIs (.ref sl) "slice" := ⟨os,hos,hcs⟩;unfold getItem
 try with_reducible refine wpAny_holding ?_
 first|refine wpAny_bind (wpAny_pure ?_)|skip
 refine wpAny_bind (wpAny_sequenceKey ht.typeIs (by decide) ?_)
 refine wpAny_bind (wpAny_callSpecial?_slot (name:=Str.ofString "__getitem__") ht.typeIs PyProof.Rows.slot_tuple_getitem
  (wpAny_call_entry PyProof.Rows.slot_tuple_getitem ht.typeIs entry_tuple_getitem ?_ (args_tuple_getitem _ _)))
 show wpAny _ _ (Builtin.Tuple.tupleItemsOf (.ref t) >>= _) _ _ s
 refine wpAny_bind (tupleItemsOf_ ht ?_);refine wpAny_bind (wpAny_typeOf hTs ?_);rw [if_pos (by decide)];refine wpAny_bind (Zao hs pl pu ?_);rw [hw.1,hw.2];have hyes:(((0:Nat):Int) == 0&&(1:Int) == 1&&(items.size-0) == items.size)=true:=by simp
 show wpAny _ _ (if (((0:Nat):Int) == 0&&(1:Int) == 1&&(items.size-0) == items.size)=true then _ else _) _ _ s
 rw [if_pos hyes];have hx:(Builtin.Tuple.tupleIsExact (.ref t))=(do pure ((← typeOf (.ref t)) == .type "tuple")):=by first|rfl|(unfold Builtin.Tuple.tupleIsExact;rfl)
 rw [hx];refine wpAny_bind (wpAny_bind (wpAny_typeOf ht.typeIs (wpAny_pure ?_)));rw [if_pos (by decide)];exact wpAny_bind (wpAny_rule (wpAny_pure ⟨_,rfl,wpAny_pure h⟩))
end
end HT
namespace L2
open PySem PySem.Spec PyProof.Rows
section
variable {X:Cx} {e:Expr} {es:List Expr} {te:TE} {t:TA} {pos p2:Pos}
def rSlU:V→Option Int→Option Int→Hp→VK→Prop:=fun x lo hi H Q=>∃ a xs,x=.ref a∧H a=some (.tup xs)∧∀ p H',Same H H'→H' p=some (.tup (cutV xs lo hi))→Q (.ref p) H'
theorem Zn4:SlR X rSlU:=by
 intro pins s σ H x v vl vu lo hi sl Q I rx hs pl pu h;obtain ⟨a,xs,rfl,hx,q⟩:=h
 by_cases hw:HT.sIx xs.length 0 lo=0∧HT.sIx xs.length xs.length hi=xs.length
 · cases rx
   obtain ⟨its,r,ht,hz⟩:=I.tuple (SqT.of hx);have hlen:its.toArray.size=xs.length:=by rw [List.size_toArray];exact r.length.symm
   refine ⟨"tuple",_,PyProof.Rows.slot_tuple_getitem.lookup,ht.typeIs,?_⟩;refine HT.getItem_tuple_whole ht hs pl pu (by rw [hlen];exact hw) ⟨.ref a,H,I,rfl,q a H (Same.refl H) ?_⟩;unfold cutV;rw [hw.1,hw.2,List.drop_zero,Nat.sub_zero,List.take_length];exact hx
 · exact Zu6 pins s σ H _ _ vl vu lo hi sl Q I rx hs pl pu ⟨a,xs,rfl,SqT.of hx,hw,fun p hp=>q p _ (Same.new hp) Zj⟩
end
section
variable {K:PySem.W.Frag} {N:Addr→Prop} {k:Nat} {H:Hp} {v:V} {d:PyData}
variable {n m:Nat}
end
section
variable {N:Addr→Prop} {k n m:Nat} {H:Hp} {p:Addr}
end
section
variable {X:Cx}
theorem Zmu:MtR X "int.bit_length" (fun x vs H Q=>∃ i:Int,x=.int i∧vs=[]∧Q (.int (Builtin.Int.intBits i)) H):=by
 intro pins s σ H x vs v us Q I rx rv h;obtain ⟨i,rfl,rfl,q⟩:=h;obtain ⟨t,rfl⟩:=rx;cases rv
 exact call_int_bit_length ⟨.int _,H,I.tok _,⟨_,rfl⟩,q⟩
theorem Zac {x:Str} {i:Int} {pos:Pos} (h:∃ t,X.mg x=some (.int i t)) (hg:Gl X x) (hd:(x == ("__debug__" : Str))=false:=by decide):PE X (.Name x pos) (tC (.int i)):=by
 obtain ⟨t,h⟩:=h;exact Zrv hg h ⟨t,rfl⟩ hd
end
section
variable {X:Cx} {pins:List (Addr×Obj)} {σ:List (Option V)} {H:Hp} {s:Shared} {h':Heap}
theorem Inv.turnNew {t':Nat} {ch:List Addr} {a:Addr} {o:HO} (I:Inv X pins σ H s) (k:∀ b u,b∉ch→s.heap.get? b=some u→h'.get? b=some u) (hf:∀ b∈ch,FpOk X pins H b)
 (ha:s.heap.objs.size≤a) (new:ObjOk X.prog X.w (upd H a o) h' a o):Inv X pins σ (upd H a o) { s with heap:=h',toks:=t' }:=by
 have fa:H a=none:=I.hok.fresh ha;have na:∀ b u,H b=some u→b≠a:=fun b u e=>Zo e fa;have nc:∀ b u,H b=some u→b∉ch:=fun b u e z=>by rw [(hf b z).1] at e;cases e
 have la:∀ b u,s.heap.get? b=some u→b≠a:=fun b u e=>Nat.ne_of_lt (Nat.lt_of_lt_of_le (Heap.lt_size e) ha)
 refine I.step (g':=s.gens) (d':=s.drawn) (ch:=ch) (fun b hb=>?_) (fun b u _ _ hc e _=>k b u hc e) (fun b u _ _ hc e _=>⟨u.slots,k b u hc e⟩) (fun b u _ e n=>by rw [Zr (la b u e)];exact n)
  (fun b u hc e=>⟨u,k b u hc e⟩) (fun b xs e=>by rw [Zr (na b _ e)];exact e) (fun b u v e=>by rw [Zr (na b _ e)];exact e) (fun b ps e=>⟨#[],by rw [Zr (na b _ e),e];simp⟩) (fun m hm=>?_) (fun b u e=>?_) I.bare
 · obtain ⟨f0,f1,f2,f3,f4,f5⟩:=hf b hb;exact ⟨f3,f1,f4,f5⟩
 · obtain ⟨u,es,ep,hu,r⟩:=hm;exact ⟨u,es,ep,k _ u (fun z=>(hf _ z).2.1 rfl) hu,r⟩
 · by_cases hb:b=a
   · subst hb;rw [Zj] at e;cases e;exact new
   · rw [Zr hb] at e;refine (I.hok b u e).stay (fun c v hc q=>k c v ?_ q) (fun c q=>by rw [Zr (na c _ q)];exact q) fun c xs q=>by rw [Zr (na c _ q)];exact q
     rcases hc with z|z
     · rw [z];exact nc b u e
     · exact nc c _ z
theorem Inv.turnOnly {t':Nat} {ch:List Addr} (I:Inv X pins σ H s) (k:∀ b u,b∉ch→s.heap.get? b=some u→h'.get? b=some u) (hf:∀ b∈ch,FpOk X pins H b):Inv X pins σ H { s with heap:=h',toks:=t' }:=by
 have nc:∀ b u,H b=some u→b∉ch:=fun b u e z=>by rw [(hf b z).1] at e;cases e
 refine I.step (g':=s.gens) (d':=s.drawn) (ch:=ch) (fun b hb=>?_) (fun b u _ _ hc e _=>k b u hc e) (fun b u _ _ hc e _=>⟨u.slots,k b u hc e⟩) (fun _ _ _ _ n=>n)
  (fun b u hc e=>⟨u,k b u hc e⟩) (fun _ _ e=>e) (fun _ _ _ e=>e) (fun b ps e=>⟨#[],by rw [e];simp⟩) (fun m hm=>?_) (fun b u e=>?_) I.bare
 · obtain ⟨f0,f1,f2,f3,f4,f5⟩:=hf b hb;exact ⟨f3,f1,f4,f5⟩
 · obtain ⟨u,es,ep,hu,r⟩:=hm;exact ⟨u,es,ep,k _ u (fun z=>(hf _ z).2.1 rfl) hu,r⟩
 · refine (I.hok b u e).stay (fun c v hc q=>k c v ?_ q) (fun _ q=>q) fun _ _ q=>q
   rcases hc with z|z
   · rw [z];exact nc b u e
   · exact nc c _ z
end
inductive SK where
 | l
 | t
def SK.Sq (K:PySem.W.Frag) (H:Hp) (a:Addr) (xs:List V):SK→Prop
 | .l=>SqL K H a xs
 | .t=>SqT K H a xs
def SK.Is (h:Heap) (a:Addr) (vs:Array Value):SK→Prop
 | .l=>h.IsList a vs
 | .t=>h.IsTuple a vs
def SK.It (h:Heap) (it a:Addr) (i:Nat):SK→Prop
 | .l=>h.IsListIter it a i
 | .t=>h.IsTupleIter it a i
def SK.name:SK→String
 | .l => "list_iterator"
 | .t => "tuple_iterator"
abbrev SK.obj (k:SK) (a:Addr):Obj:={ cls:=.type k.name,data:=.fields #[.ref a,.int 0 0] }
theorem SK.It.ex {k:SK} {h:Heap} {it a:Addr} {i:Nat} (x:k.It h it a i):∃ o,h.get? it=some o∧o.cls=.type k.name∧o.data=.fields #[.ref a,.int i 0]:=by
 cases k<;>exact x
theorem SK.It.of {k:SK} {h:Heap} {it a:Addr} {i:Nat} (x:∃ o,h.get? it=some o∧o.cls=.type k.name∧o.data=.fields #[.ref a,.int i 0]):k.It h it a i:=by
 cases k<;>exact x
theorem SK.It.at {k:SK} {h h':Heap} {it a:Addr} {i:Nat} (x:k.It h it a i) (f:∀ o,h.get? it=some o→h'.get? it=some o):k.It h' it a i:=by
 obtain ⟨o,e,r⟩:=x.ex;exact .of ⟨o,f o e,r⟩
theorem SK.Is.ex {k:SK} {h:Heap} {a:Addr} {vs:Array Value} (x:k.Is h a vs):∃ o n,h.get? a=some o∧o.data=.seq vs n:=by
 cases k with
 | l=>obtain ⟨o,e,_,n,d⟩:=(show h.IsList a vs from x);exact ⟨o,n,e,d⟩
 | t=>obtain ⟨o,e,_,n,d⟩:=(show h.IsTuple a vs from x);exact ⟨o,n,e,d⟩
theorem SK.Is.at {k:SK} {h h':Heap} {a:Addr} {vs:Array Value} (x:k.Is h a vs) (f:∀ o,h.get? a=some o→h'.get? a=some o):k.Is h' a vs:=by
 cases k with
 | l=>obtain ⟨o,e,r⟩:=(show h.IsList a vs from x);exact (⟨o,f o e,r⟩:h'.IsList a vs)
 | t=>obtain ⟨o,e,r⟩:=(show h.IsTuple a vs from x);exact (⟨o,f o e,r⟩:h'.IsTuple a vs)
theorem SK.Sq.is {k:SK} {X:Cx} {pins:List (Addr×Obj)} {σ:St} {H:Hp} {s:Shared} {a:Addr} {xs:List V} (q:k.Sq X.K H a xs) (I:Inv X pins σ H s):∃ its,Vals xs its∧k.Is s.heap a its.toArray:=by
 cases k with
 | l=>obtain ⟨its,rv,p,_⟩:=I.list (show SqL X.K H a xs from q);exact ⟨its,rv,p.isList⟩
 | t=>obtain ⟨its,rv,p,_⟩:=I.tuple (show SqT X.K H a xs from q);exact ⟨its,rv,p⟩
theorem SK.Sq.inj {k:SK} {X:Cx} {pins:List (Addr×Obj)} {σ:St} {H:Hp} {s:Shared} {a:Addr} {xs ys:List V} (q:k.Sq X.K H a xs) (r:k.Sq X.K H a ys) (I:Inv X pins σ H s):xs=ys:=by
 cases k with
 | l=>exact I.list_inj q r
 | t=>exact I.tuple_inj q r
section
variable {prog:Program} {w:World} {A:Around} {E:Value→Shared→Prop} {s:Shared}
theorem SK.draw {k:SK} {it a:Addr} {i:Nat} {vs:Array Value} {x:Value} {Q:Value→Shared→Prop} (hi:k.It s.heap it a i) (ha:k.Is s.heap a vs) (hx:vs[i]? = some x)
 (q:∀ h1,k.It h1 it a (i+1)→Heap.SameBut it s.heap h1→Q x { s with heap:=h1 }):wpAny (model prog w) A (Builtin.SmallTypes.nextOf (.ref it)) Q E s:=by
 cases k with
 | l=>exact wpAny_nextOf_list_item hi ha hx q
 | t =>
   have hi':s.heap.IsTupleIter it a i:=hi;obtain ⟨o,e,c,d⟩:=id hi';obtain ⟨oa,ea,_,n,da⟩:=(show s.heap.IsTuple a vs from ha);unfold Builtin.SmallTypes.nextOf;refine wpAny_bind (wpAny_callSpecial?_slot (name:=Str.ofString "__next__") hi'.typeIs F.slot_tuple_iterator_next (wpAny_call_entry F.slot_tuple_iterator_next hi'.typeIs F.entry_tuple_iterator_next ?_ (F.args_tuple_iterator_next_1 _)));refine wpAny_bind (m:=field (.ref it) 0) (wpAny_field e d (x:=.ref a) rfl ?_);show wpAny _ _ (if (Value.ref a == Value.none)=true then _ else _) _ _ s
   rw [if_neg (show ¬ ((Value.ref a == Value.none)=true) from Bool.false_ne_true)];refine wpAny_bind (m:=field (.ref it) 1) (wpAny_field e d (x:=.int i 0) rfl ?_);refine wpAny_bind (m:=seqItems? (.ref a)) (wpAny_seqItems ea da ?_);simp only [Int.toNat_natCast,hx];refine wpAny_bind (wpAny_setField e d (by simp) (wpAny_pure ⟨x,rfl,wpAny_pure (q _ (SK.It.of ?_) (Heap.SameBut.update ..))⟩));exact ⟨_,Heap.get?_update_self _ e (Obj.isFreed_of_fields (Obj.data_mapFields d _)),(Obj.cls_mapFields ..).trans c,by rw [Obj.data_mapFields d];simp [rawInt]⟩
theorem SK.dry {k:SK} {it a:Addr} {i:Nat} {vs:Array Value} {Q:Value→Shared→Prop} (hh:A.handled=none) (hi:k.It s.heap it a i) (ha:k.Is s.heap a vs) (hx:vs[i]? = none)
 (q:∀ h1 e,Heap.ExtBut it s.heap h1→(∃ o,h1.get? e=some o∧o.cls=.type "StopIteration")→E (.ref e) { s with heap:=h1 }):wpAny (model prog w) A (Builtin.SmallTypes.nextOf (.ref it)) Q E s:=by
 cases k with
 | l=>exact wpAny_nextOf_list_end hh hi ha hx q
 | t =>
   have hi':s.heap.IsTupleIter it a i:=hi;obtain ⟨o,e,c,d⟩:=id hi';obtain ⟨oa,ea,_,n,da⟩:=(show s.heap.IsTuple a vs from ha);unfold Builtin.SmallTypes.nextOf;refine wpAny_bind (wpAny_callSpecial?_slot (name:=Str.ofString "__next__") hi'.typeIs F.slot_tuple_iterator_next (wpAny_call_entry F.slot_tuple_iterator_next hi'.typeIs F.entry_tuple_iterator_next ?_ (F.args_tuple_iterator_next_1 _)));refine wpAny_bind (m:=field (.ref it) 0) (wpAny_field e d (x:=.ref a) rfl ?_);show wpAny _ _ (if (Value.ref a == Value.none)=true then _ else _) _ _ s
   rw [if_neg (show ¬ ((Value.ref a == Value.none)=true) from Bool.false_ne_true)];refine wpAny_bind (m:=field (.ref it) 1) (wpAny_field e d (x:=.int i 0) rfl ?_);refine wpAny_bind (m:=seqItems? (.ref a)) (wpAny_seqItems ea da ?_);simp only [Int.toNat_natCast,hx];refine wpAny_bind (wpAny_rule (wpAny_bind (wpAny_setField e d (by simp) ?_)));refine wpAny_bind (m:=newExc (.type "StopIteration") []) ?_;simp only [newExc,newTuple];refine wpAny_bind (wpAny_newObj_type (wpAny_bind (m:=firstArgMember _ _) (wpAny_of_eq (a:=Value.none) (by first|rfl|(simp only [firstArgMember];rfl)) (wpAny_newObj_type ?_ (by size_fits)))) (by size_fits));simp only [raiseNew];refine wpAny_bind (wpAny_handled ?_)
   first|rw [show A.in1.handled=none from hh]|rw [hh]
   refine wpAny_bind (wpAny_pure (wpAny_throw (q _ _ (((Heap.SameBut.update ..).extBut.push _).push _) ⟨_,Heap.get?_push_size _ rfl,rfl⟩)))
theorem SK.iter {k:SK} {a:Addr} {vs:Array Value} {Q:Value→Shared→Prop} (ha:k.Is s.heap a vs) (q:Q (.ref s.heap.objs.size) { s with heap:=s.heap.push (k.obj a) }):wpAny (model prog w) A (pyIter (.ref a)) Q E s:=by
 cases k with
 | l=>exact wpAny_pyIter_list ha q
 | t=>exact wpAny_pyIter_tuple ha q
end
structure ZP (z t o i j a b:Addr):Prop where
 tz:t≠z
 oz:o≠z
 iz:i≠z
 jz:j≠z
 to:t≠o
 ti:t≠i
 tj:t≠j
 oi:o≠i
 oj:o≠j
 ij:i≠j
 az:a≠z
 ao:a≠o
 ai:a≠i
 aj:a≠j
 bz:b≠z
 bo:b≠o
 bi:b≠i
 bj:b≠j
section
variable {prog:Program} {w:World} {A:Around} {E:Value→Shared→Prop} {s:Shared} {k l:SK}
theorem Zpj {z t o i j a b:Addr} {m n:Nat} {xs ys:Array Value} {x y c d:Value} {Q:Value→Shared→Prop} (D:ZP z t o i j a b)
 (hz:IsZip s.heap z t o .none) (ht:IsPair s.heap t (.ref i) (.ref j)) (ho:IsPair s.heap o c d)
 (hi:k.It s.heap i a m) (hj:l.It s.heap j b n) (ha:k.Is s.heap a xs) (hb:l.Is s.heap b ys) (hx:xs[m]? = some x) (hy:ys[n]? = some y)
 (q:∀ h1,IsZip h1 z t o (rawInt s.heap.objs.size)→IsPair h1 o x y→k.It h1 i a (m+1)→l.It h1 j b (n+1)→IsPair h1 s.heap.objs.size x y→h1.objs.size=s.heap.objs.size+1 →
   (∀ e u,e≠z→e≠o→e≠i→e≠j→s.heap.get? e=some u→h1.get? e=some u)→Q (.ref s.heap.objs.size) { s with heap:=h1 }) :
 wpAny (model prog w) A (Builtin.«zip.__next__» ⟨[.ref z],[]⟩) (fun fin s'=>∃ v,fin=.done (.ret v)∧Q v s') E s:=by
 refine wpAny_bind (m:=field (.ref z) 2) (wpAny_field hz rfl (x:=.bool false) rfl ?_);refine wpAny_bind (m:=field (.ref z) 3) (wpAny_field hz rfl (x:=.ref t) rfl (wpAny_bind (wpAny_seqItems ht rfl ?_)));refine wpAny_bind (m:=Builtin.SmallTypes.ownedTupleIsFree (.ref z)) ?_;unfold Builtin.SmallTypes.ownedTupleIsFree;refine wpAny_bind (wpAny_field hz rfl (x:=.none) rfl (wpAny_pure ?_));simp only [if_true];refine wpAny_bind (wpAny_rule (wpAny_bind (wpAny_field hz rfl (x:=.ref o) rfl (wpAny_bind (wpAny_setField_rec hz (by simp) fun h1 z1 s1=>?_)))));replace z1:IsZip h1 z t o .ellipsis:=z1;refine wpAny_bind ?_;simp only [List.zipIdx_cons,List.zipIdx_nil,List.forIn_cons,List.forIn_nil];refine wpAny_bind (wpAny_bind (wpAny_onRaise (wpAny_bind (m:=Builtin.SmallTypes.nextOf (.ref i)) ?_)));refine SK.draw (hi.at fun u e=>s1.extBut _ _ D.iz e) (ha.at fun u e=>s1.extBut _ _ D.az e) hx fun h2 i2 s2=>wpAny_pure ?_;have o2:IsPair h2 o c d:=s2.extBut _ _ D.oi (s1.extBut _ _ D.oz ho);refine wpAny_bind (wpAny_seqItems o2 rfl (wpAny_bind (wpAny_updateSeq_pair o2 fun h3 o3 s3=>?_)));replace o3:IsPair h3 o x d:=o3;refine wpAny_bind (wpAny_letGo (wpAny_pure (wpAny_bind (wpAny_bind (wpAny_onRaise (wpAny_bind (m:=Builtin.SmallTypes.nextOf (.ref j)) ?_))))));refine SK.draw (hj.at fun u e=>s3.extBut _ _ D.oj.symm (s2.extBut _ _ D.ij.symm (s1.extBut _ _ D.jz e))) (hb.at fun u e=>s3.extBut _ _ D.bo (s2.extBut _ _ D.bi (s1.extBut _ _ D.bz e))) hy fun h4 j4 s4=>wpAny_pure ?_;have o4:IsPair h4 o x d:=s4.extBut _ _ D.oj o3;refine wpAny_bind (wpAny_seqItems o4 rfl (wpAny_bind (wpAny_updateSeq_pair o4 fun h5 o5 s5=>?_)));replace o5:IsPair h5 o x y:=o5;refine wpAny_bind (wpAny_letGo (wpAny_pure (wpAny_pure (wpAny_bind (wpAny_seqItems o5 rfl (wpAny_bind (wpAny_newTuple ?_)))))));have sz:h5.objs.size=s.heap.objs.size:=by rw [s5.1,s4.1,s3.1,s2.1,s1.1]
 have z5:IsZip h5 z t o .ellipsis:=s5.extBut _ _ D.oz.symm (s4.extBut _ _ D.jz.symm (s3.extBut _ _ D.oz.symm (s2.extBut _ _ D.iz.symm z1)));have k5:∀ e u,e≠z→e≠o→e≠i→e≠j→s.heap.get? e=some u→h5.get? e=some u:=fun e u e1 e2 e3 e4 g=>s5.extBut _ _ e2 (s4.extBut _ _ e4 (s3.extBut _ _ e2 (s2.extBut _ _ e3 (s1.extBut _ _ e1 g))));have i5:k.It h5 i a (m+1):=i2.at fun u e=>s5.extBut _ _ D.oi.symm (s4.extBut _ _ D.ij (s3.extBut _ _ D.oi.symm e));have j5:l.It h5 j b (n+1):=j4.at fun u e=>s5.extBut _ _ D.oj.symm e;have zl:z<h5.objs.size:=Heap.lt_size z5;refine wpAny_bind (m:=Builtin.SmallTypes.ownedTupleHandOut (.ref z) (.ref h5.objs.size)) ?_;unfold Builtin.SmallTypes.ownedTupleHandOut;have z6:IsZip (h5.push { cls:=.type "tuple",data:=.seq #[x,y] }) z t o .ellipsis:=Heap.get?_push_of_some _ z5;refine wpAny_bind (wpAny_setField_rec z6 (by simp) fun h7 z7 s7=>?_);replace z7:IsZip h7 z t o (rawInt h5.objs.size):=z7;refine wpAny_setField_rec z7 (by simp) fun h8 z8 s8=>?_;replace z8:IsZip h8 z t o (rawInt h5.objs.size):=z8;have up:∀ e u,e≠z→h5.get? e=some u→h8.get? e=some u:=fun e u e1 g=>s8.extBut _ _ e1 (s7.extBut _ _ e1 (Heap.get?_push_of_some _ g));have T8:IsPair h8 h5.objs.size x y:=s8.extBut _ _ (Nat.ne_of_gt zl) (s7.extBut _ _ (Nat.ne_of_gt zl) (Heap.get?_push_size _ rfl));have l8:h8.objs.size=h5.objs.size+1:=by rw [s8.1,s7.1,Heap.size_push]
 rw [sz] at z8 T8 l8;refine wpAny_pure ⟨_,rfl,?_⟩;show Q (.ref h5.objs.size) _
 rw [sz];exact q h8 z8 (up _ _ D.oz o5) (i5.at fun u e=>up _ u D.iz e) (j5.at fun u e=>up _ u D.jz e) T8 l8 fun e u e1 e2 e3 e4 g=>up e u e1 (k5 e u e1 e2 e3 e4 g)
theorem Zsj {z t o i j a b:Addr} {m n:Nat} {xs ys:Array Value} {c d:Value} {Q:Fin→Shared→Prop} (hh:A.handled=none) (D:ZP z t o i j a b)
 (hz:IsZip s.heap z t o .none) (ht:IsPair s.heap t (.ref i) (.ref j)) (ho:IsPair s.heap o c d)
 (hi:k.It s.heap i a m) (hj:l.It s.heap j b n) (ha:k.Is s.heap a xs) (hb:l.Is s.heap b ys) (hx:xs[m]? = none∨ys[n]? = none)
 (q:∀ h1 e,(∀ e u,e≠z→e≠o→e≠i→e≠j→s.heap.get? e=some u→h1.get? e=some u)→(∃ u,h1.get? e=some u∧u.cls=.type "StopIteration")→E (.ref e) { s with heap:=h1 }) :
 wpAny (model prog w) A (Builtin.«zip.__next__» ⟨[.ref z],[]⟩) Q E s:=by
 refine wpAny_bind (m:=field (.ref z) 2) (wpAny_field hz rfl (x:=.bool false) rfl ?_);refine wpAny_bind (m:=field (.ref z) 3) (wpAny_field hz rfl (x:=.ref t) rfl (wpAny_bind (wpAny_seqItems ht rfl ?_)));refine wpAny_bind (m:=Builtin.SmallTypes.ownedTupleIsFree (.ref z)) ?_;unfold Builtin.SmallTypes.ownedTupleIsFree;refine wpAny_bind (wpAny_field hz rfl (x:=.none) rfl (wpAny_pure ?_));simp only [if_true];refine wpAny_bind (wpAny_rule (wpAny_bind (wpAny_field hz rfl (x:=.ref o) rfl (wpAny_bind (wpAny_setField_rec hz (by simp) fun h1 z1 s1=>?_)))));replace z1:IsZip h1 z t o .ellipsis:=z1;refine wpAny_bind ?_;simp only [List.zipIdx_cons,List.zipIdx_nil,List.forIn_cons,List.forIn_nil];refine wpAny_bind (wpAny_bind (wpAny_onRaise (wpAny_bind (m:=Builtin.SmallTypes.nextOf (.ref i)) ?_)));cases hm:xs[m]? with
 | none =>
   refine SK.dry hh (hi.at fun u e=>s1.extBut _ _ D.iz e) (ha.at fun u e=>s1.extBut _ _ D.az e) hm fun h2 e s2 ⟨u,g,cu⟩=>?_;have z2:IsZip h2 z t o .ellipsis:=s2 _ _ D.iz.symm z1;have ez:e≠z:=fun r=>by subst r;rw [z2] at g;cases g;simp at cu
   exact wpAny_setField_rec z2 (by simp) fun h3 _ s3=>q h3 e (fun e' u' e1 _ e3 _ r=>s3.extBut _ _ e1 (s2 _ _ e3 (s1.extBut _ _ e1 r))) ⟨u,s3.extBut _ _ ez g,cu⟩
 | some x =>
   have hn:ys[n]? = none:=by rcases hx with r|r;(rw [hm] at r;cases r);exact r
   refine SK.draw (hi.at fun u e=>s1.extBut _ _ D.iz e) (ha.at fun u e=>s1.extBut _ _ D.az e) hm fun h2 i2 s2=>wpAny_pure ?_;have o2:IsPair h2 o c d:=s2.extBut _ _ D.oi (s1.extBut _ _ D.oz ho);refine wpAny_bind (wpAny_seqItems o2 rfl (wpAny_bind (wpAny_updateSeq_pair o2 fun h3 o3 s3=>?_)));refine wpAny_bind (wpAny_letGo (wpAny_pure (wpAny_bind (wpAny_bind (wpAny_onRaise (wpAny_bind (m:=Builtin.SmallTypes.nextOf (.ref j)) ?_))))));refine SK.dry hh (hj.at fun u e=>s3.extBut _ _ D.oj.symm (s2.extBut _ _ D.ij.symm (s1.extBut _ _ D.jz e))) (hb.at fun u e=>s3.extBut _ _ D.bo (s2.extBut _ _ D.bi (s1.extBut _ _ D.bz e))) hn fun h4 e s4 ⟨u,g,cu⟩=>?_;have z4:IsZip h4 z t o .ellipsis:=s4 _ _ D.jz.symm (s3.extBut _ _ D.oz.symm (s2.extBut _ _ D.iz.symm z1));have ez:e≠z:=fun r=>by subst r;rw [z4] at g;cases g;simp at cu
   exact wpAny_setField_rec z4 (by simp) fun h5 _ s5=>q h5 e (fun e' u' e1 e2 e3 e4 r=>s5.extBut _ _ e1 (s4 _ _ e4 (s3.extBut _ _ e2 (s2.extBut _ _ e3 (s1.extBut _ _ e1 r))))) ⟨u,s5.extBut _ _ ez g,cu⟩
theorem Zg7 {z t o i j a b:Addr} {m n:Nat} {xs ys:Array Value} {x y c d:Value} {Q:Option Value→Shared→Prop} (D:ZP z t o i j a b)
 (hz:IsZip s.heap z t o .none) (ht:IsPair s.heap t (.ref i) (.ref j)) (ho:IsPair s.heap o c d)
 (hi:k.It s.heap i a m) (hj:l.It s.heap j b n) (ha:k.Is s.heap a xs) (hb:l.Is s.heap b ys) (hx:xs[m]? = some x) (hy:ys[n]? = some y)
 (q:∀ h1,IsZip h1 z t o (rawInt s.heap.objs.size)→IsPair h1 o x y→k.It h1 i a (m+1)→l.It h1 j b (n+1)→IsPair h1 s.heap.objs.size x y→h1.objs.size=s.heap.objs.size+1 →
   (∀ e u,e≠z→e≠o→e≠i→e≠j→s.heap.get? e=some u→h1.get? e=some u)→Q (some (.ref s.heap.objs.size)) { s with heap:=h1 }) :
 wpAny (model prog w) A (pyNext (.ref z)) Q E s:=by
 have hT:s.TypeIs (.ref z) "zip" := ⟨_,hz,rfl⟩;unfold pyNext
 exact wpAny_bind (wpAny_attempt (wpAny_callSpecial?_slot (name:=Str.ofString "__next__") hT F.slot_zip_next (wpAny_call_entry F.slot_zip_next hT F.entry_zip_next
  (Zpj D hz ht ho hi hj ha hb hx hy fun h1 r1 r2 r3 r4 r5 r6 r7=>wpAny_pure (q h1 r1 r2 r3 r4 r5 r6 r7)) (F.args_zip_next_1 _))))
theorem Zhr {z t o i j a b:Addr} {m n:Nat} {xs ys:Array Value} {c d:Value} {Q:Option Value→Shared→Prop} (hh:A.handled=none) (D:ZP z t o i j a b)
 (hz:IsZip s.heap z t o .none) (ht:IsPair s.heap t (.ref i) (.ref j)) (ho:IsPair s.heap o c d)
 (hi:k.It s.heap i a m) (hj:l.It s.heap j b n) (ha:k.Is s.heap a xs) (hb:l.Is s.heap b ys) (hx:xs[m]? = none∨ys[n]? = none)
 (q:∀ h1,(∀ e u,e≠z→e≠o→e≠i→e≠j→s.heap.get? e=some u→h1.get? e=some u)→Q none { s with heap:=h1 }) :
 wpAny (model prog w) A (pyNext (.ref z)) Q E s:=by
 have hT:s.TypeIs (.ref z) "zip" := ⟨_,hz,rfl⟩;unfold pyNext
 refine wpAny_bind (wpAny_attempt (wpAny_callSpecial?_slot (name:=Str.ofString "__next__") hT F.slot_zip_next (wpAny_call_entry F.slot_zip_next hT F.entry_zip_next
  (Zsj hh D hz ht ho hi hj ha hb hx fun h1 e r1 ⟨u,g,cu⟩=>?_) (F.args_zip_next_1 _))))
 exact wpAny_bind (wpAny_isInstance (T := "StopIteration") (b:=true) ⟨u,g,cu⟩ isSubtype_stop (wpAny_pure (q _ r1)))
abbrev zp1 (k:SK) (h:Heap) (a:Addr):Heap:=h.push (k.obj a)
abbrev zp2 (k l:SK) (h:Heap) (a b:Addr):Heap:=(zp1 k h a).push (l.obj b)
abbrev zp3 (k l:SK) (h:Heap) (a b:Addr):Heap:=(zp2 k l h a b).push { cls:=.type "tuple",data:=.seq #[.ref h.objs.size,.ref (zp1 k h a).objs.size] }
abbrev zp4 (k l:SK) (h:Heap) (a b:Addr):Heap:=(zp3 k l h a b).push { cls:=.type "tuple",data:=.seq #[.none,.none] }
abbrev zp5 (k l:SK) (h:Heap) (a b:Addr):Heap:=(zp4 k l h a b).push { cls:=.type "zip",data:=.fields #[.none,.bool false,.bool false,.ref (zp2 k l h a b).objs.size,.ref (zp3 k l h a b).objs.size] }
theorem Zo9 (k l:SK) (a b:Addr) (xs ys:Array Value):Meets (Builtin.«zip.__new__» ⟨[.type "zip",.ref a,.ref b],[]⟩) (fun _ R s=>k.Is s.heap a xs∧l.Is s.heap b ys∧R (.ok (.ret (.ref (zp4 k l s.heap a b).objs.size))) { s with heap:=zp5 k l s.heap a b }) :=
 .of_wp fun prog w A R s h=>by
  obtain ⟨hp,g,d,tk,os⟩:=s;obtain ⟨h1,h2,h⟩:=h;have hsub:=sub_zip;have r1:k.Is (Shared.heap ⟨hp,g,d,tk,os⟩) a xs:=h1;have r2:l.Is (Shared.heap ⟨hp.push (k.obj a),g,d,tk,os⟩) b ys:=SK.Is.at h2 fun o e=>Heap.get?_push_of_some _ e
  wp_walk using SK.iter r1,SK.iter r2
  exact ⟨_,rfl,h⟩
theorem Zkm {a b:Addr} {xs ys:Array Value} {Q:Value→Shared→Prop} (ha:k.Is s.heap a xs) (hb:l.Is s.heap b ys)
 (q:∀ h1,IsZip h1 (s.heap.objs.size+4) (s.heap.objs.size+2) (s.heap.objs.size+3) .none→IsPair h1 (s.heap.objs.size+2) (.ref s.heap.objs.size) (.ref (s.heap.objs.size+1)) →
   IsPair h1 (s.heap.objs.size+3) .none .none→k.It h1 s.heap.objs.size a 0→l.It h1 (s.heap.objs.size+1) b 0→h1.objs.size=s.heap.objs.size+5 →
   (∀ c o,s.heap.get? c=some o→h1.get? c=some o)→Q (.ref (s.heap.objs.size+4)) { s with heap:=h1 }) :
 wpAny (model prog w) A (call (.type "zip") [.ref a,.ref b]) Q E s:=by
 refine callType_new F.called_zip (by decide) (F.typeCall_zip_2 _ _) (F.newCall_zip_2 _ _) (fun obj=>F.args_object_init_3 obj _ _) F.entry_zip_new (Zo9 k l a b xs ys) ⟨ha,hb,?_⟩;have n1:(zp1 k s.heap a).objs.size=s.heap.objs.size+1:=Heap.size_push ..;have n2:(zp2 k l s.heap a b).objs.size=s.heap.objs.size+2:=by rw [Heap.size_push,n1]
 have n3:(zp3 k l s.heap a b).objs.size=s.heap.objs.size+3:=by rw [Heap.size_push,n2]
 have n4:(zp4 k l s.heap a b).objs.size=s.heap.objs.size+4:=by rw [Heap.size_push,n3]
 have n5:(zp5 k l s.heap a b).objs.size=s.heap.objs.size+5:=by rw [Heap.size_push,n4]
 have m5:(zp5 k l s.heap a b).get? (zp4 k l s.heap a b).objs.size=some _:=Heap.get?_push_size _ rfl;have m4:(zp5 k l s.heap a b).get? (zp3 k l s.heap a b).objs.size=some _:=Heap.get?_push_of_some _ (Heap.get?_push_size _ rfl);have m3:(zp5 k l s.heap a b).get? (zp2 k l s.heap a b).objs.size=some _:=Heap.get?_push_of_some _ (Heap.get?_push_of_some _ (Heap.get?_push_size _ rfl));have m2:(zp5 k l s.heap a b).get? (zp1 k s.heap a).objs.size=some _:=Heap.get?_push_of_some _ (Heap.get?_push_of_some _ (Heap.get?_push_of_some _ (Heap.get?_push_size _ rfl)));have m1:(zp5 k l s.heap a b).get? s.heap.objs.size=some _:=Heap.get?_push_of_some _ (Heap.get?_push_of_some _ (Heap.get?_push_of_some _ (Heap.get?_push_of_some _ (Heap.get?_push_size _ rfl))));show _∧_
 rw [n2,n3,n4] at m5;rw [n1,n2] at m3;rw [n3] at m4;rw [n1] at m2;rw [n4];exact ⟨⟨_,m5,rfl⟩,q _ m5 m3 m4 (.of ⟨_,m1,rfl,rfl⟩) (.of ⟨_,m2,rfl,rfl⟩) n5 fun c o e=>Heap.get?_push_of_some _ (Heap.get?_push_of_some _ (Heap.get?_push_of_some _ (Heap.get?_push_of_some _ (Heap.get?_push_of_some _ e))))⟩
end
def Itz (k l:SK) (K:PySem.W.Frag) (a b:Addr):It :=
 ⟨fun i H=>∃ xs ys x y,k.Sq K H a xs∧l.Sq K H b ys∧xs[i]? = some x∧ys[i]? = some y,
  fun i H v H'=>∃ p x y,v=.ref p∧H p=none∧H'=upd H p (.tup [x,y])∧(∀ xs,k.Sq K H a xs→xs[i]? = some x)∧∀ ys,l.Sq K H b ys→ys[i]? = some y,
  fun i H=>∃ xs ys,k.Sq K H a xs∧l.Sq K H b ys∧(xs.length≤i∨ys.length≤i)⟩
theorem Zpe {P:Program} {w:World} {K:PySem.W.Frag} {es:List Expr} {x1:Nat} {tp:Pos} {k l:SK} {z t o i j a b:Addr} (D:ZP z t o i j a b) :
 Turn P w K (.Tuple es x1 tp) (Itz k l K a b) [z,t,o,i,j] z (fun n h=>IsZip h z t o .none∧IsPair h t (.ref i) (.ref j)∧(∃ c d,IsPair h o c d)∧k.It h i a n∧l.It h j b n) where
 mem:=by simp
 obj:=fun n h st e he=>by
  obtain ⟨h1,h2,⟨c,d,h3⟩,h4,h5⟩:=st;simp only [List.mem_cons,List.not_mem_nil,or_false] at he
  rcases he with rfl|rfl|rfl|rfl|rfl
  · exact ⟨_,h1,fun v q=>by cases (show Data.fields _=Data.cell v from q)⟩
  · exact ⟨_,h2,fun v q=>by cases (show Data.seq _ _=Data.cell v from q)⟩
  · exact ⟨_,h3,fun v q=>by cases (show Data.seq _ _=Data.cell v from q)⟩
  · obtain ⟨u,e,_,q⟩:=h4.ex;exact ⟨u,e,fun v r=>by rw [q] at r;cases r⟩
  · obtain ⟨u,e,_,q⟩:=h5.ex;exact ⟨u,e,fun v r=>by rw [q] at r;cases r⟩
 keep:=fun n h h' st f=>by
  obtain ⟨h1,h2,⟨c,d,h3⟩,h4,h5⟩:=st;exact ⟨f z (by simp) _ h1,f t (by simp) _ h2,⟨c,d,f o (by simp) _ h3⟩,h4.at fun u e=>f i (by simp) u e,h5.at fun u e=>f j (by simp) u e⟩
 item:=by
  intro X hP hw hK hc n pins s σ H E I hf st hg;subst hP hw hK;obtain ⟨h1,h2,⟨c,d,h3⟩,h4,h5⟩:=st;obtain ⟨xs,ys,x,y,q1,q2,hx,hy⟩:=hg;obtain ⟨us,ru,pu⟩:=q1.is I;obtain ⟨vs,rv,pv⟩:=q2.is I;obtain ⟨u,hu,ux⟩:=ru.get hx;obtain ⟨v,hv,vy⟩:=rv.get hy;have lt:∀ {e o'},s.heap.get? e=some o'→e≠s.heap.objs.size:=fun e=>Nat.ne_of_lt (Heap.lt_size e);refine Zg7 D h1 h2 h3 h4 h5 pu pv (x:=u) (y:=v) (by simpa using hu) (by simpa using hv) fun g r1 r2 r3 r4 r5 r6 r7=>?_;refine ⟨_,rfl,wpAny_letOwnedTupleGo_zip r1 fun g2 z2 s2=>?_⟩;have hp:H s.heap.objs.size=none:=I.hok.fresh (Nat.le_refl _);have T2:IsPair g2 s.heap.objs.size u v:=s2.extBut _ _ (Ne.symm (lt h1)) r5
  have I2:Inv X pins σ (upd H s.heap.objs.size (.tup [x,y])) { s with heap:=g2,toks:=s.toks }:=by
   refine I.turnNew (ch:=[z,o,i,j]) (fun e o' ne q=>?_) (fun e he=>hf e ?_) (Nat.le_refl _) ⟨z2_,[u,v],.cons ux (.cons vy .nil),⟨_,T2,rfl,_,rfl⟩⟩
   · simp only [List.mem_cons,List.not_mem_nil,or_false,not_or] at ne;exact s2.extBut _ _ ne.1 (r7 e o' ne.1 ne.2.1 ne.2.2.1 ne.2.2.2 q)
   · simp only [List.mem_cons,List.not_mem_nil,or_false] at he ⊢
     rcases he with q|q|q|q<;>simp [q]
  refine ⟨.ref s.heap.objs.size,_,I2,rfl,⟨_,x,y,rfl,hp,rfl,fun xs' q=>by rw [q.inj q1 I];exact hx,fun ys' q=>by rw [q.inj q2 I];exact hy⟩,⟨z2,?_,⟨u,v,s2.extBut _ _ D.oz r2⟩,r3.at fun u' e=>s2.extBut _ _ D.iz e,r4.at fun u' e=>s2.extBut _ _ D.jz e⟩,fun e he=>?_⟩
  · exact s2.extBut _ _ D.tz (r7 _ _ D.tz D.to D.ti D.tj h2)
  · have ne:e≠s.heap.objs.size:=by
     simp only [List.mem_cons,List.not_mem_nil,or_false] at he
     rcases he with rfl|rfl|rfl|rfl|rfl
     · exact lt h1
     · exact lt h2
     · exact lt h3
     · obtain ⟨_,q,_⟩:=h4.ex;exact lt q
     · obtain ⟨_,q,_⟩:=h5.ex;exact lt q
    rw [Zr ne];exact (hf e he).1
 done:=by
  intro X hP hw hK hc n pins s σ H E I hf st hg;subst hP hw hK;obtain ⟨h1,h2,⟨c,d,h3⟩,h4,h5⟩:=st;obtain ⟨xs,ys,q1,q2,hl⟩:=hg;obtain ⟨us,ru,pu⟩:=q1.is I;obtain ⟨vs,rv,pv⟩:=q2.is I;have e1:=ru.length;have e2:=rv.length;refine Zhr (I.ok.hd hc) D h1 h2 h3 h4 h5 pu pv ?_ fun g r=>⟨rfl,?_⟩
  · rcases hl with q|q
    · left;simp;omega
    · right;simp;omega
  · refine I.turnOnly (t':=s.toks) (ch:=[z,o,i,j]) (fun e o' ne q=>?_) (fun e he=>hf e ?_)
    · simp only [List.mem_cons,List.not_mem_nil,or_false,not_or] at ne;exact r e o' ne.1 ne.2.1 ne.2.2.1 ne.2.2.2 q
    · simp only [List.mem_cons,List.not_mem_nil,or_false] at he ⊢
      rcases he with q|q|q|q<;>simp [q]
 self:=fun _ _ _ _ _ st h=>wpAny_pyIter_zip st.1 h
theorem Zqx {n a b:Addr} (la:a<n) (lb:b<n):ZP (n+4) (n+2) (n+3) n (n+1) a b:=by
 constructor<;>(intro h;have h':@Eq Nat _ _:=h;have la':@LT.lt Nat _ _ _:=la;have lb':@LT.lt Nat _ _ _:=lb;clear h la lb;omega)
theorem Zh3:bootBuiltins "zip" = some (.type "zip"):=by decide +kernel
section
variable {X:Cx} {es:List Expr} {x1:Nat} {tp:Pos}
def iZip (k l:SK) (K:PySem.W.Frag) (ta:TA):TI:=fun σ H R=>ta σ H fun vs H1=>∃ a b,vs=[.ref a,.ref b]∧(∃ xs,k.Sq K H1 a xs)∧(∃ ys,l.Sq K H1 b ys)∧R (Itz k l K a b) H1
theorem Inv.fps {pins:List (Addr×Obj)} {σ:St} {H:Hp} {s:Shared} (I:Inv X pins σ H s) {fp:List Addr} (h:∀ b∈fp,s.heap.objs.size≤b):∀ b∈fp,FpOk X pins H b:=fun b hb=>I.fpOk (h b hb) (I.hok.fresh (h b hb))
theorem Zb1 (k l:SK) {a b:Expr} {ta:TA} {p pos:Pos} (hg:Gl X "zip") (hm:X.mg "zip" = none) (ha:PA X [a,b] ta) (hs:starEach [a,b] X.env=[(false,eval a X.env),(false,eval b X.env)]:=by rfl) (hs2:starEach [b] X.env=[(false,eval b X.env)]:=by rfl) :
 PI X (.Tuple es x1 tp) (.Call (.Name "zip" p) [a,b] [] pos) (iZip k l X.K ta):=by
 intro pins s σ H R I h;refine Call_ (Zcf I hg hm Zh3 (PyProof.Rows.callWith_type1 (thn (ha pos pins s σ H _ I h) fun us s1 ⟨vs,H1,I1,r1,q1⟩=>?_) (by rw [hs,hs2]) (by rw [hs2];rfl)));obtain ⟨a,b,e,⟨xs,hx⟩,⟨ys,hy⟩,q⟩:=q1;subst e;cases r1 with
 | cons r rr =>
   cases rr with
   | cons r' rr =>
     cases rr
     cases r
     cases r'
     obtain ⟨us,ru,pu⟩:=hx.is I1;obtain ⟨ws,rw',pw⟩:=hy.is I1;have la:a<s1.heap.objs.size:=by obtain ⟨_,_,e,_⟩:=pu.ex;exact Heap.lt_size e
     have lb:b<s1.heap.objs.size:=by obtain ⟨_,_,e,_⟩:=pw.ex;exact Heap.lt_size e
     refine Zkm pu pw fun h1 m1 m2 m3 m4 m5 m6 m7=>wpAny_pyIter_zip m1 ?_;have I2:Inv X pins σ H1 { s1 with heap:=h1,toks:=s1.toks }:=I1.kept m7;refine ⟨_,_,_,_,H1,rfl,I2,Zpe (z:=s1.heap.objs.size+4) (t:=s1.heap.objs.size+2) (o:=s1.heap.objs.size+3) (i:=s1.heap.objs.size) (j:=s1.heap.objs.size+1) (k:=k) (l:=l) (a:=a) (b:=b) ?_,⟨m1,m2,⟨_,_,m3⟩,m4,m5⟩,?_,q⟩
     · exact Zqx la lb
     · have f1:=I1.fps (fp:=[s1.heap.objs.size+4,s1.heap.objs.size+2,s1.heap.objs.size+3,s1.heap.objs.size,s1.heap.objs.size+1]) (by
        intro e he;simp only [List.mem_cons,List.not_mem_nil,or_false] at he
        rcases he with rfl|rfl|rfl|rfl|rfl<;>omega)
       exact f1
end
def Ite (k:SK) (K:PySem.W.Frag) (a:Addr):It :=
 ⟨fun i H=>∃ xs x,k.Sq K H a xs∧xs[i]? = some x,
  fun i H v H'=>∃ p x,v=.ref p∧H p=none∧H'=upd H p (.tup [.int i,x])∧∀ xs,k.Sq K H a xs→xs[i]? = some x,
  fun i H=>∃ xs,k.Sq K H a xs∧xs.length=i⟩
theorem SK.draws {prog:Program} {w:World} {A:Around} {k:SK} (hh:A.handled=none) (it a:Addr) (ne:a≠it) (vs:Array Value):Draws prog w A it [it,a] vs.size (fun i v=>vs[i]? = some v) (fun i h=>k.It h it a i∧k.Is h a vs) where
 live:=fun _ _ st=>let ⟨o,e,_⟩:=st.1.ex;⟨o,e⟩
 frame:=fun _ _ _ st f=>⟨st.1.at fun o e=>f it (by simp) o e,st.2.at fun o e=>f a (by simp) o e⟩
 item:=fun i s Q E hi st q=>SK.draw st.1 st.2 (x:=vs[i]) (by simp [hi]) fun h1 r1 r2=>q _ h1 s.toks (by simp [hi]) ⟨r1,st.2.at fun o e=>r2.extBut _ _ ne e⟩ r2
 done:=fun s Q E st q=>SK.dry hh st.1 st.2 (by simp) q
theorem Zn9 {P:Program} {w:World} {K:PySem.W.Frag} {es:List Expr} {x1:Nat} {tp:Pos} {k:SK} {e it a:Addr} (n1:e≠it) (n2:a≠e) (n3:a≠it) :
 Turn P w K (.Tuple es x1 tp) (Ite k K a) [e,it] e (fun n h=>(∃ old,IsEnum h e it n old)∧k.It h it a n) where
 mem:=by simp
 obj:=fun n h st b hb=>by
  obtain ⟨⟨old,h1⟩,h2⟩:=st;simp only [List.mem_cons,List.not_mem_nil,or_false] at hb
  rcases hb with rfl|rfl
  · exact ⟨_,h1,fun v q=>by cases (show Data.fields _=Data.cell v from q)⟩
  · obtain ⟨u,e,_,q⟩:=h2.ex;exact ⟨u,e,fun v r=>by rw [q] at r;cases r⟩
 keep:=fun n h h' st f=>by
  obtain ⟨⟨old,h1⟩,h2⟩:=st;exact ⟨⟨old,f e (by simp) _ h1⟩,h2.at fun u q=>f it (by simp) u q⟩
 item:=by
  intro X hP hw hK hc n pins s σ H E I hf st hg;subst hP hw hK;obtain ⟨⟨old,h1⟩,h2⟩:=st;obtain ⟨xs,x,q1,hx⟩:=hg;obtain ⟨us,ru,pu⟩:=q1.is I;obtain ⟨u,hu,ux⟩:=ru.get hx;have lt:∀ {b o'},s.heap.get? b=some o'→b≠s.heap.objs.size:=fun e=>Nat.ne_of_lt (Heap.lt_size e);have hlen:n<us.toArray.size:=by have:=(List.getElem?_eq_some_iff.mp hu).1;simpa using this
  refine wpAny_pyNext_enum_itemD (SK.draws (k:=k) (show X.A.in1.handled=none from I.ok.hd hc) it a n3 us.toArray) h1 ⟨h2,pu⟩ hlen n1 (by simp [n1,n2.symm]) fun v g tk hv r1 r2 r3 r4 r5=>?_
  have ev:v=u:=by
   have:us[n]? = some v:=by simpa using hv
   rw [hu] at this;exact (Option.some.inj this).symm
  subst ev;refine ⟨_,rfl,wpAny_letOwnedTupleGo_enum r1 fun g2 z2 s2=>?_⟩;have hp:H s.heap.objs.size=none:=I.hok.fresh (Nat.le_refl _);have T2:g2.get? s.heap.objs.size=some { cls:=.type "tuple",data:=.seq #[.int n tk,v] }:=s2.extBut _ _ (Ne.symm (lt h1)) r3
  have I2:Inv X pins σ (upd H s.heap.objs.size (.tup [.int n,x])) { s with heap:=g2,toks:=tk+1 }:=by
   refine I.turnNew (ch:=[e,it]) (fun b o' ne q=>?_) (fun b hb=>hf b hb) (Nat.le_refl _) ⟨z2_,[.int n tk,v],.cons ⟨tk,rfl⟩ (.cons ux .nil),⟨_,T2,rfl,_,rfl⟩⟩;simp only [List.mem_cons,List.not_mem_nil,or_false,not_or] at ne;exact s2.extBut _ _ ne.1 (r5 b o' ne.1 ne.2 q)
  refine ⟨.ref s.heap.objs.size,_,I2,rfl,⟨_,x,rfl,hp,rfl,fun xs' q=>by rw [q.inj q1 I];exact hx⟩,⟨⟨v,by simpa using z2⟩,r2.1.at fun u' q=>s2.extBut _ _ n1.symm q⟩,fun b hb=>?_⟩
  have ne:b≠s.heap.objs.size:=by
   simp only [List.mem_cons,List.not_mem_nil,or_false] at hb
   rcases hb with rfl|rfl
   · exact lt h1
   · obtain ⟨_,q,_⟩:=h2.ex;exact lt q
  rw [Zr ne];exact (hf b hb).1
 done:=by
  intro X hP hw hK hc n pins s σ H E I hf st hg;subst hP hw hK;obtain ⟨⟨old,h1⟩,h2⟩:=st;obtain ⟨xs,q1,hl⟩:=hg;obtain ⟨us,ru,pu⟩:=q1.is I;have e1:=ru.length;have en:us.toArray.size=n:=by rw [List.size_toArray];omega
  subst en;have D:=SK.draws (prog:=X.prog) (w:=X.w) (k:=k) (show X.A.in1.handled=none from I.ok.hd hc) it a n3 us.toArray;refine wpAny_pyNext_enum_endD D h1 ⟨h2,pu⟩ fun g r=>⟨rfl,?_⟩;exact I.turnOnly (t':=s.toks) (ch:=[it]) (fun b o' ne q=>r b o' (by simpa using ne) q) (fun b hb=>hf b (by simp at hb;simp [hb]))
 self:=fun _ _ _ _ _ st h=>by obtain ⟨⟨old,h1⟩,_⟩:=st;exact wpAny_pyIter_enum h1 h
open AutoSeq1 (wpAny_loadPart')
abbrev Zal (it:Addr):Obj:={ cls:=.type "enumerate",data:=.fields #[.none,.bool false,.ref it,rawInt 0,.none,.none] }
theorem Zl3 (k:SK) (a:Addr) (vs:Array Value) (o:Obj):Meets (Builtin.«enumerate.__new__» ⟨[.type "enumerate",.ref a],[]⟩) (fun _ R s=>s.heap.get? a=some o∧k.Is s.heap a vs ∧
 R (.ok (.ret (.ref (s.heap.push (k.obj a)).objs.size))) { s with heap:=(s.heap.push (k.obj a)).push (Zal s.heap.objs.size) }) :=
 .of_wp fun prog w A R s h=>by
  obtain ⟨hp,g,d,tk,os⟩:=s;obtain ⟨ho,hk,h⟩:=h;have hsub:=sub_enumerate;have r1:k.Is (Shared.heap ⟨hp,g,d,tk,os⟩) a vs:=hk
  wp_walk using wpAny_loadPart' ho
  refine wpAny_stack_any fun st=>wpAny_pure ?_;split
  · rename_i c _ _ _ _ _
    cases (c == Value.type "enumerate")
    · (wp_walk using wpAny_loadPart' ho,SK.iter r1);exact ⟨_,rfl,h⟩
    · (wp_walk using wpAny_loadPart' ho,SK.iter r1);exact ⟨_,rfl,h⟩
  · (wp_walk using wpAny_loadPart' ho,SK.iter r1);exact ⟨_,rfl,h⟩
section
variable {prog:Program} {w:World} {A:Around} {E:Value→Shared→Prop} {s:Shared} {k:SK}
theorem Znn {a:Addr} {vs:Array Value} {Q:Value→Shared→Prop} (ha:k.Is s.heap a vs)
 (q:∀ h1,IsEnum h1 (s.heap.objs.size+1) s.heap.objs.size 0 .none→k.It h1 s.heap.objs.size a 0→(∀ b o,s.heap.get? b=some o→h1.get? b=some o)→Q (.ref (s.heap.objs.size+1)) { s with heap:=h1 }) :
 wpAny (model prog w) A (call (.type "enumerate") [.ref a]) Q E s:=by
 obtain ⟨o,n,e,d⟩:=ha.ex;refine callType_new F.called_enumerate (by decide) (F.typeCall_enumerate_1 _) (F.newCall_enumerate_1 _) (fun obj=>F.args_object_init_2 obj _) F.entry_enumerate_new (Zl3 k a vs o) ⟨e,ha,?_⟩;have n1:(s.heap.push (k.obj a)).objs.size=s.heap.objs.size+1:=Heap.size_push ..;have m2:((s.heap.push (k.obj a)).push (Zal s.heap.objs.size)).get? (s.heap.push (k.obj a)).objs.size=some (Zal s.heap.objs.size):=Heap.get?_push_size _ rfl;have m1:((s.heap.push (k.obj a)).push (Zal s.heap.objs.size)).get? s.heap.objs.size=some (k.obj a):=Heap.get?_push_of_some _ (Heap.get?_push_size _ rfl);show _∧_
 rw [n1] at m2;rw [n1];exact ⟨⟨_,m2,rfl⟩,q _ m2 (.of ⟨_,m1,rfl,rfl⟩) fun b o' r=>Heap.get?_push_of_some _ (Heap.get?_push_of_some _ r)⟩
end
theorem Zfs:bootBuiltins "enumerate" = some (.type "enumerate"):=by decide +kernel
section
variable {X:Cx} {es:List Expr} {x1:Nat} {tp:Pos}
def Zwm (k:SK) (K:PySem.W.Frag) (ta:TA):TI:=fun σ H R=>ta σ H fun vs H1=>∃ a,vs=[.ref a]∧(∃ xs,k.Sq K H1 a xs)∧R (Ite k K a) H1
theorem ne3 {n a:Addr} (la:a<n):n+1≠n∧a≠n+1∧a≠n:=by
 have la':@LT.lt Nat _ a n:=la;refine ⟨fun h=>?_,fun h=>?_,fun h=>?_⟩<;>(have h':@Eq Nat _ _:=h;clear h la;omega)
theorem Zer (k:SK) {a:Expr} {ta:TA} {p pos:Pos} (hg:Gl X "enumerate") (hm:X.mg "enumerate" = none) (ha:PA X [a] ta) (hs:starEach [a] X.env=[(false,eval a X.env)]:=by rfl) :
 PI X (.Tuple es x1 tp) (.Call (.Name "enumerate" p) [a] [] pos) (Zwm k X.K ta):=by
 intro pins s σ H R I h;refine Call_ (Zcf I hg hm Zfs (PyProof.Rows.callWith_type1 (thn (ha pos pins s σ H _ I h) fun us s1 ⟨vs,H1,I1,r1,q1⟩=>?_) hs rfl));obtain ⟨a,e,⟨xs,hx⟩,q⟩:=q1;subst e;cases r1 with
 | cons r rr =>
   cases rr
   cases r
   obtain ⟨us,ru,pu⟩:=hx.is I1;have la:a<s1.heap.objs.size:=by obtain ⟨_,_,e,_⟩:=pu.ex;exact Heap.lt_size e
   refine Znn pu fun h1 m1 m4 m7=>wpAny_pyIter_enum m1 ?_;have I2:Inv X pins σ H1 { s1 with heap:=h1,toks:=s1.toks }:=I1.kept m7;obtain ⟨z1,z2,z3⟩:=ne3 la;refine ⟨_,_,_,_,H1,rfl,I2,Zn9 (e:=s1.heap.objs.size+1) (it:=s1.heap.objs.size) (k:=k) (a:=a) z1 z2 z3,⟨⟨_,m1⟩,m4⟩,?_,q⟩
   exact I1.fps (fp:=[s1.heap.objs.size+1,s1.heap.objs.size]) (by
    intro e he;simp only [List.mem_cons,List.not_mem_nil,or_false] at he
    rcases he with rfl|rfl
    · exact Nat.le_succ _
    · exact Nat.le_refl _)
end
theorem Zlc {J:It} {n:Nat} {D:Addr} {g:TG} {tt:TT} {te:TE} {σ0:St} {H:Hp} {Q:VK} (Pv:Nat→St→Hp→Prop) (h0:Pv 0 σ0 (upd H D (.lst [])))
 (hx:∀ i σ H,i<n→Pv i σ H→J.go i H) (hz:∀ σ H,Pv n σ H→J.stop n H)
 (hs:∀ i x σ2 H2 H3,i<n→J.yld i H2 x H3→Pv i σ2 H2→g x σ2 H3 fun σ4 H4=>tt σ4 H4 fun b H5=>if b=true then te σ4 H5 fun y H6=>∃ ys,H6 D=some (.lst ys)∧ys.length<sizeLine ∧
   ∃ m',m'<n-i∧LcN n Pv (i+1) m' σ4 (upd H6 D (.lst (ys++[y]))) else ∃ m',m'<n-i∧LcN n Pv (i+1) m' σ4 H5)
 (hd:∀ σ2 H2,Pv n σ2 H2→Q (.ref D) H2):LcGo J g tt te σ0 H D Q:=by
 refine ⟨LcN n Pv,⟨_,Nat.zero_le _,rfl,h0⟩,?_⟩;rintro i m σ2 H2 ⟨hi,rfl,p⟩
 by_cases hlt:i<n
 · exact .inr ⟨hx i σ2 H2 hlt p,fun x H3 y=>hs i x σ2 H2 H3 hlt y p⟩
 · have e:i=n:=by omega
   subst e;exact .inl ⟨hz σ2 H2 p,hd σ2 H2 p⟩
theorem Zab {J:It} {n:Nat} {g:TG} {tb:TS} {D:Ends} {σ:St} {H:Hp} (Pv:Nat→St→Hp→Prop) (h0:Pv 0 σ H)
 (hx:∀ i σ H,i<n→Pv i σ H→J.go i H) (hz:∀ σ H,Pv n σ H→J.stop n H)
 (hs:∀ i x σ H H',i<n→J.yld i H x H'→Pv i σ H→g x σ H' fun σ2 H2=>tb { D with nx:=Pv (i+1),ct:=Pv (i+1),bk:=D.nx } σ2 H2) (hd:∀ σ H,Pv n σ H→D.nx σ H) :
 ∃ W:Nat→Nat→St→Hp→Prop,(∃ m,W 0 m σ H)∧∀ i m σ H,W i m σ H →
   (J.stop i H∧D.nx σ H)∨(J.go i H∧∃ N:St→Hp→Prop,(∀ σ' H',N σ' H'→∃ m',m'<m∧W (i+1) m' σ' H')∧∀ x H',J.yld i H x H'→g x σ H' fun σ2 H2=>tb { D with nx:=N,ct:=N,bk:=D.nx } σ2 H2):=by
 refine ⟨fun i m σ H=>m=n-i∧i≤n∧Pv i σ H,⟨n,by simp,Nat.zero_le _,h0⟩,?_⟩;rintro i m σ H ⟨rfl,hi,p⟩
 by_cases hlt:i<n
 · exact .inr ⟨hx i σ H hlt p,Pv (i+1),fun σ' H' p'=>⟨n-(i+1),by omega,rfl,hlt,p'⟩,fun x H' y=>hs i x σ H H' hlt y p⟩
 · have e:i=n:=by omega
   subst e;exact .inl ⟨hz σ H p,hd σ H p⟩
end L2
namespace STb
open PySem
def step (M:Nat) (q:Nat×Nat):Nat×Nat:=SetTable.leap M q.1 q.2
def nth (M:Nat):Nat→Nat×Nat→Nat×Nat
 | 0,q=>q
 | n+1,q=>nth M n (step M q)
theorem Zp5 (M n:Nat) (q:Nat×Nat):nth M (n+1) q=step M (nth M n q):=by
 induction n generalizing q with
 | zero=>rfl
 | succ n ih=>exact ih (step M q)
theorem Zsu (M a b:Nat) (q:Nat×Nat):nth M (a+b) q=nth M b (nth M a q):=by
 induction a generalizing q with
 | zero=>rw [Nat.zero_add];rfl
 | succ a ih=>rw [Nat.succ_add];exact ih (step M q)
theorem Zse (M n:Nat) (q:Nat×Nat):(nth M n q).2=q.2/32^n:=by
 induction n generalizing q with
 | zero=>simp [nth]
 | succ n ih =>
   show (nth M n (step M q)).2=_
   rw [ih];show q.2/32/32^n=_
   rw [Nat.div_div_eq_div_mul,Nat.pow_succ,Nat.mul_comm]
def fz (M:Nat) (i:Nat):Nat:=(i*5+1) % (M+1)
def fzn (M:Nat):Nat→Nat→Nat
 | 0,i=>i
 | n+1,i=>fzn M n (fz M i)
theorem Zur (M n:Nat) (i:Nat):nth M n (i,0)=(fzn M n i,0):=by
 induction n generalizing i with
 | zero=>rfl
 | succ n ih =>
   show nth M n (step M (i,0))=_
   have e:step M (i,0)=(fz M i,0):=by
    unfold step SetTable.leap fz
    simp
   rw [e,ih];rfl
def masks (M:Nat):Prop:=M=7∨M=31∨M=127
def orb (M:Nat):List Nat:=(List.range (M+1)).map fun n=>fzn M n 0
theorem Zkb (M a b i:Nat):fzn M (a+b) i=fzn M b (fzn M a i):=by
 induction a generalizing i with
 | zero=>rw [Nat.zero_add];rfl
 | succ a ih=>rw [Nat.succ_add];exact ih (fz M i)
def good (M:Nat):Bool:=(List.range (M+1)).all (fun j=>(orb M).contains j)&&fzn M (M+1) 0 == 0
theorem Zwt:good 7=true:=by decide +kernel
theorem Zui:good 31=true:=by decide +kernel
theorem Zr9:good 127=true:=by decide +kernel
theorem Zsk {M:Nat} (h:masks M):good M=true:=by
 rcases h with rfl|rfl|rfl
 · exact Zwt
 · exact Zui
 · exact Zr9
theorem Zv2 {M i j:Nat} (h:masks M) (hi:i≤M) (hj:j≤M):∃ n,n≤M∧fzn M n i=j:=by
 have g:=Zsk h;unfold good at g;rw [Bool.and_eq_true,List.all_eq_true] at g;obtain ⟨g1,g2⟩:=g;have g2':fzn M (M+1) 0=0:=by simpa using g2
 have mem:∀ j,j≤M→∃ a,a≤M∧fzn M a 0=j:=fun j hj=>by
  have:=g1 j (by simpa using Nat.lt_succ_of_le hj)
  have:j∈orb M:=by simpa using this
  unfold orb at this;obtain ⟨a,ha,e⟩:=List.mem_map.mp this;exact ⟨a,Nat.le_of_lt_succ (List.mem_range.mp ha),e⟩
 obtain ⟨a,ha,ea⟩:=mem i hi;obtain ⟨b,hb,eb⟩:=mem j hj
 by_cases hab:a≤b
 · refine ⟨b-a,by omega,?_⟩;rw [← ea,← Zkb,show a+(b-a)=b by omega];exact eb
 · refine ⟨M+1-a+b,by omega,?_⟩;rw [← ea,← Zkb,show a+(M+1-a+b)=(M+1)+b by omega,Zkb,g2'];exact eb
theorem Ztf (M:Nat) (q:Nat×Nat):(step M q).1≤M:=Nat.le_of_lt_succ (Nat.mod_lt _ (Nat.succ_pos _))
theorem Zus {M n:Nat} {q:Nat×Nat} (h:q.1≤M):(nth M n q).1≤M:=by
 cases n with
 | zero=>exact h
 | succ n=>rw [Zp5];exact Ztf M _
theorem Zvf {M i p j:Nat} (h:masks M) (hi:i≤M) (hp:p<2^64) (hj:j≤M):∃ n,n≤M+13∧(nth M n (i,p)).1=j:=by
 have z:(nth M 13 (i,p)).2=0:=by
  rw [Zse];refine Nat.div_eq_of_lt (Nat.lt_of_lt_of_le hp ?_);decide
 have e:nth M 13 (i,p)=((nth M 13 (i,p)).1,0):=by rw [← z]
 obtain ⟨n,hn,en⟩:=Zv2 h (Zus (n:=13) (q:=(i,p)) hi) hj;refine ⟨13+n,by omega,?_⟩;rw [Zsu,e,Zur];exact en
theorem Zos (h:Int):SetTable.bits h<2^64:=by
 unfold SetTable.bits;have h1:(0:Int)≤h % 2^64:=Int.emod_nonneg _ (by decide);have h2:h % 2^64<2^64:=Int.emod_lt_of_pos _ (by decide);omega
theorem Zmb {t:SetTable} {j:Nat} (hd:t.dummies=#[]) (hj:j∉t.place.toList):t.slot j=.empty:=by
 unfold SetTable.slot
 have h1:(t.place[SetTable.below t.place j]? == some j)=false:=by
  rw [beq_eq_false_iff_ne];intro e;exact hj (by simpa using Array.mem_of_getElem? e)
 have h2:SetTable.has t.dummies j=false:=by
  rw [hd];unfold SetTable.has
  simp
 simp only [h1,h2];rfl
theorem Zl1 {t:SetTable} {j:Nat} (hd:t.dummies=#[]):t.slot j=.empty∨∃ i,t.slot j=.live i∧t.place[i]? = some j:=by
 by_cases h:t.place[SetTable.below t.place j]? = some j
 · refine .inr ⟨_,?_,h⟩;unfold SetTable.slot;simp only [h,beq_self_eq_true,if_true]
 · left
   have h1:(t.place[SetTable.below t.place j]? == some j)=false:=beq_eq_false_iff_ne.mpr h
   have h2:SetTable.has t.dummies j=false:=by
    rw [hd];unfold SetTable.has
    simp
   unfold SetTable.slot;simp only [h1,h2];rfl
theorem Zjx (l:List Nat) (n:Nat) (h:l.length<n):∃ j,j<n∧j∉l:=by
 induction n generalizing l with
 | zero=>omega
 | succ n ih =>
   by_cases hm:n∈l
   · obtain ⟨j,hj,hl⟩:=ih (l.filter (·≠n)) (by
      have:(l.filter (·≠n)).length<l.length:=by
       refine List.length_filter_lt_length_iff_exists.mpr ⟨n,hm,by simp⟩
      omega)
     refine ⟨j,by omega,fun z=>hl ?_⟩;rw [List.mem_filter];exact ⟨z,by simp;omega⟩
   · exact ⟨n,Nat.lt_succ_self n,hm⟩
def adv (t:SetTable):Nat→SetTable.Probe→SetTable.Probe
 | 0,p=>p
 | n+1,p=>adv t n (t.advance p)
theorem Zs9 (t:SetTable) (a b:Nat) (p:SetTable.Probe):adv t (a+b) p=adv t b (adv t a p):=by
 induction a generalizing p with
 | zero=>rw [Nat.zero_add];rfl
 | succ a ih=>rw [Nat.succ_add];exact ih (t.advance p)
def Zbu (t:SetTable) (q:Nat×Nat) (d:Option Nat):SetTable.Probe:={ j:=q.1,more:=SetTable.runEnd t.mask q.1-q.1,i:=q.1,perturb:=q.2,dummy:=d }
theorem Zuc (M i:Nat):SetTable.runEnd M i-i≤9:=by
 unfold SetTable.runEnd;split<;>omega
theorem Zmv (t:SetTable):∀ (k:Nat) (p:SetTable.Probe),p.more=k→adv t (k+1) p=Zbu t (step t.mask (p.i,p.perturb)) p.dummy
 | 0,p,h=>by
   show t.advance p=_
   unfold SetTable.advance;rw [if_neg (by omega)];rfl
 | k+1,p,h=>by
   show adv t (k+1) (t.advance p)=_
   have e:t.advance p={ p with j:=p.j+1,more:=p.more-1 }:=by
    unfold SetTable.advance;rw [if_pos (by omega)]
   rw [e]
   have:=Zmv t k { p with j:=p.j+1,more:=p.more-1 } (by show p.more-1=k;omega)
   rw [this]
theorem Zne (t:SetTable) (n:Nat) (q:Nat×Nat) (d:Option Nat):∃ m,m≤10*n∧adv t m (Zbu t q d)=Zbu t (nth t.mask n q) d:=by
 induction n generalizing q with
 | zero=>exact ⟨0,Nat.le_refl _,rfl⟩
 | succ n ih =>
   obtain ⟨m,hm,e⟩:=ih (step t.mask q);refine ⟨(SetTable.runEnd t.mask q.1-q.1)+1+m,?_,?_⟩
   · have:=Zuc t.mask q.1;omega
   · rw [Zs9,Zmv t (SetTable.runEnd t.mask q.1-q.1) (Zbu t q d) rfl];exact e
def Near (t:SetTable) (n:Nat) (p:SetTable.Probe):Prop:=∃ m,m≤n∧t.slot (adv t m p).j=.empty
theorem near_start {t:SetTable} {h:Int} (hm:masks t.mask) (hd:t.dummies=#[]) (hl:t.place.size<t.mask+1):Near t (10*(t.mask+13)) (t.probeStart h):=by
 obtain ⟨j,hj,hn⟩:=Zjx t.place.toList (t.mask+1) (by simpa using hl);have hi:SetTable.bits h % (t.mask+1)≤t.mask:=Nat.le_of_lt_succ (Nat.mod_lt _ (Nat.succ_pos _));obtain ⟨n,hn2,e⟩:=Zvf hm hi (Zos h) (Nat.le_of_lt_succ hj);obtain ⟨m,hm2,e2⟩:=Zne t n (SetTable.bits h % (t.mask+1),SetTable.bits h) none;refine ⟨m,by omega,?_⟩
 have:t.probeStart h=Zbu t (SetTable.bits h % (t.mask+1),SetTable.bits h) none:=rfl
 rw [this,e2];show t.slot (nth t.mask n _).1=.empty
 rw [e];exact Zmb hd hn
theorem Zho (t:SetTable):∀ (n:Nat) (p:SetTable.Probe),(adv t n p).dummy=p.dummy
 | 0,_=>rfl
 | n+1,p=>by
   show (adv t n (t.advance p)).dummy=_
   rw [Zho t n];unfold SetTable.advance;split<;>rfl
theorem go_near {t:SetTable} {f:Nat→Int} {h:Int} (hd:t.dummies=#[]):∀ (n:Nat) (fuel:Nat) (p:SetTable.Probe),p.dummy=none→Near t n p→n<fuel →
 (∃ j,SetTable.probe.go t f h fuel p=some (.empty j none)∧t.slot j=.empty) ∨
 (∃ j i q,SetTable.probe.go t f h fuel p=some (.candidate j i q)∧t.slot j=.live i∧t.place[i]? = some j∧q.dummy=none∧∃ n',n'<n∧Near t n' q)
 | n,0,p,_,_,hf=>by omega
 | n,fuel+1,p,hp,⟨m,hm,e⟩,hf=>by
   rcases Zl1 (j:=p.j) hd with hs|⟨i,hs,hi⟩
   · left
     refine ⟨p.j,?_,hs⟩;unfold SetTable.probe.go;rw [hs,hp]
   · have hm0:m≠0:=by
      rintro rfl
      have:t.slot p.j=.empty:=e
      rw [hs] at this;cases this
     obtain ⟨k,rfl⟩:∃ k,m=k+1:=⟨m-1,by omega⟩;have e':t.slot (adv t k (t.advance p)).j=.empty:=e
     have hp':(t.advance p).dummy=none:=by
      have:=Zho t 1 p
      exact this.trans hp
     by_cases hc:(f i == h)=true
     · right
       refine ⟨p.j,i,t.advance p,?_,hs,hi,hp',n-1,by omega,k,by omega,e'⟩;unfold SetTable.probe.go;rw [hs];simp only [hc,if_true]
     · have:=go_near (f:=f) (h:=h) hd (n-1) fuel (t.advance p) hp' ⟨k,by omega,e'⟩ (by omega)
       have eq:SetTable.probe.go t f h (fuel+1) p=SetTable.probe.go t f h fuel (t.advance p):=by
        conv=>lhs;unfold SetTable.probe.go
        rw [hs];simp only [hc,if_false];rfl
       rw [eq]
       rcases this with r|⟨j,i',q,r1,r2,r3,r4,n',r5,r6⟩
       · exact .inl r
       · exact .inr ⟨j,i',q,r1,r2,r3,r4,n',by omega,r6⟩
theorem Zir {M:Nat} {owner:Array (Option Nat)}:∀ (n fuel:Nat) (q:Nat×Nat),(∃ m,m≤n∧(owner.getD (nth M m q).1 (some 0)).isNone=true)→n<fuel →
 ∃ j,SetTable.layClean.free M owner fuel q.1 q.2=some j∧(owner.getD j (some 0)).isNone=true
 | n,0,_,_,hf=>by omega
 | n,fuel+1,q,⟨m,hm,e⟩,hf=>by
   unfold SetTable.layClean.free;cases hfi:(List.range (SetTable.runEnd M q.1+1-q.1)).find? fun k=>(owner.getD (q.1+k) (some 0)).isNone with
   | some k =>
     refine ⟨q.1+k,rfl,?_⟩;exact (List.find?_some (p:=fun k=>(owner.getD (q.1+k) (some 0)).isNone) hfi)
   | none =>
     have hm0:m≠0:=by
      rintro rfl
      have e0:(owner.getD q.1 (some 0)).isNone=true:=e
      have:=List.find?_eq_none.mp hfi 0 (by
       rw [List.mem_range];unfold SetTable.runEnd;split<;>omega)
      rw [Nat.add_zero] at this;exact this e0
     obtain ⟨k,rfl⟩:∃ k,m=k+1:=⟨m-1,by omega⟩;exact Zir (n-1) fuel (step M q) ⟨k,by omega,e⟩ (by omega)
def cnt (owner:Array (Option Nat)):Nat:=owner.toList.countP (·.isSome)
structure Own (M n:Nat) (owner:Array (Option Nat)):Prop where
 size:owner.size=M+1
 cnt:cnt owner=n
 lt:∀ (j k:Nat),owner[j]? = some (some k)→k<n
theorem Zar {α:Type} (p:α→Bool):∀ (l:List α),l.countP p<l.length→∃ (j:Nat) (x:α),l[j]? = some x∧p x=false
 | [],h=>by simp at h
 | x :: l,h=>by
   by_cases hx:p x=true
   · rw [List.countP_cons,if_pos hx,List.length_cons] at h;obtain ⟨j,y,e,hy⟩:=Zar p l (by omega);exact ⟨j+1,y,by simpa using e,hy⟩
   · exact ⟨0,x,rfl,by simpa using hx⟩
theorem Zfp {α:Type} (p:α→Bool):∀ (l:List α) (j:Nat) (x y:α),l[j]? = some x→p x=false→p y=true→(l.set j y).countP p=l.countP p+1
 | [],j,x,y,h,_,_=>by simp at h
 | z :: l,0,x,y,h,hx,hy=>by
   have:z=x:=by simpa using h
   subst this;simp [List.countP_cons,hx,hy]
 | z :: l,j+1,x,y,h,hx,hy=>by
   have:=Zfp p l j x y (by simpa using h) hx hy
   simp only [List.set_cons_succ,List.countP_cons,this];omega
theorem Own.free {M n:Nat} {owner:Array (Option Nat)} (o:Own M n owner) (hm:masks M) (hn:n<M+1) (h:Int):∃ j,SetTable.layClean.free M owner (SetTable.turns M) (SetTable.bits h % (M+1)) (SetTable.bits h)=some j∧owner[j]? = some none:=by
 obtain ⟨j,x,e,hx⟩:=Zar (fun x:Option Nat=>x.isSome) owner.toList (by
  have:owner.toList.countP (fun x:Option Nat=>x.isSome)=n:=o.cnt
  rw [this,Array.length_toList,o.size];exact hn)
 have hj:j≤M:=by
  have:=(List.getElem?_eq_some_iff.mp e).1
  rw [Array.length_toList,o.size] at this;omega
 have e':owner[j]? = some x:=by simpa using e
 obtain ⟨m,hm2,em⟩:=Zvf hm (Nat.le_of_lt_succ (Nat.mod_lt (SetTable.bits h) (Nat.succ_pos M))) (Zos h) hj
 obtain ⟨j',r1,r2⟩:=Zir (M:=M) (owner:=owner) (M+13) (SetTable.turns M) (SetTable.bits h % (M+1),SetTable.bits h) ⟨m,hm2,by
  rw [em,Array.getD_eq_getD_getElem?,e'];cases x with
  | none=>rfl
  | some _=>cases hx⟩ (by unfold SetTable.turns;omega)
 refine ⟨j',r1,?_⟩;rw [Array.getD_eq_getD_getElem?] at r2;cases q:owner[j']? with
 | none=>rw [q] at r2;cases r2
 | some y =>
   rw [q] at r2;cases y with
   | none=>rfl
   | some _=>cases r2
theorem Own.put {M n:Nat} {owner:Array (Option Nat)} (o:Own M n owner) {j:Nat} (hj:owner[j]? = some none):Own M (n+1) (owner.setIfInBounds j (some n)) where
 size:=by rw [Array.size_setIfInBounds];exact o.size
 cnt:=by
  unfold STb.cnt;rw [Array.toList_setIfInBounds];rw [Zfp (fun x:Option Nat=>x.isSome) owner.toList j none (some n) (by simpa using hj) rfl rfl]
  have:owner.toList.countP (fun x:Option Nat=>x.isSome)=n:=o.cnt
  rw [this]
 lt:=fun i k e=>by
  rw [Array.getElem?_setIfInBounds] at e;split at e
  · split at e
    · have:n=k:=by simpa using e
      omega
    · cases e
  · have:=o.lt i k e;omega
def Zep (M:Nat) (acc:Option (Array (Option Nat)×Nat)) (h:Int):Option (Array (Option Nat)×Nat):=do
 let (owner,k) ← acc
 let j ← SetTable.layClean.free M owner (SetTable.turns M) (SetTable.bits h % (M+1)) (SetTable.bits h)
 pure (owner.setIfInBounds j (some k),k+1)
theorem Zlo {M:Nat} (hm:masks M):∀ (hs:List Int) (n:Nat) (owner:Array (Option Nat)),Own M n owner→n+hs.length<M+1→∃ owner',hs.foldl (Zep M) (some (owner,n))=some (owner',n+hs.length)∧Own M (n+hs.length) owner'
 | [],n,owner,o,_=>⟨owner,rfl,o⟩
 | h :: hs,n,owner,o,hl=>by
   rw [List.length_cons] at hl;obtain ⟨j,r1,r2⟩:=o.free hm (by omega) h
   have e:Zep M (some (owner,n)) h=some (owner.setIfInBounds j (some n),n+1):=by
    unfold Zep;show (SetTable.layClean.free M owner (SetTable.turns M) (SetTable.bits h % (M+1)) (SetTable.bits h)).bind _=_
    rw [r1];rfl
   obtain ⟨owner',e2,o2⟩:=Zlo hm hs (n+1) _ (o.put r2) (by omega);refine ⟨owner',?_,?_⟩
   · rw [List.foldl_cons,e,e2,List.length_cons];congr 2;omega
   · rw [List.length_cons,show n+(hs.length+1)=n+1+hs.length by omega];exact o2
theorem own0 (M:Nat):Own M 0 (Array.replicate (M+1) none) where
 size:=by simp
 cnt:=by
  unfold STb.cnt;rw [Array.toList_replicate,List.countP_replicate];rfl
 lt:=fun j k e=>by
  rw [Array.getElem?_replicate] at e;split at e<;>cases e
theorem Zjm {M:Nat} (hm:masks M) (hs:Array Int) (hl:hs.size<M+1):∃ owner,SetTable.layClean M hs=some owner∧Own M hs.size owner:=by
 obtain ⟨owner,e,o⟩:=Zlo hm hs.toList 0 _ (own0 M) (by simpa using hl);refine ⟨owner,?_,by simpa using o⟩;unfold SetTable.layClean;rw [← Array.foldl_toList]
 have:(hs.toList.foldl (Zep M) (some (Array.replicate (M+1) none,0)))=some (owner,0+hs.toList.length):=e
 show (List.foldl (Zep M) (some (Array.replicate (M+1) none,0)) hs.toList).map (·.1)=some owner
 rw [this];rfl
theorem Xn {α β:Type} (f:α→Option β):∀ l:List α,(l.filterMap f).length=l.countP (fun x=>(f x).isSome)
 | []=>rfl
 | x :: l=>by
   rw [List.countP_cons];cases h:f x with
   | none=>rw [List.filterMap_cons_none h,Xn f l];simp
   | some y=>rw [List.filterMap_cons_some h,List.length_cons,Xn f l];simp
theorem Zlm {M n:Nat} {owner:Array (Option Nat)} (o:Own M n owner):((List.range (M+1)).filterMap fun j=>(owner.getD j none).map (j,·)).length=n:=by
 rw [Xn]
 have e:(List.range (M+1)).countP (fun j=>((owner.getD j none).map (j,·)).isSome)=(List.range owner.size).countP (fun j=>(owner.getD j none).isSome):=by
  rw [o.size];refine List.countP_congr fun j _=>?_;cases owner.getD j none<;>simp
 rw [e]
 have e2:owner.toList=(List.range owner.size).map (fun j=>owner.getD j none):=by
  refine List.ext_getElem (by simp) fun i h1 h2=>?_;have hi:i<owner.size:=by simpa using h1
  simp [Array.getD,hi]
 have:=o.cnt
 unfold STb.cnt at this;rw [e2,List.countP_map] at this;exact this
theorem Zrx {M n:Nat} {owner:Array (Option Nat)} (o:Own M n owner):∀ q∈((List.range (M+1)).filterMap fun j=>(owner.getD j none).map (j,·)),q.2<n:=fun q hq=>by
 obtain ⟨j,_,e⟩:=List.mem_filterMap.mp hq;cases h:owner.getD j none with
 | none=>rw [h] at e;cases e
 | some k =>
   rw [h] at e;have e':(j,k)=q:=by simpa using e
   rw [← e'];refine o.lt j k ?_;rw [Array.getD_eq_getD_getElem?] at h;cases g:owner[j]? with
   | none=>rw [g] at h;cases h
   | some y=>rw [g] at h;exact congrArg some h
theorem relaid_ok {t:SetTable} {hs:Array Int} {wanted M:Nat} (hM:SetTable.sizeAbove wanted-1=M) (hm:masks M) (hl:hs.size<M+1):∃ (t':SetTable) (order:Array Nat),t.relaid hs wanted=some (t',order) ∧
 t'.mask=M∧t'.dummies=#[]∧t'.place.size=hs.size∧order.size=hs.size∧∀ k∈order.toList,k<hs.size:=by
 obtain ⟨owner,e,o⟩:=Zjm hm hs hl;unfold SetTable.relaid SetTable.laid;rw [hM,e];refine ⟨_,_,rfl,rfl,rfl,?_,?_,fun k hk=>?_⟩
 · simp only [List.size_toArray,List.length_map];exact Zlm o
 · simp only [List.size_toArray,List.length_map];exact Zlm o
 · have hk':k∈List.map (fun q:Nat×Nat=>q.2) ((List.range (M+1)).filterMap fun j=>(owner.getD j none).map (j,·)):=hk;obtain ⟨q,hq,rfl⟩:=List.mem_map.mp hk';exact Zrx o q hq
theorem pick_size {α:Type} {es:Array α} {order:Array Nat} (h1:order.size=es.size) (h2:∀ k∈order.toList,k<es.size):(order.filterMap (es[·]?)).size=es.size∧∀ x∈(order.filterMap (es[·]?)).toList,x∈es.toList:=by
 constructor
 · rw [← Array.length_toList,Array.toList_filterMap,Xn,← h1,← Array.length_toList];rw [List.countP_eq_length];intro k hk
   have:k<es.size:=h2 k hk
   simp [this]
 · intro x hx;rw [Array.toList_filterMap] at hx;obtain ⟨k,_,e⟩:=List.mem_filterMap.mp hx;exact by simpa using Array.mem_of_getElem? e
theorem insertAt_size {α:Type} (xs:Array α) (p:Nat) (x:α):(SetTable.insertAt xs p x).size=xs.size+1:=by
 unfold SetTable.insertAt;simp only [Array.size_append,Array.size_push,Array.size_extract];omega
theorem insertAt_mem {α:Type} {xs:Array α} {p:Nat} {x y:α} (h:y∈(SetTable.insertAt xs p x).toList):y=x∨y∈xs.toList:=by
 unfold SetTable.insertAt at h;rw [Array.toList_append,Array.toList_push,List.mem_append,List.mem_append] at h
 rcases h with (h|h)|h
 · right;rw [Array.toList_extract] at h;exact List.mem_of_mem_drop (List.mem_of_mem_take h)
 · left;simpa using h
 · right;rw [Array.toList_extract] at h;exact List.mem_of_mem_drop (List.mem_of_mem_take h)
end STb
namespace L2
open PySem PySem.Spec PyProof.Rows
section
variable {prog:Program} {w:World} {A:Around} {E:Value→Shared→Prop} {s:Shared} {K:Type} [DecidableEq K] {knd:KeyKind prog w K}
structure TupSet (knd:KeyKind prog w K) (h:Heap) (S:Addr) (ks:List (List K)) (es:Array (Int×Value)) (t:SetTable) (ep:Nat) (o:Obj):Prop where
 get:h.get? S=some o
 ex:o.ExactSet
 dat:o.data=.set es ep t
 mem:∀ e∈es.toList,∃ a k,e.2=.ref a∧k∈ks∧IsTupleKey knd h k a
 len:es.size=ks.length
 pl:t.place.size=es.size
 dum:t.dummies=#[]
 msk:STb.masks t.mask
 few:es.size*5<t.mask*3
theorem TupSet.fits {h:Heap} {S:Addr} {ks:List (List K)} {es:Array (Int×Value)} {t:SetTable} {ep:Nat} {o:Obj} (T:TupSet knd h S ks es t ep o):t.fits es.size=true:=by
 unfold SetTable.fits SetTable.fill;rw [T.dum,T.pl]
 have:=T.few
 have:es.size+(#[]:Array Nat).size≤t.mask:=by show es.size+0≤t.mask;omega
 simp
 show es.size≤t.mask
 exact this
theorem TupSet.way {h:Heap} {S:Addr} {ks:List (List K)} {es:Array (Int×Value)} {t:SetTable} {ep:Nat} {o:Obj} (T:TupSet knd h S ks es t ep o):t.gaveWay=false:=by
 unfold SetTable.gaveWay
 rcases T.msk with e|e|e<;>rw [e]<;>rfl
theorem Zd4 {ks:List K} {a:Addr} {n:Nat} {Q:Bool→Shared→Prop} (hk:IsTupleKey knd s.heap ks a) (h:Q false s):wpAny (model prog w) A (ofAClassStatement (n+1) (.ref a)) Q E s:=by
 have hT:=hk.typeIs;obtain ⟨o,items,m,ho,_,hd,hi⟩:=hk;unfold ofAClassStatement;refine wpAny_bind (wpAny_typeOf hT ?_);simp only [beq_self_eq_true,if_true];refine wpAny_bind (wpAny_pure ?_);simp only [Bool.not_true,Bool.false_eq_true,if_false];refine wpAny_bind (wpAny_seqItems ho hd ?_);refine wpAny_bind ?_;show wpAny _ _ (forIn items _ _) _ _ s
 rw [← Array.forIn_toList];refine wpAny_forIn_list _ (fun rest r s'=>r.1=none∧s'=s∧∀ v∈rest,carriedByValue v=true) _ ?_ ?_ _ _ ⟨rfl,rfl,hi.byValue⟩
 · rintro v rest r s' ⟨hr,rfl,hall⟩
   have hv:=hall v List.mem_cons_self
   have e:ofAClassStatement n v=pure false:=by
    cases v<;>first|(unfold ofAClassStatement;rfl)|(cases hv)
   rw [e];refine wpAny_bind (wpAny_pure ?_);simp only [Bool.false_eq_true,if_false];exact wpAny_pure ⟨rfl,rfl,fun u hu'=>hall u (List.mem_cons_of_mem _ hu')⟩
 · rintro ⟨r1,r2⟩ s' ⟨hr,rfl,_⟩
   simp only at hr;subst hr;exact wpAny_pure h
theorem Zuv {k:List K} {a:Addr} {Q:Bool→Shared→Prop} (hk:IsTupleKey knd s.heap k a) (l:List Value) (hl:∀ y∈l,∃ b k',y=.ref b∧IsTupleKey knd s.heap k' b) (h:Q false s) :
 wpAny (model prog w) A (searchCouldBeSeen (.ref a) l) Q E s:=by
 unfold searchCouldBeSeen;refine wpAny_bind ?_;refine wpAny_forIn_list _ (fun rest r s'=>r.1=none∧s'=s∧∀ y∈rest,∃ b k',y=.ref b∧IsTupleKey knd s.heap k' b) _ ?_ ?_ _ _ ⟨rfl,rfl,hl⟩
 · rintro y rest r s' ⟨hr,rfl,hall⟩
   obtain ⟨b,k',rfl,hb⟩:=hall y List.mem_cons_self;have rest':∀ y∈rest,∃ b k',y=.ref b∧IsTupleKey knd s'.heap k' b:=fun u hu=>hall u (List.mem_cons_of_mem _ hu);dsimp only;split
   · exact wpAny_pure ⟨rfl,rfl,rest'⟩
   · refine wpAny_bind (wpAny_eqIsQuiet_tuple hk ?_);simp only [Bool.not_true,Bool.false_eq_true,if_false];refine wpAny_bind (wpAny_eqIsQuiet_tuple hb ?_);simp only [Bool.not_true,Bool.false_eq_true,if_false];refine wpAny_bind (Zd4 hk ?_);simp only [Bool.false_eq_true,if_false];refine wpAny_bind (Zd4 hb ?_);simp only [Bool.false_eq_true,if_false];exact wpAny_pure ⟨rfl,rfl,rest'⟩
 · rintro ⟨r1,r2⟩ s' ⟨hr,rfl,_⟩
   simp only at hr;subst hr;exact wpAny_pure h
theorem Zef {F:Nat→Int} {t:SetTable} {h:Int} {p:SetTable.Probe} {n:Nat} {met:Option SetTable.Met} (e:t.probe F h p=met) (hd:t.dummies=#[]) (hp:p.dummy=none) (hN:STb.Near t n p) (hn:n<10*SetTable.turns t.mask) :
 (∃ j,met=some (.empty j none)∧t.slot j=.empty)∨(∃ j i q,met=some (.candidate j i q)∧t.slot j=.live i∧t.place[i]? = some j∧q.dummy=none∧∃ n',n'<n∧STb.Near t n' q):=by
 subst e;exact STb.go_near hd n _ p hp hN hn
theorem Zvl {S a:Addr} {ks:List (List K)} {es:Array (Int×Value)} {t:SetTable} {ep:Nat} {o:Obj} {k:List K} {h:Int} {Q:SetFound→Shared→Prop} (hu:A.units<cLine) (T:TupSet knd s.heap S ks es t ep o) (hk:IsTupleKey knd s.heap k a) (hn:k∉ks)
 (q:∀ j,t.slot j=.empty→Q (.free j false) s):∀ (n fuel:Nat) (stand:Option SetTable.Probe),n<fuel→n<10*SetTable.turns t.mask→(stand.getD (t.probeStart h)).dummy=none→STb.Near t n (stand.getD (t.probeStart h)) →
 wpAny (model prog w) A (setSearchFrom S (.ref a) h true fuel stand) Q E s:=by
 intro n
 induction n using Nat.strongRecOn with
 | ind n ih =>
   intro fuel stand hf hn2 hd hN;obtain ⟨f,rfl⟩:∃ f,fuel=f+1:=⟨fuel-1,by omega⟩;unfold setSearchFrom;refine wpAny_bind (wpAny_setState_of T.get T.dat T.fits ?_);dsimp only;rw [T.way];simp only [Bool.false_eq_true,if_false];split
   rotate_left
   · rename_i heq
     exact ((Zef rfl T.dum hd hN hn2).elim (fun ⟨j,e,_⟩=>heq _ e) (fun ⟨j,i,p,e,_⟩=>heq _ e)).elim
   rename_i met heq
   rcases Zef heq T.dum hd hN hn2 with ⟨j,e,hj⟩|⟨j,i,p,e,hs,hi,hp,n',hn',hN'⟩
   · cases e
     exact wpAny_pure (q j hj)
   · cases e
     dsimp only;have hi2:i<es.size:=by rw [← T.pl];exact (Array.getElem?_eq_some_iff.mp hi).1
     obtain ⟨y,hy⟩:∃ y,es[i]? = some y:=⟨_,Array.getElem?_eq_getElem hi2⟩;obtain ⟨h0,y⟩:=y;obtain ⟨b,k',rfl,hk',hb⟩:=(by simpa using T.mem (h0,y) (by simpa using Array.mem_of_getElem? hy):∃ b k',y=.ref b∧k'∈ks∧IsTupleKey knd s.heap k' b)
     have core:wpAny (model prog w) A (do
      let some (_,y):=es[i]? | unsupported "internal:set-entry"
      let equal ← holding [y] (eqBool y (.ref a))
      let (es',_,t') ← setState S
      if true&&equal then return SetFound.there none
      let some same:=t'.sameMemory t.moves t.mask|unsupported "set.changed-during-lookup:is-the-new-block-at-the-old-address"
      let still ← match (if same then t'.slot j else .empty) with
       | .live i'=>match es'[i']? with
         | some (_,y')=>do pure (if ← isSame y' y then some i' else none)
         | none=>pure none
       | _=>pure none
      match still with
      | none=>rule "set.search.anew";setSearchFrom S (.ref a) h true f none
      | some i'=>if equal then return .there (some i') else setSearchFrom S (.ref a) h true f (some p)) Q E s:=by
      rw [hy];dsimp only;refine wpAny_bind (wpAny_holding (wpAny_eqBool_tuple hu hb hk ?_));have ne:decide (k'=k)=false:=decide_eq_false (fun z=>hn (z ▸ hk'));rw [ne];refine wpAny_bind (wpAny_setState_of T.get T.dat T.fits ?_);dsimp only;simp only [Bool.and_false,Bool.false_eq_true,if_false];have sm:t.sameMemory t.moves t.mask=some true:=by unfold SetTable.sameMemory;simp
      rw [sm];dsimp only;simp only [if_true,hs,hy];refine wpAny_bind (wpAny_isSame_ref_self ?_);simp only [if_true];refine wpAny_bind (wpAny_pure ?_);dsimp only;exact ih n' hn' f (some p) (by omega) (by omega) hp hN'
     by_cases hl:t.led=true
     · rw [hl];simp only [Bool.not_true,Bool.false_eq_true,if_false];exact core
     · have hl':t.led=false:=by simpa using hl
       rw [hl'];simp only [Bool.not_false,if_true];refine wpAny_bind (Zuv hk _ (fun y hy=>?_) ?_)
       · obtain ⟨z,hz,rfl⟩:=List.mem_map.mp hy
         obtain ⟨b,k',e1,_,e3⟩:=T.mem z (by
          have hz':z∈es∧z.1=h:=by simpa using hz
          simpa using hz'.1)
         exact ⟨b,k',e1,e3⟩
       · simp only [Bool.false_eq_true,if_false];exact core
end
section
variable {prog:Program} {w:World} {A:Around} {E:Value→Shared→Prop} {s:Shared} {K:Type} [DecidableEq K] {knd:KeyKind prog w K}
theorem Zj5 {ks:List K} {a:Addr} {n:Nat} {Q:Bool→Shared→Prop} (hk:IsTupleKey knd s.heap ks a) (h:∀ b,Q b s):wpAny (model prog w) A (hashByValue (n+1) (.ref a)) Q E s:=by
 have hT:=hk.typeIs;obtain ⟨o,items,m,ho,_,hd,hi⟩:=hk;unfold hashByValue;refine wpAny_bind (wpAny_specialOf hT F.slot_tuple_hash.lookup ?_);dsimp only;refine wpAny_bind (wpAny_seqItems ho hd ?_);refine wpAny_bind ?_;show wpAny _ _ (forIn items _ _) _ _ s
 rw [← Array.forIn_toList];refine wpAny_forIn_list _ (fun rest r s'=>s'=s∧∀ v∈rest,carriedByValue v=true) _ ?_ ?_ _ _ ⟨rfl,hi.byValue⟩
 · rintro v rest r s' ⟨rfl,hall⟩
   have hv:=hall v List.mem_cons_self;have rest':∀ u∈rest,carriedByValue u=true:=fun u hu'=>hall u (List.mem_cons_of_mem _ hu')
   have e:∃ b,hashByValue n v=pure b:=by
    cases v<;>first|exact ⟨_,by unfold hashByValue;rfl⟩|(cases hv)
   obtain ⟨b,e⟩:=e;rw [e];refine wpAny_bind (wpAny_pure ?_);cases b
   · simp only [Bool.not_false,if_true];exact wpAny_pure (wpAny_pure (h _))
   · simp only [Bool.not_true,Bool.false_eq_true,if_false];exact wpAny_pure ⟨rfl,rest'⟩
 · rintro ⟨r1,r2⟩ s' ⟨rfl,_⟩
   cases r1 with
   | none=>exact wpAny_pure (h _)
   | some b=>exact wpAny_pure (h _)
theorem TupSet.store {h:Heap} {S:Addr} {ks':List (List K)} {es es':Array (Int×Value)} {t t':SetTable} {ep:Nat} {o:Obj} (get:h.get? S=some o) (ex:o.ExactSet) (dat:o.data=.set es ep t) (mem:∀ e∈es'.toList,∃ a k,e.2=.ref a∧k∈ks'∧IsTupleKey knd h k a)
 (len:es'.size=ks'.length) (pl:t'.place.size=es'.size) (dum:t'.dummies=#[]) (msk:STb.masks t'.mask) (few:es'.size*5<t'.mask*3) :
 TupSet knd (h.update S (Obj.putSet es' t')) S ks' es' t' (ep+1) { o with data:=.set es' (ep+1) t' }:=by
 have hg:(h.update S (Obj.putSet es' t')).get? S=some { o with data:=.set es' (ep+1) t' }:=by
  have:=Heap.get?_update_self (Obj.putSet es' t') get (by rw [putSet_of es' t' dat];rfl)
  rw [putSet_of es' t' dat] at this;exact this
 refine ⟨hg,ex,rfl,fun e he=>?_,len,pl,dum,msk,few⟩;obtain ⟨a,k,e1,e2,oa,items,n,e3,e4,e5,e6⟩:=mem e he
 have ne:a≠S:=by
  rintro rfl
  rw [get] at e3;cases e3;rw [dat] at e5;cases e5
 exact ⟨a,k,e1,e2,oa,items,n,((Heap.SameBut.update h S _).2 a ne).trans e3,e4,e5,e6⟩
theorem Zsr {n M:Nat} (hn:n≤30) (hm:STb.masks M) (h:n*5 ≥ M*3) (h2:(n-1)*5<M*3):STb.masks (SetTable.sizeAbove (SetTable.grown n)-1)∧n<SetTable.sizeAbove (SetTable.grown n)-1+1∧n*5<(SetTable.sizeAbove (SetTable.grown n)-1)*3∧¬ SetTable.sizeAbove (SetTable.grown n)>sizeLine:=by
 rcases hm with rfl|rfl|rfl
 · have:n=5:=by omega
   subst this;exact ⟨.inr (.inl (by decide +kernel)),by decide +kernel,by decide +kernel,by decide +kernel⟩
 · have:n=19:=by omega
   subst this;exact ⟨.inr (.inr (by decide +kernel)),by decide +kernel,by decide +kernel,by decide +kernel⟩
 · omega
theorem Zwr {S:Addr} {ks:List (List K)} {es:Array (Int×Value)} {t:SetTable} {ep:Nat} {o:Obj} {Q:Unit→Shared→Prop}
 (get:s.heap.get? S=some o) (ex:o.ExactSet) (dat:o.data=.set es ep t) (mem:∀ e∈es.toList,∃ a k,e.2=.ref a∧k∈ks∧IsTupleKey knd s.heap k a) (len:es.size=ks.length) (pl:t.place.size=es.size) (dum:t.dummies=#[]) (msk:STb.masks t.mask)
 (hn:ks.length≤30) (full:es.size*5 ≥ t.mask*3) (h2:(es.size-1)*5<t.mask*3)
 (q:∀ h' es' t' ep' o',Heap.SameBut S s.heap h'→TupSet knd h' S ks es' t' ep' o'→Q () { s with heap:=h' }):wpAny (model prog w) A (setRelay S (SetTable.grown es.size)) Q E s:=by
 have fit:t.fits es.size=true:=by
  unfold SetTable.fits SetTable.fill;rw [dum,pl]
  simp
  show es.size≤t.mask
  rcases msk with e|e|e<;>rw [e] at h2 ⊢<;>omega
 obtain ⟨g1,g2,g3,g4⟩:=Zsr (by omega) msk full h2;obtain ⟨t',order,e,r1,r2,r3,r4,r5⟩:=STb.relaid_ok (t:=t) (hs:=es.map (·.1)) (wanted:=SetTable.grown es.size) rfl g1 (by simpa using g2);have z:(es.map (·.1)).size=es.size:=by simp
 rw [z] at r3 r4 r5;obtain ⟨p1,p2⟩:=STb.pick_size r4 r5;unfold setRelay;refine wpAny_bind (wpAny_setState_of get dat fit ?_);dsimp only;rw [if_neg g4];rw [e];have hb:((order.filterMap (es[·]?)).size != es.size)=false:=by rw [p1];simp
 refine wpAny_bind ?_
 have red:wpAny (model prog w) A (if ((order.filterMap (es[·]?)).size != es.size)=true then (unsupported "internal:set-table-lost-an-element" : Sem (Array (Int×Value)×SetTable)) else pure (order.filterMap (es[·]?),t')) (fun r s'=>wpAny (model prog w) A (storeSet S r.1 r.2) Q E s') E s:=by
  rw [hb,if_neg (by decide)];refine wpAny_pure ?_;refine wpAny_storeSet_of get dat (q _ _ _ _ _ (Heap.SameBut.update ..) (TupSet.store get ex dat (fun x hx=>mem x (p2 x hx)) (p1.trans len) (r3.trans p1.symm) r2 (by rw [r1];exact g1) (by rw [r1,p1];exact g3))) (by rw [p1,sizeLine_eq];omega)
 first
  | exact red
  | (refine wpAny_bind ?_;exact red)
  | trace_state
theorem Zng (t:SetTable) (j:Nat):(t.put j).1.place.size=t.place.size+1∧(t.dummies=#[]→(t.put j).1.dummies=#[])∧(t.put j).1.mask=t.mask:=by
 unfold SetTable.put;refine ⟨STb.insertAt_size _ _ _,fun hd=>?_,rfl⟩
 have h2:SetTable.has t.dummies j=false:=by
  rw [hd];unfold SetTable.has
  simp
 simp only [h2];exact hd
theorem Zl0 {S a:Addr} {ks:List (List K)} {es:Array (Int×Value)} {t:SetTable} {ep:Nat} {o:Obj} {k:List K} {h:Int} {Q:Bool→Shared→Prop} (hu:A.units<cLine) (T:TupSet knd s.heap S ks es t ep o) (hk:IsTupleKey knd s.heap k a) (hn:k∉ks) (hl:ks.length<30)
 (q:∀ h' es' t' ep' o',Heap.SameBut S s.heap h'→TupSet knd h' S (k :: ks) es' t' ep' o'→Q true { s with heap:=h' }):wpAny (model prog w) A (setAddHashed S (.ref a) h) Q E s:=by
 unfold setAddHashed setAddHashedIn;refine wpAny_holding (wpAny_bind (wpAny_setState_of T.get T.dat T.fits ?_));dsimp only;rw [show byScan (.ref a) es=false from rfl];simp only [Bool.false_eq_true,if_false];have few:=T.few;have lt:t.place.size<t.mask+1:=by rw [T.pl];omega
 refine wpAny_bind (Zvl hu T hk hn (fun j hj=>?_) (10*(t.mask+13)) 100000 none (by rcases T.msk with e|e|e<;>rw [e]<;>decide) (by unfold SetTable.turns;omega) rfl (STb.near_start T.msk T.dum lt));dsimp only;refine wpAny_bind (wpAny_setState_of T.get T.dat T.fits ?_);dsimp only;obtain ⟨u1,u2,u3⟩:=Zng t j;generalize hput:t.put j=tp at u1 u2 u3;obtain ⟨t1,p⟩:=tp;dsimp only at u1 u2 u3 ⊢;have u2:=u2 T.dum
 have mem1:∀ e∈(SetTable.insertAt es p (h,Value.ref a)).toList,∃ b k',e.2=.ref b∧k'∈k :: ks∧IsTupleKey knd s.heap k' b:=fun e he=>by
  rcases STb.insertAt_mem he with rfl|he
  · exact ⟨a,k,rfl,List.mem_cons_self,hk⟩
  · obtain ⟨b,k',e1,e2,e3⟩:=T.mem e he;exact ⟨b,k',e1,List.mem_cons_of_mem _ e2,e3⟩
 have sz1:(SetTable.insertAt es p (h,Value.ref a)).size=es.size+1:=STb.insertAt_size _ _ _
 have key:∀ t2:SetTable,t2.place=t1.place→t2.dummies=t1.dummies→t2.mask=t1.mask→wpAny (model prog w) A (do
  storeSet S (SetTable.insertAt es p (h,Value.ref a)) t2
  if (!false&&t2.tooFull)=true then setRelay S (SetTable.grown (es.size+1))
  return true) Q E s:=by
  intro t2 e1 e2 e3
  have full:t2.tooFull=decide ((es.size+1)*5 ≥ t.mask*3):=by
   unfold SetTable.tooFull SetTable.fill;rw [e1,e2,e3,u1,u2,u3,T.pl];rfl
  refine wpAny_bind (wpAny_storeSet_of T.get T.dat ?_ (by rw [sz1,sizeLine_eq,T.len];omega))
  have hg:(s.heap.update S (Obj.putSet (SetTable.insertAt es p (h,Value.ref a)) t2)).get? S=some { o with data:=.set (SetTable.insertAt es p (h,Value.ref a)) (ep+1) t2 }:=by
   have:=Heap.get?_update_self (Obj.putSet (SetTable.insertAt es p (h,Value.ref a)) t2) T.get (by rw [putSet_of _ t2 T.dat];rfl)
   rw [putSet_of _ t2 T.dat] at this;exact this
  have sb:=Heap.SameBut.update s.heap S (Obj.putSet (SetTable.insertAt es p (h,Value.ref a)) t2)
  by_cases hf:(es.size+1)*5 ≥ t.mask*3
  · rw [full,decide_eq_true hf];simp only [Bool.not_false,Bool.true_and,if_true]
    have mem2:∀ e∈(SetTable.insertAt es p (h,Value.ref a)).toList,∃ b k',e.2=.ref b∧k'∈k :: ks∧IsTupleKey knd (s.heap.update S (Obj.putSet (SetTable.insertAt es p (h,Value.ref a)) t2)) k' b:=fun e he=>by
     obtain ⟨b,k',f1,f2,ob,items,n,f3,f4,f5,f6⟩:=mem1 e he
     have ne:b≠S:=by
      rintro rfl
      rw [T.get] at f3;cases f3;rw [T.dat] at f5;cases f5
     exact ⟨b,k',f1,f2,ob,items,n,(sb.2 b ne).trans f3,f4,f5,f6⟩
    rw [show es.size+1=(SetTable.insertAt es p (h,Value.ref a)).size from sz1.symm];refine wpAny_bind (Zwr (s:={ s with heap:=s.heap.update S (Obj.putSet (SetTable.insertAt es p (h,Value.ref a)) t2) }) hg T.ex rfl mem2 (by rw [sz1,T.len];rfl) (by rw [e1,u1,T.pl,sz1]) (by rw [e2];exact u2) (by rw [e3,u3];exact T.msk) (by simp;omega) (by rw [sz1,e3,u3];exact hf) (by rw [sz1,e3,u3];simpa using few) fun h' es' t' ep' o' r1 r2=>?_);exact wpAny_pure (q h' es' t' ep' o' (sb.trans r1) r2)
  · rw [full,decide_eq_false hf];simp only [Bool.not_false,Bool.true_and,Bool.false_eq_true,if_false];have T2:=TupSet.store (es':=SetTable.insertAt es p (h,Value.ref a)) (t':=t2) (ks':=k :: ks) T.get T.ex T.dat mem1 (by rw [sz1,T.len];rfl) (by rw [e1,u1,T.pl,sz1]) (by rw [e2];exact u2) (by rw [e3,u3];exact T.msk) (by rw [sz1,e3,u3];omega);exact wpAny_pure (q _ _ _ _ _ sb T2)
 cases hpl:t1.plain with
 | true =>
   simp only [if_true];refine wpAny_bind (Zj5 hk fun b=>?_);cases b
   · exact key _ rfl rfl rfl
   · exact key _ rfl rfl rfl
 | false =>
   simp only [Bool.false_eq_true,if_false];refine wpAny_bind (wpAny_pure ?_);exact key _ rfl rfl rfl
theorem Znr {S a:Addr} {ks:List (List K)} {es:Array (Int×Value)} {t:SetTable} {ep:Nat} {o:Obj} {k:List K} {Q:Bool→Shared→Prop} (hu:A.units<cLine) (T:TupSet knd s.heap S ks es t ep o) (hk:IsTupleKey knd s.heap k a) (hn:k∉ks) (hl:ks.length<30)
 (q:∀ h' es' t' ep' o' tk,Heap.SameBut S s.heap h'→TupSet knd h' S (k :: ks) es' t' ep' o'→Q true { s with heap:=h',toks:=tk }):wpAny (model prog w) A (setAdd S (.ref a)) Q E s:=by
 unfold setAdd;refine wpAny_holding (wpAny_bind (wpAny_pyHash_tuple hu hk ?_));exact Zl0 (s:={ s with toks:=s.toks+(k.length+1) }) hu T hk hn hl fun h' es' t' ep' o' r1 r2=>q h' es' t' ep' o' _ r1 r2
end
section
variable {prog:Program} {w:World} {A:Around} {s:Shared} {K:Type} [DecidableEq K] {knd:KeyKind prog w K}
def TupKeys (knd:KeyKind prog w K) (h:Heap) (items:Array Value) (kl:List (List K)):Prop:=∀ (j:Nat) (v:Value),items[j]? = some v→∃ a k,v=.ref a∧kl[j]? = some k∧IsTupleKey knd h k a
theorem TupKeys.keep {h h':Heap} {items:Array Value} {kl:List (List K)} {bad:List Addr} (t:TupKeys knd h items kl) (k:∀ b o,b∉bad→h.get? b=some o→h'.get? b=some o) (hb:∀ b∈bad,∀ o items n,h.get? b=some o→o.cls=.type "tuple" → o.data=.seq items n→False):TupKeys knd h' items kl:=fun j v e=>by
 obtain ⟨a,ke,e1,e2,o,its,n,e3,e4,e5,e6⟩:=t j v e;exact ⟨a,ke,e1,e2,o,its,n,k a o (fun z=>hb a z o its n e3 e4 e5) e3,e4,e5,e6⟩
theorem TupSet.kept {h h':Heap} {S:Addr} {ks:List (List K)} {es:Array (Int×Value)} {t:SetTable} {ep:Nat} {o:Obj} {bad:List Addr} (T:TupSet knd h S ks es t ep o) (hS:S∉bad) (k:∀ b o,b∉bad→h.get? b=some o→h'.get? b=some o) (hb:∀ b∈bad,∀ o items n,h.get? b=some o→o.cls=.type "tuple" → o.data=.seq items n→False):TupSet knd h' S ks es t ep o :=
 ⟨k _ _ hS T.get,T.ex,T.dat,fun e he=>by
  obtain ⟨a,ke,e1,e2,o,its,n,e3,e4,e5,e6⟩:=T.mem e he;exact ⟨a,ke,e1,e2,o,its,n,k a o (fun z=>hb a z o its n e3 e4 e5) e3,e4,e5,e6⟩,T.len,T.pl,T.dum,T.msk,T.few⟩
theorem Zqr {S I t:Addr} {items:Array Value} {kl:List (List K)} {R:Result→Shared→Prop} (hh:A.in1.handled=none) (hu:A.in1.units<cLine) (hI:t≠I) (hSI:S≠I) (hSt:S≠t) (nd:kl.Nodup) (hl:kl.length=items.size) (h30:kl.length≤30) :
 ∀ (m i:Nat) (s:Shared) (es:Array (Int×Value)) (tb:SetTable) (ep:Nat) (o:Obj),items.size-i=m→i≤items.size→s.heap.IsTupleIter I t i→s.heap.IsTuple t items→TupKeys knd s.heap items kl→TupSet knd s.heap S (kl.take i).reverse es tb ep o →
   (∀ h' tk es' tb' ep' o',(∀ b u,b∉[S,I]→s.heap.get? b=some u→h'.get? b=some u)→TupSet knd h' S kl.reverse es' tb' ep' o'→R (.ok (.ret .none)) { s with heap:=h',toks:=tk }) →
   codeAny (model prog w) A (.builtin "set.update.loop" ⟨[.ref S,.ref I],[]⟩) R s:=by
 intro m
 induction m with
 | zero =>
   intro i s es tb ep o hm hi st ht tk T q;have e:i=items.size:=by omega
   subst e;refine codeAny_builtin F.entry_set_update_loop ?_;rw [Around.under_plainId F.plain_set_update_loop _];refine wpAny_bind (m:=pyNext (.ref I)) (wpAny_pyNext_tuple_end hh st ht (by simp) fun h' k=>?_);obtain ⟨oi,gi,ci,di⟩:=st
   have T':TupSet knd h' S (kl.take items.size).reverse es tb ep o:=T.kept (bad:=[I]) (by simpa using hSI) (fun b u nb e=>k b u (by simpa using nb) e) (fun b hb u its n e c _=>by
    have:b=I:=by simpa using hb
    subst this;rw [gi] at e;cases e;rw [ci] at c;exact absurd c (by decide))
   rw [List.take_of_length_le (by omega)] at T';exact wpAny_pure (q h' s.toks es tb ep o (fun b u nb e=>k b u (fun z=>nb (by simp [z])) e) T')
 | succ m ih =>
   intro i s es tb ep o hm hi st ht tk T q;have hlt:i<items.size:=by omega
   refine codeAny_builtin F.entry_set_update_loop ?_;rw [Around.under_plainId F.plain_set_update_loop _];refine wpAny_bind (m:=pyNext (.ref I)) (wpAny_pyNext_tuple_item st ht (x:=items[i]) (by simp [hlt]) fun h1 st1 sb1=>?_);obtain ⟨oi,gi,ci,di⟩:=st
   have badI:∀ b∈[I],∀ (u:Obj) (its:Array Value) (n:Nat),s.heap.get? b=some u→u.cls=.type "tuple" → u.data=.seq its n→False:=fun b hb u its n e c _=>by
    have:b=I:=by simpa using hb
    subst this;rw [gi] at e;cases e;rw [ci] at c;exact absurd c (by decide)
   have k1:∀ b u,b∉[I]→s.heap.get? b=some u→h1.get? b=some u:=fun b u nb e=>sb1.extBut b u (by simpa using nb) e;have T1:=T.kept (by simpa using hSI) k1 badI;have tk1:=tk.keep k1 badI;have ht1:h1.IsTuple t items:=ht.extBut sb1.extBut hI;obtain ⟨a,k,ea,ek,hk⟩:=tk1 i items[i] (by simp [hlt]);rw [ea];refine wpAny_bind (m:=holding [Value.ref a] (setAdd S (.ref a))) (wpAny_holding ?_);have hkl:i<kl.length:=by omega
   have ek':kl[i]=k:=by rw [List.getElem?_eq_getElem hkl] at ek;exact Option.some.inj ek
   have hn:k∉(kl.take i).reverse:=by
    rw [List.mem_reverse,← ek'];intro z;obtain ⟨j,hj,e⟩:=List.getElem_of_mem z;rw [List.getElem_take] at e;have hj':j<i:=by rw [List.length_take] at hj;omega
    have:=(List.getElem_inj nd).mp e
    omega
   refine Znr (s:={ s with heap:=h1 }) hu T1 hk hn (by rw [List.length_reverse,List.length_take];omega) fun h2 es' tb' ep' o' tk' sb2 T2=>?_;have oS:=T1.get
   have badS:∀ b∈[S],∀ (u:Obj) (its:Array Value) (n:Nat),h1.get? b=some u→u.cls=.type "tuple" → u.data=.seq its n→False:=fun b hb u its n e _ d=>by
    have:b=S:=by simpa using hb
    subst this;rw [oS] at e;cases e;rw [T1.dat] at d;cases d
   have k2:∀ b u,b∉[S]→h1.get? b=some u→h2.get? b=some u:=fun b u nb e=>(sb2.2 b (by simpa using nb)).trans e
   have T2':TupSet knd h2 S (kl.take (i+1)).reverse es' tb' ep' o':=by
    have:(kl.take (i+1)).reverse=k :: (kl.take i).reverse:=by
     rw [List.take_succ_eq_append_getElem hkl,List.reverse_append,ek'];rfl
    rw [this];exact T2
   refine wpAny_pure ⟨plainId_quiet F.plain_set_update_loop _,ih (i+1) { s with heap:=h2,toks:=tk' } es' tb' ep' o' (by omega) hlt (st1.extBut sb2.extBut (Ne.symm hSI)) (ht1.extBut sb2.extBut (Ne.symm hSt)) (tk1.keep k2 badS) T2' fun h3 tk3 es3 tb3 ep3 o3 k3 T3=>?_⟩;refine q h3 tk3 es3 tb3 ep3 o3 (fun b u nb e=>k3 b u nb (k2 b u (fun z=>nb (by simp at z;simp [z])) (k1 b u (fun z=>nb (by simp at z;simp [z])) e))) T3
theorem Zf8 (led:Bool) {h:Heap} {S:Addr} (hS:h.get? S=some { cls:=.type "set",dict:=none,data:=.set #[] 0 (.fresh 0 0 led) }):TupSet knd h S [] #[] (.fresh 0 0 led) 0 { cls:=.type "set",dict:=none,data:=.set #[] 0 (.fresh 0 0 led) } :=
 ⟨hS,⟨rfl,rfl,rfl⟩,rfl,fun e he=>by simp at he,rfl,rfl,rfl,.inl rfl,by show 0*5<7*3;decide⟩
theorem Zgh:isSubtype (.type "tuple") (.type "set")=pure false:=by rw [isSubtype_type];kernel_rfl
theorem Zbn:isSubtype (.type "tuple") (.type "frozenset")=pure false:=by rw [isSubtype_type];kernel_rfl
abbrev Yy (led:Bool):Obj:={ cls:=.type "set",dict:=none,data:=.set #[] 0 (.fresh 0 0 led) }
set_option maxHeartbeats 3200000 in
theorem Zhk {E:Value→Shared→Prop} {t:Addr} {items:Array Value} {kl:List (List K)} {Q:Value→Shared→Prop} (hh:A.handled=none) (hu:A.units+8<cLine) (ht:s.heap.IsTuple t items) (tk:TupKeys knd s.heap items kl) (nd:kl.Nodup) (hl:kl.length=items.size) (h30:kl.length≤30)
 (q:∀ h' tk es' tb' ep' o',TupSet knd h' s.heap.objs.size kl.reverse es' tb' ep' o'→(∀ b u,s.heap.get? b=some u→h'.get? b=some u)→Q (.ref s.heap.objs.size) { s with heap:=h',toks:=tk }) :
 wpAny (model prog w) A (call (.type "set") [.ref t]) Q E s:=by
 obtain ⟨c,tl,hmro⟩:=F.called_set.mro;have hmade:=F.called_set.made;have hsub:=F.called_set.sub;refine wpAny_call (codeAny_of_tree (wpAny_pure (a:=_) ⟨Code.quiet_builtin _ (by decide +kernel),codeAny_builtin F.entry_type_call ?_⟩));rw [Around.under_plain (weight_type_call_type "set" [.ref t] []) rfl];have h1:=F.called_set.notType;have h2:=F.called_set.canCreate;have hct:=F.typeCall_set_1 (.ref t)
 repeat (any_goals (first|assumption|wp_step))
 refine codeAny_mono (code_set_new_1 (.ref t) (E:=E) (Q₁:=fun v s1=>∃ led:Bool,v=.ref s.heap.objs.size∧s1={ s with heap:=s.heap.push (Yy led) }) fun led=>⟨led,rfl,rfl⟩) fun r s1 hr=>?_;cases r with
 | error e=>exact hr
 | ok fl =>
   cases fl with
   | ret obj =>
     obtain ⟨led,rfl,rfl⟩:=hr;have hS:(s.heap.push (Yy led)).get? s.heap.objs.size=some (Yy led):=Heap.get?_push_size _ rfl;have hT:Shared.TypeIs { s with heap:=s.heap.push (Yy led) } (.ref s.heap.objs.size) "set" := ⟨_,hS,rfl⟩;have hli:=F.called_set.init.lookup;have hbi:=F.called_set.init.bind (.ref s.heap.objs.size)
     repeat (any_goals (first|assumption|wp_step))
     refine codeAny_mono (codeAny_call_builtin (R:=wants (fun r s2=>r=.none∧∃ h' tk es' tb' ep' o',s2={ s with heap:=h',toks:=tk }∧TupSet knd h' s.heap.objs.size kl.reverse es' tb' ep' o'∧(∀ b u,s.heap.get? b=some u→h'.get? b=some u)) E) F.called_set.init.plain F.entry_set_init (check_set_init_1 hT ?_)) fun r2 s2 hr2=>?_
     · obtain ⟨⟨c0,d0,dd,sl0⟩,hol,hcl,nl,hdl⟩:=ht;simp only at hcl hdl;subst hcl;subst hdl;have hol':(s.heap.push (Yy led)).get? t=some { cls:=.type "tuple",dict:=d0,data:=.seq items nl,slots:=sl0 }:=Heap.get?_push_of_some _ hol;have hsls:=Zgh;have hslf:=Zbn;have hne:(Value.type "tuple" == Value.type "dict")=false:=by decide
       have ht1:(s.heap.push (Yy led)).IsTuple t items:=⟨_,hol',rfl,nl,rfl⟩;unfold Builtin.«set.__init__» noKeywords Builtin.Frozenset.updateFrom;generalize hPI:pyIter=PI
       wp_walk
       subst hPI;refine wpAny_pyIter_tuple ht1 (wpAny_bind (wpAny_runValue ?_));have tS:t<s.heap.objs.size:=Heap.lt_size hol;have n1:(s.heap.push (Yy led)).objs.size=s.heap.objs.size+1:=Heap.size_push ..;have k1:∀ b u,s.heap.get? b=some u→((s.heap.push (Yy led)).push { cls:=.type "tuple_iterator",data:=.fields #[.ref t,.int 0 0] }).get? b=some u:=fun b u e=>Heap.get?_push_of_some _ (Heap.get?_push_of_some _ e);have e1:t≠(s.heap.push (Yy led)).objs.size:=by rw [n1];exact Nat.ne_of_lt (Nat.lt_succ_of_lt tS)
       have e2:s.heap.objs.size≠(s.heap.push (Yy led)).objs.size:=by rw [n1];exact Nat.ne_of_lt (Nat.lt_succ_self _)
       refine Zqr (knd:=knd) (S:=s.heap.objs.size) (I:=(s.heap.push (Yy led)).objs.size) (t:=t) (items:=items) (kl:=kl) (by first|exact hh|simp [hh]) (by simp;omega) e1 e2 (Nat.ne_of_gt tS) nd hl h30 (items.size-0) 0 _ #[] (.fresh 0 0 led) 0 _ (by omega) (Nat.zero_le _) ⟨_,Heap.get?_push_size _ rfl,rfl,rfl⟩ (ht1.push _)
        (tk.keep (bad:=[]) (fun b u _ e=>k1 b u e) (fun b hb=>by simp at hb)) (Zf8 led (Heap.get?_push_of_some _ hS)) fun h' tk' es' tb' ep' o' k' T'=>?_
       show wpAny _ _ _ _ _ _
       refine wpAny_pure ?_;show wpAny _ _ (ret Value.none) _ _ _
       refine wpAny_pure ⟨rfl,h',tk',es',tb',ep',o',rfl,T',fun b u e=>k' b u ?_ (k1 b u e)⟩;have lb:b<s.heap.objs.size:=Heap.lt_size e;simp only [List.mem_cons,List.not_mem_nil,or_false,not_or,n1];exact ⟨Nat.ne_of_lt lb,Nat.ne_of_lt (Nat.lt_succ_of_lt lb)⟩
     · cases r2 with
       | error e=>exact hr2
       | ok fl2 =>
         cases fl2 with
         | ret r =>
           obtain ⟨rfl,h',tk',es',tb',ep',o',rfl,T',k'⟩:=hr2
           repeat (any_goals (first|assumption|wp_step))
           exact q _ _ _ _ _ _ T' k'
         | _=>exact hr2.elim
   | _=>exact hr.elim
end
def Zfv (S:Addr) (n:Nat) (h:Heap):Prop:=∃ o es ep t,h.get? S=some o∧o.ExactSet∧o.data=.set es ep t∧t.fits es.size=true∧es.size=n
section
variable {X:Cx}
theorem Zmq {P:Program} {w:World} {H:Hp} {h:Heap} {S:Addr} {n:Nat} (q:Zfv S n h):ObjOk P w H h S (.ext (Zfv S n)):=by
 refine ⟨q,?_,fun h1 h2 r k=>?_⟩
 · obtain ⟨o,_,_,_,e,_⟩:=q;exact ⟨o,e⟩
 · obtain ⟨o,es,ep,t,e,r⟩:=r;exact ⟨o,es,ep,t,k o e,r⟩
theorem items_int {prog:Program} {w:World}:∀ {ns:List Int} {us:List Value},Vals (ns.map V.int) us→ItemsAre (PySem.intKind prog w) ns us
 | [],_,.nil=>.nil
 | n :: ns,_,.cons r rs=>by
   obtain ⟨t,rfl⟩:=r;exact .cons (intKind_is _ _ _ _) (items_int rs)
theorem Zot {j:Nat} (hc:X.calm=true) (hr:Room j X.A):X1 X (.type "set") (fun xs H Q=>∃ (a:Addr) (vs:List V) (kl:List (List Int)),xs=[.ref a]∧SqT X.K H a vs∧vs.length=kl.length∧(∀ (i:Nat) (v:V),vs[i]? = some v→∃ (b:Addr) (k:List Int),v=.ref b∧kl[i]? = some k∧SqT X.K H b (k.map V.int))∧kl.Nodup∧kl.length≤30 ∧
 ∀ S,H S=none→Q (.ref S) (upd H S (.ext (Zfv S kl.length)))):=by
 intro pins s σ H xs us Q I r h;obtain ⟨a,vs,kl,rfl,hq,hl,hk,nd,h30,q⟩:=h;cases r with
 | cons rx r =>
   cases r
   cases (show _=Value.ref a from rx)
   obtain ⟨its,rv,pl,hz⟩:=I.tuple hq;have hlen:=rv.length;have hs:H s.heap.objs.size=none:=I.hok.fresh (Nat.le_refl _);refine Zhk (knd:=PySem.intKind X.prog X.w) (kl:=kl) (items:=its.toArray) (I.ok.hd hc) (by have:=hr.un;omega) pl (fun i v e=>?_) nd (by simp;omega) h30 fun h' tk es' tb' ep' o' T k=>?_
   · have e':its[i]? = some v:=by simpa using e
     have hi:i<vs.length:=by rw [hlen];exact (List.getElem?_eq_some_iff.mp e').1
     obtain ⟨x,hx⟩:∃ x,vs[i]? = some x:=⟨_,List.getElem?_eq_getElem hi⟩;obtain ⟨b,k,rfl,ek,hb⟩:=hk i x hx;obtain ⟨u,eu,ru⟩:=rv.get hx;rw [eu] at e';cases e'
     cases ru
     obtain ⟨its2,rv2,⟨o2,g2,c2,n2,d2⟩,_⟩:=I.tuple hb;exact ⟨b,k,rfl,ek,o2,its2.toArray,n2,g2,c2,d2,by simpa using items_int rv2⟩
   · refine ⟨.ref s.heap.objs.size,_,I.laid (t':=tk) k (Nat.le_refl _) (Zmq (n:=kl.length) ⟨o',es',ep',tb',T.get,T.ex,T.dat,T.fits,by rw [T.len,List.length_reverse]⟩),rfl,q _ hs⟩
theorem Zn8:X1 X (.builtin "len") (fun xs H Q=>∃ S n,xs=[.ref S]∧H S=some (.ext (Zfv S n))∧n≤sizeLine∧Q (.int n) H):=by
 intro pins s σ H xs us Q I r h;obtain ⟨S,n,rfl,hS,hn,q⟩:=h;cases r with
 | cons rx r =>
   cases r
   cases (show _=Value.ref S from rx)
   obtain ⟨⟨o,es,ep,t,e,ex,d,f,en⟩,_,_⟩:=(show ObjOk X.prog X.w H s.heap S (.ext (Zfv S n)) from I.hok S _ hS);have hl:=Zd3;have hz:sizeLine=16777216:=sizeLine_eq;refine call_len_set e ex d f (by omega) ⟨.int n,H,I.tok _,⟨_,by rw [en]⟩,q⟩
theorem Zfu:∀ (bs:List Bool),((List.range bs.length).any fun i=>(bs[i]?).getD true)=bs.any id
 | []=>rfl
 | b :: bs=>by
   rw [List.length_cons,List.range_succ_eq_map,List.any_cons,List.any_map,List.any_cons,← Zfu bs];rfl
theorem Zo1 (hc:X.calm=true):X1 X (.builtin "any") (fun xs H Q=>∃ (p:Addr) (bs:List Bool),xs=[.ref p]∧SqL X.K H p (bs.map V.bl)∧Q (.bl (bs.any id)) H):=by
 intro pins s σ H xs us Q I r h;obtain ⟨p,bs,rfl,hq,q⟩:=h;cases r with
 | cons rx r =>
   cases r
   cases (show _=Value.ref p from rx)
   obtain ⟨its,rv,pl,hz⟩:=I.list hq;have hl:=pl.isList;have hlt:p<s.heap.objs.size:=by obtain ⟨_,e,_⟩:=hl;exact Heap.lt_size e
   have hh:X.A.handled=none:=I.ok.hd hc;refine call_any_walk (wpAny_pyIter_list hl ⟨s.heap.objs.size,[s.heap.objs.size,p],[s.heap.objs.size],its.toArray.size,_,_,fun i=>(bs[i]?).getD true,rfl,Walks.list (A:=X.A.in1) hh _ p (Nat.ne_of_lt hlt) its.toArray,⟨⟨_,Heap.get?_push_size _ rfl,rfl,rfl⟩,hl.push _⟩,fun i v s' Q' E' hP hQ=>?_,fun h' tk hk=>?_⟩)
   · obtain ⟨b,e,rfl⟩:=Zck rv (show its[i]? = some v by simpa using hP);simp only [e,Option.getD_some] at hQ;exact wpAny_truthy_bool hQ
   · have e:((List.range its.toArray.size).any fun i=>(bs[i]?).getD true)=bs.any id:=by
      rw [List.size_toArray,← rv.length,List.length_map];exact Zfu bs
     rw [e];exact ⟨.bl _,H,I.kept (Zjl hk),rfl,q⟩
theorem Ziq:∀ {ns:List Int} {us:List Value} {i:Nat} {v:Value},Vals (ns.map V.int) us→us[i]? = some v→∃ t,v=.int (ns.getD i 0) t
 | [],_,i,v,.nil,e=>by simp at e
 | n :: ns,_,0,v,.cons r t,e=>by
   obtain ⟨k,rfl⟩:=r
   have:v=.int n k:=by simpa using e.symm
   exact ⟨k,this⟩
 | n :: ns,_,i+1,v,.cons r t,e=>by
   obtain ⟨k,h⟩:=Ziq t (by simpa using e);exact ⟨k,by simpa using h⟩
theorem Zfy:∀ (ns:List Int) (acc:List Int),preSum (fun i=>(acc++ns).getD i 0) (acc.length+ns.length)=preSum (fun i=>(acc++ns).getD i 0) acc.length+ns.sum
 | [],acc=>by simp
 | n :: ns,acc=>by
   have:=Zfy ns (acc++[n])
   rw [List.append_assoc] at this;simp only [List.length_append,List.length_cons,List.length_nil,List.singleton_append] at this ⊢;rw [show acc.length+(ns.length+1)=acc.length+(0+1)+ns.length by omega,this]
   have e:preSum (fun i=>(acc++n :: ns).getD i 0) (acc.length+(0+1))=preSum (fun i=>(acc++n :: ns).getD i 0) acc.length+n:=by
    show preSum (fun i=>(acc++n :: ns).getD i 0) acc.length+(acc++n :: ns).getD acc.length 0=_
    congr 1
    simp
   rw [e,List.sum_cons,Int.add_assoc]
theorem Zhx (hc:X.calm=true):X1 X (.builtin "sum") (fun xs H Q=>∃ (p:Addr) (ns:List Int),xs=[.ref p]∧SqL X.K H p (ns.map V.int)∧Q (.int ns.sum) H):=by
 intro pins s σ H xs us Q I r h;obtain ⟨p,ns,rfl,hq,q⟩:=h;cases r with
 | cons rx r =>
   cases r
   cases (show _=Value.ref p from rx)
   obtain ⟨its,rv,pl,hz⟩:=I.list hq;have hl:=pl.isList;have hlt:p<s.heap.objs.size:=by obtain ⟨_,e,_⟩:=hl;exact Heap.lt_size e
   have hh:X.A.handled=none:=I.ok.hd hc;refine call_sum_walkG (wpAny_pyIter_list hl ⟨s.heap.objs.size,[s.heap.objs.size,p],[s.heap.objs.size],its.toArray.size,_,_,fun i=>ns.getD i 0,rfl,Walks.list (A:=X.A.in1) hh _ p (Nat.ne_of_lt hlt) its.toArray,⟨⟨_,Heap.get?_push_size _ rfl,rfl,rfl⟩,hl.push _⟩,fun b hb=>?_,fun i v hP=>Ziq rv (by simpa using hP),fun h' tk t' hk=>?_⟩)
   · simp only [List.mem_cons,List.not_mem_nil,or_false] at hb;show b<(s.heap.push _).objs.size
     rw [Heap.size_push]
     rcases hb with rfl|rfl
     · exact Nat.lt_succ_self _
     · exact Nat.lt_succ_of_lt hlt
   · have e:preSum (fun i=>ns.getD i 0) its.toArray.size=ns.sum:=by
      have:=Zfy ns []
      simp only [List.nil_append,List.length_nil,Nat.zero_add] at this;rw [List.size_toArray,← rv.length,List.length_map,this];show preSum _ 0+_=_
      simp [preSum]
     rw [e];exact ⟨.int _,H,I.kept (Zjl hk),⟨_,rfl⟩,q⟩
end
section
variable {prog:Program} {w:World} {A:Around} {E:Value→Shared→Prop} {s:Shared}
theorem Zq7 {it l:Addr} {items:Array Value} (ne:l≠it):∀ (n i:Nat) (s:Shared) (Q:List Value→Shared→Prop),s.heap.IsListIter it l i→s.heap.IsList l items→i+n≤items.size →
 (∀ h',h'.IsListIter it l (i+n)→Heap.SameBut it s.heap h'→Q ((items.toList.drop i).take n) { s with heap:=h' })→wpAny (model prog w) A (draw (.ref it) n) Q E s
 | 0,i,s,Q,hit,_,_,q=>by
   show wpAny _ _ (pure []) Q E s
   exact wpAny_pure (by simpa using q s.heap hit (Heap.SameBut.refl ..))
 | n+1,i,s,Q,hit,hl,hle,q=>by
   have hlt:i<items.size:=by omega
   refine wpAny_bind (m:=pyNext (.ref it)) (wpAny_pyNext_list_item hit hl (x:=items[i]) (by simp [hlt]) fun h1 it1 s1=>?_);refine wpAny_bind (wpAny_holding (Zq7 ne n (i+1) _ _ it1 (hl.extBut s1.extBut ne) (by omega) fun h2 it2 s2=>wpAny_pure ?_));have e:items.toList.drop i=items[i] :: items.toList.drop (i+1):=by simp [List.drop_eq_getElem_cons,hlt]
   have z:=q h2 (by rw [show i+(n+1)=i+1+n by omega];exact it2) (s1.trans s2);rw [e,List.take_succ_cons] at z;exact z
theorem Zge {l:Addr} {items:Array Value} {Q:List Value→Shared→Prop} (hh:A.handled=none) (hl:s.heap.IsList l items)
 (q:∀ h',Heap.ExtBut s.heap.objs.size s.heap h'→Q items.toList { s with heap:=h' }):wpAny (model prog w) A (unpackItems (.ref l) items.size none) Q E s:=by
 have ne:l≠s.heap.objs.size:=by obtain ⟨o,ho,_⟩:=hl;exact Nat.ne_of_lt (Heap.lt_size ho)
 unfold unpackItems;refine wpAny_bind ?_
 · unfold notIterableAtAll;refine wpAny_bind (wpAny_specialOf hl.typeIs F.slot_list_iter.lookup (wpAny_pure ?_));simp only [Bool.false_eq_true,if_false];refine wpAny_bind (wpAny_holding (wpAny_pyIter_list hl ?_));refine wpAny_bind (wpAny_holding (Zq7 ne items.size 0 _ _ ⟨_,Heap.get?_push_size _ rfl,rfl,rfl⟩ (hl.push _) (by omega) fun h1 it1 s1=>?_));rw [show List.take items.size (List.drop 0 items.toList)=items.toList by rw [List.drop_zero];exact List.take_of_length_le (by simp),if_neg (by simp)];refine wpAny_bind (wpAny_holding (wpAny_pyNext_list_end hh it1 ((hl.push _).extBut s1.extBut ne) (by simp) fun h2 e2=>?_));simp only [Option.isSome_none,Bool.false_eq_true,if_false];refine wpAny_pure (q h2 fun b o hb e=>e2 b o hb (s1.extBut b o hb (Heap.get?_push_of_some _ e)))
theorem Zp9 {env:Env} {elts:List Expr} {x1} {pos:Pos} {l:Addr} {items:Array Value} {Q:Unit→Shared→Prop} (hh:A.handled=none) (hl:s.heap.IsList l items)
 (hn:(assignEach elts env).length=items.size) (hs:(assignEach elts env).findIdx? (·.1)=none)
 (h:∀ h',Heap.ExtBut s.heap.objs.size s.heap h'→wpAny (model prog w) A (assignInOrder ((assignEach elts env).map (·.2)) items.toList) Q E { s with heap:=h' }) :
 wpAny (model prog w) A (assign (.Tuple elts x1 pos) env (.ref l)) Q E s:=by
 rw [assign_Tuple];refine wpAny_bind (wpAny_standAt ?_);unfold unpack;rw [hn,hs];exact wpAny_bind (wpAny_holding (Zge hh hl h))
end
section
variable {X:Cx} {pos:Pos}
def gLst (K:PySem.W.Frag) (n:Nat) (t:TGs):TG:=fun v σ H Q=>∃ a xs,v=.ref a∧SqL K H a xs∧xs.length=n∧t xs σ H Q
theorem Zhb {es:List Expr} {k:Nat} {t:TGs} {n:Nat} (hc:X.calm=true) (h:PGs X es t) (hn:(assignEach es X.env).length=n:=by rfl) (hst:(assignEach es X.env).findIdx? (·.1)=none:=by rfl):PG X (.Tuple es k pos) (gLst X.K n t):=by
 intro pins s σ H v u Q I r hw;obtain ⟨a,xs,e1,hq,hl,hw⟩:=hw;subst e1;cases r
 obtain ⟨its,rv,pl,hz⟩:=I.list hq;refine Zp9 (I.ok.hd hc) pl.isList (by simp [hn,← hl,rv.length]) hst fun h' hx=>?_;have I1:Inv X pins σ H { s with heap:=h' }:=I.kept (t':=s.toks) fun b o e=>hx b o (Nat.ne_of_lt (Heap.lt_size e)) e;exact h pins _ σ H xs _ Q I1 (by simpa using rv) hw
theorem Zc8:∀ {us:List Value} {ns:List Int},IntsAre us ns→Vals (ns.map V.int) us
 | _,_,.nil=>.nil
 | _,_,.cons n t r=>.cons ⟨t,rfl⟩ (Zc8 r)
theorem Zhd:X1 X (.builtin "sorted") (fun xs H Q=>∃ (p:Addr) (ns:List Int),xs=[.ref p]∧SqL X.K H p (ns.map V.int)∧ns.length<64∧∀ (l:Addr) (ns':List Int),H l=none→ns'.Perm ns→ns'.Pairwise (·≤·)→Q (.ref l) (upd H l (.lst (ns'.map V.int)))):=by
 intro pins s σ H xs us Q I r h;obtain ⟨p,ns,rfl,hq,h64,q⟩:=h;cases r with
 | cons rx r =>
   cases r
   cases (show _=Value.ref p from rx)
   obtain ⟨its,rv,pl,hz⟩:=I.list hq;have hlen:=rv.length;rw [List.length_map] at hlen;refine sorted_ints pl.isList (Za7 rv) (by omega) fun out ns' a1 a2 a3=>?_;obtain ⟨e,he⟩:=sortedAll_at s.heap its out;have fr:H (s.heap.objs.size+1)=none:=I.hok.fresh (Nat.le_succ _);refine ⟨.ref (s.heap.objs.size+1),_,I.laid (o:=.lst (ns'.map V.int)) (t':=s.toks) (fun b u e=>sortedAll_old e) (Nat.le_succ _) ⟨?_,out.toList,e,Zc8 a1,by simpa using he⟩,rfl,q _ ns' fr a2 a3⟩;rw [List.length_map,a2.length_eq,sizeLine_eq];omega
theorem Zi6 {n:Nat}:∀ {l:List Value} (k:Nat),l.length=n→(∀ (j:Nat) (v:Value),l[j]? = some v→∃ t,v=.int ((k:Int)+j) t)→Vals ((List.range' k n).map fun i:Nat=>V.int i) l:=by
 induction n with
 | zero=>intro l k hl _;cases l with
   | nil=>exact .nil
   | cons _ _=>simp at hl
 | succ n ih =>
   intro l k hl h;cases l with
   | nil=>simp at hl
   | cons x l =>
     obtain ⟨t,rfl⟩:=h 0 x rfl;refine .cons ⟨t,by simp⟩ (ih (k+1) (by simpa using hl) fun j v e=>?_);obtain ⟨t',e'⟩:=h (j+1) v (by simpa using e);exact ⟨t',by rw [e'];congr 1;omega⟩
theorem Ztv {a:Expr} {ta:TA} {p2 q2:Pos} (hg2:Gl X "range") (hm2:X.mg "range" = none) (ha:PA X [a] ta) (he:starEach [a] X.env=[(false,eval a X.env)]:=by rfl) :
 PE X (.Call (.Name "range" p2) [a] [] q2) (fun σ H Q=>ta σ H fun vs H1=>∃ n:Nat,vs=[.int n]∧∀ r,H1 r=none→Q (.ref r) (upd H1 r (.rng 0 n))):=by
 intro pins s σ H Q I h;refine Call_ (Zcf I hg2 hm2 boot_range (PyProof.Rows.callWith_type1 (thn (ha q2 pins s σ H _ I h) fun us s1 ⟨vs,H1,I1,r1,q1⟩=>?_) he rfl));obtain ⟨n,rfl,q⟩:=q1;cases r1 with
 | cons r rr =>
   cases rr
   obtain ⟨t,rfl⟩:=r;refine call_range_1 ?_;have fr:H1 s1.heap.objs.size=none:=I1.hok.fresh (Nat.le_refl _);exact ⟨.ref s1.heap.objs.size,_,I1.laid (o:=.rng 0 n) (fun b o e=>Heap.get?_push_of_some _ e) (Nat.le_refl _) ⟨_,_,_,Heap.get?_push_size _ rfl⟩,rfl,q _ fr⟩
theorem Zlx (hc:X.calm=true):X1 X (.type "list") (fun xs H Q=>∃ (r:Addr) (n:Nat),xs=[.ref r]∧H r=some (.rng 0 n)∧n≤1000∧∀ l,H l=none→Q (.ref l) (upd H l (.lst ((List.range n).map fun i:Nat=>V.int i)))):=by
 intro pins s σ H xs us Q I r h;obtain ⟨a,n,rfl,hr,hn,q⟩:=h;cases r with
 | cons rx r =>
   cases r
   cases (show _=Value.ref a from rx)
   obtain ⟨t,u,v,e⟩:=(show ObjOk X.prog X.w H s.heap a (.rng 0 n) from I.hok a _ hr);have fr:H s.heap.objs.size=none:=I.hok.fresh (Nat.le_refl _);refine call_list_range (n:=n) (I.ok.hd hc) e (small_one (by omega) (by omega) (by omega) (by omega)) (by rw [rangeSize_one];split<;>omega) (by omega) fun h' tk acc c k hS it=>?_;refine ⟨.ref s.heap.objs.size,_,I.laid (o:=.lst ((List.range n).map fun i:Nat=>V.int i)) (t':=tk) k (Nat.le_refl _) ⟨?_,acc.toList,c,?_,by simpa using hS⟩,rfl,q _ fr⟩
   · rw [List.length_map,List.length_range,sizeLine_eq];omega
   · rw [List.range_eq_range'];refine Zi6 0 (by rw [Array.length_toList];exact it.1) fun j v e=>?_;obtain ⟨t',e'⟩:=it.2 j v (by simpa using e);exact ⟨t',by rw [e'];congr 1;omega⟩
end
abbrev sc2 (elt t0 i0 t1 i1:Expr) (scope:Scope) (pos:Pos):Expr:=.SetComp elt [⟨t0,i0,[],0⟩,⟨t1,i1,[],0⟩] scope pos
theorem Zpf (elt t0 i0 t1 i1:Expr) (scope:Scope) (pos:Pos) (it acc:Value) (env:Env):compTurn (sc2 elt t0 i0 t1 i1 scope pos) 0 it acc env=(do
 standAt i0.pos
 match ← pyNext it with
 | none=>pure (.done .next)
 | some v =>
   letOwnedTupleGo t0 it v
   assign t0 env v
   let mut ok:=true
   for c in ([]:List Expr) do
    if ok then ok ← isTrue c env (eval c env)
   if ok then do
    let x ← eval i1 env
    standAt i1.pos
    let x ← foldedSetIterable i1 env x
    let _ ← runOwn (.compStart (sc2 elt t0 i0 t1 i1 scope pos) 1 (← holding [x] (pyIter x)) acc env) env
    again (.compLoop (sc2 elt t0 i0 t1 i1 scope pos) 0 it acc env)
   else again (.compLoop (sc2 elt t0 i0 t1 i1 scope pos) 0 it acc env)):=by rfl
theorem Zqo (elt t0 i0 t1 i1:Expr) (scope:Scope) (pos:Pos) (it acc:Value) (env:Env):compTurn (sc2 elt t0 i0 t1 i1 scope pos) 1 it acc env=(do
 standAt i1.pos
 match ← pyNext it with
 | none=>pure (.done .next)
 | some v =>
   letOwnedTupleGo t1 it v
   assign t1 env v
   let mut ok:=true
   for c in ([]:List Expr) do
    if ok then ok ← isTrue c env (eval c env)
   if ok then
    (do let v ← eval elt env;standAt elt.pos;let _ ← call (.builtin "set.add") [acc,v])
   again (.compLoop (sc2 elt t0 i0 t1 i1 scope pos) 1 it acc env)):=by rfl
section
variable {prog:Program} {w:World} {A:Around} {R:Result→Shared→Prop} {s:Shared} {elt t0 i0 t1 i1:Expr} {scope:Scope} {pos:Pos} {it acc:Value} {env:Env}
abbrev NoX:Value→Shared→Prop:=fun _ _=>False
theorem Zpo (I:Nat→Shared→Prop)
 (turn:∀ n s,I n s→wpAny (model prog w) A (pyNext it) (fun r s1=>match r with
   | none=>R (.ok .next) s1
   | some v=>wpAny (model prog w) A (letOwnedTupleGo t1 it v) (fun _ s2=>wpAny (model prog w) A (assign t1 env v) (fun _ s3=>wpAny (model prog w) A (eval elt env) (fun x s4=>wpAny (model prog w) A (call (.builtin "set.add") [acc,x]) (fun _ s5=>∃ m,m<n∧I m s5) NoX s4) NoX s3) NoX s2) NoX s1) NoX s)
 (n:Nat) (h:I n s):codeAny (model prog w) A (.compLoop (sc2 elt t0 i0 t1 i1 scope pos) 1 it acc env) R s:=by
 refine codeAny_loop rfl I (fun n s hI=>?_) n h;show wpAny _ A ((compTurn (sc2 elt t0 i0 t1 i1 scope pos) 1 it acc env).onRaise (fun x=>do noteFrame x env;theTreesLotGoes x)) _ _ s
 refine wpAny_noted ?_;rw [Zqo];refine wpAny_bind (wpAny_standAt (wpAny_bind (wpAny_mono (turn n s hI) (fun r s1 h1=>?_) fun _ _ h'=>h'.elim)));cases r with
 | none=>exact wpAny_pure h1
 | some v =>
   refine wpAny_bind (wpAny_mono h1 (fun _ s2 h2=>wpAny_bind (wpAny_mono h2 (fun _ s3 h3=>wpAny_bind (wpAny_pure ?_)) fun _ _ h'=>h'.elim)) fun _ _ h'=>h'.elim);simp only [if_true];refine wpAny_bind (wpAny_bind (wpAny_mono h3 (fun x s4 h4=>wpAny_bind (wpAny_standAt (wpAny_bind (wpAny_mono h4 (fun _ s5 h5=>wpAny_pure (wpAny_pure ⟨rfl,h5⟩)) fun _ _ h'=>h'.elim)))) fun _ _ h'=>h'.elim))
theorem Zoa (h0:codeAny (model prog w) A (.compLoop (sc2 elt t0 i0 t1 i1 scope pos) 1 it acc env) R s)
 (h:wpAny (model prog w) A (pyIter it) (fun it' s'=>codeAny (model prog w) A (.compLoop (sc2 elt t0 i0 t1 i1 scope pos) 1 it' acc env) R s') NoX s) :
 codeAny (model prog w) A (.compStart (sc2 elt t0 i0 t1 i1 scope pos) 1 it acc env) R s:=by
 refine codeAny_of_tree ?_;show wpAny _ _ ((compStart (sc2 elt t0 i0 t1 i1 scope pos) 1 it acc env).onRaise (fun x=>do noteFrame x env;standAt theWindowsPlace)) _ _ s
 refine wpAny_notedAt ?_;unfold compStart;show wpAny _ _ (ask >>= _) _ _ s
 refine wpAny_bind (wpAny_askSetting (wpAny_ite ?_));split
 · first
    | exact wpAny_bind (wpAny_pure (wpAny_pure (And.intro rfl h0)))
    | exact wpAny_pure (And.intro rfl h0)
 · first
    | exact wpAny_bind (wpAny_rule (wpAny_bind (wpAny_standAt (wpAny_bind (wpAny_mono h (fun it' s' h'=>wpAny_pure (And.intro rfl h')) fun _ _ x=>x.elim)))))
    | (refine wpAny_bind (wpAny_rule ?_);show wpAny _ _ (standAt i1.pos >>= _) _ _ s;exact wpAny_bind (wpAny_standAt (wpAny_bind (wpAny_mono h (fun it' s' h'=>wpAny_pure (And.intro rfl h')) fun _ _ x=>x.elim))))
theorem Zm0 (h0:codeAny (model prog w) A (.compLoop (sc2 elt t0 i0 t1 i1 scope pos) 0 it acc env) R s)
 (h:wpAny (model prog w) A (pyIter it) (fun it' s'=>codeAny (model prog w) A (.compLoop (sc2 elt t0 i0 t1 i1 scope pos) 0 it' acc env) R s') NoX s) :
 codeAny (model prog w) A (.compStart (sc2 elt t0 i0 t1 i1 scope pos) 0 it acc env) R s:=by
 refine codeAny_of_tree ?_;show wpAny _ _ ((compStart (sc2 elt t0 i0 t1 i1 scope pos) 0 it acc env).onRaise (fun x=>do noteFrame x env;standAt theWindowsPlace)) _ _ s
 refine wpAny_notedAt ?_;unfold compStart;show wpAny _ _ (ask >>= _) _ _ s
 refine wpAny_bind (wpAny_askSetting (wpAny_ite ?_));split
 · first
    | exact wpAny_bind (wpAny_pure (wpAny_pure (And.intro rfl h0)))
    | exact wpAny_pure (And.intro rfl h0)
 · first
    | exact wpAny_bind (wpAny_rule (wpAny_bind (wpAny_standAt (wpAny_bind (wpAny_mono h (fun it' s' h'=>wpAny_pure (And.intro rfl h')) fun _ _ x=>x.elim)))))
    | (refine wpAny_bind (wpAny_rule ?_);show wpAny _ _ (standAt i0.pos >>= _) _ _ s;exact wpAny_bind (wpAny_standAt (wpAny_bind (wpAny_mono h (fun it' s' h'=>wpAny_pure (And.intro rfl h')) fun _ _ x=>x.elim))))
theorem Zqh (hs1:∀ x,foldedSetIterable i1 env x=pure x) (I:Nat→Shared→Prop)
 (turn:∀ n s,I n s→wpAny (model prog w) A (pyNext it) (fun r s1=>match r with
   | none=>R (.ok .next) s1
   | some v=>wpAny (model prog w) A (letOwnedTupleGo t0 it v) (fun _ s2=>wpAny (model prog w) A (assign t0 env v) (fun _ s3=>wpAny (model prog w) A (eval i1 env) (fun x s4=>wpAny (model prog w) A (pyIter x) (fun itv s5 =>
      codeAny (model prog w) A (.compStart (sc2 elt t0 i0 t1 i1 scope pos) 1 itv acc env) (fun r s6=>match r with|.ok _=>∃ m,m<n∧I m s6|.error _=>False) s5) NoX s4) NoX s3) NoX s2) NoX s1) NoX s)
 (n:Nat) (h:I n s):codeAny (model prog w) A (.compLoop (sc2 elt t0 i0 t1 i1 scope pos) 0 it acc env) R s:=by
 refine codeAny_loop rfl I (fun n s hI=>?_) n h;show wpAny _ A ((compTurn (sc2 elt t0 i0 t1 i1 scope pos) 0 it acc env).onRaise (fun x=>do noteFrame x env;theTreesLotGoes x)) _ _ s
 refine wpAny_noted ?_;rw [Zpf];refine wpAny_bind (wpAny_standAt (wpAny_bind (wpAny_mono (turn n s hI) (fun r s1 h1=>?_) fun _ _ h'=>h'.elim)));cases r with
 | none=>exact wpAny_pure h1
 | some v =>
   refine wpAny_bind (wpAny_mono h1 (fun _ s2 h2=>wpAny_bind (wpAny_mono h2 (fun _ s3 h3=>wpAny_bind (wpAny_pure ?_)) fun _ _ h'=>h'.elim)) fun _ _ h'=>h'.elim);simp only [if_true];refine wpAny_bind (wpAny_mono h3 (fun x s4 h4=>wpAny_bind (wpAny_standAt (wpAny_bind (wpAny_of_eq (hs1 x) (wpAny_bind (wpAny_holding (wpAny_mono h4 (fun itv s5 h5=>wpAny_bind (wpAny_runOwn ?_)) fun _ _ h'=>h'.elim))))))) fun _ _ h'=>h'.elim);refine codeAny_mono h5 fun r s6 h6=>?_;cases r with
   | ok f=>exact wpAny_pure ⟨rfl,h6⟩
   | error e=>exact h6.elim
end
def ScIn (J1:It) (g1:TG) (te:TE) (D:Addr) (σ4:St) (H5:Hp) (fin:St→Hp→Prop):Prop:=∃ W1:Nat→Nat→St→Hp→Prop,(∃ m1,W1 0 m1 σ4 H5)∧∀ i1 m1 σ6 H6,W1 i1 m1 σ6 H6 →
 (J1.stop i1 H6∧fin σ6 H6)∨(J1.go i1 H6∧∀ y H7,J1.yld i1 H6 y H7→g1 y σ6 H7 fun σ8 H8=>te σ8 H8 fun v H9=>∃ (k:Int) (S:Int→Bool) (n:Nat),v=.int k∧H9 D=some (.set S n)∧n+1<scanBound ∧
   ∃ m1',m1'<m1∧W1 (i1+1) m1' σ8 (upd H9 D (.set (fun k'=>S k'||decide (k'=k)) (if S k then n else n+1))))
def ScGo (J:It) (g0:TG) (wi1:TI) (g1:TG) (te:TE) (σ0:St) (H1:Hp) (D:Addr) (Q:VK):Prop:=∃ W:Nat→Nat→St→Hp→Prop,(∃ m,W 0 m σ0 (upd H1 D (.set (fun _=>false) 0))) ∧
 ∀ i m σ2 H2,W i m σ2 H2→(J.stop i H2∧Q (.ref D) H2)∨(J.go i H2∧∀ x H3,J.yld i H2 x H3→g0 x σ2 H3 fun σ4 H4=>wi1 σ4 H4 fun J1 H5=>ScIn J1 g1 te D σ4 H5 fun σ6 H6=>∃ m',m'<m∧W (i+1) m' σ6 H6)
def tSC (wi:TI) (g0:TG) (wi1:TI) (g1:TG) (te:TE) (fr:List (Option Nat)):TE:=fun σ H Q=>wi σ H fun J H1=>∀ D,H1 D=none→ScGo J g0 wi1 g1 te (Zeb fr σ) H1 D Q
theorem Zva {X:Cx} {t0 i0 t1 i1 elt:Expr} {scope:Scope} {cl:List (Str×Addr)} {N:List Str} {fr:List (Option Nat)} {pos:Pos} {wi wi1:TI} {g0 g1:TG} {te:TE}
 (hc:X.calm=true) (L:LcScope X scope cl N fr) (hi:PI X t0 i0 wi) (hg:∀ C s3 H3 fp,PG (blk X scope cl C N s3 H3 fp) t0 g0) (hi1:∀ C s3 H3 fp,PI (blk X scope cl C N s3 H3 fp) t1 i1 wi1) (hg1:∀ C s3 H3 fp,PG (blk X scope cl C N s3 H3 fp) t1 g1)
 (he:∀ C s3 H3 fp,PE (blk X scope cl C N s3 H3 fp) elt te)
 (hs:∀ x,foldedSetIterable i0 X.env x=pure x:=by intro _;rfl) (hs1:∀ env x,foldedSetIterable i1 env x=pure x:=by intro _ _;rfl):PE X (sc2 elt t0 i0 t1 i1 scope pos) (tSC wi g0 wi1 g1 te fr):=by
 intro pins s σ H Q I h;rw [arm_eval_SetComp];dsimp only;refine wpAny_comprehension_free (use:=none) rfl hs L.clos L.kind L.names (thn (hi pins s σ H _ I h) fun v s1 h1=>thn h1 fun itv s2 h2=>?_);obtain ⟨it,fp,tn,J,H2,e,I2,T,st2,f2,h⟩:=h2;subst e
 have fplt:∀ b∈fp,b<s2.heap.objs.size:=fun b hb=>by
  obtain ⟨o,q,_⟩:=T.obj _ _ st2 b hb;exact Heap.lt_size q
 have hD:H2 s2.heap.objs.size=none:=I2.hok.fresh (Nat.le_refl _);obtain ⟨W,⟨m0,w0⟩,turn⟩:=h s2.heap.objs.size hD;refine wpAny_newSet_of (knd:=PySem.intKind X.prog X.w) fun led setOf=>?_;generalize hs3:({ s2 with heap:=s2.heap.push (Yy led) }:Shared)=s3 at setOf ⊢;have hh3:s3.heap=s2.heap.push (Yy led):=by rw [← hs3]
 have k3:∀ b o,s2.heap.get? b=some o→s3.heap.get? b=some o:=fun b o e=>by rw [hh3];exact Heap.get?_push_of_some _ e
 have I3:Inv X pins σ (upd H2 s2.heap.objs.size (.set (fun _=>false) 0)) s3:=by
  rw [← hs3];exact I2.laid (t':=s2.toks) (fun b o e=>Heap.get?_push_of_some _ e) (Nat.le_refl _) setOf
 have f3:∀ b∈fp,FpOk X pins (upd H2 s2.heap.objs.size (.set (fun _=>false) 0)) b:=fun b hb=>⟨by rw [Zr (Nat.ne_of_lt (fplt b hb))];exact (f2 b hb).1,(f2 b hb).2⟩
 have fplt3:∀ b∈fp,b<s3.heap.objs.size:=fun b hb=>by
  obtain ⟨o,q,_⟩:=T.obj _ _ st2 b hb;exact Heap.lt_size (k3 _ _ q)
 have st3:tn 0 s3.heap:=T.keep _ _ _ st2 fun b hb o e=>k3 b o e;refine wpAny_newFunctionEnv L.cell (by intro y hy;simp at hy) (fun h1 hns1 hsb1=>?_) L.kind;have k4:∀ b o,s3.heap.get? b=some o→h1.get? b=some o:=fun b o e=>hsb1.extBut b o (Nat.ne_of_lt (Heap.lt_size e)) (Heap.get?_push_of_some _ e);have I4:=Ze0 (t:=s3.toks+([]:List (Str×Value)).length) L I3 f3 fplt3 hns1 k4;have st4:tn 0 h1:=T.keep _ _ _ st3 fun b hb o e=>k4 b o e
 have fpB:∀ {H':Hp} (b:Addr),b∈fp→H' b=none→FpOk (blk X scope cl s3.heap.objs.size N s3 (upd H2 s2.heap.objs.size (.set (fun _=>false) 0)) fp) [] H' b:=fun b hb hn =>
  ⟨hn,Nat.ne_of_lt (fplt3 b hb),fun z=>(Zed L I3 f3 fplt3).exfs b hb z,.inl hb,fun x c e=>((Zed L I3 f3 fplt3).exf b hb).2 x c e,fun p hp=>absurd (show p∈([]:List (Addr×Obj)) from hp) (by simp)⟩
 have loop:∀ s5:Shared,s5={ s3 with heap:=h1,toks:=s3.toks+([]:List (Str×Value)).length } →
  codeAny (model X.prog X.w) X.A (.compLoop (sc2 elt t0 i0 t1 i1 scope pos) 0 (.ref it) (.ref s2.heap.objs.size) (compEnvC scope cl s3.heap.objs.size X.env))
   (compPost (model X.prog X.w) X.A X.xe none (EP X pins σ Q) (.ref s2.heap.objs.size) s3.heap.objs.size) s5:=by
  rintro s5 rfl
  refine Zqh (fun x=>hs1 _ x) (fun n s'=>∃ i σ' H',Inv (blk X scope cl s3.heap.objs.size N s3 (upd H2 s2.heap.objs.size (.set (fun _=>false) 0)) fp) [] σ' H' s'∧tn i s'.heap∧(∀ b∈fp,H' b=none)∧W i n σ' H') ?_ m0
   ⟨0,_,_,I4,st4,fun b hb=>(f3 b hb).1,w0⟩
  rintro n s6 ⟨i,σ6,H6,I6,st6,fr6,w6⟩
  rcases turn i n σ6 H6 w6 with ⟨stop,qn⟩|⟨go,step⟩
  · refine thn (T.done (blk X scope cl s3.heap.objs.size N s3 (upd H2 s2.heap.objs.size (.set (fun _=>false) 0)) fp) rfl rfl rfl hc i [] s6 σ6 H6 (fun _ _=>False) I6 (fun b hb=>fpB b hb (fr6 b hb)) st6 stop) fun r s7 ⟨hr,I7⟩=>?_;subst hr;obtain ⟨m7,hn7,_⟩:=I7.loc;refine ⟨m7,hn7,fun h8 sb8=>⟨.ref s2.heap.objs.size,H6,?_,rfl,qn⟩⟩;have un:=I7.base;refine I3.call' (s':={ s7 with heap:=h8 }) (ch:=fp) I7.os ?_ (Znk I7.hok I7.free sb8) I7.bare (fun b hb=>⟨(f3 b hb).2.2.2.1,(f3 b hb).2.1,(f3 b hb).2.2.2.2.1,(f3 b hb).2.2.2.2.2⟩);have neC:∀ b o,s3.heap.get? b=some o→b≠s3.heap.objs.size:=fun b o e=>Nat.ne_of_lt (Heap.lt_size e);refine ⟨fun b o e n' hb hx=>?_,fun b o e n' hb hx=>?_,un.free,fun b o e hx=>?_,un.tups,un.frzs,un.tbls⟩
    · exact sb8.extBut b o (neC b o e) (un.keep b o e n' hb hx)
    · obtain ⟨sl,q⟩:=un.slot b o e n' hb hx;exact ⟨sl,sb8.extBut b _ (neC b o e) q⟩
    · obtain ⟨o',q⟩:=un.there b o e hx;exact ⟨o',sb8.extBut b _ (neC b o e) q⟩
  · refine thn (T.item (blk X scope cl s3.heap.objs.size N s3 (upd H2 s2.heap.objs.size (.set (fun _=>false) 0)) fp) rfl rfl rfl hc i [] s6 σ6 H6 (fun _ _=>False) I6 (fun b hb=>fpB b hb (fr6 b hb)) st6 go) fun r s7 ⟨u,hr,h7⟩=>?_;subst hr;refine thn h7 fun _ s8 ⟨x,H8,I8,r8,y8,st8,fr8⟩=>?_;have I8':=I8.pinned (fun b hb=>fpB b hb (fr8 b hb)) (T.obj _ _ st8);refine thn (hg _ _ _ _ _ s8 σ6 H8 x u _ I8' r8 (step x H8 y8)) fun _ s9 ⟨σ9,H9,I9,q9⟩=>?_
    have again:∀ {s11:Shared} {σ11:St} {H11:Hp} {m':Nat},Inv (blk X scope cl s3.heap.objs.size N s3 (upd H2 s2.heap.objs.size (.set (fun _=>false) 0)) fp) ([]++Za2 fp s8.heap) σ11 H11 s11→m'<n→W (i+1) m' σ11 H11 →
     ∃ m,m<n∧∃ i σ' H',Inv (blk X scope cl s3.heap.objs.size N s3 (upd H2 s2.heap.objs.size (.set (fun _=>false) 0)) fp) [] σ' H' s11∧tn i s11.heap∧(∀ b∈fp,H' b=none)∧W i m σ' H':=fun {s11 σ11 H11 m'} I11 hm w11=>by
     refine ⟨m',hm,i+1,σ11,H11,I11.unpinned,T.keep _ _ _ st8 fun b hb o e=>(I11.pin (b,o) (List.mem_append_right _ (List.mem_append_right _ (Yg hb e)))).1,fun b hb=>?_,w11⟩;obtain ⟨o,e,d⟩:=T.obj _ _ st8 b hb;exact (I11.pin (b,o) (List.mem_append_right _ (List.mem_append_right _ (Yg hb e)))).2.1
    refine thn (hi1 _ _ _ _ _ s9 σ9 H9 _ I9 q9) fun xv s10 h10=>thn h10 fun itv s11 h11=>?_;obtain ⟨it1,fp1,tn1,J1,H11,e,I11,T1,st11,f11,q11⟩:=h11;subst e;obtain ⟨W1,⟨m1,w1⟩,turn1⟩:=q11;have fpC:∀ {H':Hp} (b:Addr),b∈fp1→H' b=none→FpOk (blk X scope cl s3.heap.objs.size N s3 (upd H2 s2.heap.objs.size (.set (fun _=>false) 0)) fp) ([]++Za2 fp s8.heap) H' b:=fun b hb hn=>⟨hn,(f11 b hb).2⟩
    have loop1:∀ s12:Shared,s12=s11→codeAny (model X.prog X.w) X.A (.compLoop (sc2 elt t0 i0 t1 i1 scope pos) 1 (.ref it1) (.ref s2.heap.objs.size) (compEnvC scope cl s3.heap.objs.size X.env))
     (fun r s6=>match r with|.ok _=>∃ m,m<n∧∃ i σ' H',Inv (blk X scope cl s3.heap.objs.size N s3 (upd H2 s2.heap.objs.size (.set (fun _=>false) 0)) fp) [] σ' H' s6∧tn i s6.heap∧(∀ b∈fp,H' b=none)∧W i m σ' H'|.error _=>False) s12:=by
     rintro s12 rfl
     refine Zpo (fun n1 s'=>∃ j σ' H',Inv (blk X scope cl s3.heap.objs.size N s3 (upd H2 s2.heap.objs.size (.set (fun _=>false) 0)) fp) ([]++Za2 fp s8.heap) σ' H' s'∧tn1 j s'.heap∧(∀ b∈fp1,H' b=none)∧W1 j n1 σ' H') ?_ m1 ⟨0,_,_,I11,st11,fun b hb=>(f11 b hb).1,w1⟩;rintro n1 s13 ⟨j,σ13,H13,I13,st13,fr13,w13⟩
     rcases turn1 j n1 σ13 H13 w13 with ⟨stop,m',hm',qn⟩|⟨go1,step1⟩
     · refine thn (T1.done (blk X scope cl s3.heap.objs.size N s3 (upd H2 s2.heap.objs.size (.set (fun _=>false) 0)) fp) rfl rfl rfl hc j _ s13 σ13 H13 (fun _ _=>False) I13 (fun b hb=>fpC b hb (fr13 b hb)) st13 stop) fun r s14 ⟨hr,I14⟩=>?_;subst hr;exact again I14 hm' qn
     · refine thn (T1.item (blk X scope cl s3.heap.objs.size N s3 (upd H2 s2.heap.objs.size (.set (fun _=>false) 0)) fp) rfl rfl rfl hc j _ s13 σ13 H13 (fun _ _=>False) I13 (fun b hb=>fpC b hb (fr13 b hb)) st13 go1) fun r s14 ⟨u1,hr,h14⟩=>?_;subst hr;refine thn h14 fun _ s15 ⟨y,H15,I15,r15,y15,st15,fr15⟩=>?_;have I15':=I15.pinned (fun b hb=>fpC b hb (fr15 b hb)) (T1.obj _ _ st15);refine thn (hg1 _ _ _ _ _ s15 σ13 H15 y u1 _ I15' r15 (step1 y H15 y15)) fun _ s16 ⟨σ16,H16,I16,q16⟩=>?_;refine thn (he _ _ _ _ _ s16 σ16 H16 _ I16 q16) fun vv s17 ⟨vk,H17,I17,r17,k,S,nn,e17,hS,hroom,m',hm',w17⟩=>?_;subst e17;obtain ⟨tk,rfl⟩:=r17;have hset:s17.heap.SetOf (PySem.intKind X.prog X.w) s2.heap.objs.size S nn:=I17.hok _ _ hS;refine call_set_add (knd:=PySem.intKind X.prog X.w) (k:=k) (intKind_is _ _ _ _) rfl hset hroom fun h18 sb18 hset'=>?_
       have I18:Inv (blk X scope cl s3.heap.objs.size N s3 (upd H2 s2.heap.objs.size (.set (fun _=>false) 0)) fp) ([]++Za2 fp s8.heap++Za2 fp1 s15.heap) σ16 (upd H17 s2.heap.objs.size (.set (fun k'=>S k'||decide (k'=k)) (if S k then nn else nn+1))) { s17 with heap:=h18,toks:=s17.toks+1 }:=by
        refine I17.write (e:=s2.heap.objs.size) (by rw [hS];trivial) (.inl rfl) (fun b o hb e=>(sb18.2 b hb).trans e) ?_ hset';obtain ⟨o,_,_,_,e,_⟩:=hset';exact ⟨o,e⟩
       refine ⟨m',hm',j+1,σ16,_,I18.unpinned,T1.keep _ _ _ st15 fun b hb o e=>(I18.pin (b,o) (List.mem_append_right _ (List.mem_append_right _ (Yg hb e)))).1,fun b hb=>?_,w17⟩;obtain ⟨o,e,d⟩:=T1.obj _ _ st15 b hb;exact (I18.pin (b,o) (List.mem_append_right _ (List.mem_append_right _ (Yg hb e)))).2.1
    exact Zoa (loop1 _ rfl) (T1.self _ 0 _ _ _ st11 (loop1 _ rfl))
 exact Zm0 (loop _ rfl) (T.self _ 0 _ _ _ st4 (loop _ rfl))
end L2
namespace L2
open PySem PySem.Spec PyProof.Rows PySem.W
def krun {α:Type} (f:Nat→Nat→Bool):KasT α→α
 | .ret a=>a
 | .ask i j k=>krun f (k (f i j))
def kin {α:Type} (n:Nat) (f:Nat→Nat→Bool):KasT α→Bool
 | .ret _=>true
 | .ask i j k=>decide (i<n)&&decide (j<n)&&kin n f (k (f i j))
theorem Znf {α:Type} {n:Nat} {f:Nat→Nat→Bool} {cmp:Nat→Nat→(Bool→Shared→Prop)→Shared→Prop} {Q:α→Shared→Prop} {s:Shared} (hc:∀ i j C,i<n→j<n→C (f i j) s→cmp i j C s) :
 ∀ (t:KasT α),kin n f t=true→Q (krun f t) s→t.kasWp cmp Q s
 | .ret a,_,h=>h
 | .ask i j k,hk,h=>by
   unfold kin at hk;rw [Bool.and_eq_true,Bool.and_eq_true] at hk;exact hc i j _ (of_decide_eq_true hk.1.1) (of_decide_eq_true hk.1.2) (Znf hc (k (f i j)) hk.2 h)
def fB (b:Nat→Nat→Bool) (i j:Nat):Bool:=if i<j then b i j else if j<i then !b j i else false
def tot (n:Nat) (f:Nat→Nat→Bool):Bool:=(List.range n).all fun i=>(List.range n).all fun j=>(List.range n).all fun k=>!(f i j&&f j k)||f i k
def srt (f:Nat→Nat→Bool):List Nat→Bool
 | []=>true
 | [_]=>true
 | i :: j :: r=>f i j&&srt f (j :: r)
def fine (n:Nat) (f:Nat→Nat→Bool):Bool:=!tot n f||(kin n f (kas_sort n)&&(krun f (kas_sort n)).toList.isPerm (List.range n)&&srt f (krun f (kas_sort n)).toList)
def g2 (a:Bool):Nat→Nat→Bool:=fun _ _=>a
def g3 (a b c:Bool):Nat→Nat→Bool:=fun i j=>if i=0 then (if j=1 then a else b) else c
def g4 (a b c d e g:Bool):Nat→Nat→Bool:=fun i j=>if i=0 then (if j=1 then a else if j=2 then b else c) else if i=1 then (if j=2 then d else e) else g
theorem Zvy:∀ a,fine 2 (fB (g2 a))=true:=by decide +kernel
theorem Zv3:∀ a b c,fine 3 (fB (g3 a b c))=true:=by decide +kernel
theorem Zv7:∀ a b c d e g,fine 4 (fB (g4 a b c d e g))=true:=by decide +kernel
theorem Znj {α:Type} {n:Nat} {f f':Nat→Nat→Bool} (h:∀ i j,i<n→j<n→f i j=f' i j):∀ (t:KasT α),kin n f' t=true→kin n f t=true∧krun f t=krun f' t
 | .ret a,_=>⟨rfl,rfl⟩
 | .ask i j k,hk=>by
   unfold kin at hk;rw [Bool.and_eq_true,Bool.and_eq_true] at hk;obtain ⟨⟨h1,h2⟩,h3⟩:=hk;have e:=h i j (of_decide_eq_true h1) (of_decide_eq_true h2);obtain ⟨r1,r2⟩:=Znj h (k (f' i j)) h3;refine ⟨?_,?_⟩
   · unfold kin;rw [e,h1,h2,r1];rfl
   · show krun f (k (f i j))=krun f' (k (f' i j))
     rw [e];exact r2
structure Ord (n:Nat) (f:Nat→Nat→Bool):Prop where
 irr:∀ i,i<n→f i i=false
 ant:∀ i j,i<n→j<n→i≠j→f j i = !f i j
 tr:∀ i j k,i<n→j<n→k<n→f i j=true→f j k=true→f i k=true
theorem Zh0 {n:Nat} {f f':Nat→Nat→Bool} (h:∀ i j,i<n→j<n→f i j=f' i j):∀ (l:List Nat),(∀ i∈l,i<n)→srt f l=srt f' l
 | [],_=>rfl
 | [_],_=>rfl
 | i :: j :: r,hl=>by
   show (f i j&&srt f (j :: r))=(f' i j&&srt f' (j :: r))
   rw [h i j (hl i (by simp)) (hl j (by simp)),Zh0 h (j :: r) fun k hk=>hl k (List.mem_cons_of_mem _ hk)]
theorem Zgg {n:Nat} {f f':Nat→Nat→Bool} (o:Ord n f) (h:∀ i j,i<n→j<n→f i j=f' i j) (hf:fine n f'=true):kin n f (kas_sort n)=true∧(krun f (kas_sort n)).toList.Perm (List.range n)∧srt f (krun f (kas_sort n)).toList=true:=by
 have ht:tot n f'=true:=by
  unfold tot;simp only [List.all_eq_true,List.mem_range];intro i hi j hj k hk;rw [← h i j hi hj,← h j k hj hk,← h i k hi hk];cases a:f i j<;>cases b:f j k<;>simp
  exact o.tr i j k hi hj hk a b
 unfold fine at hf;rw [ht] at hf;simp only [Bool.not_true,Bool.false_or,Bool.and_eq_true] at hf;obtain ⟨⟨h1,h2⟩,h3⟩:=hf;obtain ⟨r1,r2⟩:=Znj h (kas_sort n) h1;have hp:(krun f' (kas_sort n)).toList.Perm (List.range n):=List.isPerm_iff.mp h2;refine ⟨r1,by rw [r2];exact hp,?_⟩;rw [r2,Zh0 h _ fun i hi=>List.mem_range.mp (hp.mem_iff.mp hi)];exact h3
theorem Zpl {n:Nat} {f:Nat→Nat→Bool} (o:Ord n f) (h1:2≤n) (h2:n≤4):kin n f (kas_sort n)=true∧(krun f (kas_sort n)).toList.Perm (List.range n)∧srt f (krun f (kas_sort n)).toList=true:=by
 have cases3:n=2∨n=3∨n=4:=by omega
 have key:∀ (g:Nat→Nat→Bool),(∀ i j,i<j→j<n→f i j=g i j)→∀ i j,i<n→j<n→f i j=fB g i j:=fun g hg i j hi hj=>by
  unfold fB
  by_cases a:i<j
  · rw [if_pos a];exact hg i j a hj
  · rw [if_neg a]
    by_cases b:j<i
    · rw [if_pos b,← hg j i b hi];exact o.ant j i hj hi (by omega)
    · rw [if_neg b]
      have:i=j:=by omega
      subst this;exact o.irr i hi
 rcases cases3 with rfl|rfl|rfl
 · refine Zgg o (key (g2 (f 0 1)) fun i j a b=>?_) (Zvy _)
   have:i=0∧j=1:=by omega
   obtain ⟨rfl,rfl⟩:=this;rfl
 · refine Zgg o (key (g3 (f 0 1) (f 0 2) (f 1 2)) fun i j a b=>?_) (Zv3 _ _ _)
   have:(i=0∧j=1)∨(i=0∧j=2)∨(i=1∧j=2):=by omega
   rcases this with ⟨rfl,rfl⟩|⟨rfl,rfl⟩|⟨rfl,rfl⟩<;>rfl
 · refine Zgg o (key (g4 (f 0 1) (f 0 2) (f 0 3) (f 1 2) (f 1 3) (f 2 3)) fun i j a b=>?_) (Zv7 _ _ _ _ _ _)
   have:(i=0∧j=1)∨(i=0∧j=2)∨(i=0∧j=3)∨(i=1∧j=2)∨(i=1∧j=3)∨(i=2∧j=3):=by omega
   rcases this with ⟨rfl,rfl⟩|⟨rfl,rfl⟩|⟨rfl,rfl⟩|⟨rfl,rfl⟩|⟨rfl,rfl⟩|⟨rfl,rfl⟩<;>rfl
section
variable {prog:Program} {w:World} {A:Around} {E:Value→Shared→Prop} {s:Shared}
theorem Zsl {a:Addr} {vs:List Value} {n:Nat} {P:PySem.Fin→Shared→Prop} (good:List Nat→Prop) (g1:vs.length<2→good (List.range vs.length)) (ho:s.heap.get? a=some (seqObj "list" vs.toArray n)) (h64:vs.length<64)
 (ask:2≤vs.length→∀ h1,(∀ b u,b≠a→s.heap.get? b=some u→h1.get? b=some u)→wpAny (model prog w) A (keyKind' vs.toArray) (fun κ s1=>s1={ s with heap:=h1 }∧(kas_sort vs.length).kasWp (kas_ask prog w A κ vs) (fun p s2=>s2={ s with heap:=h1 }∧good p.toList) s1) (fun _ _=>False) { s with heap:=h1 })
 (h:∀ p:List Nat,good p→P (.done (.ret .none)) { s with heap:=sortedHeap s.heap a vs (p.map fun i=>vs.getD i Value.none).toArray }) :
 wpAny (model prog w) A (Builtin.«list.sort» ⟨[.ref a],[]⟩) P E s:=by
 have ha:a<s.heap.objs.size:=Heap.lt_size ho;obtain ⟨e1,o1⟩:∃ e1,(s.heap.update a (Obj.mapSeq fun _=>(#[]:Array Value))).get? a=some (seqObj "list" #[] e1):=⟨_,get?_update_seq ho fun _=>#[]⟩;have s1:=Heap.SameBut.update s.heap a (Obj.mapSeq fun _=>(#[]:Array Value));have k6:∀ b u,b≠a→s.heap.get? b=some u→(((s.heap.update a (Obj.mapSeq fun _=>#[])).push (seqObj "tuple" vs.toArray 0)).push (seqObj "list" #[] 0)).get? b=some u:=fun b u nb e=>Heap.get?_push_of_some _ (Heap.get?_push_of_some _ ((s1.2 b nb).trans e));have o6:(((s.heap.update a (Obj.mapSeq fun _=>#[])).push (seqObj "tuple" vs.toArray 0)).push (seqObj "list" #[] 0)).get? a=some (seqObj "list" #[] e1):=Heap.get?_push_of_some _ (Heap.get?_push_of_some _ o1);rw [list_sort_plain];refine wpAny_bind (listItems_at ho rfl (wpAny_bind (listUpdate_at ho rfl (wpAny_bind (seqEpoch_at o1 rfl (wpAny_bind (wpAny_newTuple (wpAny_bind (wpAny_newList (wpAny_holding ?_) (Nat.zero_le _))) (by show vs.length≤_;rw [sizeLine_eq];omega))))) (by rw [List.size_toArray,sizeLine_eq];omega) (Nat.zero_le _))));show wpAny (model prog w) A _ P E { s with heap:=((s.heap.update a (Obj.mapSeq fun _=>#[])).push (seqObj "tuple" vs.toArray 0)).push (seqObj "list" #[] 0) }
 dsimp only
 by_cases h2:vs.toArray.size<2
 · rw [if_pos h2,if_pos h2];refine wpAny_bind (wpAny_pure ?_);rw [StateT.run_pure];refine wpAny_bind (wpAny_pure ?_);dsimp only;have z:=h _ (g1 (by simpa using h2))
   have ev:((List.range vs.length).map fun i=>vs.getD i Value.none)=vs:=by
    refine List.ext_getElem (by simp) fun i a1 a2=>?_;simp [List.getD_eq_getElem?_getD,a2]
   rw [ev] at z;refine wpAny_bind (seqEpoch_at o6 rfl (wpAny_bind (listUpdate_at o6 rfl ?_ (hsz2:=by rw [Array.size_map];show (vs.toArray.zip vs.toArray).size≤_;rw [Array.size_zip,List.size_toArray,sizeLine_eq];omega))));simp only [bne_self_eq_false,Bool.false_eq_true,if_false];refine wpAny_pure ?_
   have em:((vs.toArray.zip vs.toArray).map (·.2))=vs.toArray:=by
    apply Array.ext (by simp)
    intro i a1 a2
    simp
   unfold sortedHeap at z;show P _ { s with heap:=(((s.heap.update a (Obj.mapSeq fun _=>#[])).push (seqObj "tuple" vs.toArray 0)).push (seqObj "list" #[] 0)).update a (Obj.mapSeq fun _=>(vs.toArray.zip vs.toArray).map (·.2)) }
   rw [em];exact z
 · have hn:2≤vs.length:=by simp at h2;omega
   rw [if_neg h2,if_neg h2];refine wpAny_bind (wpAny_mono (ask hn _ k6) (fun κ s0 hk=>?_) fun _ _ x=>x.elim);obtain ⟨rfl,hk⟩:=hk
   refine wpAny_bind (wpAny_mono (kat_run (Q:=fun st' s2=>∃ p:Array Nat,arrOf st'=p.map (kas_item (vs.toArray.zip vs.toArray))∧failedOf st'=none∧p.size=vs.length∧s2={ s with heap:=((s.heap.update a (Obj.mapSeq fun _=>#[])).push (seqObj "tuple" vs.toArray 0)).push (seqObj "list" #[] 0) }∧good p.toList)
    rfl hn h64 (fun p st' s2 a1 a2 a3 a4=>⟨p,a2,a3,a1,a4.1,a4.2⟩) hk) ?_ fun _ _ e=>e)
   rintro ⟨⟨⟩,st'⟩ s2 ⟨p,har,hf,hp,rfl,gp⟩
   dsimp only;rw [kat_snds rfl har];refine wpAny_bind (seqEpoch_at o6 rfl (wpAny_bind (listUpdate_at o6 rfl ?_ (Nat.zero_le _) (by rw [List.size_toArray,List.length_map,Array.length_toList,hp,sizeLine_eq];omega))));rw [hf];simp only [bne_self_eq_false,Bool.false_eq_true,if_false];exact wpAny_pure (h p.toList gp)
theorem Zoo {l:Addr} {vs:List Value} {Q:Value→Shared→Prop} (good:List Nat→Prop) (g1:vs.length<2→good (List.range vs.length)) (hl:s.heap.IsList l vs.toArray) (h64:vs.length<64)
 (ask:2≤vs.length→∀ h1,(∀ b u,s.heap.get? b=some u→h1.get? b=some u)→wpAny (model prog w) A.in1.in1 (keyKind' vs.toArray) (fun κ s1=>s1={ s with heap:=h1 }∧(kas_sort vs.length).kasWp (kas_ask prog w A.in1.in1 κ vs) (fun p s2=>s2={ s with heap:=h1 }∧good p.toList) s1) (fun _ _=>False) { s with heap:=h1 })
 (h:∀ p:List Nat,good p→Q (.ref (s.heap.objs.size+1)) { s with heap:=sortedAll s.heap vs (p.map fun i=>vs.getD i Value.none).toArray }) :
 wpAny (model prog w) A (call (.builtin "sorted") [.ref l]) Q E s:=by
 refine Calls.call_function_entry kind_sorted plain_sorted entry_sorted (args_sorted1 _) ?_;unfold Builtin.«sorted»;refine wpAny_bind (m:=checkCount "sorted" 1 1 _) (wpAny_pure (wpAny_bind (collect_list hl (wpAny_bind (wpAny_newList ?_ (by rw [sizeLine_eq];omega))) (by rw [sizeLine_eq];omega))));have n1:((s.heap.push (seqObj "list" #[] 0)).update s.heap.objs.size (Obj.mapSeq (·++vs.toArray))).objs.size=s.heap.objs.size+1:=by rw [Heap.size_update,size_push']
 have oL:(((s.heap.push (seqObj "list" #[] 0)).update s.heap.objs.size (Obj.mapSeq (·++vs.toArray))).push (seqObj "list" vs.toArray 0)).get? (s.heap.objs.size+1)=some (seqObj "list" vs.toArray 0):=by rw [← n1];exact Heap.get?_push_size _ rfl
 have kL:∀ b u,s.heap.get? b=some u→(((s.heap.push (seqObj "list" #[] 0)).update s.heap.objs.size (Obj.mapSeq (·++vs.toArray))).push (seqObj "list" vs.toArray 0)).get? b=some u:=fun b u e=>by
  have lt:b<s.heap.objs.size:=Heap.lt_size e;refine Heap.get?_push_of_some _ ?_;rw [Heap.get?_update_ne _ _ _ _ (Nat.ne_of_lt lt)];exact Heap.get?_push_of_some _ e
 show wpAny _ _ _ _ _ { s with heap:=((s.heap.push (seqObj "list" #[] 0)).update s.heap.objs.size (Obj.mapSeq (·++vs.toArray))).push (seqObj "list" vs.toArray 0) }
 rw [n1];refine wpAny_bind (wpAny_holding (wpAny_call_entry slot_list_sort ⟨_,oL,rfl⟩ entry_list_sort (Zsl (s:={ s with heap:=((s.heap.push (seqObj "list" #[] 0)).update s.heap.objs.size (Obj.mapSeq (·++vs.toArray))).push (seqObj "list" vs.toArray 0) }) good g1 oL h64 (fun h2 h1 k1=>ask h2 h1 fun b u e=>k1 b u (Nat.ne_of_lt (Nat.lt_succ_of_lt (Heap.lt_size e))) (kL b u e)) fun p gp=>⟨_,rfl,?_⟩) (args_list_sort _)));exact wpAny_pure ⟨_,rfl,h p gp⟩
end
end L2
namespace L2
open PySem PySem.Spec PyProof.Rows PySem.W
section
variable {prog:Program} {w:World} {A:Around} {E:Value→Shared→Prop} {s:Shared}
theorem Zuz {b:Bool} {x y:Int} {t u:Tok} {Q:Bool→Shared→Prop} (h:Q (decide (x<y)) s):wpAny (model prog w) A (oneLt' b (.int x t) (.int y u)) Q E s:=by
 cases b
 · refine kat_one _ _ (lt_int ?_);exact h
 · exact kat_lt_int h
theorem Zko {b:Bool} {Q:Bool→Shared→Prop}:∀ {ns ms:List Int} {us ws:List Value} (i:Nat),IntsAre us ns→IntsAre ws ms→ns.length=ms.length→Q (HT.lexLt ns ms) s→KatLex prog w A b false Q (us.zip ws) i s
 | [],[],_,_,i,.nil,.nil,_,h=>kat_nil h
 | [],_ :: _,_,_,i,_,_,hl,_=>by simp at hl
 | _ :: _,[],_,_,i,_,_,hl,_=>by simp at hl
 | x :: ns,y :: ms,_,_,i,.cons _ t hu,.cons _ u hw,hl,h=>by
   refine kat_cons (wpAny_eqBool_int ?_);rw [HT.lexLt_cons] at h
   by_cases e:x=y
   · subst e;rw [if_pos rfl] at h;rw [beq_self_eq_true];exact kat_yes (Zko (i+1) hu hw (by simpa using hl) h)
   · rw [if_neg e] at h;rw [show (x == y)=false by simpa using e];exact kat_no (Zuz h)
end
theorem Znv:∀ (a:List Int),HT.lexLt a a=false
 | []=>rfl
 | x :: a=>by rw [HT.lexLt_cons,if_pos rfl];exact Znv a
theorem Znz:∀ (a b:List Int),a.length=b.length→a≠b→HT.lexLt b a = !HT.lexLt a b
 | [],[],_,h=>absurd rfl h
 | [],_ :: _,h,_=>by simp at h
 | _ :: _,[],h,_=>by simp at h
 | x :: a,y :: b,hl,hn=>by
   rw [HT.lexLt_cons,HT.lexLt_cons]
   by_cases e:x=y
   · subst e;rw [if_pos rfl,if_pos rfl];exact Znz a b (by simpa using hl) (fun z=>hn (by rw [z]))
   · rw [if_neg e,if_neg (Ne.symm e)]
     by_cases h:x<y
     · rw [decide_eq_true h,decide_eq_false (by omega)];rfl
     · rw [decide_eq_false h,decide_eq_true (by omega)];rfl
theorem Zq5:∀ (a b c:List Int),a.length=b.length→b.length=c.length→HT.lexLt a b=true→HT.lexLt b c=true→HT.lexLt a c=true
 | [],[],_,_,_,h,_=>by cases h
 | [],_ :: _,_,h,_,_,_=>by simp at h
 | _ :: _,[],_,h,_,_,_=>by simp at h
 | _ :: _,_ :: _,[],_,h,_,_=>by simp at h
 | x :: a,y :: b,z :: c,h1,h2,h3,h4=>by
   rw [HT.lexLt_cons] at h3 h4 ⊢
   by_cases e1:x=y
   · subst e1;rw [if_pos rfl] at h3
     by_cases e2:x=z
     · subst e2;rw [if_pos rfl] at h4 ⊢;exact Zq5 a b c (by simpa using h1) (by simpa using h2) h3 h4
     · rw [if_neg e2] at h4 ⊢;exact h4
   · rw [if_neg e1] at h3;have l1:x<y:=of_decide_eq_true h3
     by_cases e2:y=z
     · subst e2;rw [if_neg e1];exact h3
     · rw [if_neg e2] at h4;have l2:y<z:=of_decide_eq_true h4;rw [if_neg (by omega)];exact decide_eq_true (by omega)
theorem Zks {n:Nat} {f:Nat→Nat→Bool} (o:Ord n f):∀ (l:List Nat),(∀ i∈l,i<n)→srt f l=true→l.Pairwise (fun i j=>f i j=true)
 | [],_,_=>.nil
 | [i],_,_=>.cons (by simp) .nil
 | i :: j :: r,hl,h=>by
   have h':(f i j&&srt f (j :: r))=true:=h;rw [Bool.and_eq_true] at h';have ih:=Zks o (j :: r) (fun k hk=>hl k (List.mem_cons_of_mem _ hk)) h'.2;refine .cons (fun k hk=>?_) ih
   rcases List.mem_cons.mp hk with rfl|hk'
   · exact h'.1
   · exact o.tr i j k (hl i (by simp)) (hl j (by simp)) (hl k (List.mem_cons_of_mem _ hk)) h'.1 ((List.pairwise_cons.mp ih).1 k hk')
section
variable {X:Cx}
theorem Zew {h:Heap}:∀ {vs:List Value} {kl:List (List Int)},Paired (fun v k=>∃ b o its n,v=Value.ref b∧h.get? b=some o∧o.cls=.type "tuple" ∧ o.data=.seq its n∧IntsAre its.toList k∧0<k.length) vs kl→∃ fs:List Value,KatTups h vs fs∧fs.length=vs.length∧∀ v∈fs,∃ x t,v=Value.int x t
 | [],[],.nil=>⟨[],.nil,rfl,fun v hv=>by simp at hv⟩
 | v :: vs,k :: kl,.cons r rs=>by
   obtain ⟨fs,h1,h2,h3⟩:=Zew rs;obtain ⟨b,o,its,n,rfl,g,c,d,hi,hk⟩:=r;cases k with
   | nil=>simp at hk
   | cons x k =>
     have:∃ t,its[0]? = some (Value.int x t):=by
      cases hi':its.toList with
      | nil=>rw [hi'] at hi;cases hi
      | cons u us =>
        rw [hi'] at hi;cases hi with
        | cons _ t _=>exact ⟨t,by rw [← Array.getElem?_toList,hi'];rfl⟩
     obtain ⟨t,e⟩:=this;refine ⟨_ :: fs,.cons g c d e h1,by rw [List.length_cons,List.length_cons,h2],fun v hv=>?_⟩
     rcases List.mem_cons.mp hv with rfl|hv
     · exact ⟨_,_,rfl⟩
     · exact h3 v hv
end
end L2
namespace L2
open PySem PySem.Spec PyProof.Rows PySem.W
abbrev lexF (kl:List (List Int)) (i j:Nat):Bool:=HT.lexLt (kl.getD i []) (kl.getD j [])
theorem Ztm {kl:List (List Int)} {m:Nat} (nd:kl.Nodup) (hm:∀ k∈kl,k.length=m):Ord kl.length (lexF kl) where
 irr:=fun i _=>Znv _
 ant:=fun i j hi hj ne=>by
  have e1:kl.getD i []=kl[i]:=by simp [List.getD_eq_getElem?_getD,hi]
  have e2:kl.getD j []=kl[j]:=by simp [List.getD_eq_getElem?_getD,hj]
  show HT.lexLt _ _ = !HT.lexLt _ _
  rw [e1,e2];exact Znz _ _ (by rw [hm _ (List.getElem_mem hi),hm _ (List.getElem_mem hj)]) fun z=>ne ((List.getElem_inj nd).mp z)
 tr:=fun i j k hi hj hk h1 h2=>by
  have e:∀ i (h:i<kl.length),(kl.getD i []).length=m:=fun i h=>by
   have:kl.getD i []=kl[i]:=by simp [List.getD_eq_getElem?_getD,h]
   rw [this];exact hm _ (List.getElem_mem h)
  exact Zq5 _ _ _ (by rw [e i hi,e j hj]) (by rw [e j hj,e k hk]) h1 h2
theorem Zls {vs:List V} {us:List Value} (r:Vals vs us):∀ (p:List Nat),(∀ i∈p,i<vs.length)→Vals (p.map fun i=>vs.getD i .non) (p.map fun i=>us.getD i Value.none)
 | [],_=>.nil
 | i :: p,h=>by
   have hi:i<vs.length:=h i (by simp);obtain ⟨u,e,ru⟩:=r.get (List.getElem?_eq_getElem hi);refine .cons ?_ (Zls r p fun j hj=>h j (List.mem_cons_of_mem _ hj));show RelV (vs.getD i .non) (us.getD i Value.none)
   rw [show vs.getD i .non=vs[i] by simp [List.getD_eq_getElem?_getD,hi],show us.getD i Value.none=u by simp [List.getD_eq_getElem?_getD,e]];exact ru
section
variable {X:Cx}
theorem Zh6:X1 X (.builtin "sorted") (fun xs H Q=>∃ (p:Addr) (vs:List V) (kl:List (List Int)) (m:Nat),xs=[.ref p]∧SqL X.K H p vs∧vs.length=kl.length∧(∀ (i:Nat) (v:V),vs[i]? = some v→∃ (b:Addr) (k:List Int),v=.ref b∧kl[i]? = some k∧SqT X.K H b (k.map V.int))∧kl.Nodup∧kl.length≤4∧(∀ k∈kl,k.length=m)∧0<m ∧
 ∀ (l:Addr) (q:List Nat),H l=none→q.Perm (List.range kl.length)→(q.map fun i=>kl.getD i []).Pairwise (fun a b=>HT.lexLt a b=true)→Q (.ref l) (upd H l (.lst (q.map fun i=>vs.getD i .non)))):=by
 intro pins s σ H xs us Q I r h;obtain ⟨p,vs,kl,m,rfl,hq,hl,hk,nd,h4,hm,m0,q⟩:=h;cases r with
 | cons rx r =>
   cases r
   cases (show _=Value.ref p from rx)
   obtain ⟨its,rv,pl,hz⟩:=I.list hq;have hlen:=rv.length;have o:=Ztm nd hm
   have tup:∀ i,i<kl.length→∃ b ob jt n,its.getD i Value.none=.ref b∧s.heap.get? b=some ob∧ob.cls=.type "tuple" ∧ ob.data=.seq jt n∧IntsAre jt.toList (kl.getD i [])∧(kl.getD i []).length=m:=fun i hi=>by
    have hv:i<vs.length:=by omega
    obtain ⟨b,k,e1,e2,hb⟩:=hk i vs[i] (List.getElem?_eq_getElem hv);obtain ⟨u,eu,ru⟩:=rv.get (List.getElem?_eq_getElem hv);rw [e1] at ru;cases ru
    obtain ⟨jt,rj,⟨ob,g,c,n,d⟩,_⟩:=I.tuple hb;have ek:kl.getD i []=k:=by simp [List.getD_eq_getElem?_getD,e2]
    refine ⟨b,ob,jt.toArray,n,by simp [List.getD_eq_getElem?_getD,eu],g,c,d,by rw [ek];simpa using Za7 rj,?_⟩;rw [ek];exact hm k (List.mem_of_getElem? e2)
   refine Zoo (fun q=>q.Perm (List.range kl.length)∧(q.map fun i=>kl.getD i []).Pairwise (fun a b=>HT.lexLt a b=true)) (fun h2=>?_) pl.isList (by omega) (fun h2 h1 k1=>?_) fun p' gp=>?_
   · have:its.length=kl.length:=by omega
     rw [this];refine ⟨.refl _,?_⟩
     have:kl.length=0∨kl.length=1:=by omega
     rcases this with e|e<;>rw [e]
     · exact .nil
     · exact .cons (by simp) .nil
   · have en:its.length=kl.length:=by omega
     have keep:∀ i,i<kl.length→∃ b ob jt n,its.getD i Value.none=.ref b∧h1.get? b=some ob∧ob.cls=.type "tuple" ∧ ob.data=.seq jt n∧IntsAre jt.toList (kl.getD i [])∧(kl.getD i []).length=m:=fun i hi=>by
      obtain ⟨b,ob,jt,n,e1,e2,e3⟩:=tup i hi;exact ⟨b,ob,jt,n,e1,k1 b ob e2,e3⟩
     have prd:∀ (us:List Value) (ks:List (List Int)),us.length=ks.length→(∀ i,i<ks.length→∃ b ob jt n,us.getD i Value.none=.ref b∧h1.get? b=some ob∧ob.cls=.type "tuple" ∧ ob.data=.seq jt n∧IntsAre jt.toList (ks.getD i [])∧(ks.getD i []).length=m)→Paired (fun v k=>∃ b o its n,v=Value.ref b∧h1.get? b=some o∧o.cls=.type "tuple" ∧ o.data=.seq its n∧IntsAre its.toList k∧0<k.length) us ks:=by
      intro us
      induction us with
      | nil=>intro ks e _;cases ks with
        | nil=>exact .nil
        | cons _ _=>simp at e
      | cons u us ih =>
        intro ks e hh;cases ks with
        | nil=>simp at e
        | cons k ks =>
          refine .cons ?_ (ih ks (by simpa using e) fun i hi=>by simpa using hh (i+1) (by simpa using hi));obtain ⟨b,ob,jt,n,e1,e2,e3,e4,e5,e6⟩:=hh 0 (by simp);exact ⟨b,ob,jt,n,by simpa using e1,e2,e3,e4,by simpa using e5,(by have e7:k.length=m:=(by simpa using e6);omega)⟩
     obtain ⟨fs,f1,f2,f3⟩:=Zew (prd its kl en keep);refine kat_kind (T:=.type "int") f1 (by omega) (fun v hv=>?_) rfl ⟨rfl,?_⟩
     · obtain ⟨x,t,rfl⟩:=f3 v hv;exact Looks.of_pure rfl
     · obtain ⟨r1,r2,r3⟩:=Zpl o (by omega) h4;rw [en];refine Znf (n:=kl.length) (f:=lexF kl) (fun i j C hi hj hC=>?_) _ r1 ⟨rfl,r2,?_⟩
       · obtain ⟨b,ob,jt,n,e1,e2,e3,e4,e5,e6⟩:=keep i hi;obtain ⟨b',ob',jt',n',e1',e2',e3',e4',e5',e6'⟩:=keep j hj;unfold kas_ask;rw [e1,e1']
         have z:jt.size=jt'.size:=by
          have a1:=IntsAre.length e5;have a2:=IntsAre.length e5';rw [Array.length_toList] at a1 a2;omega
         refine kat_lt e2 e4 e2' e4' ?_;rw [decide_eq_false (by omega)];exact Zko 0 e5 e5' (by rw [e6,e6']) hC
       · have pw:=Zks o _ (fun i hi=>List.mem_range.mp (r2.mem_iff.mp hi)) r3;exact List.pairwise_map.mpr pw
   · obtain ⟨e,he⟩:=sortedAll_at s.heap its (p'.map fun i=>its.getD i Value.none).toArray;have fr:H (s.heap.objs.size+1)=none:=I.hok.fresh (Nat.le_succ _);have lt:∀ i∈p',i<vs.length:=fun i hi=>by rw [hl];exact List.mem_range.mp (gp.1.mem_iff.mp hi)
     refine ⟨.ref (s.heap.objs.size+1),_,I.laid (o:=.lst (p'.map fun i=>vs.getD i .non)) (t':=s.toks) (fun b u e=>sortedAll_old e) (Nat.le_succ _) ⟨?_,p'.map fun i=>its.getD i Value.none,e,Zls rv p' lt,he⟩,rfl,q _ p' fr gp.1 gp.2⟩;rw [List.length_map,gp.1.length_eq,List.length_range,sizeLine_eq];omega
end
abbrev ZR (h:Heap) (z t o:Addr) (f0:Value) (f1:Bool):Prop:=h.get? z=some { cls:=.type "zip",dict:=none,data:=.fields #[f0,.bool f1,.bool false,.ref t,.ref o],slots:=#[] }
def ZSt (h:Heap) (z t o:Addr):Prop:=∃ f0 f1,ZR h z t o f0 f1∧(f0=.none∨∃ T,f0=rawInt T)
section
variable {prog:Program} {w:World} {A:Around} {E:Value→Shared→Prop} {s:Shared} {k l:SK}
theorem Zju {M:Model} {a:Addr} {Q:Option Obj→Shared→Prop} (h:Q (s.heap.get? a) s):wpAny M A (loadIfAlive a) Q E s:=fun _ _ _=>h
theorem Zk5 {z t o:Addr} {Q:Bool→Shared→Prop} (hz:ZSt s.heap z t o) (q:∀ (b:Bool) (h1:Heap),ZSt h1 z t o→Heap.SameBut z s.heap h1→Q b { s with heap:=h1 }):wpAny (model prog w) A (Builtin.SmallTypes.ownedTupleIsFree (.ref z)) Q E s:=by
 obtain ⟨f0,f1,hz,hf⟩:=hz;unfold Builtin.SmallTypes.ownedTupleIsFree;refine wpAny_bind (wpAny_field hz rfl (x:=f0) rfl ?_)
 rcases hf with rfl|⟨T,rfl⟩
 · exact wpAny_pure (q true s.heap ⟨_,_,hz,.inl rfl⟩ (Heap.SameBut.refl ..))
 · show wpAny _ _ (loadIfAlive _ >>= _) _ _ s
   refine wpAny_bind (Zju ?_);split
   · exact wpAny_pure (q true s.heap ⟨_,_,hz,.inr ⟨T,rfl⟩⟩ (Heap.SameBut.refl ..))
   · refine wpAny_bind (wpAny_field hz rfl (x:=.bool f1) rfl ?_);split
     · refine wpAny_bind (wpAny_setField_rec hz (by simp) fun h1 z1 s1=>wpAny_pure (q false h1 ⟨_,true,z1,.inr ⟨T,rfl⟩⟩ s1))
     · exact wpAny_pure (q false s.heap ⟨_,_,hz,.inr ⟨T,rfl⟩⟩ (Heap.SameBut.refl ..))
theorem Zod {z t o i j a b:Addr} {m n:Nat} {xs ys:Array Value} {x y c d:Value} {Q:Value→Shared→Prop} (D:ZP z t o i j a b)
 (hz:ZSt s.heap z t o) (ht:IsPair s.heap t (.ref i) (.ref j)) (ho:IsPair s.heap o c d)
 (hi:k.It s.heap i a m) (hj:l.It s.heap j b n) (ha:k.Is s.heap a xs) (hb:l.Is s.heap b ys) (hx:xs[m]? = some x) (hy:ys[n]? = some y)
 (q:∀ h1,ZSt h1 z t o→(∃ c d,IsPair h1 o c d)→k.It h1 i a (m+1)→l.It h1 j b (n+1)→IsPair h1 s.heap.objs.size x y→h1.objs.size=s.heap.objs.size+1 →
   (∀ e u,e≠z→e≠o→e≠i→e≠j→s.heap.get? e=some u→h1.get? e=some u)→Q (.ref s.heap.objs.size) { s with heap:=h1 }) :
 wpAny (model prog w) A (Builtin.«zip.__next__» ⟨[.ref z],[]⟩) (fun fin s'=>∃ v,fin=.done (.ret v)∧Q v s') E s:=by
 obtain ⟨f0,f1,hz0,hf⟩:=id hz;refine wpAny_bind (m:=field (.ref z) 2) (wpAny_field hz0 rfl (x:=.bool false) rfl ?_);refine wpAny_bind (m:=field (.ref z) 3) (wpAny_field hz0 rfl (x:=.ref t) rfl (wpAny_bind (wpAny_seqItems ht rfl ?_)));refine wpAny_bind (m:=Builtin.SmallTypes.ownedTupleIsFree (.ref z)) (Zk5 hz fun fr h0 hz' s0=>?_);have ho0:IsPair h0 o c d:=s0.extBut _ _ D.oz ho;have hi0:k.It h0 i a m:=hi.at fun u e=>s0.extBut _ _ D.iz e;have hj0:l.It h0 j b n:=hj.at fun u e=>s0.extBut _ _ D.jz e;have ha0:k.Is h0 a xs:=ha.at fun u e=>s0.extBut _ _ D.az e;have hb0:l.Is h0 b ys:=hb.at fun u e=>s0.extBut _ _ D.bz e;have n0:h0.objs.size=s.heap.objs.size:=s0.1;obtain ⟨g0,g1,hz0,hg⟩:=hz';cases fr with
 | true =>
   simp only [if_true];refine wpAny_bind (wpAny_rule (wpAny_bind (wpAny_field hz0 rfl (x:=.ref o) rfl (wpAny_bind (wpAny_setField_rec hz0 (by simp) fun h1 z1 s1=>?_)))));replace z1:ZR h1 z t o .ellipsis g1:=z1;refine wpAny_bind ?_;simp only [List.zipIdx_cons,List.zipIdx_nil,List.forIn_cons,List.forIn_nil];refine wpAny_bind (wpAny_bind (wpAny_onRaise (wpAny_bind (m:=Builtin.SmallTypes.nextOf (.ref i)) ?_)));refine SK.draw (hi0.at fun u e=>s1.extBut _ _ D.iz e) (ha0.at fun u e=>s1.extBut _ _ D.az e) hx fun h2 i2 s2=>wpAny_pure ?_;have o2:IsPair h2 o c d:=s2.extBut _ _ D.oi (s1.extBut _ _ D.oz ho0);refine wpAny_bind (wpAny_seqItems o2 rfl (wpAny_bind (wpAny_updateSeq_pair o2 fun h3 o3 s3=>?_)));replace o3:IsPair h3 o x d:=o3;refine wpAny_bind (wpAny_letGo (wpAny_pure (wpAny_bind (wpAny_bind (wpAny_onRaise (wpAny_bind (m:=Builtin.SmallTypes.nextOf (.ref j)) ?_))))));refine SK.draw (hj0.at fun u e=>s3.extBut _ _ D.oj.symm (s2.extBut _ _ D.ij.symm (s1.extBut _ _ D.jz e))) (hb0.at fun u e=>s3.extBut _ _ D.bo (s2.extBut _ _ D.bi (s1.extBut _ _ D.bz e))) hy fun h4 j4 s4=>wpAny_pure ?_;have o4:IsPair h4 o x d:=s4.extBut _ _ D.oj o3;refine wpAny_bind (wpAny_seqItems o4 rfl (wpAny_bind (wpAny_updateSeq_pair o4 fun h5 o5 s5=>?_)));replace o5:IsPair h5 o x y:=o5;refine wpAny_bind (wpAny_letGo (wpAny_pure (wpAny_pure (wpAny_bind (wpAny_seqItems o5 rfl (wpAny_bind (wpAny_newTuple ?_)))))));have sz:h5.objs.size=s.heap.objs.size:=by rw [s5.1,s4.1,s3.1,s2.1,s1.1,n0]
   have z5:ZR h5 z t o .ellipsis g1:=s5.extBut _ _ D.oz.symm (s4.extBut _ _ D.jz.symm (s3.extBut _ _ D.oz.symm (s2.extBut _ _ D.iz.symm z1)));have k5:∀ e u,e≠z→e≠o→e≠i→e≠j→s.heap.get? e=some u→h5.get? e=some u:=fun e u e1 e2 e3 e4 g=>s5.extBut _ _ e2 (s4.extBut _ _ e4 (s3.extBut _ _ e2 (s2.extBut _ _ e3 (s1.extBut _ _ e1 (s0.extBut _ _ e1 g)))));have i5:k.It h5 i a (m+1):=i2.at fun u e=>s5.extBut _ _ D.oi.symm (s4.extBut _ _ D.ij (s3.extBut _ _ D.oi.symm e));have j5:l.It h5 j b (n+1):=j4.at fun u e=>s5.extBut _ _ D.oj.symm e;have zl:z<h5.objs.size:=Heap.lt_size z5;refine wpAny_bind (m:=Builtin.SmallTypes.ownedTupleHandOut (.ref z) (.ref h5.objs.size)) ?_;unfold Builtin.SmallTypes.ownedTupleHandOut;have z6:ZR (h5.push { cls:=.type "tuple",data:=.seq #[x,y] }) z t o .ellipsis g1:=Heap.get?_push_of_some _ z5;refine wpAny_bind (wpAny_setField_rec z6 (by simp) fun h7 z7 s7=>?_);replace z7:ZR h7 z t o (rawInt h5.objs.size) g1:=z7;refine wpAny_setField_rec z7 (by simp) fun h8 z8 s8=>?_;replace z8:ZR h8 z t o (rawInt h5.objs.size) false:=z8;have up:∀ e u,e≠z→h5.get? e=some u→h8.get? e=some u:=fun e u e1 g=>s8.extBut _ _ e1 (s7.extBut _ _ e1 (Heap.get?_push_of_some _ g));have T8:IsPair h8 h5.objs.size x y:=s8.extBut _ _ (Nat.ne_of_gt zl) (s7.extBut _ _ (Nat.ne_of_gt zl) (Heap.get?_push_size _ rfl));have l8:h8.objs.size=h5.objs.size+1:=by rw [s8.1,s7.1,Heap.size_push]
   rw [sz] at T8 l8;refine wpAny_pure ⟨_,rfl,?_⟩;show Q (.ref h5.objs.size) _
   rw [sz];exact q h8 ⟨_,_,z8,.inr ⟨_,rfl⟩⟩ ⟨x,y,up _ _ D.oz o5⟩ (i5.at fun u e=>up _ u D.iz e) (j5.at fun u e=>up _ u D.jz e) T8 l8 fun e u e1 e2 e3 e4 g=>up e u e1 (k5 e u e1 e2 e3 e4 g)
 | false =>
   simp only [Bool.false_eq_true,if_false];refine wpAny_bind ?_;rw [← Array.forIn_toList];simp only [List.forIn_cons,List.forIn_nil];refine wpAny_bind (wpAny_bind (wpAny_holding (wpAny_bind (m:=Builtin.SmallTypes.nextOf (.ref i)) (SK.draw hi0 ha0 hx fun h2 i2 s2=>wpAny_pure (wpAny_pure ?_)))));refine wpAny_bind (wpAny_bind (wpAny_holding (wpAny_bind (m:=Builtin.SmallTypes.nextOf (.ref j)) (SK.draw (hj0.at fun u e=>s2.extBut _ _ D.ij.symm e) (hb0.at fun u e=>s2.extBut _ _ D.bi e) hy fun h4 j4 s4=>wpAny_pure (wpAny_pure ?_)))));refine wpAny_pure ?_;have sz:h4.objs.size=s.heap.objs.size:=by rw [s4.1,s2.1,n0]
   have z4:ZR h4 z t o g0 g1:=s4.extBut _ _ D.jz.symm (s2.extBut _ _ D.iz.symm hz0);refine wpAny_bind (wpAny_newTuple (wpAny_pure ⟨_,rfl,?_⟩) (z2_));show Q (.ref h4.objs.size) _
   have up:∀ e u,h4.get? e=some u→(h4.push { cls:=.type "tuple",data:=.seq #[x,y] }).get? e=some u:=fun e u g=>Heap.get?_push_of_some _ g;have T4:IsPair (h4.push { cls:=.type "tuple",data:=.seq #[x,y] }) h4.objs.size x y:=Heap.get?_push_size _ rfl;rw [sz] at T4 ⊢;refine q _ ⟨_,_,up _ _ z4,hg⟩ ⟨c,d,up _ _ (s4.extBut _ _ D.oj (s2.extBut _ _ D.oi ho0))⟩ (i2.at fun u e=>up _ u (s4.extBut _ _ D.ij e)) (j4.at fun u e=>up _ u e) T4 (by rw [Heap.size_push,sz]) fun e u e1 e2 e3 e4 g=>up e u (s4.extBut _ _ e4 (s2.extBut _ _ e3 (s0.extBut _ _ e1 g)))
theorem Zqu {z t o i j a b:Addr} {m n:Nat} {xs ys:Array Value} {c d:Value} {Q:Fin→Shared→Prop} (hh:A.handled=none) (D:ZP z t o i j a b)
 (hz:ZSt s.heap z t o) (ht:IsPair s.heap t (.ref i) (.ref j)) (ho:IsPair s.heap o c d)
 (hi:k.It s.heap i a m) (hj:l.It s.heap j b n) (ha:k.Is s.heap a xs) (hb:l.Is s.heap b ys) (hx:xs[m]? = none∨ys[n]? = none)
 (q:∀ h1 e,(∀ e u,e≠z→e≠o→e≠i→e≠j→s.heap.get? e=some u→h1.get? e=some u)→(∃ u,h1.get? e=some u∧u.cls=.type "StopIteration")→E (.ref e) { s with heap:=h1 }) :
 wpAny (model prog w) A (Builtin.«zip.__next__» ⟨[.ref z],[]⟩) Q E s:=by
 obtain ⟨f0,f1,hz0,hf⟩:=id hz;refine wpAny_bind (m:=field (.ref z) 2) (wpAny_field hz0 rfl (x:=.bool false) rfl ?_);refine wpAny_bind (m:=field (.ref z) 3) (wpAny_field hz0 rfl (x:=.ref t) rfl (wpAny_bind (wpAny_seqItems ht rfl ?_)));refine wpAny_bind (m:=Builtin.SmallTypes.ownedTupleIsFree (.ref z)) (Zk5 hz fun fr h0 hz' s0=>?_);have ho0:IsPair h0 o c d:=s0.extBut _ _ D.oz ho;have hi0:k.It h0 i a m:=hi.at fun u e=>s0.extBut _ _ D.iz e;have hj0:l.It h0 j b n:=hj.at fun u e=>s0.extBut _ _ D.jz e;have ha0:k.Is h0 a xs:=ha.at fun u e=>s0.extBut _ _ D.az e;have hb0:l.Is h0 b ys:=hb.at fun u e=>s0.extBut _ _ D.bz e;obtain ⟨g0,g1,hz0,hg⟩:=hz';cases fr with
 | true =>
   simp only [if_true];refine wpAny_bind (wpAny_rule (wpAny_bind (wpAny_field hz0 rfl (x:=.ref o) rfl (wpAny_bind (wpAny_setField_rec hz0 (by simp) fun h1 z1 s1=>?_)))));replace z1:ZR h1 z t o .ellipsis g1:=z1;refine wpAny_bind ?_;simp only [List.zipIdx_cons,List.zipIdx_nil,List.forIn_cons,List.forIn_nil];refine wpAny_bind (wpAny_bind (wpAny_onRaise (wpAny_bind (m:=Builtin.SmallTypes.nextOf (.ref i)) ?_)));cases hm:xs[m]? with
   | none =>
     refine SK.dry hh (hi0.at fun u e=>s1.extBut _ _ D.iz e) (ha0.at fun u e=>s1.extBut _ _ D.az e) hm fun h2 e s2 ⟨u,g,cu⟩=>?_;have z2:ZR h2 z t o .ellipsis g1:=s2 _ _ D.iz.symm z1;have ez:e≠z:=fun r=>by subst r;rw [z2] at g;cases g;simp at cu
     exact wpAny_setField_rec z2 (by simp) fun h3 _ s3=>q h3 e (fun e' u' e1 _ e3 _ r=>s3.extBut _ _ e1 (s2 _ _ e3 (s1.extBut _ _ e1 (s0.extBut _ _ e1 r)))) ⟨u,s3.extBut _ _ ez g,cu⟩
   | some x =>
     have hn:ys[n]? = none:=by rcases hx with r|r;(rw [hm] at r;cases r);exact r
     refine SK.draw (hi0.at fun u e=>s1.extBut _ _ D.iz e) (ha0.at fun u e=>s1.extBut _ _ D.az e) hm fun h2 i2 s2=>wpAny_pure ?_;have o2:IsPair h2 o c d:=s2.extBut _ _ D.oi (s1.extBut _ _ D.oz ho0);refine wpAny_bind (wpAny_seqItems o2 rfl (wpAny_bind (wpAny_updateSeq_pair o2 fun h3 o3 s3=>?_)));refine wpAny_bind (wpAny_letGo (wpAny_pure (wpAny_bind (wpAny_bind (wpAny_onRaise (wpAny_bind (m:=Builtin.SmallTypes.nextOf (.ref j)) ?_))))));refine SK.dry hh (hj0.at fun u e=>s3.extBut _ _ D.oj.symm (s2.extBut _ _ D.ij.symm (s1.extBut _ _ D.jz e))) (hb0.at fun u e=>s3.extBut _ _ D.bo (s2.extBut _ _ D.bi (s1.extBut _ _ D.bz e))) hn fun h4 e s4 ⟨u,g,cu⟩=>?_;have z4:ZR h4 z t o .ellipsis g1:=s4 _ _ D.jz.symm (s3.extBut _ _ D.oz.symm (s2.extBut _ _ D.iz.symm z1));have ez:e≠z:=fun r=>by subst r;rw [z4] at g;cases g;simp at cu
     exact wpAny_setField_rec z4 (by simp) fun h5 _ s5=>q h5 e (fun e' u' e1 e2 e3 e4 r=>s5.extBut _ _ e1 (s4 _ _ e4 (s3.extBut _ _ e2 (s2.extBut _ _ e3 (s1.extBut _ _ e1 (s0.extBut _ _ e1 r)))))) ⟨u,s5.extBut _ _ ez g,cu⟩
 | false =>
   simp only [Bool.false_eq_true,if_false];refine wpAny_bind ?_;rw [← Array.forIn_toList];simp only [List.forIn_cons,List.forIn_nil];refine wpAny_bind (wpAny_bind (wpAny_holding (wpAny_bind (m:=Builtin.SmallTypes.nextOf (.ref i)) ?_)));cases hm:xs[m]? with
   | none=>exact SK.dry hh hi0 ha0 hm fun h2 e s2 hu=>q h2 e (fun e' u' e1 _ e3 _ r=>s2 _ _ e3 (s0.extBut _ _ e1 r)) hu
   | some x =>
     have hn:ys[n]? = none:=by rcases hx with r|r;(rw [hm] at r;cases r);exact r
     refine SK.draw hi0 ha0 hm fun h2 i2 s2=>wpAny_pure (wpAny_pure ?_);refine wpAny_bind (wpAny_bind (wpAny_holding (wpAny_bind (m:=Builtin.SmallTypes.nextOf (.ref j)) ?_)));exact SK.dry hh (hj0.at fun u e=>s2.extBut _ _ D.ij.symm e) (hb0.at fun u e=>s2.extBut _ _ D.bi e) hn fun h4 e s4 hu=>q h4 e (fun e' u' e1 _ e3 e4 r=>s4 _ _ e4 (s2.extBut _ _ e3 (s0.extBut _ _ e1 r))) hu
theorem Zl2 {e z t o i j a b:Addr} {n:Nat} {xs ys:Array Value} {x y c d old:Value} {Q:Option Value→Shared→Prop} (D:ZP z t o i j a b) (ne:e≠z∧e≠t∧e≠o∧e≠i∧e≠j∧a≠e∧b≠e)
 (he:IsEnum s.heap e z n old) (hz:ZSt s.heap z t o) (ht:IsPair s.heap t (.ref i) (.ref j)) (ho:IsPair s.heap o c d)
 (hi:k.It s.heap i a n) (hj:l.It s.heap j b n) (ha:k.Is s.heap a xs) (hb:l.Is s.heap b ys) (hx:xs[n]? = some x) (hy:ys[n]? = some y)
 (q:∀ h1 tk,IsEnumOut h1 e z ((n:Int)+1) (.ref s.heap.objs.size) (s.heap.objs.size+1)→ZSt h1 z t o→IsPair h1 t (.ref i) (.ref j)→(∃ c d,IsPair h1 o c d)→k.It h1 i a (n+1)→l.It h1 j b (n+1)→IsPair h1 s.heap.objs.size x y→IsPair h1 (s.heap.objs.size+1) (.int n tk) (.ref s.heap.objs.size) →
   (∀ f u,f≠e→f≠z→f≠o→f≠i→f≠j→s.heap.get? f=some u→h1.get? f=some u)→Q (some (.ref (s.heap.objs.size+1))) { s with heap:=h1,toks:=tk+1 }) :
 wpAny (model prog w) A (pyNext (.ref e)) Q E s:=by
 have hT:s.TypeIs (.ref e) "enumerate" := ⟨_,he,rfl⟩;obtain ⟨n1,n2,n3,n4,n5,n6,n7⟩:=ne;unfold pyNext;refine wpAny_bind (wpAny_attempt (wpAny_callSpecial?_slot (name:=Str.ofString "__next__") hT F.slot_enumerate_next (wpAny_call_entry F.slot_enumerate_next hT F.entry_enumerate_next ?_ (F.args_enumerate_next_1 _))));refine wpAny_bind (m:=field (.ref e) 2) (wpAny_field he rfl (x:=.ref z) rfl ?_);obtain ⟨f0,f1,hz0,hf⟩:=id hz;have hTz:s.TypeIs (.ref z) "zip" := ⟨_,hz0,rfl⟩;refine wpAny_bind (m:=Builtin.SmallTypes.nextOf (.ref z)) ?_;unfold Builtin.SmallTypes.nextOf;refine wpAny_bind (wpAny_callSpecial?_slot (name:=Str.ofString "__next__") hTz F.slot_zip_next (wpAny_call_entry F.slot_zip_next hTz F.entry_zip_next (Zod D hz ht ho hi hj ha hb hx hy fun h1 r1 r2 r3 r4 r5 r6 r7=>wpAny_pure ?_) (F.args_zip_next_1 _)));have he1:IsEnum h1 e z n old:=r7 _ _ n1 n3 n4 n5 he;have el:e<s.heap.objs.size:=Heap.lt_size he;refine wpAny_bind (m:=field (.ref e) 3) (wpAny_field he1 rfl (x:=rawInt n) rfl ?_);refine wpAny_bind (m:=field (.ref e) 4) (wpAny_field he1 rfl (x:=.none) rfl ?_);refine wpAny_bind (m:=mkInt n) (wpAny_mkInt ?_);refine wpAny_bind (m:=setField (.ref e) 3 (rawInt ((n:Int)+1))) (wpAny_setField_rec he1 (by simp) fun h2 e2 s2=>?_);replace e2:IsEnum h2 e z ((n:Int)+1) old:=e2;refine wpAny_bind (m:=setField (.ref e) 4 .none) (wpAny_setField_rec e2 (by simp) fun h3 e3 s3=>?_);replace e3:IsEnum h3 e z ((n:Int)+1) old:=e3;refine wpAny_bind (m:=newTuple _) (wpAny_newTuple ?_);have sz:h3.objs.size=s.heap.objs.size+1:=by rw [s3.1,s2.1];exact r6
 have e4:IsEnum (h3.push { cls:=.type "tuple",data:=.seq #[.int n s.toks,.ref s.heap.objs.size] }) e z ((n:Int)+1) old:=Heap.get?_push_of_some _ e3;have T4:(h3.push { cls:=.type "tuple",data:=.seq #[.int n s.toks,.ref s.heap.objs.size] }).get? (s.heap.objs.size+1)=some { cls:=.type "tuple",data:=.seq #[.int n s.toks,.ref s.heap.objs.size] }:=by rw [← sz];exact Heap.get?_push_size _ rfl
 have k4:∀ f u,f≠e→h1.get? f=some u→(h3.push { cls:=.type "tuple",data:=.seq #[.int n s.toks,.ref s.heap.objs.size] }).get? f=some u:=fun f u fe g=>Heap.get?_push_of_some _ (s3.extBut _ _ fe (s2.extBut _ _ fe g));generalize h3.push { cls:=.type "tuple",data:=.seq #[.int n s.toks,.ref s.heap.objs.size] }=h4 at e4 T4 k4;refine wpAny_bind (m:=Builtin.SmallTypes.ownedTupleIsFree (.ref e)) ?_;unfold Builtin.SmallTypes.ownedTupleIsFree;refine wpAny_bind (wpAny_field e4 rfl (x:=.none) rfl (wpAny_pure ?_));simp only [if_true];refine wpAny_bind (wpAny_rule (wpAny_bind (wpAny_field e4 rfl (x:=old) rfl (wpAny_bind (wpAny_setField_rec e4 (by simp) fun h5 e5 s5=>?_)))));replace e5:IsEnum h5 e z ((n:Int)+1) (.ref s.heap.objs.size):=e5;refine wpAny_bind ?_;unfold Builtin.SmallTypes.ownedTupleHandOut;refine wpAny_bind (wpAny_setField_rec e5 (by simp) fun h6 e6 s6=>?_);refine wpAny_setField_rec e6 (by simp) fun h7 e7 s7=>?_;rw [sz] at e7;replace e7:IsEnumOut h7 e z ((n:Int)+1) (.ref s.heap.objs.size) (s.heap.objs.size+1):=e7;refine wpAny_bind (wpAny_letGo (wpAny_pure ⟨_,rfl,wpAny_pure ?_⟩));rw [sz];have up:∀ f u,f≠e→h1.get? f=some u→h7.get? f=some u:=fun f u fe g=>s7.extBut _ _ fe (s6.extBut _ _ fe (s5.extBut _ _ fe (k4 f u fe g)));obtain ⟨g0,g1,z1,hg⟩:=r1;obtain ⟨c',d',o1⟩:=r2;refine q h7 s.toks e7 ⟨g0,g1,up _ _ n1.symm z1,hg⟩ (up _ _ n2.symm (r7 _ _ D.tz D.to D.ti D.tj ht)) ⟨c',d',up _ _ n3.symm o1⟩ (r3.at fun u g=>up _ u n4.symm g) (r4.at fun u g=>up _ u n5.symm g) (up _ _ (Nat.ne_of_gt el) r5) ?_ fun f u f1 f2 f3 f4 f5 g=>up f u f1 (r7 f u f2 f3 f4 f5 g);have ne:s.heap.objs.size+1≠e:=Nat.ne_of_gt (Nat.lt_succ_of_lt el);exact s7.extBut _ _ ne (s6.extBut _ _ ne (s5.extBut _ _ ne T4))
theorem Znm {e z t o i j a b:Addr} {n:Nat} {xs ys:Array Value} {c d old:Value} {Q:Option Value→Shared→Prop} (hh:A.handled=none) (D:ZP z t o i j a b) (ne:e≠z∧e≠t∧e≠o∧e≠i∧e≠j∧a≠e∧b≠e)
 (he:IsEnum s.heap e z n old) (hz:ZSt s.heap z t o) (ht:IsPair s.heap t (.ref i) (.ref j)) (ho:IsPair s.heap o c d)
 (hi:k.It s.heap i a n) (hj:l.It s.heap j b n) (ha:k.Is s.heap a xs) (hb:l.Is s.heap b ys) (hx:xs[n]? = none∨ys[n]? = none)
 (q:∀ h1,(∀ f u,f≠e→f≠z→f≠o→f≠i→f≠j→s.heap.get? f=some u→h1.get? f=some u)→Q none { s with heap:=h1 }) :
 wpAny (model prog w) A (pyNext (.ref e)) Q E s:=by
 have hT:s.TypeIs (.ref e) "enumerate" := ⟨_,he,rfl⟩;unfold pyNext;refine wpAny_bind (wpAny_attempt (wpAny_callSpecial?_slot (name:=Str.ofString "__next__") hT F.slot_enumerate_next (wpAny_call_entry F.slot_enumerate_next hT F.entry_enumerate_next ?_ (F.args_enumerate_next_1 _))));refine wpAny_bind (m:=field (.ref e) 2) (wpAny_field he rfl (x:=.ref z) rfl ?_);obtain ⟨f0,f1,hz0,hf⟩:=id hz;have hTz:s.TypeIs (.ref z) "zip" := ⟨_,hz0,rfl⟩;refine wpAny_bind (m:=Builtin.SmallTypes.nextOf (.ref z)) ?_;unfold Builtin.SmallTypes.nextOf;refine wpAny_bind (wpAny_callSpecial?_slot (name:=Str.ofString "__next__") hTz F.slot_zip_next (wpAny_call_entry F.slot_zip_next hTz F.entry_zip_next (Zqu hh D hz ht ho hi hj ha hb hx fun h1 x r1 ⟨u,g,cu⟩=>?_) (F.args_zip_next_1 _)));exact wpAny_bind (wpAny_isInstance (T := "StopIteration") (b:=true) ⟨u,g,cu⟩ isSubtype_stop (wpAny_pure (q _ fun f u _ f2 f3 f4 f5 r=>r1 f u f2 f3 f4 f5 r)))
end
open AutoSeq1 (wpAny_loadPart')
section
variable {X:Cx} {pins:List (Addr×Obj)} {σ:List (Option V)} {H H':Hp} {s:Shared} {h':Heap}
theorem Inv.turnGen {t':Nat} {ch:List Addr} (I:Inv X pins σ H s) (k:∀ b u,b∉ch→s.heap.get? b=some u→h'.get? b=some u) (hf:∀ b∈ch,FpOk X pins H b)
 (old:∀ b u,H b=some u→H' b=some u) (non:∀ b u,s.heap.get? b=some u→H b=none→H' b=none) (new:∀ b u,H b=none→H' b=some u→ObjOk X.prog X.w H' h' b u):Inv X pins σ H' { s with heap:=h',toks:=t' }:=by
 have nc:∀ b u,H b=some u→b∉ch:=fun b u e z=>by rw [(hf b z).1] at e;cases e
 refine I.step (g':=s.gens) (d':=s.drawn) (ch:=ch) (fun b hb=>?_) (fun b u _ _ hc e _=>k b u hc e) (fun b u _ _ hc e _=>⟨u.slots,k b u hc e⟩) (fun b u _ e n=>non b u e n)
  (fun b u hc e=>⟨u,k b u hc e⟩) (fun b xs e=>old b _ e) (fun b u v e=>old b _ e) (fun b ps e=>⟨#[],by rw [old b _ e];simp⟩) (fun m hm=>?_) (fun b u e=>?_) I.bare
 · obtain ⟨f0,f1,f2,f3,f4,f5⟩:=hf b hb;exact ⟨f3,f1,f4,f5⟩
 · obtain ⟨u,es,ep,hu,r⟩:=hm;exact ⟨u,es,ep,k _ u (fun z=>(hf _ z).2.1 rfl) hu,r⟩
 · cases hb:H b with
   | none=>exact new b u hb e
   | some v =>
     rw [old b v hb] at e;cases e
     refine (I.hok b _ hb).stay (fun c w hc q=>k c w ?_ q) (fun c q=>old c _ q) fun c xs q=>old c _ q
     rcases hc with z|z
     · rw [z];exact nc b _ hb
     · exact nc c _ z
end
def Itez (k l:SK) (K:PySem.W.Frag) (a b:Addr):It :=
 ⟨fun i H=>∃ xs ys x y,k.Sq K H a xs∧l.Sq K H b ys∧xs[i]? = some x∧ys[i]? = some y,
  fun i H v H'=>∃ p p' x y,v=.ref p'∧H p=none∧H p'=none∧p≠p'∧H'=upd (upd H p (.tup [x,y])) p' (.tup [.int i,.ref p])∧(∀ xs,k.Sq K H a xs→xs[i]? = some x)∧∀ ys,l.Sq K H b ys→ys[i]? = some y,
  fun i H=>∃ xs ys,k.Sq K H a xs∧l.Sq K H b ys∧(xs.length≤i∨ys.length≤i)⟩
theorem Zio {P:Program} {w:World} {K:PySem.W.Frag} {es:List Expr} {x1:Nat} {tp:Pos} {k l:SK} {e z t o i j a b:Addr} (D:ZP z t o i j a b) (ne:e≠z∧e≠t∧e≠o∧e≠i∧e≠j∧a≠e∧b≠e) :
 Turn P w K (.Tuple es x1 tp) (Itez k l K a b) [e,z,t,o,i,j] e (fun n h=>(∃ old,IsEnum h e z n old)∧ZSt h z t o∧IsPair h t (.ref i) (.ref j)∧(∃ c d,IsPair h o c d)∧k.It h i a n∧l.It h j b n) where
 mem:=by simp
 obj:=fun n h st f hf=>by
  obtain ⟨⟨old,h0⟩,⟨f0,f1,h1,_⟩,h2,⟨c,d,h3⟩,h4,h5⟩:=st;simp only [List.mem_cons,List.not_mem_nil,or_false] at hf
  rcases hf with rfl|rfl|rfl|rfl|rfl|rfl
  · exact ⟨_,h0,fun v q=>by cases (show Data.fields _=Data.cell v from q)⟩
  · exact ⟨_,h1,fun v q=>by cases (show Data.fields _=Data.cell v from q)⟩
  · exact ⟨_,h2,fun v q=>by cases (show Data.seq _ _=Data.cell v from q)⟩
  · exact ⟨_,h3,fun v q=>by cases (show Data.seq _ _=Data.cell v from q)⟩
  · obtain ⟨u,e,_,q⟩:=h4.ex;exact ⟨u,e,fun v r=>by rw [q] at r;cases r⟩
  · obtain ⟨u,e,_,q⟩:=h5.ex;exact ⟨u,e,fun v r=>by rw [q] at r;cases r⟩
 keep:=fun n h h' st f=>by
  obtain ⟨⟨old,h0⟩,⟨f0,f1,h1,hf⟩,h2,⟨c,d,h3⟩,h4,h5⟩:=st;exact ⟨⟨old,f e (by simp) _ h0⟩,⟨f0,f1,f z (by simp) _ h1,hf⟩,f t (by simp) _ h2,⟨c,d,f o (by simp) _ h3⟩,h4.at fun u q=>f i (by simp) u q,h5.at fun u q=>f j (by simp) u q⟩
 item:=by
  intro X hP hw hK hc n pins s σ H E I hf st hg;subst hP hw hK;obtain ⟨⟨old,h0⟩,hz,h2,⟨c,d,h3⟩,h4,h5⟩:=st;obtain ⟨xs,ys,x,y,q1,q2,hx,hy⟩:=hg;obtain ⟨us,ru,pu⟩:=q1.is I;obtain ⟨vs,rv,pv⟩:=q2.is I;obtain ⟨u,hu,ux⟩:=ru.get hx;obtain ⟨v,hv,vy⟩:=rv.get hy;have lt:∀ {b o'},s.heap.get? b=some o'→b≠s.heap.objs.size∧b≠s.heap.objs.size+1:=fun q=>⟨Nat.ne_of_lt (Heap.lt_size q),Nat.ne_of_lt (Nat.lt_succ_of_lt (Heap.lt_size q))⟩;refine Zl2 D ne h0 hz h2 h3 h4 h5 pu pv (x:=u) (y:=v) (by simpa using hu) (by simpa using hv) fun g tk r0 r1 r2 r3 r4 r5 r6 r7 r8=>?_;refine ⟨_,rfl,wpAny_letOwnedTupleGo_enum r0 fun g2 z2 s2=>?_⟩;have hp:H s.heap.objs.size=none:=I.hok.fresh (Nat.le_refl _);have hp':H (s.heap.objs.size+1)=none:=I.hok.fresh (Nat.le_succ _);have pp:s.heap.objs.size≠s.heap.objs.size+1:=Nat.ne_of_lt (Nat.lt_succ_self _);have T1:IsPair g2 s.heap.objs.size u v:=s2.extBut _ _ (Ne.symm (lt h0).1) r6;have T2:IsPair g2 (s.heap.objs.size+1) (.int n tk) (.ref s.heap.objs.size):=s2.extBut _ _ (Ne.symm (lt h0).2) r7
  have I2:Inv X pins σ (upd (upd H s.heap.objs.size (.tup [x,y])) (s.heap.objs.size+1) (.tup [.int n,.ref s.heap.objs.size])) { s with heap:=g2,toks:=tk+1 }:=by
   refine I.turnGen (ch:=[e,z,o,i,j]) (fun f o' nf q=>?_) (fun f hf'=>hf f ?_) (fun b u' q=>?_) (fun b u' q n'=>?_) (fun b u' q r=>?_)
   · simp only [List.mem_cons,List.not_mem_nil,or_false,not_or] at nf;exact s2.extBut _ _ nf.1 (r8 f o' nf.1 nf.2.1 nf.2.2.1 nf.2.2.2.1 nf.2.2.2.2 q)
   · simp only [List.mem_cons,List.not_mem_nil,or_false] at hf' ⊢
     rcases hf' with q|q|q|q|q<;>simp [q]
   · rw [Zr (Zo q hp'),Zr (Zo q hp)];exact q
   · rw [Zr (lt q).2,Zr (lt q).1];exact n'
   · by_cases e1:b=s.heap.objs.size+1
     · subst e1;rw [Zj] at r;cases r;exact ⟨z2_,[.int n tk,.ref s.heap.objs.size],.cons ⟨tk,rfl⟩ (.cons rfl .nil),⟨_,T2,rfl,_,rfl⟩⟩
     · rw [Zr e1] at r
       by_cases e2:b=s.heap.objs.size
       · subst e2;rw [Zj] at r;cases r;exact ⟨z2_,[u,v],.cons ux (.cons vy .nil),⟨_,T1,rfl,_,rfl⟩⟩
       · rw [Zr e2,q] at r;cases r
  obtain ⟨n1,n2,n3,n4,n5,n6,n7⟩:=ne;obtain ⟨g0,g1,z1,hg1⟩:=r1;obtain ⟨c',d',o1⟩:=r3;refine ⟨.ref (s.heap.objs.size+1),_,I2,rfl,⟨_,_,x,y,rfl,hp,hp',pp,rfl,fun xs' q=>by rw [q.inj q1 I];exact hx,fun ys' q=>by rw [q.inj q2 I];exact hy⟩,⟨⟨_,by simpa using z2⟩,⟨g0,g1,s2.extBut _ _ n1.symm z1,hg1⟩,s2.extBut _ _ n2.symm r2,⟨c',d',s2.extBut _ _ n3.symm o1⟩,r4.at fun u' q=>s2.extBut _ _ n4.symm q,r5.at fun u' q=>s2.extBut _ _ n5.symm q⟩,fun f hf'=>?_⟩
  have nf:f≠s.heap.objs.size∧f≠s.heap.objs.size+1:=by
   obtain ⟨f0,f1,hz1,_⟩:=hz;simp only [List.mem_cons,List.not_mem_nil,or_false] at hf'
   rcases hf' with rfl|rfl|rfl|rfl|rfl|rfl
   · exact lt h0
   · exact lt hz1
   · exact lt h2
   · exact lt h3
   · obtain ⟨_,q,_⟩:=h4.ex;exact lt q
   · obtain ⟨_,q,_⟩:=h5.ex;exact lt q
  rw [Zr nf.2,Zr nf.1];exact (hf f hf').1
 done:=by
  intro X hP hw hK hc n pins s σ H E I hf st hg;subst hP hw hK;obtain ⟨⟨old,h0⟩,hz,h2,⟨c,d,h3⟩,h4,h5⟩:=st;obtain ⟨xs,ys,q1,q2,hl⟩:=hg;obtain ⟨us,ru,pu⟩:=q1.is I;obtain ⟨vs,rv,pv⟩:=q2.is I;have e1:=ru.length;have e2:=rv.length;refine Znm (I.ok.hd hc) D ne h0 hz h2 h3 h4 h5 pu pv ?_ fun g r=>⟨rfl,?_⟩
  · rcases hl with q|q
    · left;simp;omega
    · right;simp;omega
  · refine I.turnOnly (t':=s.toks) (ch:=[e,z,o,i,j]) (fun f o' nf q=>?_) (fun f hf'=>hf f ?_)
    · simp only [List.mem_cons,List.not_mem_nil,or_false,not_or] at nf;exact r f o' nf.1 nf.2.1 nf.2.2.1 nf.2.2.2.1 nf.2.2.2.2 q
    · simp only [List.mem_cons,List.not_mem_nil,or_false] at hf' ⊢
      rcases hf' with q|q|q|q|q<;>simp [q]
 self:=fun _ _ _ _ _ st h=>by obtain ⟨⟨old,h1⟩,_⟩:=st;exact wpAny_pyIter_enum h1 h
theorem Zjq (z:Addr) (t o:Addr):Meets (Builtin.«enumerate.__new__» ⟨[.type "enumerate",.ref z],[]⟩) (fun _ R s=>IsZip s.heap z t o .none ∧
 R (.ok (.ret (.ref s.heap.objs.size))) { s with heap:=s.heap.push (Zal z) }) :=
 .of_wp fun prog w A R s h=>by
  obtain ⟨hp,g,d,tk,os⟩:=s;obtain ⟨hz,h⟩:=h;have hsub:=sub_enumerate;have r1:IsZip (Shared.heap ⟨hp,g,d,tk,os⟩) z t o .none:=hz
  wp_walk using wpAny_loadPart' hz
  refine wpAny_stack_any fun st=>wpAny_pure ?_;split
  · rename_i c _ _ _ _ _
    cases (c == Value.type "enumerate")
    · (wp_walk using wpAny_loadPart' hz,wpAny_pyIter_zip r1);exact ⟨_,rfl,h⟩
    · (wp_walk using wpAny_loadPart' hz,wpAny_pyIter_zip r1);exact ⟨_,rfl,h⟩
  · (wp_walk using wpAny_loadPart' hz,wpAny_pyIter_zip r1);exact ⟨_,rfl,h⟩
section
variable {X:Cx} {es:List Expr} {x1:Nat} {tp:Pos}
def Zqs (k l:SK) (K:PySem.W.Frag) (ta:TA):TI:=fun σ H R=>ta σ H fun vs H1=>∃ a b,vs=[.ref a,.ref b]∧(∃ xs,k.Sq K H1 a xs)∧(∃ ys,l.Sq K H1 b ys)∧R (Itez k l K a b) H1
theorem Zly (k l:SK) {a b:Expr} {ta:TA} {p p2 pos pos2:Pos} (hg:Gl X "enumerate") (hm:X.mg "enumerate" = none) (hg2:Gl X "zip") (hm2:X.mg "zip" = none) (ha:PA X [a,b] ta)
 (hs:starEach [a,b] X.env=[(false,eval a X.env),(false,eval b X.env)]:=by rfl) (hs2:starEach [b] X.env=[(false,eval b X.env)]:=by rfl)
 (he:starEach [Expr.Call (.Name "zip" p2) [a,b] [] pos2] X.env=[(false,eval (.Call (.Name "zip" p2) [a,b] [] pos2) X.env)]:=by rfl) :
 PI X (.Tuple es x1 tp) (.Call (.Name "enumerate" p) [.Call (.Name "zip" p2) [a,b] [] pos2] [] pos) (Zqs k l X.K ta):=by
 intro pins s σ H R I h;refine Call_ (Zcf I hg hm Zfs (PyProof.Rows.callWith_type1 ?_ he rfl));rw [he];refine Calls.spliced_cons ?_;refine Call_ (Zcf I hg2 hm2 Zh3 (PyProof.Rows.callWith_type1 (thn (ha pos2 pins s σ H _ I h) fun us s1 ⟨vs,H1,I1,r1,q1⟩=>?_) (by rw [hs,hs2]) (by rw [hs2];rfl)));obtain ⟨a,b,e,⟨xs,hx⟩,⟨ys,hy⟩,q⟩:=q1;subst e;cases r1 with
 | cons r rr =>
   cases rr with
   | cons r' rr =>
     cases rr
     cases r
     cases r'
     obtain ⟨us,ru,pu⟩:=hx.is I1;obtain ⟨ws,rw',pw⟩:=hy.is I1;have la:a<s1.heap.objs.size:=by obtain ⟨_,_,e,_⟩:=pu.ex;exact Heap.lt_size e
     have lb:b<s1.heap.objs.size:=by obtain ⟨_,_,e,_⟩:=pw.ex;exact Heap.lt_size e
     refine Zkm pu pw fun h1 m1 m2 m3 m4 m5 m6 m7=>Calls.spliced_nil ?_;refine callType_new F.called_enumerate (by decide) (F.typeCall_enumerate_1 _) (F.newCall_enumerate_1 _) (fun obj=>F.args_object_init_2 obj _) F.entry_enumerate_new (Zjq _ _ _) ⟨m1,?_⟩;have m8:(h1.push (Zal (s1.heap.objs.size+4))).get? h1.objs.size=some (Zal (s1.heap.objs.size+4)):=Heap.get?_push_size _ rfl;have up:∀ c o,h1.get? c=some o→(h1.push (Zal (s1.heap.objs.size+4))).get? c=some o:=fun c o e=>Heap.get?_push_of_some _ e;rw [m6] at m8;show _∧_
     rw [m6];refine ⟨⟨_,m8,rfl⟩,wpAny_pyIter_enum m8 ?_⟩;have I2:Inv X pins σ H1 { s1 with heap:=h1.push (Zal (s1.heap.objs.size+4)),toks:=s1.toks }:=I1.kept fun c o e=>up c o (m7 c o e);refine ⟨_,_,_,_,H1,rfl,I2,Zio (e:=s1.heap.objs.size+5) (z:=s1.heap.objs.size+4) (t:=s1.heap.objs.size+2) (o:=s1.heap.objs.size+3) (i:=s1.heap.objs.size) (j:=s1.heap.objs.size+1) (k:=k) (l:=l) (a:=a) (b:=b) (Zqx la lb) ?_,⟨⟨_,m8⟩,⟨_,_,up _ _ m1,.inl rfl⟩,up _ _ m2,⟨_,_,up _ _ m3⟩,m4.at fun u e=>up _ u e,m5.at fun u e=>up _ u e⟩,?_,q⟩
     · have la':@LT.lt Nat _ a s1.heap.objs.size:=la;have lb':@LT.lt Nat _ b s1.heap.objs.size:=lb;refine ⟨?_,?_,?_,?_,?_,?_,?_⟩<;>(intro h;have h':@Eq Nat _ _:=h;clear h;omega)
     · exact I1.fps (fp:=[s1.heap.objs.size+5,s1.heap.objs.size+4,s1.heap.objs.size+2,s1.heap.objs.size+3,s1.heap.objs.size,s1.heap.objs.size+1]) (by
        intro e he;simp only [List.mem_cons,List.not_mem_nil,or_false] at he
        rcases he with rfl|rfl|rfl|rfl|rfl|rfl<;>omega)
end
def Tk (H H':Hp):Prop:=∀ a xs,H a=some (.tup xs)→H' a=some (.tup xs)
theorem Tk.refl {H:Hp}:Tk H H:=fun _ _ e=>e
theorem Tk.trans {H H1 H2:Hp} (a:Tk H H1) (b:Tk H1 H2):Tk H H2:=fun p xs e=>b p xs (a p xs e)
theorem Same.tk {H H':Hp} (s:Same H H'):Tk H H':=fun a xs e=>s a _ e
theorem Tk.of_keep {H H':Hp} {l:Addr} {ys:List V} (k:Keep l H H') (e:H l=some (.lst ys)):Tk H H':=fun a xs q=>k a _ (Zto q e (by intro z;cases z)) q
theorem Tk.upd_lst {H:Hp} {D:Addr} {ys zs:List V} (e:H D=some (.lst ys)):Tk H (upd H D (.lst zs)):=fun a xs q=>by rw [Zr (Zto q e (by intro z;cases z))];exact q
def Al {α:Type} (R:V→α→Prop) (vs:List V) (xs:List α):Prop:=vs.length=xs.length∧∀ (i:Nat) (v:V) (x:α),vs[i]? = some v→xs[i]? = some x→R v x
theorem Al.nil {α:Type} {R:V→α→Prop}:Al R [] []:=⟨rfl,fun i v x e=>by simp at e⟩
theorem Al.snoc {α:Type} {R:V→α→Prop} {vs:List V} {xs:List α} {v:V} {x:α} (h:Al R vs xs) (r:R v x):Al R (vs++[v]) (xs++[x]):=by
 refine ⟨by simp [h.1],fun i w y e1 e2=>?_⟩
 by_cases hi:i<vs.length
 · rw [List.getElem?_append_left hi] at e1;rw [List.getElem?_append_left (by rw [← h.1];exact hi)] at e2;exact h.2 i w y e1 e2
 · have:i=vs.length:=by
    have:=(List.getElem?_eq_some_iff.mp e1).1
    simp at this;omega
   subst this;rw [List.getElem?_append_right (Nat.le_refl _)] at e1;rw [h.1,List.getElem?_append_right (Nat.le_refl _)] at e2;simp at e1 e2;subst e1;subst e2;exact r
theorem Al.imp {α:Type} {R S:V→α→Prop} {vs:List V} {xs:List α} (h:Al R vs xs) (f:∀ v x,R v x→S v x):Al S vs xs:=⟨h.1,fun i v x e1 e2=>f v x (h.2 i v x e1 e2)⟩
theorem Al.get {α:Type} {R:V→α→Prop} {vs:List V} {xs:List α} {i:Nat} {v:V} (h:Al R vs xs) (e:vs[i]? = some v):∃ x,xs[i]? = some x∧R v x:=by
 have hi:i<xs.length:=by rw [← h.1];exact (List.getElem?_eq_some_iff.mp e).1
 exact ⟨xs[i],List.getElem?_eq_getElem hi,h.2 i v _ e (List.getElem?_eq_getElem hi)⟩
theorem Al.got {α:Type} {R:V→α→Prop} {vs:List V} {xs:List α} {i:Nat} {x:α} (h:Al R vs xs) (e:xs[i]? = some x):∃ v,vs[i]? = some v∧R v x:=by
 have hi:i<vs.length:=by rw [h.1];exact (List.getElem?_eq_some_iff.mp e).1
 exact ⟨vs[i],List.getElem?_eq_getElem hi,h.2 i _ x (List.getElem?_eq_getElem hi) e⟩
theorem Al.cons {α:Type} {R:V→α→Prop} {v:V} {vs:List V} {x:α} {xs:List α} (r:R v x) (h:Al R vs xs):Al R (v :: vs) (x :: xs):=by
 refine ⟨by simp [h.1],fun i w y e1 e2=>?_⟩;cases i with
 | zero=>simp at e1 e2;subst e1;subst e2;exact r
 | succ i=>exact h.2 i w y (by simpa using e1) (by simpa using e2)
theorem Al.bls {vs:List V} {bs:List Bool} (h:Al (fun v b=>v=V.bl b) vs bs):vs=bs.map V.bl:=by
 refine List.ext_getElem? fun i=>?_;rw [List.getElem?_map];cases e:bs[i]? with
 | none =>
   have:=List.getElem?_eq_none_iff.mp e
   rw [List.getElem?_eq_none (by rw [h.1];exact this)];rfl
 | some b =>
   obtain ⟨v,ev,rfl⟩:=h.got e;rw [ev];rfl
theorem Al.ints {vs:List V} {ns:List Int} (h:Al (fun v n=>v=V.int n) vs ns):vs=ns.map V.int:=by
 refine List.ext_getElem? fun i=>?_;rw [List.getElem?_map];cases e:ns[i]? with
 | none =>
   have:=List.getElem?_eq_none_iff.mp e
   rw [List.getElem?_eq_none (by rw [h.1];exact this)];rfl
 | some b =>
   obtain ⟨v,ev,rfl⟩:=h.got e;rw [ev];rfl
theorem Al.of_ints (ns:List Int):Al (fun v n=>v=V.int n) (ns.map V.int) ns:=⟨by simp,fun i v n e1 e2=>by rw [List.getElem?_map,e2] at e1;exact (Option.some.inj e1).symm⟩
theorem Zkw {J:It} {n:Nat} {D:Addr} {g:TG} {te:TE} {σ0:St} {H:Hp} {Q:VK} {α:Type} (R:Hp→V→α→Prop) (hR:∀ H1 H2 v x,Tk H1 H2→R H1 v x→R H2 v x) (ys_:List α) (hn:ys_.length=n) (hz:n≤1000) (ok:St→Prop) (h0:ok σ0) (hD:H D=none)
 (hgo:∀ i H2,Same H H2→i<n→J.go i H2) (hstop:∀ H2,Same H H2→J.stop n H2)
 (hs:∀ i x σ2 H2 H3 (C:St→V→Hp→Prop),i<n→Same H H2→J.yld i H2 x H3→ok σ2→(∀ σ4 y H5 z,ok σ4→Same H2 H5→ys_[i]? = some z→R H5 y z→C σ4 y H5)→g x σ2 H3 fun σ4 H4=>te σ4 H4 (C σ4))
 (hd:∀ H2 vs,Same H H2→H2 D=some (.lst vs)→Al (R H2) vs ys_→Q (.ref D) H2):LcGo J g tYes te σ0 H D Q:=by
 refine Zlc (n:=n) (fun i σ H2=>Same H H2∧ok σ∧∃ vs,H2 D=some (.lst vs)∧Al (R H2) vs (ys_.take i)) ⟨Same.new hD,h0,[],Zj,by rw [List.take_zero];exact .nil⟩ (fun i σ H2 hi p=>hgo i H2 p.1 hi) (fun σ H2 p=>hstop H2 p.1) (fun i x σ2 H2 H3 hi y p=>?_) (fun σ2 H2 p=>?_)
 · obtain ⟨s2,o2,vs,e2,a2⟩:=p
   have:=hs i x σ2 H2 H3 (fun σ4 y H6=>∃ ys,H6 D=some (.lst ys)∧ys.length<sizeLine∧∃ m',m'<n-i∧LcN n (fun i σ H2=>Same H H2∧ok σ∧∃ vs,H2 D=some (.lst vs)∧Al (R H2) vs (ys_.take i)) (i+1) m' σ4 (upd H6 D (.lst (ys++[y])))) hi s2 y o2 ?_
   · exact this
   · intro σ4 v H5 z o4 s5 ez rz;have e5:H5 D=some (.lst vs):=s5 _ _ e2;refine ⟨vs,e5,?_,n-(i+1),by omega,by omega,rfl,fun b o e=>?_,o4,vs++[v],Zj,?_⟩
     · rw [a2.1,List.length_take,sizeLine_eq];omega
     · rw [Zr (Zo e hD)];exact s5 _ _ (s2 _ _ e)
     · have tk:Tk H5 (upd H5 D (.lst (vs++[v]))):=Tk.upd_lst e5;have hi':i<ys_.length:=by omega
       rw [List.take_succ_eq_append_getElem hi'];rw [List.getElem?_eq_getElem hi'] at ez;cases ez
       exact (a2.imp fun v x r=>hR _ _ v x tk (hR _ _ v x s5.tk r)).snoc (hR _ _ _ _ tk rz)
 · obtain ⟨s2,_,vs,e2,a2⟩:=p;rw [List.take_of_length_le (by omega)] at a2;exact hd H2 vs s2 e2 a2
def SK.At (H:Hp) (a:Addr) (vs:List V):SK→Prop
 | .l=>H a=some (.lst vs)
 | .t=>H a=some (.tup vs)
theorem SK.At.sq {k:SK} {K:PySem.W.Frag} {H:Hp} {a:Addr} {vs:List V} (h:k.At H a vs):k.Sq K H a vs:=by
 cases k with
 | l=>exact SqL.of h
 | t=>exact SqT.of h
theorem SK.At.same {k:SK} {H H':Hp} {a:Addr} {vs:List V} (h:k.At H a vs) (s:Same H H'):k.At H' a vs:=by
 cases k with
 | l=>exact s _ _ h
 | t=>exact s _ _ h
def SK.Itk (K:PySem.W.Frag) (a:Addr):SK→L2.It
 | .l=>Itl K a
 | .t=>Itt K a
theorem Zqv {k:SK} {K:PySem.W.Frag} {a:Addr} {H:Hp} {vs:List V} {i:Nat} (h:k.At H a vs) (hi:i<vs.length):(k.Itk K a).go i H:=by
 cases k with
 | l=>exact ⟨vs,vs[i],SqL.of h,List.getElem?_eq_getElem hi⟩
 | t=>exact ⟨vs,vs[i],SqT.of h,List.getElem?_eq_getElem hi⟩
theorem Zlp {k:SK} {K:PySem.W.Frag} {a:Addr} {H:Hp} {vs:List V} {i:Nat} (h:k.At H a vs) (hi:vs.length≤i):(k.Itk K a).stop i H:=by
 cases k with
 | l=>exact ⟨vs,SqL.of h,hi⟩
 | t=>exact ⟨vs,SqT.of h,hi⟩
theorem Zop {k:SK} {K:PySem.W.Frag} {a:Addr} {H H':Hp} {vs:List V} {i:Nat} {x:V} (h:k.At H a vs) (y:(k.Itk K a).yld i H x H'):H'=H∧vs[i]? = some x:=by
 cases k with
 | l=>exact ⟨y.1,y.2 vs (SqL.of h)⟩
 | t=>exact ⟨y.1,y.2 vs (SqT.of h)⟩
theorem lc_T {k:SK} {K:PySem.W.Frag} {a D:Addr} {vs:List V} {te:TE} {u0:Option V} {rest:St} {H:Hp} {Q:VK} {α:Type} (R:Hp→V→α→Prop) (hR:∀ H1 H2 v x,Tk H1 H2→R H1 v x→R H2 v x) (ys:List α) (hn:ys.length=vs.length) (hz:vs.length≤1000) (hD:H D=none) (ha:k.At H a vs)
 (hs:∀ (i:Nat) (w:V) (H2:Hp) (C:V→Hp→Prop),vs[i]? = some w→Same H H2→(∀ y H5 z,Same H2 H5→ys[i]? = some z→R H5 y z→C y H5)→te (some w :: rest) H2 C)
 (hd:∀ H2 us,Same H H2→H2 D=some (.lst us)→Al (R H2) us ys→Q (.ref D) H2):LcGo (k.Itk K a) (Z8 0) tYes te (u0 :: rest) H D Q:=by
 refine Zkw R hR ys hn hz (fun σ=>∃ u,σ=u :: rest) ⟨_,rfl⟩ hD (fun i H2 s hi=>Zqv (ha.same s) hi) (fun H2 s=>Zlp (ha.same s) (Nat.le_refl _)) (fun i x σ2 H2 H3 C hi s y o c=>?_) hd;obtain ⟨u,rfl⟩:=o;obtain ⟨rfl,e⟩:=Zop (ha.same s) y;exact hs i x H3 (C (some x :: rest)) e s fun y H5 z s5 ez rz=>c _ y H5 z ⟨_,rfl⟩ s5 ez rz
theorem lc_Z {k l:SK} {K:PySem.W.Frag} {a b D:Addr} {vs ws:List V} {te:TE} {u0 u1:Option V} {rest:St} {H:Hp} {Q:VK} {α:Type} (R:Hp→V→α→Prop) (hR:∀ H1 H2 v x,Tk H1 H2→R H1 v x→R H2 v x) (ys:List α) (hn:ys.length=min vs.length ws.length) (hz:min vs.length ws.length≤1000) (hD:H D=none) (ha:k.At H a vs) (hb:l.At H b ws)
 (hs:∀ (i:Nat) (v w:V) (H2:Hp) (C:V→Hp→Prop),vs[i]? = some v→ws[i]? = some w→Same H H2→(∀ y H5 z,Same H2 H5→ys[i]? = some z→R H5 y z→C y H5)→te (some v :: some w :: rest) H2 C)
 (hd:∀ H2 us,Same H H2→H2 D=some (.lst us)→Al (R H2) us ys→Q (.ref D) H2):LcGo (Itz k l K a b) (gTup K 2 (Yi (Z8 0) (Yi (Z8 1) gNil))) tYes te (u0 :: u1 :: rest) H D Q:=by
 refine Zkw R hR ys hn hz (fun σ=>∃ u u',σ=u :: u' :: rest) ⟨_,_,rfl⟩ hD (fun i H2 s hi=>?_) (fun H2 s=>?_) (fun i x σ2 H2 H3 C hi s y o c=>?_) hd
 · have h1:i<vs.length:=by omega
   have h2:i<ws.length:=by omega
   exact ⟨vs,ws,vs[i],ws[i],(ha.same s).sq,(hb.same s).sq,List.getElem?_eq_getElem h1,List.getElem?_eq_getElem h2⟩
 · exact ⟨vs,ws,(ha.same s).sq,(hb.same s).sq,by omega⟩
 · obtain ⟨u,u',rfl⟩:=o;obtain ⟨p,v,w,rfl,hp,rfl,y1,y2⟩:=y;have s3:Same H2 (upd H2 p (.tup [v,w])):=Same.new hp;refine ⟨p,[v,w],rfl,SqT.of Zj,rfl,v,[w],rfl,w,[],rfl,rfl,?_⟩;exact hs i v w _ (C (some v :: some w :: rest)) (y1 vs (ha.same s).sq) (y2 ws (hb.same s).sq) (s.trans s3) fun y H5 z s5 ez rz=>c _ y H5 z ⟨_,_,rfl⟩ (s3.trans s5) ez rz
theorem lc_E {k:SK} {K:PySem.W.Frag} {a D:Addr} {vs:List V} {tt:TT} {te:TE} {u0 u1:Option V} {rest:St} {H:Hp} {Q:VK} {α:Type} (R:Hp→V→α→Prop) (hR:∀ H1 H2 v x,Tk H1 H2→R H1 v x→R H2 v x) (f:Nat→Option α) (hz:vs.length≤1000) (hD:H D=none) (ha:k.At H a vs)
 (hs:∀ (i:Nat) (w:V) (H2:Hp) (C:V→Hp→Prop) (N:Hp→Prop),vs[i]? = some w→Same H H2→(∀ y H5 z,Same H2 H5→f i=some z→R H5 y z→C y H5)→(∀ H5,Same H2 H5→f i=none→N H5)→tt (some (.int i) :: some w :: rest) H2 fun b H5=>if b=true then te (some (.int i) :: some w :: rest) H5 C else N H5)
 (hd:∀ H2 us,Same H H2→H2 D=some (.lst us)→Al (R H2) us ((List.range vs.length).filterMap f)→Q (.ref D) H2):LcGo (Ite k K a) (gTup K 2 (Yi (Z8 0) (Yi (Z8 1) gNil))) tt te (u0 :: u1 :: rest) H D Q:=by
 refine Zlc (n:=vs.length) (fun i σ H2=>Same H H2∧(∃ u u',σ=u :: u' :: rest)∧∃ us,H2 D=some (.lst us)∧us.length≤i∧Al (R H2) us ((List.range i).filterMap f)) ⟨Same.new hD,⟨_,_,rfl⟩,[],Zj,Nat.le_refl _,.nil⟩ (fun i σ H2 hi p=>⟨vs,vs[i],(ha.same p.1).sq,List.getElem?_eq_getElem hi⟩) (fun σ H2 p=>⟨vs,(ha.same p.1).sq,rfl⟩) (fun i x σ2 H2 H3 hi y p=>?_) (fun σ2 H2 p=>?_)
 · obtain ⟨s2,⟨u,u',rfl⟩,us,e2,l2,a2⟩:=p;obtain ⟨q,w,rfl,hq,rfl,y1⟩:=y;have s3:Same H2 (upd H2 q (.tup [.int i,w])):=Same.new hq
   have rg:(List.range (i+1)).filterMap f=(List.range i).filterMap f++(f i).toList:=by
    rw [List.range_succ,List.filterMap_append];cases e:f i<;>simp [e]
   refine ⟨q,[.int i,w],rfl,SqT.of Zj,rfl,_,_,rfl,_,_,rfl,rfl,?_⟩;refine hs i w _ _ _ (y1 vs (ha.same s2).sq) (s2.trans s3) (fun v H5 z s5 ez rz=>?_) (fun H5 s5 ez=>?_)
   · have e5:H5 D=some (.lst us):=s5 _ _ (s3 _ _ e2);refine ⟨us,e5,by rw [sizeLine_eq];omega,vs.length-(i+1),by omega,by omega,rfl,fun b o e=>?_,⟨_,_,rfl⟩,us++[v],Zj,by simp;omega,?_⟩
     · rw [Zr (Zo e hD)];exact s5 _ _ (s3 _ _ (s2 _ _ e))
     · have tk:Tk H5 (upd H5 D (.lst (us++[v]))):=Tk.upd_lst e5;rw [rg,ez];exact (a2.imp fun v x r=>hR _ _ v x tk (hR _ _ v x (s3.trans s5).tk r)).snoc (hR _ _ _ _ tk rz)
   · refine ⟨vs.length-(i+1),by omega,by omega,rfl,s2.trans (s3.trans s5),⟨_,_,rfl⟩,us,s5 _ _ (s3 _ _ e2),by omega,?_⟩;rw [rg,ez];simp only [Option.toList_none,List.append_nil];exact a2.imp fun v x r=>hR _ _ v x (s3.trans s5).tk r
 · obtain ⟨s2,_,us,e2,_,a2⟩:=p;exact hd H2 us s2 e2 a2
abbrev Pnt:=Int×Int
def IsI (H:Hp) (v:V) (ns:List Int):Prop:=∃ a,v=.ref a∧H a=some (.tup (ns.map V.int))
def IsP (H:Hp) (v:V) (p:Pnt):Prop:=IsI H v [p.1,p.2]
theorem IsI.tk {H H':Hp} {v:V} {ns:List Int} (t:Tk H H') (h:IsI H v ns):IsI H' v ns:=let ⟨a,e,q⟩:=h;⟨a,e,t _ _ q⟩
theorem IsP.tk {H H':Hp} {v:V} {p:Pnt} (t:Tk H H') (h:IsP H v p):IsP H' v p:=IsI.tk t h
def IsTup' {α:Type} (R:Hp→V→α→Prop) (H:Hp) (v:V) (xs:List α):Prop:=∃ a vs,v=.ref a∧H a=some (.tup vs)∧Al (R H) vs xs
theorem IsTup'.tk {α:Type} {R:Hp→V→α→Prop} (hR:∀ H1 H2 v x,Tk H1 H2→R H1 v x→R H2 v x) {H H':Hp} {v:V} {xs:List α} (t:Tk H H') (h:IsTup' R H v xs):IsTup' R H' v xs:=let ⟨a,vs,e,q,r⟩:=h;⟨a,vs,e,t _ _ q,r.imp fun v x=>hR _ _ v x t⟩
structure Pl where
 cs:List Pnt
 ps:List (List Int)
 ts:List Int
 l:Int
 m:Int
def IsCs (H:Hp) (v:V) (cs:List Pnt):Prop:=IsTup' IsP H v cs
def IsPs (H:Hp) (v:V) (ps:List (List Int)):Prop:=IsTup' IsI H v ps
theorem IsCs.tk {H H':Hp} {v:V} {cs:List Pnt} (t:Tk H H') (h:IsCs H v cs):IsCs H' v cs:=IsTup'.tk (R:=IsP) (fun _ _ _ _ t r=>IsP.tk t r) t h
theorem IsPs.tk {H H':Hp} {v:V} {ps:List (List Int)} (t:Tk H H') (h:IsPs H v ps):IsPs H' v ps:=IsTup'.tk (R:=IsI) (fun _ _ _ _ t r=>IsI.tk t r) t h
def IsPl (H:Hp) (v:V) (P:Pl):Prop:=∃ a c p t s,v=.ref a∧H a=some (.tup [c,p,t,s])∧IsCs H c P.cs∧IsPs H p P.ps∧IsI H t P.ts∧IsI H s [P.l,P.m]
theorem IsPl.tk {H H':Hp} {v:V} {P:Pl} (t:Tk H H') (h:IsPl H v P):IsPl H' v P:=let ⟨a,c,p,q,s,e,h1,h2,h3,h4,h5⟩:=h;⟨a,c,p,q,s,e,t _ _ h1,h2.tk t,h3.tk t,h4.tk t,h5.tk t⟩
def tn (a b c:Pnt):Int:=(b.1-a.1)*(c.2-a.2)-(c.1-a.1)*(b.2-a.2)
structure Tri where
 a:Pnt
 b:Pnt
 c:Pnt
def tri (a b c:Pnt):Tri:=if tn a b c<0 then ⟨a,c,b⟩ else ⟨a,b,c⟩
def Tri.pts (t:Tri):List Pnt:=[t.a,t.b,t.c]
def Tri.edges (t:Tri):List (Pnt×Pnt):=[(t.a,t.b),(t.b,t.c),(t.c,t.a)]
def Zb7 (p:Pnt) (t:Tri):Bool:=(t.edges.map fun e=>decide (0≤tn e.1 e.2 p)).all id
def Ze3 (e:Pnt×Pnt) (u:Tri):Bool:=(u.pts.map fun q=>decide (tn e.1 e.2 q≤0)).all id
def Xa (t u:Tri):Bool:=t.edges.any fun e=>Ze3 e u
def apart (t u:Tri):Bool:=Xa t u||Xa u t
def IsT (H:Hp) (v:V) (t:Tri):Prop:=∃ a x y z,v=.ref a∧H a=some (.tup [x,y,z])∧IsP H x t.a∧IsP H y t.b∧IsP H z t.c
theorem IsT.tk {H H':Hp} {v:V} {u:Tri} (t:Tk H H') (h:IsT H v u):IsT H' v u:=let ⟨a,x,y,z,e,h1,h2,h3,h4⟩:=h;⟨a,x,y,z,e,t _ _ h1,h2.tk t,h3.tk t,h4.tk t⟩
def near (p:Pnt):Prop:=(-100≤p.1∧p.1≤100)∧(-100≤p.2∧p.2≤100)
def Tri.near (t:Tri):Prop:=L2.near t.a∧L2.near t.b∧L2.near t.c
def cAt (cs:List Pnt) (i:Int):Pnt:=cs.getD i.toNat (0,0)
def trOf (cs:List Pnt) (p:List Int):Tri:=tri (cAt cs (p.getD 0 0)) (cAt cs (p.getD 1 0)) (cAt cs (p.getD 2 0))
def dOf (cs:List Pnt) (p:List Int):Int:=tn (cAt cs (p.getD 0 0)) (cAt cs (p.getD 1 0)) (cAt cs (p.getD 2 0))
def Zbd (q:(Int→Bool)×Nat) (k:Int):(Int→Bool)×Nat:=(fun k'=>q.1 k'||decide (k'=k),if q.1 k then q.2 else q.2+1)
def cntS (l:List Int):Nat:=(l.foldl Zbd (fun _=>false,0)).2
structure PieceOk (cs:List Pnt) (p:List Int):Prop where
 len:p.length=3
 bd:∀ i∈p,0≤i∧i≤(cs.length:Int)-1
 rise:p.getD 0 0<p.getD 1 0∧p.getD 1 0<p.getD 2 0
 d:dOf cs p≠0
structure PlOk (P:Pl):Prop where
 c3:3≤P.cs.length
 c30:P.cs.length≤30
 nr:∀ p∈P.cs,near p
 nd:P.cs.Nodup
 p1:1≤P.ps.length
 p40:P.ps.length≤40
 pc:∀ p∈P.ps,PieceOk P.cs p
 rise:∀ i:Nat,i+1<P.ps.length→HT.lexLt (P.ps.getD i []) (P.ps.getD (i+1) [])=true
 t1:P.ts.length=P.ps.length
 t9:∀ t∈P.ts,1≤t∧t≤9
 l9:0≤P.l∧P.l≤9
 m9:1≤P.m∧P.m≤9
 used:cntS P.ps.flatten=P.cs.length
 strange:∀ p∈P.ps,∀ j:Nat,j<P.cs.length→(j:Int)∉p→Zb7 (P.cs.getD j (0,0)) (trOf P.cs p)=false
 apart:∀ i j:Nat,i<j→j<P.ps.length→L2.apart (trOf P.cs (P.ps.getD j [])) (trOf P.cs (P.ps.getD i []))=true
abbrev Nms:=List (Str×NameKind)
def relN (sc:Nms) (dn:Nms):Nms:=sc.map fun y=>if y.2 == .free&&dn.lookup y.1 == some .cell then (y.1,.cell) else y
def chk (sc dn:Nms) (N XN:List Str) (fr:List (Option Nat)):Bool :=
 sc.all (fun y=>y.2 != .cell)&&sc.all (fun y=>y.2 != .free||dn.lookup y.1 == some .cell)&&sc.all (fun y=>y.2 != .local||sc.lookup y.1 == some .local)&&(fr.length == N.length) &&
  (List.range fr.length).all fun i=>match fr[i]? with
    | some (some j)=>match N[i]? with
      | some x=>XN[j]? == some x&&dn.lookup x == some .cell&&(relN sc dn).lookup x == some .cell
      | none=>false
    | _=>true
theorem Zgv {scope:Scope} {env:Env} {dn:Nms} (hn:env.scope.names=dn) (hk:env.scope.kind=.function):(relabel scope env).names=relN scope.names dn:=by
 unfold relabel relN;show scope.names.map _=scope.names.map _
 refine List.map_congr_left fun y _=>?_;obtain ⟨n,k⟩:=y;have e:(env.scope.kind == ScopeKind.function)=true:=by rw [hk];rfl
 have e2:env.kindOf n=dn.lookup n:=by rw [← hn];rfl
 simp only [e,e2,Bool.and_true]
theorem Z3 {X:Cx} {scope:Scope} {N XN:List Str} {fr:List (Option Nat)} (dn:Nms) (hn:X.env.scope.names=dn) (hk:X.env.scope.kind=.function) (hX:X.N=XN) (hc:∀ x,dn.lookup x=some .cell→∃ c,X.env.cells.lookup x=some c)
 (h:chk scope.names dn N XN fr=true) (hs:scope.kind=.function):LcScope X scope (Yq X.env.cells scope.names) N fr:=by
 unfold chk at h;simp only [Bool.and_eq_true] at h;obtain ⟨⟨⟨⟨h1,h2⟩,h3⟩,h4⟩,h5⟩:=h;refine Zpc (fun x e=>hc x (by rw [← hn];exact e)) (fun y hy e=>?_) (fun y hy=>?_) hs (fun y hy e=>?_) (by simpa using h4) (fun i j e=>?_)
 · have:=List.all_eq_true.mp h2 y hy
   rw [e] at this;rw [hn]
   simpa using this
 · have:=List.all_eq_true.mp h1 y hy
   simpa using this
 · have:=List.all_eq_true.mp h3 y hy
   rw [e] at this
   simpa using this
 · have hi:i<fr.length:=(List.getElem?_eq_some_iff.mp e).1
   have:=List.all_eq_true.mp h5 i (List.mem_range.mpr hi)
   rw [e] at this;cases hx:N[i]? with
   | none=>rw [hx] at this;cases this
   | some x =>
     rw [hx] at this;simp only [Bool.and_eq_true,beq_iff_eq] at this;refine ⟨x,rfl,by rw [hX];exact this.1.1,.inl (by rw [hn];exact this.1.2),.inl ?_⟩;rw [Zgv hn hk];exact this.2
theorem Znb {cells:List (Str×Addr)} {sc dn:Nms} {x:Str} (hc:sc.all (fun y=>y.2 != .cell)=true) (h:(relN sc dn).lookup x=some .cell):∃ c,(Yq cells sc).lookup x=some c:=by
 have key:(x,NameKind.free)∈sc:=by
  have m:=PySem.mem_of_lookup h;obtain ⟨⟨n,k⟩,hm,e⟩:=List.mem_map.mp m
  by_cases hf:k=.free
  · subst hf
    have:n=x:=by
     dsimp only at e;split at e<;>(injection e)
    subst this;exact hm
  · have b:(k == NameKind.free)=false:=by simpa using hf
    simp only [b,Bool.false_and,Bool.false_eq_true,if_false] at e;injection e with e1 e2
    subst e2
    have:=List.all_eq_true.mp hc _ hm
    simp at this
 have hm:(x,(cells.lookup x).getD 0)∈Yq cells sc:=by
  unfold Yq;exact List.mem_reverse.mpr (List.mem_map.mpr ⟨(x,.free),List.mem_filter.mpr ⟨key,rfl⟩,rfl⟩)
 cases q:(Yq cells sc).lookup x with
 | some c'=>exact ⟨c',rfl⟩
 | none =>
   have z:=(List.lookup_eq_none_iff.mp q) _ hm;simp at z
theorem Zsf {X:Cx} {x:Str} {k j:Nat} {sp:Sp} {p pos:Pos} (C:Cal X.prog X.w X.K X.mg X.base x k [] sp) (hr:Room j X.A) (hj:k≤j) (hg:Gl X x) (hdb:(x == ("__debug__" : Str))=false:=by decide) :
 PE X (.Call (.Name x p) [] [] pos) (fun _ H Q=>sp [] H Q E0):=by
 obtain ⟨f,fd,F,hm,hk,hb⟩:=C.ex;have h:=Zpv (dvs:=[]) (E:=E0) (p:=p) (pos:=pos) F (hr.mono hj) hg hm hk hb .nil Ztk hdb;exact h
def rNeL (K:PySem.W.Frag):R2:=fun x y H Q=>∃ a b xs,x=.ref a∧y=.ref b∧SqL K H a xs∧SqL K H b []∧Q (.bl (!decide (xs=[]))) H
theorem Zud {X:Cx} (hu:X.A.units<cLine):OpR X (compareOp .NotEq) (rNeL X.K):=by
 intro pins s σ H x y v u Q I rx ry h;obtain ⟨a,b,xs,rfl,rfl,h1,h2,q⟩:=h;cases rx;cases ry
 obtain ⟨us,r1,p1,_⟩:=I.list h1;obtain ⟨ws,r2,p2,_⟩:=I.list h2;have l1:=r1.length;have e:ws=[]:=r2.nil_iff.mpr rfl;subst e;cases hx:xs with
 | nil =>
   subst hx;have e:us=[]:=r1.nil_iff.mpr rfl;subst e;exact SeqAt.RcNeAt.lists (e:=fun j=>true) p1.isList p2.isList rfl hu (fun j h1 h2=>absurd h2 (by simp)) _ _ _ _ ⟨.bl _,H,I,rfl,q⟩
 | cons y ys =>
   subst hx;exact SeqAt.RcNeAt.lists_lengths p1.isList p2.isList (by simp at l1;simp [← l1]) hu _ _ _ _ ⟨.bl _,H,I,rfl,q⟩
theorem Zf6 (K:PySem.W.Frag) {X:Cx} (h:X.K=K):IxR X (rIxL K):=h ▸ Yl
theorem Zan (K:PySem.W.Frag) {X:Cx} (h:X.K=K):IxR X (rIxT K):=h ▸ Zu
theorem Zgy (K:PySem.W.Frag) {X:Cx} (h:X.K=K):OpR X (compareOp .NotIn) (rIn K true):=h ▸ Zhz
theorem Zga (K:PySem.W.Frag) {X:Cx} (h:X.K=K):X1 X (.builtin "len") (fun xs H Q=>∃ p ys,xs=[.ref p]∧(SqL K H p ys∨SqT K H p ys)∧Q (.int ys.length) H):=h ▸ Zp
theorem Zfe (K:PySem.W.Frag) {X:Cx} (h:X.K=K):X1 X (.type "tuple") (fun xs H Q=>∃ p ys,xs=[.ref p]∧((SqL K H p ys∧∀ l,H l=none→Q (.ref l) (upd H l (.tup ys)))∨(SqT K H p ys∧Q (.ref p) H))):=h ▸ Z1
theorem Zg0 (K:PySem.W.Frag) {X:Cx} (h:X.K=K):X1 X (.builtin "sorted") (fun xs H Q=>∃ (p:Addr) (ns:List Int),xs=[.ref p]∧SqL K H p (ns.map V.int)∧ns.length<64∧∀ (l:Addr) (ns':List Int),H l=none→ns'.Perm ns→ns'.Pairwise (·≤·)→Q (.ref l) (upd H l (.lst (ns'.map V.int)))):=h ▸ Zhd
theorem Znx (K:PySem.W.Frag) {X:Cx} {tg l:Expr} {tl:TE} (h:X.K=K) (hl:PE X l tl):PI X tg l (iTup K tl):=h ▸ Yu hl
theorem Zjr {k:SK} {K:PySem.W.Frag} {a D:Addr} {vs:List V} {te:TE} {u0 u1:Option V} {rest:St} {H:Hp} {Q:VK} {α:Type} (R:Hp→V→α→Prop) (hR:∀ H1 H2 v x,Tk H1 H2→R H1 v x→R H2 v x) (ys:List α) (hn:ys.length=vs.length) (hz:vs.length≤1000) (hD:H D=none) (ha:k.At H a vs)
 (hp:∀ (i:Nat) (w:V),vs[i]? = some w→∃ p x y,w=.ref p∧H p=some (.tup [x,y]))
 (hs:∀ (i:Nat) (p:Addr) (x y:V) (H2:Hp) (C:V→Hp→Prop),vs[i]? = some (.ref p)→H p=some (.tup [x,y])→Same H H2→(∀ y H5 z,Same H2 H5→ys[i]? = some z→R H5 y z→C y H5)→te (some x :: some y :: rest) H2 C)
 (hd:∀ H2 us,Same H H2→H2 D=some (.lst us)→Al (R H2) us ys→Q (.ref D) H2):LcGo (k.Itk K a) (gTup K 2 (Yi (Z8 0) (Yi (Z8 1) gNil))) tYes te (u0 :: u1 :: rest) H D Q:=by
 refine Zkw R hR ys hn hz (fun σ=>∃ u u',σ=u :: u' :: rest) ⟨_,_,rfl⟩ hD (fun i H2 s hi=>Zqv (ha.same s) hi) (fun H2 s=>Zlp (ha.same s) (Nat.le_refl _)) (fun i x σ2 H2 H3 C hi s y o c=>?_) hd;obtain ⟨u,u',rfl⟩:=o;obtain ⟨rfl,e⟩:=Zop (ha.same s) y;obtain ⟨p,x1,y1,rfl,e2⟩:=hp i x e;exact ⟨p,[x1,y1],rfl,SqT.of (s _ _ e2),rfl,x1,[y1],rfl,y1,[],rfl,rfl,hs i p x1 y1 H3 (C (some x1 :: some y1 :: rest)) e e2 s fun y H5 z s5 ez rz=>c _ y H5 z ⟨_,_,rfl⟩ s5 ez rz⟩
theorem Zs1 {K:PySem.W.Frag} {a D:Addr} {vs:List V} {ps:List (List Int)} {u0 u1:Option V} {rest:St} {H:Hp} {Q:VK} (ha:H a=some (.tup vs)) (al:Al (IsI H) vs ps) (hl:ps.flatten.length<1000) (hD:H D=none)
 (hd:∀ S,Q (.ref D) (upd H D (.set S (cntS ps.flatten)))) :
 ScGo (Itt K a) (Z8 0) (iTup K (tVar 0)) (Z8 1) (tVar 1) (u0 :: u1 :: rest) H D Q:=by
 have hsz:∀ l:List Int,(l.foldl Zbd (fun _=>false,0)).2≤l.length:=by
  intro l
  have:∀ (l:List Int) q,(l.foldl Zbd q).2≤q.2+l.length:=by
   intro l
   induction l with
   | nil=>intro q;simp
   | cons x l ih =>
     intro q
     have:=ih (Zbd q x)
     rw [List.foldl_cons,List.length_cons];have h2:(Zbd q x).2≤q.2+1:=by unfold Zbd;dsimp only;split<;>omega
     omega
  have:=this l (fun _=>false,0)
  simpa using this
 have sb:∀ n,n<1001→n+1<scanBound:=fun n h=>Nat.lt_trans (show n+1<1002 by omega) (by decide)
 let f:List Int→(Int→Bool)×Nat:=fun l=>l.foldl Zbd (fun _=>false,0)
 refine ⟨fun i m σ H2=>m=vs.length-i∧i≤vs.length∧(∃ u u',σ=u :: u' :: rest)∧H2=upd H D (.set (f (ps.take i).flatten).1 (f (ps.take i).flatten).2),⟨_,rfl,Nat.zero_le _,⟨_,_,rfl⟩,by simp [f]⟩,?_⟩;rintro i m σ2 H2 ⟨rfl,hi,⟨u,u',rfl⟩,rfl⟩
 have e0:upd H D (.set (f (ps.take i).flatten).1 (f (ps.take i).flatten).2) a=some (.tup vs):=by rw [Zr (Zo ha hD)];exact ha
 by_cases hlt:i<vs.length
 · refine .inr ⟨⟨vs,vs[i],SqT.of e0,List.getElem?_eq_getElem hlt⟩,fun x H3 y=>?_⟩;obtain ⟨rfl,y2⟩:=y;have ex:=y2 vs (SqT.of e0);obtain ⟨p,ep,b,rfl,hb⟩:=al.get ex;have hip:i<ps.length:=(List.getElem?_eq_some_iff.mp ep).1;have tk:ps.take (i+1)=ps.take i++[p]:=by rw [List.take_succ,ep];rfl
   have fl:(ps.take (i+1)).flatten=(ps.take i).flatten++p:=by rw [tk];simp
   have le1:(ps.take (i+1)).flatten.length≤ps.flatten.length:=by
    have:=congrArg (fun l:List (List Int)=>l.flatten.length) (List.take_append_drop (i+1) ps)
    rw [List.flatten_append,List.length_append] at this;omega
   have eb:∀ o,upd H D o b=some (.tup (p.map V.int)):=fun o=>by rw [Zr (Zo hb hD)];exact hb
   refine ⟨.ref b,rfl,b,rfl,⟨_,SqT.of (eb _)⟩,?_⟩;refine ⟨fun i1 m1 σ6 H6=>m1=p.length-i1∧i1≤p.length∧(∃ u',σ6=some (.ref b) :: u' :: rest)∧H6=upd H D (.set (f ((ps.take i).flatten++p.take i1)).1 (f ((ps.take i).flatten++p.take i1)).2),⟨_,rfl,Nat.zero_le _,⟨_,rfl⟩,by simp⟩,?_⟩;rintro i1 m1 σ6 H6 ⟨rfl,hi1,⟨u2,rfl⟩,rfl⟩
   by_cases hl1:i1<p.length
   · refine .inr ⟨⟨p.map V.int,V.int p[i1],SqT.of (eb _),by simp [hl1]⟩,fun y H7 yy=>?_⟩;obtain ⟨rfl,y3⟩:=yy;have ey:=y3 _ (SqT.of (eb _));rw [List.getElem?_map,List.getElem?_eq_getElem hl1] at ey;cases ey
     have len:(ps.take i).flatten.length+p.length≤ps.flatten.length:=by rw [fl,List.length_append] at le1;exact le1
     refine ⟨_,rfl,p[i1],_,_,rfl,Zj,sb _ ?_,_,(by omega:p.length-(i1+1)<_),rfl,by omega,⟨_,rfl⟩,?_⟩
     · have:=hsz ((ps.take i).flatten++p.take i1)
       simp only [f];rw [List.length_append,List.length_take] at this;omega
     · have e5:p.take (i1+1)=p.take i1++[p[i1]]:=List.take_succ_eq_append_getElem hl1;rw [Ztq,e5,← List.append_assoc];simp only [f,List.foldl_append,List.foldl_cons,List.foldl_nil];rfl
   · refine .inl ⟨⟨_,SqT.of (eb _),by simp;omega⟩,_,(by omega:vs.length-(i+1)<_),rfl,by omega,⟨_,_,rfl⟩,?_⟩;rw [fl,show p.take i1=p from List.take_of_length_le (by omega)]
 · have e:i=vs.length:=by omega
   subst e;refine .inl ⟨⟨vs,SqT.of e0,Nat.le_refl _⟩,?_⟩;rw [List.take_of_length_le (by rw [al.1];exact Nat.le_refl _)];exact hd _
theorem Zo4 {X:Cx}:X1 X (.builtin "len") (fun xs H Q=>∃ D S n,xs=[.ref D]∧H D=some (.set S n)∧Q (.int n) H):=by
 intro pins s σ H xs us Q I r h;obtain ⟨D,S,n,rfl,hS,q⟩:=h;cases r with
 | cons rx r =>
   cases r
   cases (show _=Value.ref D from rx)
   obtain ⟨o,es,ep,t,e,ex,d,_,_,sz,f,en⟩:=(show ObjOk X.prog X.w H s.heap D (.set S n) from I.hok D _ hS);have hl:=Zd3
   have:(4096:Nat)=scanBound:=rfl
   refine call_len_set e ex d f (by omega) ⟨.int n,H,I.tok _,⟨_,by rw [en]⟩,q⟩
theorem Zdf {X:Cx} {x:Str} {pos' spos:Pos} {tg elt iter:Expr} {ifs:List Expr} {scope:Scope} {cl:List (Str×Addr)} {N:List Str} {fr:List (Option Nat)} {pos:Pos} {wi:TI} {g g':TG} {tt:TT} {te:TE}
 (hw:swapsWith (.ListComp elt [⟨tg,iter,ifs,0⟩] scope pos) (some (.Name x pos')) spos.line X.env=pure true)
 (hc:X.calm=true) (hg':PG X (.Name x pos') g') (L:LcScope X scope cl N fr) (hi:PI X tg iter wi) (hg:∀ C s3 H3 fp,PG (blk X scope cl C N s3 H3 fp) tg g)
 (ht:∀ C s3 H3 fp,PIfs (blk X scope cl C N s3 H3 fp) ifs tt) (he:∀ C s3 H3 fp,PE (blk X scope cl C N s3 H3 fp) elt te)
 (hs:∀ x,foldedSetIterable iter X.env x=pure x:=by intro _;rfl):PS X (.Assign [.Name x pos'] (.ListComp elt [⟨tg,iter,ifs,0⟩] scope pos) spos) (tAsg (tLC wi g tt te fr) g'):=by
 intro pins s σ H D I h;rw [exec_Assign_Name_used _ _ _ _ hw];refine wpAny_bind (wpAny_standAt (wpAny_bind ?_));rw [arm_evalThenUse_ListComp];refine wpAny_bind (wpAny_comprehension_free (Q:=fun _ s'=>wpAny (model X.prog X.w) X.A (pure ()) (fun _ s''=>wpAny (model X.prog X.w) X.A (pure Flow.next) (SP X pins D) X.xe s'') X.xe s') (use:=some (assign (.Name x pos') X.env)) rfl hs L.clos L.kind L.names (thn (hi pins s σ H _ I h) fun v s1 h1=>thn h1 fun itv s2 h2=>?_));obtain ⟨it,fp,tn,J,H2,e,I2,T,st2,f2,h⟩:=h2;subst e
 have fplt:∀ b∈fp,b<s2.heap.objs.size:=fun b hb=>by
  obtain ⟨o,q,_⟩:=T.obj _ _ st2 b hb;exact Heap.lt_size q
 have hD:H2 s2.heap.objs.size=none:=I2.hok.fresh (Nat.le_refl _);obtain ⟨W,⟨m0,w0⟩,turn⟩:=h s2.heap.objs.size hD;refine wpAny_newObj_type ?_;generalize hs3:({ s2 with heap:=s2.heap.push { cls:=.type "list",dict:=none,data:=.seq ([]:List Value).toArray } }:Shared)=s3;have hh3:s3.heap=s2.heap.push { cls:=.type "list",dict:=none,data:=.seq ([]:List Value).toArray }:=by rw [← hs3]
 have k3:∀ b o,s2.heap.get? b=some o→s3.heap.get? b=some o:=fun b o e=>by rw [hh3];exact Heap.get?_push_of_some _ e
 have I3:Inv X pins σ (upd H2 s2.heap.objs.size (.lst [])) s3:=by
  rw [← hs3];refine I2.laid (t':=s2.toks) (fun b o e=>Heap.get?_push_of_some _ e) (Nat.le_refl _) ⟨Nat.zero_le _,[],_,.nil,Heap.get?_push_size _ rfl⟩
 have f3:∀ b∈fp,FpOk X pins (upd H2 s2.heap.objs.size (.lst [])) b:=fun b hb=>⟨by rw [Zr (Nat.ne_of_lt (fplt b hb))];exact (f2 b hb).1,(f2 b hb).2⟩
 have fplt3:∀ b∈fp,b<s3.heap.objs.size:=fun b hb=>by
  obtain ⟨o,q,_⟩:=T.obj _ _ st2 b hb;exact Heap.lt_size (k3 _ _ q)
 have st3:tn 0 s3.heap:=T.keep _ _ _ st2 fun b hb o e=>k3 b o e;refine wpAny_newFunctionEnv L.cell (by intro y hy;simp at hy) (fun h1 hns1 hsb1=>?_) L.kind;have k4:∀ b o,s3.heap.get? b=some o→h1.get? b=some o:=fun b o e=>hsb1.extBut b o (Nat.ne_of_lt (Heap.lt_size e)) (Heap.get?_push_of_some _ e);have I4:=Ze0 (t:=s3.toks+([]:List (Str×Value)).length) L I3 f3 fplt3 hns1 k4;have st4:tn 0 h1:=T.keep _ _ _ st3 fun b hb o e=>k4 b o e
 have fpB:∀ {H':Hp} (b:Addr),b∈fp→H' b=none→FpOk (blk X scope cl s3.heap.objs.size N s3 (upd H2 s2.heap.objs.size (.lst [])) fp) [] H' b:=fun b hb hn =>
  ⟨hn,Nat.ne_of_lt (fplt3 b hb),fun z=>(Zed L I3 f3 fplt3).exfs b hb z,.inl hb,fun x c e=>((Zed L I3 f3 fplt3).exf b hb).2 x c e,fun p hp=>absurd (show p∈([]:List (Addr×Obj)) from hp) (by simp)⟩
 have loop:∀ s5:Shared,s5={ s3 with heap:=h1,toks:=s3.toks+([]:List (Str×Value)).length } →
  codeAny (model X.prog X.w) X.A (.compLoop (.ListComp elt [⟨tg,iter,ifs,0⟩] scope pos) 0 (.ref it) (.ref s2.heap.objs.size) (compEnvC scope cl s3.heap.objs.size X.env))
   (compPost (model X.prog X.w) X.A X.xe (some (assign (.Name x pos') X.env)) (fun _ s'=>wpAny (model X.prog X.w) X.A (pure ()) (fun _ s''=>wpAny (model X.prog X.w) X.A (pure Flow.next) (SP X pins D) X.xe s'') X.xe s') (.ref s2.heap.objs.size) s3.heap.objs.size) s5:=by
  rintro s5 rfl
  refine Zc6 (fun n s'=>∃ i σ' H',Inv (blk X scope cl s3.heap.objs.size N s3 (upd H2 s2.heap.objs.size (.lst [])) fp) [] σ' H' s'∧tn i s'.heap∧(∀ b∈fp,H' b=none)∧W i n σ' H') ?_ m0
   ⟨0,_,_,I4,st4,fun b hb=>(f3 b hb).1,w0⟩
  rintro n s6 ⟨i,σ6,H6,I6,st6,fr6,w6⟩
  rcases turn i n σ6 H6 w6 with ⟨stop,qn⟩|⟨go,step⟩
  · refine thn (T.done (blk X scope cl s3.heap.objs.size N s3 (upd H2 s2.heap.objs.size (.lst [])) fp) rfl rfl rfl hc i [] s6 σ6 H6 (fun _ _=>False) I6 (fun b hb=>fpB b hb (fr6 b hb)) st6 stop) fun r s7 ⟨hr,I7⟩=>?_;subst hr;obtain ⟨m7,hn7,_⟩:=I7.loc;have un:=I7.base;have neC:∀ b o,s3.heap.get? b=some o→b≠s3.heap.objs.size:=fun b o e=>Nat.ne_of_lt (Heap.lt_size e)
    have I8:Inv X pins σ H6 s7:=by
     refine I3.call' (s':=s7) (ch:=fp) I7.os ?_ I7.hok I7.bare (fun b hb=>⟨(f3 b hb).2.2.2.1,(f3 b hb).2.1,(f3 b hb).2.2.2.2.1,(f3 b hb).2.2.2.2.2⟩);exact ⟨fun b o e n' hb hx=>un.keep b o e n' hb hx,fun b o e n' hb hx=>un.slot b o e n' hb hx,un.free,fun b o e hx=>un.there b o e hx,un.tups,un.frzs,un.tbls⟩
    have fpC:∀ b∈[s3.heap.objs.size],FpOk X pins H6 b:=fun b hb=>by
     rw [List.mem_singleton] at hb;subst hb;exact I3.fpOk (Nat.le_refl _) I7.free
    obtain ⟨oC,esC,epC,geC,dC,skC,nfC⟩:=hn7
    have I9:=I8.pinned fpC (fun b hb=>by
     rw [List.mem_singleton] at hb;subst hb;exact ⟨oC,geC,fun v z=>by rw [dC] at z;cases z⟩)
    refine thn (hg' _ s7 σ H6 (.ref s2.heap.objs.size) (.ref s2.heap.objs.size) _ I9 rfl qn) fun _ s9 ⟨σ9,H9,I10,q9⟩=>?_;have pC:=I10.pin (s3.heap.objs.size,oC) (List.mem_append_right _ (List.mem_append_right _ (Yg (List.mem_singleton.mpr rfl) geC)));refine ⟨m7,⟨oC,esC,epC,pC.1,dC,skC,nfC⟩,fun h' sb=>?_⟩;refine wpAny_pure (wpAny_pure ?_)
    have fpC9:∀ b∈[s3.heap.objs.size],FpOk X pins H9 b:=fun b hb=>by
     rw [List.mem_singleton] at hb;subst hb;exact I3.fpOk (Nat.le_refl _) pC.2.1
    exact ⟨σ9,H9,I10.unpinned.turnGen (t':=s9.toks) (ch:=[s3.heap.objs.size]) (fun b u nb e=>(sb.2 b (fun z=>nb (by rw [z];exact List.mem_singleton.mpr rfl))).trans e) fpC9 (fun _ _ e=>e) (fun _ _ _ e=>e) (fun b u e1 e2=>by rw [e1] at e2;cases e2),q9⟩
  · refine thn (T.item (blk X scope cl s3.heap.objs.size N s3 (upd H2 s2.heap.objs.size (.lst [])) fp) rfl rfl rfl hc i [] s6 σ6 H6 (fun _ _=>False) I6 (fun b hb=>fpB b hb (fr6 b hb)) st6 go) fun r s7 ⟨u,hr,h7⟩=>?_;subst hr;refine thn h7 fun _ s8 ⟨x,H8,I8,r8,y8,st8,fr8⟩=>?_;have I8':=I8.pinned (fun b hb=>fpB b hb (fr8 b hb)) (T.obj _ _ st8);refine thn (hg _ _ _ _ _ s8 σ6 H8 x u _ I8' r8 (step x H8 y8)) fun _ s9 ⟨σ9,H9,I9,q9⟩=>?_;refine thn (ht _ _ _ _ _ s9 σ9 H9 _ I9 q9) fun b s10 ⟨H10,I10,q10⟩=>?_
    have again:∀ {s11:Shared} {H11:Hp} {m':Nat},Inv (blk X scope cl s3.heap.objs.size N s3 (upd H2 s2.heap.objs.size (.lst [])) fp) ([]++Za2 fp s8.heap) σ9 H11 s11→m'<n→W (i+1) m' σ9 H11 →
     ∃ m,m<n∧∃ i σ' H',Inv (blk X scope cl s3.heap.objs.size N s3 (upd H2 s2.heap.objs.size (.lst [])) fp) [] σ' H' s11∧tn i s11.heap∧(∀ b∈fp,H' b=none)∧W i m σ' H':=fun {s11 H11 m'} I11 hm w11=>by
     refine ⟨m',hm,i+1,σ9,H11,I11.unpinned,T.keep _ _ _ st8 fun b hb o e=>(I11.pin (b,o) (List.mem_append_right _ (List.mem_append_right _ (Yg hb e)))).1,fun b hb=>?_,w11⟩;obtain ⟨o,e,d⟩:=T.obj _ _ st8 b hb;exact (I11.pin (b,o) (List.mem_append_right _ (List.mem_append_right _ (Yg hb e)))).2.1
    cases b with
    | false =>
      obtain ⟨m',hm,w11⟩:=q10;exact again I10 hm w11
    | true =>
      refine thn (he _ _ _ _ _ s10 σ9 H10 _ I10 q10) fun y s11 ⟨yv,H11,I11,r11,ys,hys,hz,m',hm,w11⟩=>?_
      have ap:=X4 (X:=blk X scope cl s3.heap.objs.size N s3 (upd H2 s2.heap.objs.size (.lst [])) fp) _ s11 σ9 H11 (.ref s2.heap.objs.size) [yv] (.ref s2.heap.objs.size) [y] (fun _ H'=>W (i+1) m' σ9 H') I11 rfl (.cons r11 .nil)
       ⟨_,ys,yv,rfl,rfl,hys,hz,w11⟩
      exact thn ap fun _ s12 ⟨_,H12,I12,_,q12⟩=>again I12 hm q12
 exact codeAny_compStart_list (loop _ rfl) (T.self _ 0 _ _ _ st4 (loop _ rfl))
def tD (a b c x y q:Pnt):Int:=tn a b c*tn x y q
def inS (a b c q:Pnt):Prop:=0≤tD a b c a b q∧0≤tD a b c b c q∧0≤tD a b c c a q
def bey (a b c x y u v w:Pnt):Prop:=tD a b c x y u≤0∧tD a b c x y v≤0∧tD a b c x y w≤0
def sepS (a b c u v w:Pnt):Prop:=bey a b c a b u v w∨bey a b c b c u v w∨bey a b c c a u v w
instance {a b c q:Pnt}:Decidable (inS a b c q):=by unfold inS;infer_instance
instance {a b c x y u v w:Pnt}:Decidable (bey a b c x y u v w):=by unfold bey;infer_instance
instance {a b c u v w:Pnt}:Decidable (sepS a b c u v w):=by unfold sepS;infer_instance
theorem Zbq (a b q:Pnt):tn b a q =-tn a b q:=by unfold tn;grind
theorem Zrp (a b c:Pnt):tn b c a=tn a b c:=by unfold tn;grind
theorem Zsi (a b c x y q:Pnt):tD b a c x y q=tD a b c y x q:=by
 unfold tD;rw [Zbq a b c,Zbq x y q];grind
theorem Zq4 (a b c x y q:Pnt):tD b c a x y q=tD a b c x y q:=by unfold tD;rw [Zrp]
theorem Zms (a b c x y q:Pnt):tD b a c y x q=tD a b c x y q:=Zsi a b c y x q
theorem Ztb {a b c q:Pnt} (h:inS a b c q):inS b c a q:=by
 unfold inS at *;simp only [Zq4];exact ⟨h.2.1,h.2.2,h.1⟩
theorem Zuu {a b c q:Pnt} (h:inS a b c q):inS b a c q:=by
 unfold inS at *;simp only [Zms];exact ⟨h.1,h.2.2,h.2.1⟩
theorem Zry {a b c x y u v w:Pnt}:bey b c a x y u v w=bey a b c x y u v w:=by unfold bey;simp only [Zq4]
theorem Zts {a b c x y u v w:Pnt}:bey b a c y x u v w=bey a b c x y u v w:=by unfold bey;simp only [Zms]
theorem Zr4 {a b c u v w:Pnt} (h:sepS a b c u v w):sepS b c a u v w:=by
 unfold sepS at *;simp only [Zry];rcases h with h|h|h
 · exact .inr (.inr h)
 · exact .inl h
 · exact .inr (.inl h)
theorem Zua {a b c u v w:Pnt} (h:sepS a b c u v w):sepS b a c u v w:=by
 unfold sepS at *;simp only [Zts];rcases h with h|h|h
 · exact .inl h
 · exact .inr (.inr h)
 · exact .inr (.inl h)
theorem Zqi {a b c u v w:Pnt} (h:sepS a b c u v w):sepS a b c v w u:=by
 unfold sepS bey at *;rcases h with ⟨h1,h2,h3⟩|⟨h1,h2,h3⟩|⟨h1,h2,h3⟩
 · exact .inl ⟨h2,h3,h1⟩
 · exact .inr (.inl ⟨h2,h3,h1⟩)
 · exact .inr (.inr ⟨h2,h3,h1⟩)
theorem Zs5 {a b c u v w:Pnt} (h:sepS a b c u v w):sepS a b c v u w:=by
 unfold sepS bey at *;rcases h with ⟨h1,h2,h3⟩|⟨h1,h2,h3⟩|⟨h1,h2,h3⟩
 · exact .inl ⟨h2,h1,h3⟩
 · exact .inr (.inl ⟨h2,h1,h3⟩)
 · exact .inr (.inr ⟨h2,h1,h3⟩)
theorem Zqb {α:Type} [DecidableEq α] {x y z a b c:α} (h:[x,y,z].Perm [a,b,c]) (P:α→α→α→Prop) (rot:∀ a b c,P a b c→P b c a) (sw:∀ a b c,P a b c→P b a c) (p:P a b c):P x y z:=by
 have hx:x∈[a,b,c]:=h.mem_iff.mp (by simp);simp only [List.mem_cons,List.not_mem_nil,or_false] at hx
 have two:∀ {y z b c:α},[y,z].Perm [b,c]→(y=b∧z=c)∨(y=c∧z=b):=by
  intro y z b c h;have hy:y∈[b,c]:=h.mem_iff.mp (by simp);simp only [List.mem_cons,List.not_mem_nil,or_false] at hy
  rcases hy with rfl|rfl
  · have:=List.perm_cons y |>.mp h
    exact .inl ⟨rfl,by simpa using this⟩
  · have:=List.perm_cons y |>.mp (h.trans (List.Perm.swap y b []))
    exact .inr ⟨rfl,by simpa using this⟩
 rcases hx with rfl|rfl|rfl
 · rcases two ((List.perm_cons x).mp h) with ⟨rfl,rfl⟩|⟨rfl,rfl⟩
   · exact p
   · exact sw _ _ _ (rot _ _ _ (rot _ _ _ p))
 · rcases two ((List.perm_cons x).mp (h.trans (List.Perm.swap x a [c]))) with ⟨rfl,rfl⟩|⟨rfl,rfl⟩
   · exact sw _ _ _ p
   · exact rot _ _ _ p
 · have h2:[x,y,z].Perm [x,a,b]:=h.trans (((List.Perm.swap x b []).cons a).trans (List.Perm.swap x a [b]))
   rcases two ((List.perm_cons x).mp h2) with ⟨rfl,rfl⟩|⟨rfl,rfl⟩
   · exact rot _ _ _ (rot _ _ _ p)
   · exact sw _ _ _ (rot _ _ _ p)
theorem Zmh {a b c q:Pnt} (hd:tn a b c≠0):Zb7 q (tri a b c)=true↔inS a b c q:=by
 unfold Zb7 tri inS tD
 by_cases h:tn a b c<0
 · rw [if_pos h];have e1:tn a c q =-tn c a q:=Zbq c a q;have e2:tn c b q =-tn b c q:=Zbq b c q;have e3:tn b a q =-tn a b q:=Zbq a b q;simp only [Tri.edges,List.map_cons,List.map_nil,List.all_cons,List.all_nil,id,Bool.and_true,Bool.and_eq_true,decide_eq_true_eq,e1,e2,e3]
   have k:∀ t:Int,(0≤tn a b c*t↔0≤-t):=fun t=>by
    constructor
    · intro g
      by_cases ht:0<t
      · have:=Int.mul_neg_of_neg_of_pos h ht
        omega
      · omega
    · intro g;exact Int.mul_nonneg_of_nonpos_of_nonpos (by omega) (by omega)
   rw [k,k,k];constructor
   · rintro ⟨h1,h2,h3⟩;exact ⟨h3,h2,h1⟩
   · rintro ⟨h1,h2,h3⟩;exact ⟨h3,h2,h1⟩
 · rw [if_neg h];have hp:0<tn a b c:=by omega
   simp only [Tri.edges,List.map_cons,List.map_nil,List.all_cons,List.all_nil,id,Bool.and_true,Bool.and_eq_true,decide_eq_true_eq]
   have k:∀ t:Int,(0≤tn a b c*t↔0≤t):=fun t=>by
    constructor
    · intro g
      by_cases ht:t<0
      · have:=Int.mul_neg_of_pos_of_neg hp ht
        omega
      · omega
    · intro g;exact Int.mul_nonneg (by omega) g
   rw [k,k,k]
theorem Zfz {e:Pnt×Pnt} {u v w:Pnt} {t:Tri} (ht:t=tri u v w):Ze3 e t=true↔tn e.1 e.2 u≤0∧tn e.1 e.2 v≤0∧tn e.1 e.2 w≤0:=by
 subst ht;unfold Ze3 tri;split
 · simp only [Tri.pts,List.map_cons,List.map_nil,List.all_cons,List.all_nil,id,Bool.and_true,Bool.and_eq_true,decide_eq_true_eq];constructor
   · rintro ⟨h1,h2,h3⟩;exact ⟨h1,h3,h2⟩
   · rintro ⟨h1,h2,h3⟩;exact ⟨h1,h3,h2⟩
 · simp only [Tri.pts,List.map_cons,List.map_nil,List.all_cons,List.all_nil,id,Bool.and_true,Bool.and_eq_true,decide_eq_true_eq]
theorem Zdd {a b c u v w:Pnt} (hd:tn a b c≠0) (h:sepS a b c u v w):Xa (tri a b c) (tri u v w)=true:=by
 unfold Xa
 have k:∀ x y:Pnt,bey a b c x y u v w→(tn a b c<0→Ze3 (y,x) (tri u v w)=true)∧(¬ tn a b c<0→Ze3 (x,y) (tri u v w)=true):=by
  intro x y g;unfold bey tD at g;refine ⟨fun hn=>(Zfz rfl).mpr ?_,fun hn=>(Zfz rfl).mpr ?_⟩
  · have kk:∀ q:Pnt,tn a b c*tn x y q≤0→tn y x q≤0:=fun q hq=>by
     rw [Zbq x y q]
     by_cases ht:tn x y q<0
     · have:=Int.mul_pos_of_neg_of_neg hn ht
       omega
     · omega
    exact ⟨kk _ g.1,kk _ g.2.1,kk _ g.2.2⟩
  · have hp:0<tn a b c:=by omega
    have kk:∀ q:Pnt,tn a b c*tn x y q≤0→tn x y q≤0:=fun q hq=>by
     by_cases ht:0<tn x y q
     · have:=Int.mul_pos hp ht
       omega
     · omega
    exact ⟨kk _ g.1,kk _ g.2.1,kk _ g.2.2⟩
 rw [List.any_eq_true];generalize tri u v w=T at k ⊢;unfold tri
 by_cases hn:tn a b c<0
 · rw [if_pos hn]
   rcases h with h|h|h
   · exact ⟨(b,a),by simp [Tri.edges],(k _ _ h).1 hn⟩
   · exact ⟨(c,b),by simp [Tri.edges],(k _ _ h).1 hn⟩
   · exact ⟨(a,c),by simp [Tri.edges],(k _ _ h).1 hn⟩
 · rw [if_neg hn]
   rcases h with h|h|h
   · exact ⟨(a,b),by simp [Tri.edges],(k _ _ h).2 hn⟩
   · exact ⟨(b,c),by simp [Tri.edges],(k _ _ h).2 hn⟩
   · exact ⟨(c,a),by simp [Tri.edges],(k _ _ h).2 hn⟩
structure Aff where
 a:Int
 b:Int
 c:Int
 d:Int
 s:Int
 t:Int
def Aff.at (A:Aff) (p:Pnt):Pnt:=(A.a*p.1+A.b*p.2+A.s,A.c*p.1+A.d*p.2+A.t)
def Aff.det (A:Aff):Int:=A.a*A.d-A.b*A.c
theorem Aff.tn (A:Aff) (p q r:Pnt):L2.tn (A.at p) (A.at q) (A.at r)=A.det*L2.tn p q r:=by
 unfold L2.tn Aff.at Aff.det;dsimp only
 grind
theorem Aff.tD (A:Aff) (a b c x y q:Pnt):L2.tD (A.at a) (A.at b) (A.at c) (A.at x) (A.at y) (A.at q)=A.det*A.det*L2.tD a b c x y q:=by
 unfold L2.tD;rw [A.tn,A.tn]
 grind
theorem Aff.sq {A:Aff} (h:A.det≠0):0<A.det*A.det:=by
 by_cases g:0<A.det
 · exact Int.mul_pos g g
 · exact Int.mul_pos_of_neg_of_neg (by omega) (by omega)
theorem Aff.nn {A:Aff} (h:A.det≠0) (t:Int):0≤A.det*A.det*t↔0≤t:=by
 have hp:=A.sq h;constructor
 · intro g
   by_cases ht:t<0
   · have:=Int.mul_neg_of_pos_of_neg hp ht
     omega
   · omega
 · intro g;exact Int.mul_nonneg (by omega) g
theorem Aff.np {A:Aff} (h:A.det≠0) (t:Int):A.det*A.det*t≤0↔t≤0:=by
 have hp:=A.sq h;constructor
 · intro g
   by_cases ht:0<t
   · have:=Int.mul_pos hp ht
     omega
   · omega
 · intro g
   have:=Int.mul_nonneg (a:=A.det*A.det) (b:=-t) (by omega) (by omega)
   rw [Int.mul_neg] at this;omega
theorem Aff.inS {A:Aff} (h:A.det≠0) {a b c q:Pnt}:L2.inS (A.at a) (A.at b) (A.at c) (A.at q)↔L2.inS a b c q:=by
 unfold L2.inS;rw [A.tD,A.tD,A.tD,A.nn h,A.nn h,A.nn h]
theorem Aff.bey {A:Aff} (h:A.det≠0) {a b c x y u v w:Pnt}:L2.bey (A.at a) (A.at b) (A.at c) (A.at x) (A.at y) (A.at u) (A.at v) (A.at w)↔L2.bey a b c x y u v w:=by
 unfold L2.bey;rw [A.tD,A.tD,A.tD,A.np h,A.np h,A.np h]
theorem Aff.sep {A:Aff} (h:A.det≠0) {a b c u v w:Pnt}:L2.sepS (A.at a) (A.at b) (A.at c) (A.at u) (A.at v) (A.at w)↔L2.sepS a b c u v w:=by
 unfold L2.sepS;rw [A.bey h,A.bey h,A.bey h]
theorem Aff.inj {A:Aff} (h:A.det≠0) {p q:Pnt} (e:A.at p=A.at q):p=q:=by
 unfold Aff.at at e;have e1:=congrArg Prod.fst e;have e2:=congrArg Prod.snd e;dsimp only at e1 e2;unfold Aff.det at h;have f1:(A.a*A.d-A.b*A.c)*(p.1-q.1)=0:=by grind
 have f2:(A.a*A.d-A.b*A.c)*(p.2-q.2)=0:=by grind
 have g1:=(Int.mul_eq_zero.mp f1).resolve_left h;have g2:=(Int.mul_eq_zero.mp f2).resolve_left h;exact Prod.ext (by omega) (by omega)
def Zlb (pts:List Pnt):List Int→Bool
 | [i,j,k]=>decide (0≤i∧i<(pts.length:Int))&&decide (0≤j∧j<(pts.length:Int))&&decide (0≤k∧k<(pts.length:Int))&&decide (i≠j∧i≠k∧j≠k)&&decide (tn (cAt pts i) (cAt pts j) (cAt pts k)≠0) &&
    (List.range pts.length).all fun x=>decide ((x:Int)=i∨(x:Int)=j∨(x:Int)=k)||!decide (inS (cAt pts i) (cAt pts j) (cAt pts k) (cAt pts x))
 | _=>false
def sepB (pts:List Pnt):List Int→List Int→Bool
 | [i,j,k],[u,v,w]=>decide (sepS (cAt pts i) (cAt pts j) (cAt pts k) (cAt pts u) (cAt pts v) (cAt pts w))||decide (sepS (cAt pts u) (cAt pts v) (cAt pts w) (cAt pts i) (cAt pts j) (cAt pts k))
 | _,_=>false
def Zte (pts:List Pnt) (pcs:List (List Int)):Bool :=
 decide (3≤pts.length∧pts.length≤6)&&decide (1≤pcs.length∧pcs.length≤4)&&pts.all (fun p=>decide (p.1.natAbs≤6∧p.2.natAbs≤6))&&decide pts.Nodup&&pcs.all (Zlb pts) &&
  ((List.range pts.length).all fun k=>pcs.any fun p=>decide ((k:Int)∈p)) &&
  (List.range pcs.length).all fun i=>(List.range pcs.length).all fun j=>decide (i=j)||(sepB pts (pcs.getD i []) (pcs.getD j [])&&(pcs.getD i []).any fun x=>decide (x∉pcs.getD j []))
structure Base (pts:List Pnt) (pcs:List (List Int)):Prop where
 n3:3≤pts.length
 n6:pts.length≤6
 p1:1≤pcs.length
 p4:pcs.length≤4
 bd:∀ p∈pts,p.1.natAbs≤6∧p.2.natAbs≤6
 nd:pts.Nodup
 pc:∀ p∈pcs,Zlb pts p=true
 us:∀ k:Nat,k<pts.length→∃ p∈pcs,(k:Int)∈p
 sep:∀ i j:Nat,i<pcs.length→j<pcs.length→i≠j→sepB pts (pcs.getD i []) (pcs.getD j [])=true∧∃ x∈pcs.getD i [],x∉pcs.getD j []
theorem Zgr {pts:List Pnt} {pcs:List (List Int)} (h:Zte pts pcs=true):Base pts pcs:=by
 unfold Zte at h;simp only [Bool.and_eq_true,decide_eq_true_eq,List.all_eq_true,List.any_eq_true,List.mem_range,Bool.or_eq_true] at h;obtain ⟨⟨⟨⟨⟨⟨⟨h1,h2⟩,h3,h4⟩,h5⟩,h6⟩,h7⟩,h8⟩,h9⟩:=h;exact ⟨h1,h2,h3,h4,h5,h6,h7,h8,fun i j hi hj ne=>(h9 i hi j hj).resolve_left ne⟩
structure CoOrd (n:Nat) (o:List Int):Prop where
 len:o.length=n
 bd:∀ j:Nat,j<n→0≤o.getD j 0∧o.getD j 0<n
 inj:∀ i j:Nat,i<n→j<n→o.getD i 0=o.getD j 0→i=j
 sur:∀ k:Nat,k<n→∃ j:Nat,j<n∧o.getD j 0=k
theorem Zt6 {n:Nat} {o:List Int} (h:o.Perm ((List.range n).map fun i:Nat=>(i:Int))):CoOrd n o:=by
 have hl:o.length=n:=by rw [h.length_eq];simp
 have nd:o.Nodup:=h.symm.nodup (List.Pairwise.map _ (fun a b ne e=>ne (Int.ofNat.inj e)) List.nodup_range);have g:∀ j:Nat,(hj:j<n)→o.getD j 0=o[j]'(by omega):=fun j hj=>by rw [List.getD_eq_getElem?_getD,List.getElem?_eq_getElem (by omega)];rfl
 refine ⟨hl,fun j hj=>?_,fun i j hi hj e=>?_,fun k hk=>?_⟩
 · rw [g j hj]
   have:o[j]'(by omega)∈(List.range n).map fun i:Nat=>(i:Int):=h.mem_iff.mp (List.getElem_mem _)
   obtain ⟨k,hk,e⟩:=List.mem_map.mp this
   have:=List.mem_range.mp hk
   omega
 · rw [g i hi,g j hj] at e;exact (List.getElem_inj nd).mp e
 · have:(k:Int)∈o:=h.mem_iff.mpr (List.mem_map.mpr ⟨k,List.mem_range.mpr hk,rfl⟩)
   obtain ⟨j,hj,e⟩:=List.getElem_of_mem this;exact ⟨j,by omega,by rw [g j (by omega)];exact e⟩
def oAt (o:List Int) (i:Int):Int:=o.getD i.toNat 0
theorem Zrc {pts:List Pnt} {p:List Int} (h:Zlb pts p=true):∃ i j k,p=[i,j,k]∧(0≤i∧i<(pts.length:Int))∧(0≤j∧j<(pts.length:Int))∧(0≤k∧k<(pts.length:Int))∧(i≠j∧i≠k∧j≠k)∧tn (cAt pts i) (cAt pts j) (cAt pts k)≠0 ∧
 ∀ x:Nat,x<pts.length→(x:Int)∉p→¬ inS (cAt pts i) (cAt pts j) (cAt pts k) (cAt pts x):=by
 unfold Zlb at h;split at h
 · rename_i i j k
   simp only [Bool.and_eq_true,decide_eq_true_eq,List.all_eq_true,List.mem_range,Bool.or_eq_true,Bool.not_eq_true',decide_eq_false_iff_not] at h;obtain ⟨⟨⟨⟨⟨h1,h2⟩,h3⟩,h4⟩,h5⟩,h6⟩:=h;refine ⟨i,j,k,rfl,h1,h2,h3,h4,h5,fun x hx nm=>(h6 x hx).resolve_left fun z=>nm ?_⟩
   simpa using z
 · cases h
theorem Zm9 {n:Nat} (l:List Int) (hb:∀ x∈l,0≤x∧x<n) (hs:∀ k:Nat,k<n→(k:Int)∈l):cntS l=n:=by
 have key:∀ (l:List Int),(∀ x∈l,0≤x∧x<n)→∀ q:(Int→Bool)×Nat,q.2=(List.range n).countP (fun k:Nat=>q.1 k)→(l.foldl Zbd q).2=(List.range n).countP (fun k:Nat=>(l.foldl Zbd q).1 k)∧∀ x,(l.foldl Zbd q).1 x=(q.1 x||decide (x∈l)):=by
  intro l
  induction l with
  | nil=>intro _ q h;exact ⟨h,fun x=>by simp⟩
  | cons y l ih =>
    intro hb q h;rw [List.foldl_cons];have hy:=hb y List.mem_cons_self
    have step:(Zbd q y).2=(List.range n).countP (fun k:Nat=>(Zbd q y).1 k):=by
     unfold Zbd;dsimp only
     by_cases g:q.1 y=true
     · rw [if_pos g,h];refine congrArg (fun f=>List.countP f (List.range n)) (funext fun k=>?_)
       by_cases e:(k:Int)=y
       · rw [e,g];rfl
       · simp [e]
     · rw [if_neg g,h];have g':q.1 y=false:=by simpa using g
       obtain ⟨m,rfl⟩:∃ m:Nat,y=m:=⟨y.toNat,by omega⟩;have hm:m<n:=by omega
       have:∀ r:Nat,(List.range r).countP (fun k:Nat=>q.1 k||decide ((k:Int)=(m:Int)))=(List.range r).countP (fun k:Nat=>q.1 k)+(if m<r then 1 else 0):=by
        intro r
        induction r with
        | zero=>rfl
        | succ r ihr =>
          rw [List.range_succ,List.countP_append,List.countP_append,ihr];simp only [List.countP_singleton]
          by_cases e:r=m
          · subst e;rw [g']
            simp
          · have e2:¬ (r:Int)=(m:Int):=by omega
            simp only [e2,decide_false,Bool.or_false];have e3:(m<r+1)↔(m<r):=by omega
            simp only [e3];omega
       rw [this n,if_pos hm]
    obtain ⟨i1,i2⟩:=ih (fun x hx=>hb x (List.mem_cons_of_mem _ hx)) (Zbd q y) step;refine ⟨i1,fun x=>?_⟩;rw [i2];unfold Zbd;dsimp only
    by_cases e:x=y
    · subst e;simp
    · simp [e]
 obtain ⟨k1,k2⟩:=key l hb (fun _=>false,0) (by simp);unfold cntS;rw [k1]
 have:(List.range n).countP (fun k:Nat=>(l.foldl Zbd (fun _=>false,0)).1 k)=(List.range n).length:=by
  rw [List.countP_eq_length];intro k hk;rw [k2];simp [hs k (List.mem_range.mp hk)]
 rw [this,List.length_range]
structure Small (A:Aff):Prop where
 a:A.a.natAbs≤3
 b:A.b.natAbs≤3
 c:A.c.natAbs≤3
 d:A.d.natAbs≤3
 s:A.s.natAbs≤20
 t:A.t.natAbs≤20
theorem Zrw {A:Aff} (S:Small A) {p:Pnt} (h:p.1.natAbs≤6∧p.2.natAbs≤6):near (A.at p):=by
 have h1:(A.a*p.1).natAbs≤3*6:=by rw [Int.natAbs_mul];exact Nat.mul_le_mul S.a h.1
 have h2:(A.b*p.2).natAbs≤3*6:=by rw [Int.natAbs_mul];exact Nat.mul_le_mul S.b h.2
 have h3:(A.c*p.1).natAbs≤3*6:=by rw [Int.natAbs_mul];exact Nat.mul_le_mul S.c h.1
 have h4:(A.d*p.2).natAbs≤3*6:=by rw [Int.natAbs_mul];exact Nat.mul_le_mul S.d h.2
 have h5:=S.s;have h6:=S.t;unfold near Aff.at;dsimp only;omega
structure Drawn (pts:List Pnt) (pcs:List (List Int)) (A:Aff) (o:List Int) (cs:List Pnt) (kl:List (List Int)) (q:List Nat):Prop where
 base:Base pts pcs
 det:A.det≠0
 small:Small A
 ord:CoOrd pts.length o
 len:cs.length=pts.length
 at_:∀ j:Nat,j<pts.length→cs[(o.getD j 0).toNat]? = some (A.at (pts.getD j (0,0)))
 klen:kl.length=pcs.length
 key:∀ i:Nat,i<pcs.length→(kl.getD i []).Perm ((pcs.getD i []).map (oAt o))∧(kl.getD i []).Pairwise (·≤·)
 perm:q.Perm (List.range pcs.length)
section
variable {pts:List Pnt} {pcs:List (List Int)} {A:Aff} {o:List Int} {cs:List Pnt} {kl:List (List Int)} {q:List Nat}
theorem Drawn.corner (D:Drawn pts pcs A o cs kl q) {i:Int} (h:0≤i∧i<pts.length):cAt cs (oAt o i)=A.at (cAt pts i):=by
 obtain ⟨n,rfl⟩:∃ n:Nat,i=n:=⟨i.toNat,by omega⟩
 have:=D.at_ n (by omega)
 unfold cAt oAt;rw [show ((n:Int)).toNat=n from rfl,List.getD_eq_getElem?_getD (i:=(o.getD n 0).toNat),this];rfl
theorem Drawn.piece (D:Drawn pts pcs A o cs kl q) {n:Nat} (hn:n<pcs.length):∃ i j k x y z,pcs.getD n []=[i,j,k]∧kl.getD n []=[x,y,z]∧[x,y,z].Perm [oAt o i,oAt o j,oAt o k]∧(x<y∧y<z)∧(0≤i∧i<(pts.length:Int))∧(0≤j∧j<(pts.length:Int))∧(0≤k∧k<(pts.length:Int))∧tn (cAt pts i) (cAt pts j) (cAt pts k)≠0 ∧
 ∀ x:Nat,x<pts.length→(x:Int)∉[i,j,k]→¬ inS (cAt pts i) (cAt pts j) (cAt pts k) (cAt pts x):=by
 have hm:pcs.getD n []∈pcs:=by rw [List.getD_eq_getElem?_getD,List.getElem?_eq_getElem hn];exact List.getElem_mem hn
 obtain ⟨i,j,k,e,hi,hj,hk,⟨n1,n2,n3⟩,hd,hs⟩:=Zrc (D.base.pc _ hm);obtain ⟨pm,so⟩:=D.key n hn;rw [e] at pm hs;have l3:(kl.getD n []).length=3:=by rw [pm.length_eq];rfl
 generalize hr:kl.getD n []=r at *
 match r,l3 with
 | [x,y,z],_ =>
   have io:∀ {a b:Int},(0≤a∧a<(pts.length:Int))→(0≤b∧b<(pts.length:Int))→a≠b→oAt o a≠oAt o b:=fun {a b} ha hb ne z=>ne (by
    have:=D.ord.inj a.toNat b.toNat (by omega) (by omega) z
    omega)
   have nd:[x,y,z].Nodup:=pm.symm.nodup (by simp [io hi hj n1,io hi hk n2,io hj hk n3]);simp only [List.nodup_cons,List.mem_cons,List.not_mem_nil,or_false,not_or,List.pairwise_cons] at nd so;have s1:=so.1 y (by simp);have s2:=so.2.1 z (by simp);exact ⟨i,j,k,x,y,z,e,rfl,pm,⟨by omega,by omega⟩,hi,hj,hk,hd,hs⟩
theorem Drawn.knd (D:Drawn pts pcs A o cs kl q):kl.Nodup:=by
 rw [List.nodup_iff_pairwise_ne,List.pairwise_iff_getElem];intro i j hi hj lt e;rw [D.klen] at hi hj;obtain ⟨_,x,hx,nx⟩:=D.base.sep i j hi hj (by omega);have g:∀ n,(h:n<pcs.length)→kl.getD n []=kl[n]'(by rw [D.klen];exact h):=fun n h=>by rw [List.getD_eq_getElem?_getD,List.getElem?_eq_getElem (by rw [D.klen];exact h)];rfl
 have m1:oAt o x∈kl.getD i []:=(D.key i hi).1.mem_iff.mpr (List.mem_map.mpr ⟨x,hx,rfl⟩);rw [g i hi,e,← g j hj] at m1;obtain ⟨y,hy,ey⟩:=List.mem_map.mp ((D.key j hj).1.mem_iff.mp m1)
 have bdm:∀ n,n<pcs.length→∀ x∈pcs.getD n [],0≤x∧x<(pts.length:Int):=fun n hn x hx=>by
  obtain ⟨i,j,k,_,_,_,e,_,_,_,hi,hj,hk,_⟩:=D.piece hn;rw [e] at hx;simp only [List.mem_cons,List.not_mem_nil,or_false] at hx
  rcases hx with rfl|rfl|rfl<;>assumption
 have b1:=bdm i hi x hx;have b2:=bdm j hj y hy
 have:=D.ord.inj y.toNat x.toNat (by omega) (by omega) ey
 have:x=y:=by omega
 exact nx (this ▸ hy)
theorem Drawn.ok (D:Drawn pts pcs A o cs kl q) {ts:List Int} {l m:Int} (rise:(q.map fun i=>kl.getD i []).Pairwise fun a b=>HT.lexLt a b=true) (tl:ts.length=pcs.length) (t9:∀ t∈ts,1≤t∧t≤9) (l9:0≤l∧l≤9) (m9:1≤m∧m≤9) :
 PlOk ⟨cs,q.map fun i=>kl.getD i [],ts,l,m⟩:=by
 have n3:=D.base.n3;have n6:=D.base.n6;have p1:=D.base.p1;have p4:=D.base.p4;have hl:=D.len;have qlen:q.length=pcs.length:=by rw [D.perm.length_eq,List.length_range]
 have qlt:∀ i∈q,i<pcs.length:=fun i hi=>List.mem_range.mp (D.perm.mem_iff.mp hi);have qnd:q.Nodup:=D.perm.symm.nodup List.nodup_range
 have whence:∀ k:Nat,k<cs.length→∃ j:Nat,j<pts.length∧o.getD j 0=k∧cs[k]? = some (A.at (pts.getD j (0,0))):=fun k hk=>by
  obtain ⟨j,hj,e⟩:=D.ord.sur k (by omega)
  have:=D.at_ j hj
  rw [e] at this;exact ⟨j,hj,e,this⟩
 have ptm:∀ j:Nat,j<pts.length→pts.getD j (0,0)∈pts:=fun j hj=>by rw [List.getD_eq_getElem?_getD,List.getElem?_eq_getElem hj];exact List.getElem_mem hj
 have pieceOk:∀ n,n<pcs.length→PieceOk cs (kl.getD n []):=fun n hn=>by
  obtain ⟨i,j,k,x,y,z,e,e2,pm,lt,hi,hj,hk,hd,hs⟩:=D.piece hn;rw [e2]
  have bo:∀ a∈[oAt o i,oAt o j,oAt o k],0≤a∧a≤(cs.length:Int)-1:=fun a ha=>by
   simp only [List.mem_cons,List.not_mem_nil,or_false] at ha;have b1:=D.ord.bd i.toNat (by omega);have b2:=D.ord.bd j.toNat (by omega);have b3:=D.ord.bd k.toNat (by omega);unfold oAt at ha
   rcases ha with rfl|rfl|rfl<;>omega
  refine ⟨rfl,fun a ha=>bo a (pm.mem_iff.mp ha),lt,?_⟩;refine Zqb pm (fun x y z=>tn (cAt cs x) (cAt cs y) (cAt cs z)≠0) (fun a b c h=>by rw [Zrp];exact h) (fun a b c h=>by rw [Zbq];omega) ?_;rw [D.corner hi,D.corner hj,D.corner hk,A.tn];exact Int.mul_ne_zero D.det hd
 have strange:∀ n,n<pcs.length→∀ j:Nat,j<cs.length→(j:Int)∉kl.getD n []→Zb7 (cs.getD j (0,0)) (trOf cs (kl.getD n []))=false:=fun n hn jj hjj nm=>by
  have ok:=pieceOk n hn;obtain ⟨i,j,k,x,y,z,e,e2,pm,lt,hi,hj,hk,hd,hs⟩:=D.piece hn;rw [e2] at nm ok ⊢;have hne:=ok.d;refine Bool.eq_false_iff.mpr fun h=>?_;have h2:inS (cAt cs x) (cAt cs y) (cAt cs z) (cs.getD jj (0,0)):=(Zmh hne).mp h;have h3:inS (cAt cs (oAt o i)) (cAt cs (oAt o j)) (cAt cs (oAt o k)) (cs.getD jj (0,0)):=Zqb pm.symm (fun x y z=>inS (cAt cs x) (cAt cs y) (cAt cs z) (cs.getD jj (0,0))) (fun a b c h=>Ztb h) (fun a b c h=>Zuu h) h2;obtain ⟨j0,hj0,ej,ec⟩:=whence jj hjj;rw [D.corner hi,D.corner hj,D.corner hk,List.getD_eq_getElem?_getD,ec] at h3;have h4:=(A.inS D.det).mp h3;refine hs j0 hj0 (fun z=>nm (pm.mem_iff.mpr ?_)) (by unfold cAt at h4 ⊢;exact h4)
  have:oAt o (j0:Int)=jj:=ej
  rw [← this];have m2:oAt o (j0:Int)∈[i,j,k].map (oAt o):=List.mem_map.mpr ⟨_,z,rfl⟩;exact m2
 refine ⟨by show 3≤cs.length;omega,by show cs.length≤30;omega,fun p hp=>?_,?_,by simp;omega,by simp;omega,fun p hp=>?_,fun i hi=>?_,by simp [tl,qlen],t9,l9,m9,?_,fun p hp=>?_,fun i j hij hj=>?_⟩
 · obtain ⟨k,hk,e⟩:=List.getElem_of_mem (show p∈cs from hp);obtain ⟨j,hj,_,ec⟩:=whence k hk;rw [List.getElem?_eq_getElem hk,e] at ec;cases ec
   exact Zrw D.small (D.base.bd _ (ptm j hj))
 · show cs.Nodup
   rw [List.nodup_iff_pairwise_ne,List.pairwise_iff_getElem];intro k1 k2 h1 h2 lt e;obtain ⟨j1,hj1,e1,c1⟩:=whence k1 h1;obtain ⟨j2,hj2,e2,c2⟩:=whence k2 h2;rw [List.getElem?_eq_getElem h1,e] at c1;rw [List.getElem?_eq_getElem h2] at c2;rw [c1] at c2
   have:=A.inj D.det (Option.some.inj c2)
   have gd:∀ j,(h:j<pts.length)→pts.getD j (0,0)=pts[j]:=fun j h=>by rw [List.getD_eq_getElem?_getD,List.getElem?_eq_getElem h];rfl
   rw [gd j1 hj1,gd j2 hj2] at this;have e3:=(List.getElem_inj D.base.nd).mp this;subst e3;omega
 · obtain ⟨n,hn,rfl⟩:=List.mem_map.mp (show p∈q.map _ from hp);exact pieceOk n (qlt n hn)
 · have hi':i+1<(q.map fun i=>kl.getD i []).length:=hi
   have:=List.pairwise_iff_getElem.mp rise i (i+1) (by omega) hi' (by omega)
   show HT.lexLt ((q.map fun i=>kl.getD i []).getD i []) ((q.map fun i=>kl.getD i []).getD (i+1) [])=true
   rw [List.getD_eq_getElem?_getD,List.getD_eq_getElem?_getD,List.getElem?_eq_getElem (by omega),List.getElem?_eq_getElem hi'];exact this
 · show cntS (q.map fun i=>kl.getD i []).flatten=cs.length
   refine Zm9 _ (fun x hx=>?_) (fun k hk=>?_)
   · obtain ⟨r,hr,hxr⟩:=List.mem_flatten.mp hx;obtain ⟨n,hn,rfl⟩:=List.mem_map.mp hr
     have:=(pieceOk n (qlt n hn)).bd x hxr
     omega
   · obtain ⟨j,hj,e⟩:=D.ord.sur k (by omega);obtain ⟨p,hp,hjp⟩:=D.base.us j hj;obtain ⟨n,hn,rfl⟩:=List.getElem_of_mem hp;have g:pcs.getD n []=pcs[n]:=by rw [List.getD_eq_getElem?_getD,List.getElem?_eq_getElem hn];rfl
     refine List.mem_flatten.mpr ⟨kl.getD n [],List.mem_map.mpr ⟨n,D.perm.mem_iff.mpr (List.mem_range.mpr hn),rfl⟩,(D.key n hn).1.mem_iff.mpr ?_⟩;rw [g,← e];exact List.mem_map.mpr ⟨_,hjp,rfl⟩
 · obtain ⟨n,hn,rfl⟩:=List.mem_map.mp (show p∈q.map _ from hp);exact strange n (qlt n hn)
 · have hj':j<(q.map fun i=>kl.getD i []).length:=hj;have hjq:j<q.length:=by simpa using hj'
   have hiq:i<q.length:=by omega
   show apart (trOf cs ((q.map fun i=>kl.getD i []).getD j [])) (trOf cs ((q.map fun i=>kl.getD i []).getD i []))=true
   have gq:∀ i,(h:i<q.length)→(q.map fun i=>kl.getD i []).getD i []=kl.getD q[i] []:=fun i h=>by
    rw [List.getD_eq_getElem?_getD,List.getElem?_map,List.getElem?_eq_getElem h];rfl
   rw [gq j hjq,gq i hiq];have h1:=qlt q[j] (List.getElem_mem _);have h2:=qlt q[i] (List.getElem_mem _);have ne:q[j]≠q[i]:=fun z=>by have:=(List.getElem_inj qnd).mp z;omega
   generalize q[j]=n1 at *;generalize q[i]=n2 at *;have sb:=(D.base.sep n1 n2 h1 h2 ne).1;have ok1:=pieceOk n1 h1;have ok2:=pieceOk n2 h2;obtain ⟨i1,j1,k1,x1,y1,z1,e1,f1,pm1,lt1,hi1,hj1,hk1,hd1,hs1⟩:=D.piece h1;obtain ⟨i2,j2,k2,x2,y2,z2,e2,f2,pm2,lt2,hi2,hj2,hk2,hd2,hs2⟩:=D.piece h2;rw [f1] at ok1 ⊢;rw [f2] at ok2 ⊢;rw [e1,e2] at sb;unfold sepB at sb;simp only [Bool.or_eq_true,decide_eq_true_eq] at sb
   have tr:∀ {i1 j1 k1 x1 y1 z1 i2 j2 k2 x2 y2 z2:Int},[x1,y1,z1].Perm [oAt o i1,oAt o j1,oAt o k1]→[x2,y2,z2].Perm [oAt o i2,oAt o j2,oAt o k2]→(0≤i1∧i1<(pts.length:Int))→(0≤j1∧j1<(pts.length:Int))→(0≤k1∧k1<(pts.length:Int))→(0≤i2∧i2<(pts.length:Int))→(0≤j2∧j2<(pts.length:Int))→(0≤k2∧k2<(pts.length:Int)) →
    sepS (cAt pts i1) (cAt pts j1) (cAt pts k1) (cAt pts i2) (cAt pts j2) (cAt pts k2)→sepS (cAt cs x1) (cAt cs y1) (cAt cs z1) (cAt cs x2) (cAt cs y2) (cAt cs z2):=by
    intro i1 j1 k1 x1 y1 z1 i2 j2 k2 x2 y2 z2 pm1 pm2 a1 a2 a3 b1 b2 b3 h;refine Zqb pm1 (fun x y z=>sepS (cAt cs x) (cAt cs y) (cAt cs z) (cAt cs x2) (cAt cs y2) (cAt cs z2)) (fun a b c h=>Zr4 h) (fun a b c h=>Zua h) ?_;refine Zqb pm2 (fun x y z=>sepS (cAt cs (oAt o i1)) (cAt cs (oAt o j1)) (cAt cs (oAt o k1)) (cAt cs x) (cAt cs y) (cAt cs z)) (fun a b c h=>Zqi h) (fun a b c h=>Zs5 h) ?_;rw [D.corner a1,D.corner a2,D.corner a3,D.corner b1,D.corner b2,D.corner b3];exact (A.sep D.det).mpr h
   unfold apart;rw [Bool.or_eq_true]
   rcases sb with sb|sb
   · exact .inl (Zdd ok1.d (tr pm1 pm2 hi1 hj1 hk1 hi2 hj2 hk2 sb))
   · exact .inr (Zdd ok2.d (tr pm2 pm1 hi2 hj2 hk2 hi1 hj1 hk1 sb))
end
def Zd6:List (List Pnt×List (List Int)) :=
 [([(0,0),(2,0),(0,3)],[[0,1,2]]),
  ([(0,0),(3,0),(3,2),(0,2)],[[0,1,2],[0,2,3]]),
  ([(0,0),(2,1),(2,-1),(-2,1),(-3,-1)],[[0,1,2],[0,3,4]]),
  ([(0,0),(2,0),(0,2),(4,0),(6,1),(4,3)],[[0,1,2],[3,4,5]]),
  ([(0,0),(6,0),(0,6),(2,1)],[[0,1,3],[0,2,3],[1,2,3]]),
  ([(0,0),(0,2),(2,0),(3,2),(5,0)],[[0,1,2],[1,2,3],[2,3,4]]),
  ([(0,0),(1,2),(2,0),(3,2),(4,0),(5,3)],[[0,1,2],[2,3,4],[3,4,5]]),
  ([(0,0),(2,0),(0,3),(-2,0),(0,-1)],[[0,1,2],[0,2,3],[0,3,4],[0,1,4]])]
theorem Zor:Zd6.all (fun s=>Zte s.1 s.2)=true:=by decide +kernel
theorem Zmg {s:List Pnt×List (List Int)} (h:s∈Zd6):Base s.1 s.2:=Zgr (List.all_eq_true.mp Zor s h)
theorem PE.weak {X:Cx} {e:Expr} {t t':TE} (h:PE X e t) (w:∀ σ H Q,t' σ H Q→t σ H Q):PE X e t':=fun pins s σ H Q I q=>h pins s σ H Q I (w σ H Q q)
theorem PA.weak {X:Cx} {es:List Expr} {t t':TA} (h:PA X es t) (w:∀ σ H Q,t' σ H Q→t σ H Q):PA X es t':=fun pos pins s σ H Q I q=>h pos pins s σ H Q I (w σ H Q q)
def Zsy:Expr→Option Int
 | .Constant (.int i) _ _=>some i
 | .UnaryOp .USub (.Constant (.int i) _ _) _=>some (-i)
 | _=>none
theorem Zr1 {X:Cx} {e:Expr} {i:Int} (h:Zsy e=some i):PE X e (fun _ H Q=>Q (.int i) H)∧∀ es env,starEach (e :: es) env=(false,eval e env) :: starEach es env:=by
 unfold Zsy at h;split at h
 · cases h;exact ⟨Zf,fun _ _=>rfl⟩
 · cases h
   exact ⟨PE.weak (Zqf Zkt Zf) fun σ H Q q=>⟨_,rfl,q⟩,fun _ _=>rfl⟩
 · cases h
def Zk1:List Expr→Option (List Int)
 | []=>some []
 | e :: es=>match Zsy e,Zk1 es with
   | some i,some is=>some (i :: is)
   | _,_=>none
theorem Zk9 {X:Cx}:∀ (es:List Expr) (is:List Int),Zk1 es=some is→PA X es (fun _ H Q=>Q (is.map V.int) H)
 | [],is,h=>by
   cases h
   exact PA.weak Zb fun σ H Q q=>q
 | e :: es,is,h=>by
   unfold Zk1 at h;split at h
   · rename_i i js h1 h2
     cases h
     obtain ⟨p1,p2⟩:=Zr1 (X:=X) h1;exact PA.weak (Za p1 (Zk9 es js h2) (p2 _ _)) fun σ H Q q=>q
   · cases h
def Ztp:Expr→Option (List Int)
 | .Tuple es _ _=>Zk1 es
 | _=>none
theorem Zs4 {X:Cx} {e:Expr} {is:List Int} (h:Ztp e=some is) (hz:is.length≤1000):PE X e (fun _ H Q=>∀ H' v,Same H H'→IsI H' v is→Q v H')∧∀ es env,starEach (e :: es) env=(false,eval e env) :: starEach es env:=by
 unfold Ztp at h;split at h
 · exact ⟨PE.weak (Z5 (Zk9 _ _ h)) fun σ H Q q=>⟨by rw [List.length_map,sizeLine_eq];omega,fun p np=>q _ _ (Same.new np) ⟨p,rfl,Zj⟩⟩,fun _ _=>rfl⟩
 · cases h
def Zkz:List Expr→Option (List (List Int))
 | []=>some []
 | e :: es=>match Ztp e,Zkz es with
   | some i,some is=>if i.length≤1000 then some (i :: is) else none
   | _,_=>none
theorem Zk3 {X:Cx}:∀ (es:List Expr) (is:List (List Int)),Zkz es=some is→PA X es (fun _ H Q=>∀ H' vs,Same H H'→Al (IsI H') vs is→Q vs H')
 | [],is,h=>by
   cases h
   exact PA.weak Zb fun σ H Q q=>q _ _ (Same.refl _) .nil
 | e :: es,is,h=>by
   unfold Zkz at h;split at h
   · rename_i i js h1 h2
     split at h
     · rename_i hz
       cases h
       obtain ⟨p1,p2⟩:=Zs4 (X:=X) h1 hz;exact PA.weak (Za p1 (Zk3 es js h2) (p2 _ _)) fun σ H Q q H1 v s1 i1 H2 vs s2 i2=>q _ _ (s1.trans s2) (.cons (i1.tk s2.tk) i2)
     · cases h
   · cases h
def Zpd:Expr→Option (List (List Int))
 | .Tuple es _ _=>match Zkz es with
   | some is=>if is.length≤1000 then some is else none
   | none=>none
 | _=>none
theorem Znd {X:Cx} {e:Expr} {is:List (List Int)} (h:Zpd e=some is):PE X e (fun _ H Q=>∀ H' v,Same H H'→IsPs H' v is→Q v H')∧∀ es env,starEach (e :: es) env=(false,eval e env) :: starEach es env:=by
 unfold Zpd at h;split at h
 · split at h
   · rename_i js h1
     split at h
     · rename_i hz
       cases h
       refine ⟨PE.weak (Z5 (Zk3 _ _ h1)) fun σ H Q q H1 vs s1 a1=>⟨by rw [a1.1,sizeLine_eq];omega,fun p np=>?_⟩,fun _ _=>rfl⟩;have s2:Same H1 (upd H1 p (.tup vs)):=Same.new np;exact q _ _ (s1.trans s2) ⟨p,vs,rfl,Zj,a1.imp fun v x r=>r.tk s2.tk⟩
     · cases h
   · cases h
 · cases h
def IsSh (H:Hp) (v:V) (s:List Pnt×List (List Int)):Prop:=∃ a c p,v=.ref a∧H a=some (.tup [c,p])∧IsCs H c s.1∧IsPs H p s.2
theorem IsSh.tk {H H':Hp} {v:V} {s:List Pnt×List (List Int)} (t:Tk H H') (h:IsSh H v s):IsSh H' v s:=let ⟨a,c,p,e,h1,h2,h3⟩:=h;⟨a,c,p,e,t _ _ h1,h2.tk t,h3.tk t⟩
def shOf:Expr→Option (List (List Int)×List (List Int))
 | .Tuple [c,p] _ _=>match Zpd c,Zpd p with
   | some a,some b=>some (a,b)
   | _,_=>none
 | _=>none
theorem Zpw {H:Hp} {v:V} {cs:List Pnt} (h:IsPs H v (cs.map fun p=>[p.1,p.2])):IsCs H v cs:=by
 obtain ⟨a,vs,e,q,al⟩:=h;refine ⟨a,vs,e,q,by rw [al.1,List.length_map],fun i w p e1 e2=>?_⟩;exact al.2 i w _ e1 (by rw [List.getElem?_map,e2];rfl)
theorem X0 {X:Cx} {e:Expr} {s:List Pnt×List (List Int)} (h:shOf e=some (s.1.map (fun p=>[p.1,p.2]),s.2)):PE X e (fun _ H Q=>∀ H' v,Same H H'→IsSh H' v s→Q v H'):=by
 unfold shOf at h;split at h
 · split at h
   · rename_i h1 h2
     cases h
     obtain ⟨p1,s1⟩:=Znd (X:=X) h1;obtain ⟨p2,s2⟩:=Znd (X:=X) h2;refine PE.weak (Z5 (Za p1 (Za p2 Zb (s2 _ _)) (s1 _ _))) fun σ H Q q H1 v s1 i1 H2 w s2 i2=>⟨z2_,fun p np=>?_⟩;have s3:Same H2 (upd H2 p (.tup [v,w])):=Same.new np;exact q _ _ (s1.trans (s2.trans s3)) ⟨p,v,w,rfl,Zj,Zpw (i1.tk (s2.trans s3).tk),i2.tk s3.tk⟩
   · cases h
 · cases h
theorem Zvr {c:TT} {ta tb rest:TS} {D:Ends} {σ:St} {H:Hp} (R:St→Hp→Prop) (h:c σ H fun k H1=>if k=true then ta { D with nx:=R } σ H1 else tb { D with nx:=R } σ H1)
 (mc:∀ Q Q':Bool→Hp→Prop,(∀ b H1,Q b H1→Q' b H1)→c σ H Q→c σ H Q') (ma:(∀ σ H,R σ H→rest D σ H)→∀ H1,ta { D with nx:=R } σ H1→ta { D with nx:=rest D } σ H1) (mb:(∀ σ H,R σ H→rest D σ H)→∀ H1,tb { D with nx:=R } σ H1→tb { D with nx:=rest D } σ H1)
 (key:∀ σ H,R σ H→rest D σ H):tSeq (tIfS c ta tb) rest D σ H:=mc _ _ (fun b H1 q=>by
 cases b with
 | true=>exact ma key H1 q
 | false=>exact mb key H1 q) h
theorem lc_R {n:Nat} {D:Addr} {te:TE} {u0:Option V} {rest:St} {H:Hp} {Q:VK} {α:Type} (R:Hp→V→α→Prop) (hR:∀ H1 H2 v x,Tk H1 H2→R H1 v x→R H2 v x) (ys:List α) (hn:ys.length=n) (hz:n≤1000) (hD:H D=none)
 (hs:∀ (i:Nat) (H2:Hp) (C:V→Hp→Prop),i<n→Same H H2→(∀ y H5 z,Same H2 H5→ys[i]? = some z→R H5 y z→C y H5)→te (some (.int (0+i)) :: rest) H2 C)
 (hd:∀ H2 us,Same H H2→H2 D=some (.lst us)→Al (R H2) us ys→Q (.ref D) H2):LcGo (Itr 0 n) (Z8 0) tYes te (u0 :: rest) H D Q:=by
 refine Zkw R hR ys hn hz (fun σ=>∃ u,σ=u :: rest) ⟨_,rfl⟩ hD (fun i H2 s hi=>hi) (fun H2 s=>Nat.le_refl _) (fun i x σ2 H2 H3 C hi s y o c=>?_) hd;obtain ⟨u,rfl⟩:=o;obtain ⟨rfl,rfl⟩:=y;exact hs i H3 (C _) hi s fun y H5 z s5 ez rz=>c _ y H5 z ⟨_,rfl⟩ s5 ez rz
def Zrz (as:List Addr) (H H':Hp):Prop:=∀ b o,b∉as→H b=some o→H' b=some o
theorem Zl6 {n:Nat} {D:Addr} {u0:Option V} {rest:St} {H:Hp} {Q:VK} (hz:n≤1000) (hD:H D=none)
 (hd:∀ (H2:Hp) (as:List Addr),Same H H2→as.length=n→as.Nodup→(∀ a∈as,H2 a=some (.lst [])∧H a=none∧a≠D)→H2 D=some (.lst (as.map V.ref))→Q (.ref D) H2):LcGo (Itr 0 n) (Z8 0) tYes (tLst tNil) (u0 :: rest) H D Q:=by
 refine Zlc (n:=n) (fun i σ H2=>(∃ u,σ=u :: rest)∧∃ as:List Addr,Same H H2∧as.length=i∧as.Nodup∧(∀ a∈as,H2 a=some (.lst [])∧H a=none∧a≠D)∧H2 D=some (.lst (as.map V.ref))) ⟨⟨_,rfl⟩,[],Same.new hD,rfl,List.nodup_nil,fun a h=>absurd h (by simp),Zj⟩ (fun i σ H2 hi p=>hi) (fun σ H2 p=>Nat.le_refl _) (fun i x σ2 H2 H3 hi y p=>?_) (fun σ2 H2 p=>?_)
 · obtain ⟨⟨u,rfl⟩,as,s2,l2,nd,ha,eD⟩:=p;obtain ⟨rfl,rfl⟩:=y;refine ⟨Nat.zero_le _,fun e ne=>?_⟩;have eD':upd H3 e (.lst []) D=some (.lst (as.map V.ref)):=by rw [Zr (Zo eD ne)];exact eD
   have neD:e≠D:=fun z=>by rw [z,eD] at ne;cases ne
   refine ⟨as.map V.ref,eD',by rw [List.length_map,sizeLine_eq];omega,n-(i+1),by omega,by omega,rfl,⟨_,rfl⟩,as++[e],fun b o eb=>?_,by simp [l2],?_,fun a hm=>?_,?_⟩
   · rw [Zr (Zo eb hD),Zr (Zo (s2 _ _ eb) ne)];exact s2 _ _ eb
   · rw [List.nodup_append];refine ⟨nd,by simp,fun a h1 b h2=>?_⟩;rw [List.mem_singleton] at h2;subst h2;exact fun z=>by rw [z] at h1;rw [(ha _ h1).1] at ne;cases ne
   · rcases List.mem_append.mp hm with h|h
     · obtain ⟨h1,h2,h3⟩:=ha a h;refine ⟨?_,h2,h3⟩;rw [Zr h3,Zr (Zo h1 ne)];exact h1
     · rw [List.mem_singleton] at h;subst h;refine ⟨by rw [Zr neD,Zj],?_,neD⟩;cases eq:H a with
       | none=>rfl
       | some o=>rw [s2 _ _ eq] at ne;cases ne
   · rw [Zj,List.map_append];rfl
 · obtain ⟨_,as,s2,l2,nd,ha,eD⟩:=p;exact hd H2 as s2 l2 nd ha eD
theorem Zr8 {c:TT} {ta tb:TE} {g:TG} {rest:TS} {D:Ends} {σ:St} {H:Hp} (R:V→Hp→Prop) (h:c σ H fun k H1=>if k=true then ta σ H1 R else tb σ H1 R)
 (mc:∀ Q Q':Bool→Hp→Prop,(∀ b H1,Q b H1→Q' b H1)→c σ H Q→c σ H Q') (ma:(∀ v H,R v H→g v σ H (rest D))→∀ H1,ta σ H1 R→ta σ H1 fun v H2=>g v σ H2 (rest D)) (mb:(∀ v H,R v H→g v σ H (rest D))→∀ H1,tb σ H1 R→tb σ H1 fun v H2=>g v σ H2 (rest D))
 (key:∀ v H,R v H→g v σ H (rest D)):tSeq (tAsg (tIf c ta tb) g) rest D σ H:=mc _ _ (fun b H1 q=>by
 cases b with
 | true=>exact ma key H1 q
 | false=>exact mb key H1 q) h
open AutoSeq1 (wpAny_loadPart')
section
variable {X:Cx}
def EqT {α:Type} [DecidableEq α] (X:Cx) (d:Nat) (R:Hp→V→α→Prop):Prop:=∀ (A:Around) (pins:List (Addr×Obj)) (σ:St) (H:Hp) (s:Shared) (v u:V) (a b:Value) (x y:α),A.units+d<cLine→Inv X pins σ H s→R H v x→R H u y→RelV v a→RelV u b→SeqAt.EqAt A s a b (decide (x=y))
theorem Zr0:EqT X 0 (fun _ v (i:Int)=>v=.int i):=by
 intro A pins σ H s v u a b x y hu I h1 h2 r1 r2;subst h1 h2;obtain ⟨t,rfl⟩:=r1;obtain ⟨t',rfl⟩:=r2
 have:=SeqAt.EqAt.int_int (A:=A) (s:=s) x t y t'
 rw [show decide (x=y)=(x == y) by rw [Bool.eq_iff_iff];simp];exact this
theorem Zm3 {α:Type} [DecidableEq α] [Inhabited α] (xs ys:List α):((List.range (min xs.length ys.length)).all (fun j=>decide (xs.getD j default=ys.getD j default))&&xs.length == ys.length)=decide (xs=ys):=by
 by_cases h:xs=ys
 · subst h
   simp
 · rw [decide_eq_false h,Bool.and_eq_false_iff]
   by_cases hl:xs.length=ys.length
   · left
     rw [Bool.eq_false_iff];intro z;rw [List.all_eq_true] at z;apply h
     apply List.ext_getElem hl
     intro i h1 h2
     have:=z i (by simp;omega)
     simpa [h1,h2] using this
   · right
     simpa using hl
theorem Zlu {α:Type} [DecidableEq α] [Inhabited α] {d:Nat} {R:Hp→V→α→Prop} (E:EqT X d R) {A:Around} {pins:List (Addr×Obj)} {σ:St} {H:Hp} {s:Shared} (hu:A.units+d<cLine) (I:Inv X pins σ H s) {vs us:List V} {xs ys:List α} (h1:Al (R H) vs xs) (h2:Al (R H) us ys) {as bs:List Value} (r1:Vals vs as) (r2:Vals us bs) (j:Nat) (z1:j<as.toArray.size) (z2:j<bs.toArray.size):SeqAt.EqAt A s as.toArray[j] bs.toArray[j] (decide (xs.getD j default=ys.getD j default)):=by
 simp only [List.size_toArray] at z1 z2;simp only [List.getElem_toArray];have l1:=r1.length;have l2:=r2.length;have g1:vs[j]? = some vs[j]:=List.getElem?_eq_getElem (by omega);have g2:us[j]? = some us[j]:=List.getElem?_eq_getElem (by omega);obtain ⟨a,e1,ra⟩:=r1.get g1;obtain ⟨b,e2,rb⟩:=r2.get g2;obtain ⟨x,ex,rx⟩:=h1.get g1;obtain ⟨y,ey,ry⟩:=h2.get g2;rw [List.getElem?_eq_getElem z1] at e1;rw [List.getElem?_eq_getElem z2] at e2;cases e1
 cases e2
 rw [List.getD_eq_getElem?_getD,List.getD_eq_getElem?_getD,ex,ey];exact E A pins σ H s _ _ _ _ x y hu I rx ry ra rb
theorem Zr7 {α:Type} [DecidableEq α] [Inhabited α] {d:Nat} {R:Hp→V→α→Prop} (E:EqT X d R) (inj:∀ H v x y,R H v x→R H v y→x=y):EqT X (d+1) (IsTup' R):=by
 intro A pins σ H s v u a b xs ys hu I h1 h2 r1 r2;obtain ⟨p,vs,rfl,e1,a1⟩:=h1;obtain ⟨q,us,rfl,e2,a2⟩:=h2;cases r1
 cases r2
 by_cases hpq:p=q
 · subst hpq;rw [e1] at e2;cases e2
   have:xs=ys:=by
    apply List.ext_getElem (by rw [← a1.1,← a2.1])
    intro i z1 z2;obtain ⟨v,ev,rv⟩:=a1.got (List.getElem?_eq_getElem z1);exact inj H v _ _ rv (a2.2 i v _ ev (List.getElem?_eq_getElem z2))
   rw [decide_eq_true this];exact SeqAt.EqAt.same _
 · obtain ⟨as,q1,p1,_⟩:=I.tuple (SqT.of e1);obtain ⟨bs,q2,p2,_⟩:=I.tuple (SqT.of e2);have l1:=q1.length;have l2:=q2.length;have h:=SeqAt.RcAt.tuples (A:=A) (e:=fun j=>decide (xs.getD j default=ys.getD j default)) p1 p2 (by omega) fun j z1 z2=>Zlu E (A:=A.in1) (by rw [Around.in1_units];omega) I a1 a2 q1 q2 j z1 z2;rw [List.size_toArray,List.size_toArray,← l1,← l2,a1.1,a2.1,Zm3] at h;exact SeqAt.EqAt.of_refs hpq h
def rEqG {α:Type} [DecidableEq α] (R:Hp→V→α→Prop) (neg:Bool):R2:=fun x y H Q=>∃ xs ys:List α,IsTup' R H x xs∧IsTup' R H y ys∧Q (.bl (if neg then !decide (xs=ys) else decide (xs=ys))) H
theorem Zu5 {α:Type} [DecidableEq α] [Inhabited α] {d:Nat} {R:Hp→V→α→Prop} (E:EqT X d R) (hu:X.A.units+d+1<cLine):OpR X (compareOp .NotEq) (rEqG R true):=by
 intro pins s σ H x y v u Q I rx ry h;obtain ⟨xs,ys,⟨p,vs,rfl,e1,a1⟩,⟨q,us,rfl,e2,a2⟩,k⟩:=h;cases rx
 cases ry
 obtain ⟨as,q1,p1,_⟩:=I.tuple (SqT.of e1);obtain ⟨bs,q2,p2,_⟩:=I.tuple (SqT.of e2);have l1:=q1.length;have l2:=q2.length;refine SeqAt.RcNeAt.tuples (e:=fun j=>decide (xs.getD j default=ys.getD j default)) p1 p2 (by omega) (fun j z1 z2=>Zlu E (A:=X.A.in1) (by rw [Around.in1_units];omega) I a1 a2 q1 q2 j z1 z2) _ _ _ _ ⟨.bl _,H,I,rfl,?_⟩;rw [List.size_toArray,List.size_toArray,← l1,← l2,a1.1,a2.1,Zm3];exact k
end
end L2
set_option maxHeartbeats 4000000
theorem L2.gen_upd {H H1:L2.Hp} {p:PySem.Addr} {o:L2.HO} (g:L2.upd H p o=H1) (n:H p=none):L2.Same H H1∧H1 p=some o:=g▸⟨L2.Same.new n,L2.Zj⟩
namespace My
open PySem PySem.Spec PyProof.Rows L2
def top (i:Nat):Stmt:=PySem.Challenge.pw_platerest_k25_whole_two_motions_work_ali.main.body.getD i (.Pass ⟨0,0,0,0⟩)
theorem Zfx:bootBuiltins "abs" = some (.builtin "abs"):=by decide +kernel
theorem Zas:bootBuiltins "all" = some (.builtin "all"):=by decide +kernel
theorem Zu9:bootBuiltins "any" = some (.builtin "any"):=by decide +kernel
theorem Ztd:bootBuiltins "bool" = some (.type "bool"):=by decide +kernel
theorem Zqw:bootBuiltins "int" = some (.type "int"):=by decide +kernel
theorem Yz:bootBuiltins "isinstance" = some (.builtin "isinstance"):=by decide +kernel
theorem Yv:bootBuiltins "len" = some (.builtin "len"):=by decide +kernel
theorem Zsp:bootBuiltins "list" = some (.type "list"):=by decide +kernel
theorem Zq9:bootBuiltins "max" = some (.builtin "max"):=by decide +kernel
theorem Zq6:bootBuiltins "min" = some (.builtin "min"):=by decide +kernel
theorem Zuh:bootBuiltins "set" = some (.type "set"):=by decide +kernel
theorem Zit:bootBuiltins "sorted" = some (.builtin "sorted"):=by decide +kernel
theorem Zq1:bootBuiltins "sum" = some (.builtin "sum"):=by decide +kernel
theorem Yk:bootBuiltins "tuple" = some (.type "tuple"):=by decide +kernel
structure Bt (mg:Str→Option Value):Prop where
 b_abs:mg "abs" = none
 b_all:mg "all" = none
 b_any:mg "any" = none
 b_bool:mg "bool" = none
 b_enumerate:mg "enumerate" = none
 b_int:mg "int" = none
 b_isinstance:mg "isinstance" = none
 b_len:mg "len" = none
 b_list:mg "list" = none
 b_max:mg "max" = none
 b_min:mg "min" = none
 b_range:mg "range" = none
 b_set:mg "set" = none
 b_sorted:mg "sorted" = none
 b_sum:mg "sum" = none
 b_tuple:mg "tuple" = none
 b_zip:mg "zip" = none
 n_FARTHEST:∃ t,mg "FARTHEST" = some (.int 100 t)
 n_FEWEST_CORNERS:∃ t,mg "FEWEST_CORNERS" = some (.int 3 t)
 n_GREAT_BITS:∃ t,mg "GREAT_BITS" = some (.int 4000 t)
 n_MOST_CORNERS:∃ t,mg "MOST_CORNERS" = some (.int 30 t)
 n_MOST_PIECES:∃ t,mg "MOST_PIECES" = some (.int 40 t)
 n_MOST_STUFF:∃ t,mg "MOST_STUFF" = some (.int 9 t)
 n_THICKEST:∃ t,mg "THICKEST" = some (.int 9 t)
abbrev rt (q:Rat):List V:=[.int q.num,.int q.den]
def Zky:Sp:=fun vs H Q _=>∃ a b:Int,vs=[.int a,.int b]∧Q (.int (Int.gcd a b)) H
def Zfj:Sp:=fun vs H Q _=>∃ a b:Int,vs=[.int a,.int b]∧b.natAbs<2^4000∧Q (.int (Int.gcd a b)) H
theorem Y5 {a n:Nat} (h:a<2^64) (hn:64≤n:=by decide):a<2^n:=Nat.lt_of_lt_of_le h (Nat.pow_le_pow_right (by decide) hn)
theorem Zrl {a:Nat} (h:a<2^4000):a<2^8999:=Nat.lt_of_lt_of_le h (Nat.pow_le_pow_right (by decide) (by decide))
theorem Ztr {x y:Int} (h:y.natAbs<2^4000):decide ((4000:Int)<if (Builtin.Int.intBits y:Int)<(Builtin.Int.intBits x:Int) then (Builtin.Int.intBits y:Int) else (Builtin.Int.intBits x:Int))=false:=by
 have:=Zjs h (by decide)
 refine decide_eq_false ?_;split<;>omega
def Zea:Sp:=fun vs H Q _=>∃ a:Int,vs=[.int a]∧Q (.bl true) H
def Zf3:Sp:=fun vs H Q _=>∃ t b:Int,vs=[.int t,.int b]∧b≠0∧b.natAbs<2^4000∧∀ (p:Addr) (H':Hp),Same H H'→H' p=some (.tup (rt (Rat.divInt t b)))→Q (.ref p) H'
def Zbj:Sp:=fun vs H Q _=>∃ (p:Addr) (q:Rat),vs=[.ref p]∧H p=some (.tup (rt q))∧FM.B 4000 q∧Q (.bl true) H
def Zqj (f:Rat→Rat→Rat):Sp:=fun vs H Q _=>∃ (p r:Addr) (x y:Rat),vs=[.ref p,.ref r]∧H p=some (.tup (rt x))∧H r=some (.tup (rt y))∧FM.B 1990 x∧FM.B 1990 y ∧
 ∀ (z:Addr) (H':Hp),Same H H'→H' z=some (.tup (rt (f x y)))→Q (.ref z) H'
theorem Zuk {p q:Rat}:decide (([p.num,(p.den:Int)]:List Int)=[q.num,(q.den:Int)])=decide (p=q):=by
 by_cases h:p=q
 · subst h;simp
 · rw [decide_eq_false h];refine decide_eq_false fun z=>h ?_;injection z with z1 z2
   injection z2 with z2 _
   exact Rat.ext z1 (Int.ofNat.inj z2)
def rNeR (neg:Bool):R2:=fun x y H Q=>∃ (a b:Addr) (p q:Rat),x=.ref a∧y=.ref b∧H a=some (.tup (rt p))∧H b=some (.tup (rt q))∧Q (.bl (if neg then !decide (p=q) else decide (p=q))) H
theorem Zla {X:Cx} (hu:X.A.units+1<cLine):OpR X (compareOp .NotEq) (rNeR true):=by
 intro pins s σ H x y v u Q I rx ry h;obtain ⟨a,b,p,q,e1,e2,h1,h2,k⟩:=h;refine Zuj (Nat.lt_of_succ_lt hu) pins s σ H x y v u Q I rx ry ⟨a,b,[p.num,(p.den:Int)],[q.num,(q.den:Int)],e1,e2,SqT.of h1,SqT.of h2,?_⟩;rw [Zuk];exact k
theorem bd0:FM.B 1 0:=⟨by decide,by decide⟩
theorem up1 {a:Nat} (h:a<2^1990):a<2^1000000:=Nat.lt_of_lt_of_le h (Nat.pow_le_pow_right (by decide) (by decide))
theorem mNN {x y:Rat} (hx:FM.B 1990 x) (hy:FM.B 1990 y):CMulB x.num y.num:=⟨up1 hx.1,up1 hy.1⟩
theorem mND {x y:Rat} (hx:FM.B 1990 x) (hy:FM.B 1990 y):CMulB x.num y.den:=⟨up1 hx.1,up1 hy.2⟩
theorem mDD {x y:Rat} (hx:FM.B 1990 x) (hy:FM.B 1990 y):CMulB x.den y.den:=⟨up1 hx.2,up1 hy.2⟩
theorem Zub {x y:Rat} (hx:FM.B 1990 x) (hy:FM.B 1990 y):((x.den:Int)*y.den).natAbs<2^4000 :=
 Nat.lt_of_lt_of_le (FM.natAbs_mul_lt (show (x.den:Int).natAbs<2^1990 from hx.2) (show (y.den:Int).natAbs<2^1990 from hy.2)) (Nat.pow_le_pow_right (by decide) (by decide))
def StAt (H:Hp) (l:Addr):Prop:=∃ s0 s1 s2:Int,H l=some (.lst [.int s0,.int s1,.int s2])∧0≤s1∧s1<4294967296
theorem StAt.same {H H':Hp} {l:Addr} (s:StAt H l) (k:Same H H'):StAt H' l:=by
 obtain ⟨a,b,c,h,r⟩:=s;exact ⟨a,b,c,k _ _ h,r⟩
theorem StAt.new {H:Hp} {l p:Addr} {o:HO} (s:StAt H l) (h:H p=none):StAt (upd H p o) l:=by
 obtain ⟨a,b,c,e,r⟩:=s;exact ⟨a,b,c,by rw [Zr (Zo e h)];exact e,r⟩
theorem StAt.ne {H:Hp} {l p:Addr} (s:StAt H l) (h:H p=none):l≠p:=by
 obtain ⟨a,b,c,e,r⟩:=s;exact Zo e h
theorem StAt.neT {H:Hp} {l p:Addr} {xs:List V} (s:StAt H l) (h:H p=some (.tup xs)):p≠l:=by
 obtain ⟨a,b,c,e,r⟩:=s;exact Zto h e (by intro z;cases z)
def Zou (K:PySem.W.Frag):Sp:=fun vs H Q _=>∃ (a:Addr) (ns:List Int) (k:Nat),vs=[.ref a,.int k]∧SqL K H a (ns.map V.int)∧∀ c:Int,Q (.int c) H
def Zku (K:PySem.W.Frag):Sp:=fun vs H Q _=>∃ (a:Addr) (ns:List Int) (k:Nat),vs=[.ref a,.int k]∧SqL K H a (ns.map V.int) ∧
 ∀ (p:Addr) (H':Hp),H p=none→Same H H'→StAt H' p→Q (.ref p) H'
def Zet:Sp:=fun vs H Q _=>∃ (l:Addr) (m:Int),vs=[.ref l,.int m]∧StAt H l∧0<m∧m.natAbs<2^8999∧∀ (r:Int) (H':Hp),0≤r→r<m→Keep l H H'→StAt H' l→Q (.int r) H'
def Zri:Sp:=fun vs H Q _=>∃ t b:Int,vs=[.int t,.int b]∧b≠0∧b.natAbs<2^4000∧∀ (p:Addr) (H':Hp),Same H H'→H' p=some (.tup (rt (Rat.divInt t b)))→Q (.ref p) H'
theorem mulS {a b:Int} (ha:a.natAbs<2^64) (hb:b.natAbs<2^64):CMulB a b:=⟨Nat.lt_of_lt_of_le ha (Nat.pow_le_pow_right (by decide) (by decide)),Nat.lt_of_lt_of_le hb (Nat.pow_le_pow_right (by decide) (by decide))⟩
theorem p64:(2:Nat)^64=18446744073709551616:=by decide
theorem blT {p:Prop} [Decidable p] (h:p):V.bl (decide p)=V.bl true:=by rw [decide_eq_true h]
theorem qT {p:Prop} [Decidable p] (h:p) {Q:VK} {H:Hp} (q:Q (.bl true) H):Q (.bl (decide p)) H:=by rw [blT h];exact q
theorem mul3 {a b:Int} (ha:a.natAbs≤1000) (hb:b.natAbs≤1000):CMulB a b:=⟨Nat.lt_of_le_of_lt ha (Nat.lt_of_lt_of_le (by decide:(1000:Nat)<2^10) (Nat.pow_le_pow_right (by decide) (by decide))),Nat.lt_of_le_of_lt hb (Nat.lt_of_lt_of_le (by decide:(1000:Nat)<2^10) (Nat.pow_le_pow_right (by decide) (by decide)))⟩
def Zft:Sp:=fun vs H Q _=>∃ i lo hi:Int,vs=[.int i,.int lo,.int hi]∧lo≤i∧i≤hi∧Q (.bl true) H
def Zrh:Sp:=fun vs H Q _=>∃ (a:Addr) (us:List V) (lo hi:Int),vs=[.ref a,.int lo,.int hi]∧H a=some (.tup us)∧lo≤us.length∧(us.length:Int)≤hi∧Q (.bl true) H
def Zfo:Sp:=fun vs H Q _=>∃ (a:Addr) (ns:List Int),vs=[.ref a]∧H a=some (.tup (ns.map V.int))∧ns.length≤1000∧(∀ (i:Nat) (x y:Int),ns[i]? = some x→ns[i+1]? = some y→x<y)∧∀ H',Same H H'→Q (.bl true) H'
def Zfn:Sp:=fun vs H Q _=>∃ (a:Addr) (us:List V) (ks:List (List Int)),vs=[.ref a]∧H a=some (.tup us)∧Al (IsI H) us ks∧us.length≤1000∧(∀ (i:Nat) (x y:List Int),ks[i]? = some x→ks[i+1]? = some y→HT.lexLt x y=true)∧∀ H',Same H H'→Q (.bl true) H'
def Zh4:Sp:=fun vs H Q _=>∃ (v:V) (p:Pnt),vs=[v]∧IsP H v p∧near p∧∀ H',Same H H'→Q (.bl true) H'
def Zfr:Sp:=fun vs H Q _=>∃ (v:V) (cs:List Pnt),vs=[v]∧IsCs H v cs∧3≤cs.length∧cs.length≤30∧(∀ p∈cs,near p)∧cs.Nodup∧∀ H',Same H H'→Q (.bl true) H'
def Znl:Sp:=fun vs H Q _=>∃ (u v w:V) (a b c:Pnt),vs=[u,v,w]∧IsP H u a∧IsP H v b∧IsP H w c∧near a∧near b∧near c∧Q (.int (tn a b c)) H
theorem cut1 (xs:List V):cutV xs (some 1) none=xs.drop 1:=by
 unfold cutV;have e1:HT.sIx xs.length xs.length none=xs.length:=rfl
 have e2:HT.sIx xs.length 0 (some 1)=min 1 xs.length:=by
  unfold HT.sIx
  simp
  try omega
 rw [e1,e2];cases xs with
 | nil=>rfl
 | cons x xs=>simp
theorem Zdw {α:Type} (x:α):∀ n:Nat,(List.replicate n [x]).flatten=List.replicate n x
 | 0=>rfl
 | n+1=>by rw [List.replicate_succ,List.flatten_cons,Zdw x n];rfl
theorem allT (n:Nat):(List.replicate n true).all id=true:=by rw [List.all_replicate];split<;>rfl
theorem repT {n i:Nat} (h:i<n):(List.replicate n true)[i]? = some true:=by rw [List.getElem?_replicate,if_pos h]
theorem Yn {α:Type} {l:List α} {i:Nat} {x:α} (h:l[i]? = some x):i<l.length:=(List.getElem?_eq_some_iff.mp h).1
abbrev RB:Hp→V→Bool→Prop:=fun _ v b=>v=V.bl b
theorem hRB:∀ H1 H2 v x,Tk H1 H2→RB H1 v x→RB H2 v x:=fun _ _ _ _ _ e=>e
abbrev RI:Hp→V→Int→Prop:=fun _ v b=>v=V.int b
theorem hRI:∀ H1 H2 v x,Tk H1 H2→RI H1 v x→RI H2 v x:=fun _ _ _ _ _ e=>e
theorem hRP:∀ H1 H2 v x,Tk H1 H2→IsP H1 v x→IsP H2 v x:=fun _ _ _ _ t h=>h.tk t
theorem hRT:∀ H1 H2 v x,Tk H1 H2→IsT H1 v x→IsT H2 v x:=fun _ _ _ _ t h=>h.tk t
def Zh5:Sp:=fun vs H Q _=>∃ (u v:V) (cs:List Pnt) (p:List Int),vs=[u,v]∧IsCs H u cs∧IsI H v p∧p.length=3∧(∀ i∈p,0≤i∧i≤(cs.length:Int)-1)∧(∀ p∈cs,near p)∧Q (.int (dOf cs p)) H
def Zf0:Sp:=fun vs H Q _=>∃ (u v:V) (cs:List Pnt) (p:List Int),vs=[u,v]∧IsCs H u cs∧IsI H v p∧PieceOk cs p∧(∀ p∈cs,near p)∧∀ H',Same H H'→Q (.bl true) H'
def Zig:Sp:=fun vs H Q _=>∃ (u v:V) (cs:List Pnt) (ps:List (List Int)),vs=[u,v]∧IsCs H u cs∧IsPs H v ps∧1≤ps.length∧ps.length≤40∧(∀ p∈ps,PieceOk cs p)∧(∀ i:Nat,i+1<ps.length→HT.lexLt (ps.getD i []) (ps.getD (i+1) [])=true)∧(∀ p∈cs,near p)∧∀ H',Same H H'→Q (.bl true) H'
def Zip:Sp:=fun vs H Q _=>∃ (u v:V) (ps:List (List Int)) (ts:List Int),vs=[u,v]∧IsPs H u ps∧IsI H v ts∧ts.length=ps.length∧ps.length≤40∧(∀ t∈ts,1≤t∧t≤9)∧∀ H',Same H H'→Q (.bl true) H'
def Zkn:Sp:=fun vs H Q _=>∃ (v:V) (l m:Int),vs=[v]∧IsI H v [l,m]∧(0≤l∧l≤9)∧(1≤m∧m≤9)∧Q (.bl true) H
theorem Zmn {H:Hp} {cs:List Pnt} {us:List V} (A:Al (IsP H) us cs) {i:Int} (h0:0≤i) (h1:i≤(cs.length:Int)-1):∃ v,atI us i=some v∧IsP H v (cAt cs i):=by
 obtain ⟨n,rfl⟩:∃ n:Nat,i=n:=⟨i.toNat,by omega⟩;have hn:n<cs.length:=by omega
 obtain ⟨v,ev,r⟩:=A.got (List.getElem?_eq_getElem hn);refine ⟨v,X2 ev,?_⟩
 have:cAt cs (n:Int)=cs[n]:=by unfold cAt;simp [List.getD_eq_getElem?_getD,hn]
 rw [this];exact r
theorem Xg {cs:List Pnt} {i:Int} (h0:0≤i) (h1:i≤(cs.length:Int)-1):cAt cs i∈cs:=by
 have hn:i.toNat<cs.length:=by omega
 unfold cAt;rw [List.getD_eq_getElem?_getD,List.getElem?_eq_getElem hn];exact List.getElem_mem hn
def IsE (H:Hp) (v:V) (e:Pnt×Pnt):Prop:=∃ a x y,v=.ref a∧H a=some (.tup [x,y])∧IsP H x e.1∧IsP H y e.2
theorem IsE.tk {H H':Hp} {v:V} {e:Pnt×Pnt} (t:Tk H H') (h:IsE H v e):IsE H' v e:=let ⟨a,x,y,e,h1,h2,h3⟩:=h;⟨a,x,y,e,t _ _ h1,h2.tk t,h3.tk t⟩
def IsQ (H:Hp) (v:V) (q:Rat):Prop:=∃ a,v=.ref a∧H a=some (.tup (rt q))
theorem IsQ.tk {H H':Hp} {v:V} {q:Rat} (t:Tk H H') (h:IsQ H v q):IsQ H' v q:=let ⟨a,e,h1⟩:=h;⟨a,e,t _ _ h1⟩
def Zru:Sp:=fun vs H Q _=>∃ (u v:V) (cs:List Pnt) (p:List Int),vs=[u,v]∧IsCs H u cs∧IsI H v p∧p.length=3∧(∀ i∈p,0≤i∧i≤(cs.length:Int)-1)∧(∀ p∈cs,near p)∧∀ H' w,Same H H'→IsT H' w (trOf cs p)→Q w H'
def Zlg:Sp:=fun vs H Q _=>∃ (v:V) (t:Tri),vs=[v]∧IsT H v t∧∀ H' w,Same H H'→IsTup' IsE H' w t.edges→Q w H'
def Ziy:Sp:=fun vs H Q _=>∃ (u v:V) (p:Pnt) (t:Tri),vs=[u,v]∧IsP H u p∧IsT H v t∧near p∧t.near∧∀ H',Same H H'→Q (.bl (Zb7 p t)) H'
def Zc2:Sp:=fun vs H Q _=>∃ (u v:V) (t r:Tri),vs=[u,v]∧IsT H u t∧IsT H v r∧t.near∧r.near∧∀ H',Same H H'→Q (.bl (Xa t r)) H'
def Zk7:Sp:=fun vs H Q _=>∃ (u v:V) (t r:Tri),vs=[u,v]∧IsT H u t∧IsT H v r∧t.near∧r.near∧∀ H',Same H H'→Q (.bl (L2.apart t r)) H'
def Znh:Sp:=fun vs H Q _=>∃ (u v:V) (cs:List Pnt) (ps:List (List Int)),vs=[u,v]∧IsCs H u cs∧IsPs H v ps∧(∀ p∈ps,p.length=3)∧ps.length≤40∧cntS ps.flatten=cs.length∧cs.length≤30∧∀ H',Same H H'→Q (.bl true) H'
def Zf2:Sp:=fun vs H Q _=>∃ (u v w:V) (cs:List Pnt) (p:List Int) (t:Tri),vs=[u,v,w]∧IsCs H u cs∧IsI H v p∧IsT H w t∧cs.length≤30∧(∀ p∈cs,near p)∧t.near∧(∀ j:Nat,j<cs.length→(j:Int)∉p→Zb7 (cs.getD j (0,0)) t=false)∧∀ H',Same H H'→Q (.bl true) H'
structure FitOk (cs:List Pnt) (ps:List (List Int)):Prop where
 c30:cs.length≤30
 nr:∀ p∈cs,near p
 p40:ps.length≤40
 pc:∀ p∈ps,PieceOk cs p
 strange:∀ p∈ps,∀ j:Nat,j<cs.length→(j:Int)∉p→Zb7 (cs.getD j (0,0)) (trOf cs p)=false
 apart:∀ i j:Nat,i<j→j<ps.length→L2.apart (trOf cs (ps.getD j [])) (trOf cs (ps.getD i []))=true
def Zrr:Sp:=fun vs H Q _=>∃ (u v:V) (cs:List Pnt) (ps:List (List Int)),vs=[u,v]∧IsCs H u cs∧IsPs H v ps∧FitOk cs ps∧∀ H',Same H H'→Q (.bl true) H'
def Zfq:Sp:=fun vs H Q _=>∃ (v:V) (P:Pl),vs=[v]∧IsPl H v P∧PlOk P∧∀ H',Same H H'→Q (.bl true) H'
def Zc3:Sp:=fun vs H Q _=>∃ (v:V) (P:Pl),vs=[v]∧IsPl H v P∧PlOk P∧∀ H',Same H H'→Q .non H'
def Zde:Sp:=fun vs H Q _=>∃ (v:V) (P:Pl) (i:Int),vs=[v,.int i]∧IsPl H v P∧0≤i∧i<P.ps.length∧Q .non H
def Zox:Sp:=fun vs H Q _=>∃ (v:V) (P:Pl),vs=[v]∧IsPl H v P∧PlOk P∧Q (.int (2*P.cs.length)) H
theorem Zii {cs:List Pnt} {p:List Int} (hb:∀ i∈p,0≤i∧i≤(cs.length:Int)-1) (hl:p.length=3) (nr:∀ p∈cs,near p):(trOf cs p).near:=by
 match p,hl with
 | [a,b,c],_ =>
   have ha:=nr _ (Xg (hb a (by simp)).1 (hb a (by simp)).2);have hb':=nr _ (Xg (hb b (by simp)).1 (hb b (by simp)).2);have hc:=nr _ (Xg (hb c (by simp)).1 (hb c (by simp)).2);show (tri (cAt cs a) (cAt cs b) (cAt cs c)).near
   unfold tri;split
   · exact ⟨ha,hc,hb'⟩
   · exact ⟨ha,hb',hc⟩
theorem hRQ:∀ H1 H2 v x,Tk H1 H2→IsQ H1 v x→IsQ H2 v x:=fun _ _ _ _ t h=>h.tk t
theorem Zhq {t:Tri} (n:t.near) {e:Pnt×Pnt} (h:e∈t.edges):near e.1∧near e.2:=by
 obtain ⟨a,b,c⟩:=n;simp only [Tri.edges,List.mem_cons,List.not_mem_nil,or_false] at h
 rcases h with rfl|rfl|rfl
 · exact ⟨a,b⟩
 · exact ⟨b,c⟩
 · exact ⟨c,a⟩
theorem Ztl {t:Tri} (n:t.near) {e:Pnt} (h:e∈t.pts):near e:=by
 obtain ⟨a,b,c⟩:=n;simp only [Tri.pts,List.mem_cons,List.not_mem_nil,or_false] at h
 rcases h with rfl|rfl|rfl
 · exact a
 · exact b
 · exact c
theorem Zuf {H:Hp} {v:V} {t:Tri} (h:IsT H v t):∃ a vs,v=.ref a∧H a=some (.tup vs)∧vs.length=3∧Al (IsP H) vs t.pts:=by
 obtain ⟨a,x,y,z,rfl,ha,hx,hy,hz⟩:=h;exact ⟨a,_,rfl,ha,rfl,.cons hx (.cons hy (.cons hz .nil))⟩
theorem cs3 {H:Hp} {us:List V} {cs:List Pnt} (al:Al (IsP H) us cs) {p:List Int} (hl:p.length=3) (bd:∀ i∈p,0≤i∧i≤(cs.length:Int)-1) {vs:List V} (a2:Al (IsP H) vs (p.map (cAt cs))):∃ x y z,vs=[x,y,z]∧IsP H x (cAt cs (p.getD 0 0))∧IsP H y (cAt cs (p.getD 1 0))∧IsP H z (cAt cs (p.getD 2 0)):=by
 match p,hl with
 | [i,j,k],_ =>
   have:=a2.1
   match vs,this with
   | [x,y,z],_=>exact ⟨x,y,z,rfl,a2.2 0 x _ rfl rfl,a2.2 1 y _ rfl rfl,a2.2 2 z _ rfl rfl⟩
theorem Zum (xs:List V) (i:Nat) (h:i≤xs.length):cutV xs none (some (i:Int))=xs.take i:=by
 unfold cutV;rw [HT.sIx_none,HT.sIx_nat];simp [Nat.min_eq_left h]
theorem Zs3 (xs:List V) (i:Nat) (h:i≤xs.length):cutV xs (some (i:Int)) none=xs.drop i:=by
 unfold cutV;rw [HT.sIx_none,HT.sIx_nat,Nat.min_eq_left h];exact List.take_of_length_le (by simp)
theorem anyM {α:Type} {l:List α} {f:α→Bool} (h:∀ x∈l,f x=false):(l.map f).any id=false:=by
 rw [List.any_map];exact List.any_eq_false.mpr fun x hx=>by simp [h x hx]
theorem prs {H:Hp} {vs:List V} {es:List (Pnt×Pnt)} (al:Al (IsE H) vs es):∀ (i:Nat) (w:V),vs[i]? = some w→∃ p x y,w=.ref p∧H p=some (.tup [x,y]):=fun i w e=>by
 obtain ⟨_,_,p,x,y,rfl,h,_⟩:=al.get e;exact ⟨p,x,y,rfl,h⟩
theorem pr1 {H:Hp} {vs:List V} {es:List (Pnt×Pnt)} (al:Al (IsE H) vs es) {i:Nat} {p:Addr} {x y:V} (e:vs[i]? = some (.ref p)) (hp:H p=some (.tup [x,y])):∃ q,es[i]? = some q∧IsP H x q.1∧IsP H y q.2:=by
 obtain ⟨q,eq,p',x',y',e1,h,h1,h2⟩:=al.get e;cases e1
 rw [hp] at h;cases h
 exact ⟨q,eq,h1,h2⟩
theorem Zqn (n:Int) (p:List Int):inV (V.int n) (p.map V.int)=decide (n∈p):=by
 unfold inV;rw [List.any_map]
 induction p with
 | nil=>rfl
 | cons x p ih =>
   rw [List.any_cons,ih]
   by_cases h:n=x
   · subst h
     have:eqV (V.int n) (V.int n)=true:=by simp [eqV]
     simp [Function.comp,this]
   · have:eqV (V.int x) (V.int n)=false:=by simp [eqV];exact fun z=>h z.symm
     simp [Function.comp,this,h]
abbrev IsQs (H:Hp) (v:V) (ms:List Rat):Prop:=IsTup' IsQ H v ms
theorem Zw {H H':Hp} {v:V} {ms:List Rat} (t:Tk H H') (h:IsQs H v ms):IsQs H' v ms:=IsTup'.tk (R:=IsQ) hRQ t h
theorem Zp8 {m b c:Int} (hm:0<m) (hb:0<b) (h1:m∣c) (h2:b∣c):m.fdiv (Int.gcd m b:Int)*b∣c:=by
 have hg:(0:Int)<Int.gcd m b:=by have:=FM.gcd_ne (t:=m) (b:=b) (by omega);omega
 have h3:(Int.lcm m b:Int)∣c:=Int.coe_lcm_dvd h1 h2;have h4:Int.gcd m b*Int.lcm m b=(m*b).natAbs:=(Int.gcd_mul_lcm m b).trans (Int.natAbs_mul m b).symm;obtain ⟨k,hk⟩:=Int.gcd_dvd_left m b;have e0:∀ g:Int,g≠0→m=g*k→m.fdiv g=k:=fun g hg h=>by rw [h,Int.mul_comm];exact FM.fdiv_mul hg
 have e:m.fdiv (Int.gcd m b:Int)=k:=e0 _ (by omega) hk;rw [e]
 have e2:((Int.gcd m b:Int))*(Int.lcm m b:Int)=(Int.gcd m b:Int)*(k*b):=by
  have:((Int.gcd m b*Int.lcm m b:Nat):Int)=m*b:=by
   rw [h4];exact Int.natAbs_of_nonneg (Int.le_of_lt (Int.mul_pos hm hb))
  rw [Int.natCast_mul] at this;rw [this,← Int.mul_assoc,← hk]
 rw [← Int.eq_of_mul_eq_mul_left (by omega) e2];exact h3
theorem Zqe {m b:Int} (hm:0<m) (hb:0<b):0<m.fdiv (Int.gcd m b:Int)*b∧m∣m.fdiv (Int.gcd m b:Int)*b∧b∣m.fdiv (Int.gcd m b:Int)*b∧(m.fdiv (Int.gcd m b:Int)).natAbs≤m.natAbs:=by
 have hg:(0:Int)<Int.gcd m b:=by have:=FM.gcd_ne (t:=m) (b:=b) (by omega);omega
 obtain ⟨k,hk⟩:=Int.gcd_dvd_left m b;obtain ⟨j,hj⟩:=Int.gcd_dvd_right m b;generalize (Int.gcd m b:Int)=g at *;have e:m.fdiv g=k:=by rw [hk,Int.mul_comm];exact FM.fdiv_mul (by omega)
 rw [e]
 have kp:0<k:=by
  refine Int.pos_of_mul_pos_left (b:=g) ?_ hg;rw [Int.mul_comm,← hk];exact hm
 refine ⟨Int.mul_pos kp hb,⟨j,?_⟩,⟨k,Int.mul_comm _ _⟩,?_⟩
 · rw [hj,hk];grind
 · rw [hk,Int.natAbs_mul];exact Nat.le_mul_of_pos_left _ (by omega)
def lev (m:Int) (q:Rat):Int:=q.num*m.fdiv q.den
theorem Zt1 (q:Rat):q=(q.num:Rat)/(q.den:Rat):=by
 have:=Rat.mkRat_self q
 rw [Rat.mkRat_eq_div] at this;exact this.symm
theorem Zv0 (q:Rat):(q.den:Rat)≠0:=fun z=>q.den_nz (by exact_mod_cast z)
theorem Zhc {m:Int} {q:Rat} (h:(q.den:Int)∣m):(lev m q:Rat)=q*m:=by
 obtain ⟨k,rfl⟩:=h;unfold lev;rw [Int.mul_comm (q.den:Int),FM.fdiv_mul (FM.den_ne q)];have e:=Zt1 q;have hd:=Zv0 q;rw [Rat.intCast_mul,Rat.intCast_mul];generalize (q.num:Rat)=n at *;have hd2:((q.den:Int):Rat)=(q.den:Rat):=by first|rfl|exact Rat.intCast_natCast _
 rw [hd2];generalize (q.den:Rat)=dd at *;rw [e]
 grind
theorem Zre {m:Int} {q:Rat} {k:Nat} (hm:m.natAbs<2^k) (hq:FM.B 140 q) (h:(q.den:Int)∣m):(lev m q).natAbs<2^(140+k):=by
 obtain ⟨j,rfl⟩:=h;unfold lev;rw [Int.mul_comm (q.den:Int),FM.fdiv_mul (FM.den_ne q)];refine FM.natAbs_mul_lt hq.1 (Nat.lt_of_le_of_lt ?_ hm);rw [Int.natAbs_mul];exact Nat.le_mul_of_pos_left _ (by have:=q.den_nz;simp;omega)
theorem Y2 {a b:Int} {n:Nat} (ha:a.natAbs<2^n) (hb:b.natAbs<2^n) (hn:n≤1000000:=by decide):CMulB a b:=⟨Nat.lt_of_lt_of_le ha (Nat.pow_le_pow_right (by decide) hn),Nat.lt_of_lt_of_le hb (Nat.pow_le_pow_right (by decide) hn)⟩
theorem up {a n:Nat} (m:Nat) (h:a<2^n) (l:n≤m:=by decide):a<2^m:=Nat.lt_of_lt_of_le h (Nat.pow_le_pow_right (by decide) l)
def Zk2:Sp:=fun vs H Q _=>∃ (v:V) (ms:List Rat),vs=[v,.int ms.length]∧IsQs H v ms∧(∀ q∈ms,FM.B 4000 q)∧ms.length≤1000∧∀ H',Same H H'→Q (.bl true) H'
def Zgz:Sp:=fun vs H Q _=>∃ (v w:V) (P:Pl) (ms:List Rat),vs=[v,w]∧IsPl H v P∧PlOk P∧IsQs H w ms∧ms.length=2*P.cs.length∧(∀ q∈ms,FM.B 140 q)∧∀ H',Same H H'→Q .non H'
def dotI (xs ys:List Int):Int:=(List.zipWith (·*·) xs ys).sum
def Zrk:Sp:=fun vs H Q _=>∃ (a b:Addr) (xs ys:List Int),vs=[.ref a,.ref b]∧H a=some (.lst (xs.map V.int))∧H b=some (.lst (ys.map V.int))∧xs.length≤100∧(∀ x∈xs,x.natAbs<2^5000)∧(∀ x∈ys,x.natAbs<2^5000)∧∀ H',Same H H'→Q (.int (dotI xs ys)) H'
def p0 (cs:List Pnt) (p:List Int):Pnt:=cAt cs (p.getD 0 0)
def p1 (cs:List Pnt) (p:List Int):Pnt:=cAt cs (p.getD 1 0)
def p2 (cs:List Pnt) (p:List Int):Pnt:=cAt cs (p.getD 2 0)
def Z9 (cs:List Pnt) (p:List Int):List Int:=[(p1 cs p).2-(p2 cs p).2,(p2 cs p).2-(p0 cs p).2,(p0 cs p).2-(p1 cs p).2]
def Yc (cs:List Pnt) (p:List Int):List Int:=[(p2 cs p).1-(p1 cs p).1,(p0 cs p).1-(p2 cs p).1,(p1 cs p).1-(p0 cs p).1]
def Yx (p:List Int):List Int:=p.map (fun i=>2*i)++p.map (fun i=>2*i+1)
def pcOf (P:Pl) (n:Int):List Int:=P.ps.getD n.toNat []
def Zhl:Sp:=fun vs H Q _=>∃ (v:V) (P:Pl) (n:Int),vs=[v,.int n]∧IsPl H v P∧PlOk P∧0≤n∧n<P.ps.length ∧
 ∀ (H':Hp) (r bl cl:Addr),Same H H'→H' r=some (.tup [.int (dOf P.cs (pcOf P n)),.ref bl,.ref cl])→H' bl=some (.lst ((Z9 P.cs (pcOf P n)).map V.int))→H' cl=some (.lst ((Yc P.cs (pcOf P n)).map V.int))→Q (.ref r) H'
def Zlr:Sp:=fun vs H Q _=>∃ (v:V) (P:Pl) (n:Int),vs=[v,.int n]∧IsPl H v P∧PlOk P∧0≤n∧n<P.ps.length ∧
 ∀ (H':Hp) (r:Addr),Same H H'→H' r=some (.lst ((Yx (pcOf P n)).map V.int))→Q (.ref r) H'
def Yj (P:Pl) (n:Int) (ms:List Rat):List Rat:=(Yx (pcOf P n)).map fun w=>ms.getD w.toNat 0
def Zfw:Sp:=fun vs H Q _=>∃ (v w:V) (P:Pl) (n:Int) (ms:List Rat),vs=[v,.int n,w]∧IsPl H v P∧PlOk P∧0≤n∧n<P.ps.length∧IsQs H w ms∧ms.length=2*P.cs.length ∧
 ∀ (H':Hp) (r:Addr) (us:List V),Same H H'→H' r=some (.lst us)→Al (IsQ H') us (Yj P n ms)→Q (.ref r) H'
def strI (bs cs six:List Int):List Int:=[dotI bs (six.take 3),dotI cs (six.drop 3),dotI (cs++bs) six]
def Ze2:Sp:=fun vs H Q _=>∃ (a b c:Addr) (bs cs six:List Int),vs=[.ref a,.ref b,.ref c]∧H a=some (.lst (bs.map V.int))∧H b=some (.lst (cs.map V.int))∧H c=some (.lst (six.map V.int))∧bs.length=3∧cs.length=3∧six.length=6∧(∀ x∈bs,x.natAbs<2^5000)∧(∀ x∈cs,x.natAbs<2^5000)∧(∀ x∈six,x.natAbs<2^5000) ∧
 ∀ (H':Hp) (r:Addr),Same H H'→H' r=some (.lst ((strI bs cs six).map V.int))→Q (.ref r) H'
def Zeh:Sp:=fun vs H Q _=>∃ (a b:Addr) (l m e f g:Int),vs=[.ref a,.ref b]∧H a=some (.tup [.int l,.int m])∧H b=some (.lst [.int e,.int f,.int g])∧(0≤l∧l≤9)∧(1≤m∧m≤9)∧e.natAbs<2^5000∧f.natAbs<2^5000∧g.natAbs<2^5000 ∧
 ∀ (H':Hp) (r:Addr),Same H H'→H' r=some (.lst [.int (l*(e+f)+2*m*e),.int (l*(e+f)+2*m*f),.int (m*g)])→Q (.ref r) H'
def Zex:Sp:=fun vs H Q _=>∃ (v w:V) (P:Pl) (n:Int) (ms:List Rat),vs=[v,w,.int n]∧IsPl H v P∧PlOk P∧0≤n∧n<P.ps.length∧IsQs H w ms∧ms.length=2*P.cs.length∧(∀ q∈ms,FM.B 140 q) ∧
 ∀ (H':Hp) (r t:Addr) (m:Int),Same H H'→H' r=some (.tup [.ref t,.int (dOf P.cs (pcOf P n)*m)])→H' t=some (.lst ((strI (Z9 P.cs (pcOf P n)) (Yc P.cs (pcOf P n)) ((Yj P n ms).map (lev m))).map V.int))→0<m→(∀ q∈Yj P n ms,(q.den:Int)∣m)→m.natAbs<2^900→Q (.ref r) H'
theorem Z4 {P:Pl} {n:Int} (h0:0≤n) (h1:n<P.ps.length):pcOf P n∈P.ps:=by
 unfold pcOf;have hn:n.toNat<P.ps.length:=by omega
 rw [List.getD_eq_getElem?_getD,List.getElem?_eq_getElem hn];exact List.getElem_mem hn
theorem Zth {H:Hp} {P:Pl} {ws:List V} (bl:Al (IsI H) ws P.ps) {n:Int} (h0:0≤n) (h1:n<P.ps.length):∃ v,atI ws n=some v∧IsI H v (pcOf P n):=by
 obtain ⟨k,rfl⟩:∃ k:Nat,n=k:=⟨n.toNat,by omega⟩;have hk:k<P.ps.length:=by omega
 obtain ⟨v,ev,r⟩:=bl.got (List.getElem?_eq_getElem hk);refine ⟨v,X2 ev,?_⟩
 have:pcOf P (k:Int)=P.ps[k]:=by unfold pcOf;simp [List.getD_eq_getElem?_getD,hk]
 rw [this];exact r
theorem Zws {H:Hp} {ms:List Rat} {us:List V} (al:Al (IsQ H) us ms) {i:Int} (h0:0≤i) (h1:i<ms.length):∃ v,atI us i=some v∧IsQ H v (ms.getD i.toNat 0):=by
 obtain ⟨k,rfl⟩:∃ k:Nat,i=k:=⟨i.toNat,by omega⟩;have hk:k<ms.length:=by omega
 obtain ⟨v,ev,r⟩:=al.got (List.getElem?_eq_getElem hk);refine ⟨v,X2 ev,?_⟩
 have:ms.getD (k:Int).toNat 0=ms[k]:=by simp [List.getD_eq_getElem?_getD,hk]
 rw [this];exact r
theorem Zj4 {cs:List Pnt} {p:List Int} (bd:∀ i∈p,0≤i∧i≤(cs.length:Int)-1):∀ w∈Yx p,0≤w∧w<(2*cs.length:Nat):=by
 intro w hw
 rcases List.mem_append.mp hw with h|h
 · obtain ⟨i,hi,rfl⟩:=List.mem_map.mp h
   have:=bd i hi
   omega
 · obtain ⟨i,hi,rfl⟩:=List.mem_map.mp h
   have:=bd i hi
   omega
theorem Zpq {P:Pl} {n:Int} {ms:List Rat} (h:∀ q∈ms,FM.B 140 q):∀ q∈Yj P n ms,FM.B 140 q:=by
 intro q hq;obtain ⟨w,hw,rfl⟩:=List.mem_map.mp hq;rw [List.getD_eq_getElem?_getD];cases e:ms[w.toNat]? with
 | none=>exact bd0.mono (by decide)
 | some x=>exact h x (List.mem_of_getElem? e)
theorem Znp {P:Pl} {n:Int} {ms:List Rat} (h:(pcOf P n).length=3):(Yj P n ms).length=6:=by
 unfold Yj Yx;simp [h]
theorem Zcs {cs:List Pnt} (nr:∀ p∈cs,near p) {p:List Int} (hl:p.length=3) (bd:∀ i∈p,0≤i∧i≤(cs.length:Int)-1):(∀ x∈Z9 cs p,x.natAbs≤200)∧(∀ x∈Yc cs p,x.natAbs≤200)∧(dOf cs p).natAbs≤80000:=by
 match p,hl with
 | [i,j,k],_ =>
   obtain ⟨⟨a1,a2⟩,a3,a4⟩:=nr _ (Xg (bd i (by simp)).1 (bd i (by simp)).2);obtain ⟨⟨b1,b2⟩,b3,b4⟩:=nr _ (Xg (bd j (by simp)).1 (bd j (by simp)).2);obtain ⟨⟨c1,c2⟩,c3,c4⟩:=nr _ (Xg (bd k (by simp)).1 (bd k (by simp)).2);refine ⟨fun x hx=>?_,fun x hx=>?_,?_⟩
   · simp only [Z9,p0,p1,p2,List.mem_cons,List.not_mem_nil,or_false,List.getD_cons_zero,List.getD_cons_succ] at hx
     rcases hx with rfl|rfl|rfl<;>omega
   · simp only [Yc,p0,p1,p2,List.mem_cons,List.not_mem_nil,or_false,List.getD_cons_zero,List.getD_cons_succ] at hx
     rcases hx with rfl|rfl|rfl<;>omega
   · show (tn (cAt cs i) (cAt cs j) (cAt cs k)).natAbs≤80000
     unfold tn
     have h1:(((cAt cs j).1-(cAt cs i).1)*((cAt cs k).2-(cAt cs i).2)).natAbs≤200*200:=by
      rw [Int.natAbs_mul];exact Nat.mul_le_mul (by omega) (by omega)
     have h2:(((cAt cs k).1-(cAt cs i).1)*((cAt cs j).2-(cAt cs i).2)).natAbs≤200*200:=by
      rw [Int.natAbs_mul];exact Nat.mul_le_mul (by omega) (by omega)
     omega
def dotQ (bs:List Int) (us:List Rat):Rat:=(List.zipWith (fun (b:Int) (u:Rat)=>(b:Rat)*u) bs us).sum
theorem Zkx {m:Int}:∀ (bs:List Int) (us:List Rat),(∀ q∈us,(q.den:Int)∣m)→((dotI bs (us.map (lev m)):Int):Rat)=dotQ bs us*m
 | [],us,_=>by simp [dotI,dotQ,Rat.zero_mul]
 | b :: bs,[],_=>by simp [dotI,dotQ,Rat.zero_mul]
 | b :: bs,u :: us,h=>by
   have ih:=Zkx bs us fun q hq=>h q (List.mem_cons_of_mem _ hq);have e:=Zhc (h u List.mem_cons_self);unfold dotI dotQ at *;simp only [List.map_cons,List.zipWith_cons_cons,List.sum_cons];rw [Rat.intCast_add,Rat.intCast_mul,ih,e]
   grind
theorem Zbi {a b:Nat}:∀ (xs ys:List Int),(∀ x∈xs,x.natAbs<2^a)→(∀ y∈ys,y.natAbs<2^b)→(dotI xs ys).natAbs≤xs.length*2^(a+b)
 | [],ys,_,_=>by simp [dotI]
 | x :: xs,[],_,_=>by simp [dotI]
 | x :: xs,y :: ys,hx,hy=>by
   have ih:=Zbi xs ys (fun z hz=>hx z (List.mem_cons_of_mem _ hz)) fun z hz=>hy z (List.mem_cons_of_mem _ hz);have h1:=FM.natAbs_mul_lt (hx x List.mem_cons_self) (hy y List.mem_cons_self);have e:dotI (x :: xs) (y :: ys)=x*y+dotI xs ys:=rfl;rw [e,List.length_cons,Nat.add_mul,Nat.one_mul];omega
def strQ (P:Pl) (n:Int) (ms:List Rat):List Rat :=
 [dotQ (Z9 P.cs (pcOf P n)) ((Yj P n ms).take 3)/(dOf P.cs (pcOf P n):Rat),dotQ (Yc P.cs (pcOf P n)) ((Yj P n ms).drop 3)/(dOf P.cs (pcOf P n):Rat),dotQ (Yc P.cs (pcOf P n)++Z9 P.cs (pcOf P n)) (Yj P n ms)/(dOf P.cs (pcOf P n):Rat)]
def stsQ (l m:Int) (s:List Rat):List Rat:=[(l:Rat)*(s.getD 0 0+s.getD 1 0)+2*(m:Rat)*s.getD 0 0,(l:Rat)*(s.getD 0 0+s.getD 1 0)+2*(m:Rat)*s.getD 1 0,(m:Rat)*s.getD 2 0]
theorem Xb {d:Int} (h:d≠0):(d:Rat)≠0:=fun z=>h (by exact_mod_cast z)
theorem Zmw {t d m:Int} {S:Rat} (hd:d≠0) (hm:m≠0) (h:(t:Rat)=S*m):Rat.divInt t (d*m)=S/d:=by
 rw [Rat.divInt_eq_div,h,Rat.intCast_mul];have h1:=Xb hd;have h2:=Xb hm
 grind
theorem Zlj {P:Pl} {n m:Int} {ms:List Rat} (hd:dOf P.cs (pcOf P n)≠0) (hm:m≠0) (dv:∀ q∈Yj P n ms,(q.den:Int)∣m) :
 (strI (Z9 P.cs (pcOf P n)) (Yc P.cs (pcOf P n)) ((Yj P n ms).map (lev m))).map (fun t=>Rat.divInt t (dOf P.cs (pcOf P n)*m))=strQ P n ms:=by
 unfold strI strQ;simp only [List.map_cons,List.map_nil];rw [← List.map_take,← List.map_drop];rw [Zmw hd hm (Zkx _ _ fun q hq=>dv q (List.mem_of_mem_take hq)),Zmw hd hm (Zkx _ _ fun q hq=>dv q (List.mem_of_mem_drop hq)),Zmw hd hm (Zkx _ _ dv)]
theorem Zrn {l m E F G b:Int}:([l*(E+F)+2*m*E,l*(E+F)+2*m*F,m*G].map fun t=>Rat.divInt t b)=stsQ l m ([E,F,G].map fun t=>Rat.divInt t b):=by
 unfold stsQ;simp only [List.map_cons,List.map_nil,List.getD_cons_zero,List.getD_cons_succ,Rat.divInt_eq_div,Rat.intCast_add,Rat.intCast_mul];have e2:((2:Int):Rat)=2:=rfl;rw [e2];refine List.ext_getElem rfl fun i h1 h2=>?_
 match i,h1 with
 | 0,_=>simp only [List.getElem_cons_zero];grind
 | 1,_=>simp only [List.getElem_cons_zero,List.getElem_cons_succ];grind
 | 2,_=>simp only [List.getElem_cons_zero,List.getElem_cons_succ];grind
def Zlh:Sp:=Zgz
def Zhi:Sp:=fun vs H Q _=>∃ (v w:V) (P:Pl) (n:Int) (ms:List Rat),vs=[v,w,.int n]∧IsPl H v P∧PlOk P∧0≤n∧n<P.ps.length∧IsQs H w ms∧ms.length=2*P.cs.length∧(∀ q∈ms,FM.B 140 q) ∧
 ∀ (H':Hp) (r:V),Same H H'→IsQs H' r (strQ P n ms)→Q r H'
def Zhu:Sp:=fun vs H Q _=>∃ (v w:V) (P:Pl) (n:Int) (ms:List Rat),vs=[v,w,.int n]∧IsPl H v P∧PlOk P∧0≤n∧n<P.ps.length∧IsQs H w ms∧ms.length=2*P.cs.length∧(∀ q∈ms,FM.B 140 q) ∧
 ∀ (H':Hp) (r:V),Same H H'→IsQs H' r (stsQ P.l P.m (strQ P n ms))→Q r H'
theorem Zu2 {P:Pl} {n m:Int} {ms:List Rat} (ok:PlOk P) (h0:0≤n) (h1:n<P.ps.length) (hB:∀ q∈ms,FM.B 140 q) (hm:m.natAbs<2^900) (dv:∀ q∈Yj P n ms,(q.den:Int)∣m) :
 ∀ x∈strI (Z9 P.cs (pcOf P n)) (Yc P.cs (pcOf P n)) ((Yj P n ms).map (lev m)),x.natAbs<2^1100:=by
 have pk:=ok.pc _ (Z4 h0 h1);obtain ⟨b1,b2,b3⟩:=Zcs ok.nr pk.len pk.bd
 have hs:∀ y∈(Yj P n ms).map (lev m),y.natAbs<2^1040:=fun y hy=>by
  obtain ⟨q,hq,rfl⟩:=List.mem_map.mp hy;exact Zre hm (Zpq hB q hq) (dv q hq)
 have b1':∀ x∈Z9 P.cs (pcOf P n),x.natAbs<2^8:=fun x hx=>Nat.lt_of_le_of_lt (b1 x hx) (by decide);have b2':∀ x∈Yc P.cs (pcOf P n),x.natAbs<2^8:=fun x hx=>Nat.lt_of_le_of_lt (b2 x hx) (by decide)
 have key:∀ t k:Nat,t≤k*2^(8+1040)→k≤6→t<2^1100:=fun t k h hk=>by
  have:k*2^(8+1040)≤6*2^(8+1040):=Nat.mul_le_mul_right _ hk
  have h2:6*2^(8+1040)<2^1100:=by decide
  omega
 intro x hx;simp only [strI,List.mem_cons,List.not_mem_nil,or_false] at hx
 rcases hx with rfl|rfl|rfl
 · exact key _ _ (Zbi _ _ b1' fun y hy=>hs y (List.mem_of_mem_take hy)) (by simp [Z9])
 · exact key _ _ (Zbi _ _ b2' fun y hy=>hs y (List.mem_of_mem_drop hy)) (by simp [Yc])
 · exact key _ _ (Zbi _ _ (fun x hx=>(List.mem_append.mp hx).elim (b2' x) (b1' x)) hs) (by simp [Z9,Yc])
def Zli:Sp:=fun vs H Q _=>∃ (l:Addr) (ds:List Int) (k:Nat),vs=[.ref l]∧H l=some (.lst (ds.map V.int))∧(∀ x∈ds,0<x∧x.natAbs<2^k)∧k*ds.length≤3900∧k≤3900 ∧
 ∀ m:Int,0<m→(∀ x∈ds,x∣m)→m.natAbs<2^(k*ds.length+1)→(∀ c:Int,(∀ x∈ds,x∣c)→m∣c)→Q (.int m) H
def levP (m:Int) (p:Pnt):Int:=p.1*m.fdiv p.2
abbrev PB (k:Nat) (ps:List Pnt):Prop:=∀ p∈ps,(0<p.2∧p.2.natAbs<2^k)∧p.1.natAbs<2^1000
def LevQ (ps:List Pnt) (k:Nat) (H:Hp) (Q:VK):Prop:=∀ (H':Hp) (p t:Addr) (m:Int),Same H H'→H' p=some (.tup [.ref t,.int m])→H' t=some (.lst ((ps.map (levP m)).map V.int))→0<m→(∀ p∈ps,p.2∣m)→m.natAbs<2^(k*ps.length+1)→(∀ c:Int,(∀ p∈ps,p.2∣c)→m∣c)→Q (.ref p) H'
def Zob:Sp:=fun vs H Q _=>∃ (l:Addr) (us:List V) (ps:List Pnt) (k:Nat),vs=[.ref l]∧H l=some (.lst us)∧Al (IsP H) us ps∧PB k ps∧k*ps.length≤3900∧k≤3900∧ps.length≤1000∧LevQ ps k H Q
def Zmr:Sp:=fun vs H Q _=>∃ (l:Addr) (us:List V) (ps:List Pnt) (k:Nat),vs=[.ref l]∧H l=some (.tup us)∧Al (IsP H) us ps∧PB k ps∧k*ps.length≤3900∧k≤3900∧ps.length≤1000∧LevQ ps k H Q
theorem Zle {H:Hp} {us:List V} {ps:List Pnt} (al:Al (IsP H) us ps):∀ (i:Nat) (w:V),us[i]? = some w→∃ p x y,w=.ref p∧H p=some (.tup [x,y]):=fun i w e=>by
 obtain ⟨q,_,p,rfl,h⟩:=al.get e;exact ⟨p,_,_,rfl,h⟩
theorem Zqd {H:Hp} {us:List V} {ps:List Pnt} (al:Al (IsP H) us ps) {i:Nat} {p:Addr} {x y:V} (e:us[i]? = some (.ref p)) (hp:H p=some (.tup [x,y])):∃ q,ps[i]? = some q∧x=.int q.1∧y=.int q.2:=by
 obtain ⟨q,eq,p',e1,h⟩:=al.get e;cases e1
 rw [hp] at h;cases h
 exact ⟨q,eq,rfl,rfl⟩
theorem Xf {m b:Int} {k:Nat} (hb:0<b) (h:b∣m) (hm:m.natAbs<2^k):(m.fdiv b).natAbs<2^k:=by
 obtain ⟨j,rfl⟩:=h;rw [Int.mul_comm,FM.fdiv_mul (by omega)];refine Nat.lt_of_le_of_lt ?_ hm;rw [Int.natAbs_mul];exact Nat.le_mul_of_pos_left _ (by omega)
def prQ (q:Rat):Pnt:=(q.num,(q.den:Int))
theorem Zol {H:Hp} {us:List V} {qs:List Rat} (al:Al (IsQ H) us qs):Al (IsP H) us (qs.map prQ):=⟨by rw [al.1,List.length_map],fun i v p e1 e2=>by
 rw [List.getElem?_map] at e2;obtain ⟨q,eq,rfl⟩:=Option.map_eq_some_iff.mp e2;obtain ⟨a,rfl,h⟩:=al.2 i v q e1 eq;exact ⟨a,rfl,h⟩⟩
theorem Zjw (m:Int) (qs:List Rat):(qs.map prQ).map (levP m)=qs.map (lev m):=by rw [List.map_map];rfl
theorem Zoz {k:Nat} {qs:List Rat} (h:∀ q∈qs,FM.B 1000 q∧q.den<2^k):PB k (qs.map prQ):=fun p hp=>by
 obtain ⟨q,hq,rfl⟩:=List.mem_map.mp hp;exact ⟨⟨FM.den_pos q,(h q hq).2⟩,(h q hq).1.1⟩
theorem hRQs:∀ H1 H2 v x,Tk H1 H2→IsQs H1 v x→IsQs H2 v x:=fun _ _ _ _ t h=>Zw t h
abbrev Zib (H:Hp) (v:V) (ss:List (List Rat)):Prop:=IsTup' IsQs H v ss
theorem Zgk {H H':Hp} {v:V} {ss:List (List Rat)} (t:Tk H H') (h:Zib H v ss):Zib H' v ss:=IsTup'.tk (R:=IsQs) hRQs t h
def Ym (P:Pl) (ms:List Rat):List (List Rat):=(List.range P.ps.length).map fun n:Nat=>stsQ P.l P.m (strQ P n ms)
def Zaa:Sp:=fun vs H Q _=>∃ (v w:V) (P:Pl) (ms:List Rat),vs=[v,w]∧IsPl H v P∧PlOk P∧IsQs H w ms∧ms.length=2*P.cs.length∧(∀ q∈ms,FM.B 140 q)∧∀ (H':Hp) (r:V),Same H H'→Zib H' r (Ym P ms)→Q r H'
structure SOk (P:Pl) (ss:List (List Rat)):Prop where
 len:ss.length=P.ps.length
 three:∀ s∈ss,s.length=3
 bd:∀ s∈ss,∃ D:Int,(0<D∧D.natAbs<2^30)∧∀ q∈s,FM.B 170 q∧(q.den:Int)∣D
def Zdy:Sp:=fun vs H Q _=>∃ (v w:V) (P:Pl) (ss:List (List Rat)),vs=[v,w]∧IsPl H v P∧PlOk P∧Zib H w ss∧SOk P ss∧∀ H',Same H H'→Q .non H'
def Zh2:Sp:=fun vs H Q _=>∃ (v w:V) (P:Pl) (ss:List (List Rat)),vs=[v,w]∧IsPl H v P∧PlOk P∧Zib H w ss∧SOk P ss∧∀ H',Same H H'→Q (.bl true) H'
def rsum (ps:List Pnt):Rat:=(ps.map fun p=>(p.1:Rat)/(p.2:Rat)).sum
def Zln:Sp:=fun vs H Q _=>∃ (l:Addr) (us:List V) (ps:List Pnt) (k:Nat),vs=[.ref l]∧H l=some (.lst us)∧Al (IsP H) us ps∧PB k ps∧(ps.length≤100∧k*ps.length≤2840∧k≤2840)∧∀ (H':Hp) (v:V),Same H H'→IsQ H' v (rsum ps)→Q v H'
def Zdv:Sp:=fun vs H Q _=>∃ (a l:Addr) (us:List V) (ps:List Pnt) (b:Int) (k:Nat),vs=[.ref a,.ref l,.int b]∧H a=some (.lst (List.replicate ps.length (.int 1)))∧H l=some (.lst us)∧Al (IsP H) us ps∧PB k ps∧(ps.length≤100∧k*ps.length≤2840∧k≤2840)∧b≠0∧b.natAbs<2^1000∧∀ (H':Hp) (v:V),Same H H'→IsQ H' v (rsum ps/b)→Q v H'
theorem Zsv {m:Int} {p:Pnt} (h0:0<p.2) (h:p.2∣m):(levP m p:Rat)=(p.1:Rat)/(p.2:Rat)*m:=by
 obtain ⟨k,rfl⟩:=h;unfold levP;rw [Int.mul_comm p.2 k,FM.fdiv_mul (by omega),Rat.intCast_mul,Rat.intCast_mul]
 have:=Xb (show p.2≠0 by omega)
 generalize (p.1:Rat)=a at *;generalize (p.2:Rat)=b at *
 grind
theorem Zn7 {m:Int}:∀ (ps:List Pnt),(∀ p∈ps,0<p.2∧p.2∣m)→(((ps.map (levP m)).sum:Int):Rat)=rsum ps*m
 | [],_=>by simp [rsum,Rat.zero_mul]
 | p :: ps,h=>by
   have ih:=Zn7 ps fun q hq=>h q (List.mem_cons_of_mem _ hq);obtain ⟨h1,h2⟩:=h p List.mem_cons_self;have e:=Zsv h1 h2;unfold rsum at *;simp only [List.map_cons,List.sum_cons];rw [Rat.intCast_add,ih,e]
   grind
theorem Zsm {m:Int} {p:Pnt} {k:Nat} (h0:0<p.2) (h:p.2∣m) (hm:m.natAbs<2^k) (ht:p.1.natAbs<2^1000):(levP m p).natAbs<2^(1000+k):=FM.natAbs_mul_lt ht (Xf h0 h hm)
def Zok (bs cs three:List Int):List Int:=(List.zipWith (fun b c=>three.getD 0 0*b+three.getD 2 0*c) bs cs)++(List.zipWith (fun b c=>three.getD 2 0*b+three.getD 1 0*c) bs cs)
def Ziu:Sp:=fun vs H Q _=>∃ (a b c:Addr) (bs cs three:List Int),vs=[.ref a,.ref b,.ref c]∧H a=some (.lst (bs.map V.int))∧H b=some (.lst (cs.map V.int))∧H c=some (.lst (three.map V.int))∧three.length=3∧bs.length=3∧cs.length=3∧(∀ x∈bs,x.natAbs<2^5000)∧(∀ x∈cs,x.natAbs<2^5000)∧(∀ x∈three,x.natAbs<2^5000) ∧
 ∀ (H':Hp) (r:Addr),Same H H'→H' r=some (.lst ((Zok bs cs three).map V.int))→Q (.ref r) H'
def thk (P:Pl) (n:Nat):Int:=if 0<dOf P.cs (pcOf P n) then P.ts.getD n 0 else -(P.ts.getD n 0)
def xP (P:Pl) (n:Nat) (s:List Rat) (c:Nat):Rat:=(thk P n:Rat)*(s.getD 0 0*((Z9 P.cs (pcOf P n)).getD c 0:Int)+s.getD 2 0*((Yc P.cs (pcOf P n)).getD c 0:Int))/2
def yP (P:Pl) (n:Nat) (s:List Rat) (c:Nat):Rat:=(thk P n:Rat)*(s.getD 2 0*((Z9 P.cs (pcOf P n)).getD c 0:Int)+s.getD 1 0*((Yc P.cs (pcOf P n)).getD c 0:Int))/2
def pnt (P:Pl) (n:Nat) (c:Nat):Int:=(pcOf P n).getD c 0
def ctr (P:Pl) (n:Nat) (s:List Rat):List (Int×Rat):=[(2*pnt P n 0,xP P n s 0),(2*pnt P n 1,xP P n s 1),(2*pnt P n 2,xP P n s 2),(2*pnt P n 0+1,yP P n s 0),(2*pnt P n 1+1,yP P n s 1),(2*pnt P n 2+1,yP P n s 2)]
def pt' (l:List (Int×Rat)) (w:Nat):Rat:=(l.map fun e=>if e.1=(w:Int) then e.2 else 0).sum
def Fn (P:Pl) (ss:List (List Rat)):Nat→Nat→Rat
 | 0,_=>0
 | i+1,w=>Fn P ss i w+pt' (ctr P i (ss.getD i [])) w
def Y0 (P:Pl) (ss:List (List Rat)):List Rat:=(List.range (2*P.cs.length)).map (Fn P ss ss.length)
def Zak:Sp:=fun vs H Q _=>∃ (v w:V) (P:Pl) (ss:List (List Rat)),vs=[v,w]∧IsPl H v P∧PlOk P∧P.ps.length≤4∧Zib H w ss∧SOk P ss∧∀ (H':Hp) (r:V),Same H H'→IsQs H' r (Y0 P ss)→Q r H'
theorem Zsg (l:List (Int×Rat)) (e:Int×Rat) (w:Nat):pt' (l++[e]) w=pt' l w+if e.1=(w:Int) then e.2 else 0:=by
 unfold pt';rw [List.map_append,List.sum_append];simp [Rat.add_zero]
theorem Zm7 (r:List Pnt) (p:Pnt):rsum (r++[p])=rsum r+(p.1:Rat)/(p.2:Rat):=by
 unfold rsum;rw [List.map_append,List.sum_append];simp [Rat.add_zero]
theorem Zs6 (P:Pl) (n:Nat) (s:List Rat):(ctr P n s).length=6:=rfl
theorem Zu1 {P:Pl} {n:Nat} {p q r:Rat} {m:Int} (hl:(pcOf P n).length=3) (hm:m≠0) (dp:(p.den:Int)∣m) (dq:(q.den:Int)∣m) (dr:(r.den:Int)∣m) {c:Nat} {w x:Int}
 (ew:(Yx (pcOf P n))[c]? = some w) (ex:(Zok (Z9 P.cs (pcOf P n)) (Yc P.cs (pcOf P n)) [lev m p,lev m q,lev m r])[c]? = some x) :
 ∃ v,(ctr P n [p,q,r])[c]? = some (w,v)∧((thk P n*x:Int):Rat)/((2*m:Int):Rat)=v:=by
 have h2:=Xb hm;have e1:=Zhc dp;have e2:=Zhc dq;have e3:=Zhc dr
 have key:∀ (t b c a1 a2:Int) (u1 u2:Rat),(a1:Rat)=u1*m→(a2:Rat)=u2*m→((t*(a1*b+a2*c):Int):Rat)/((2*m:Int):Rat)=(t:Rat)*(u1*(b:Int)+u2*(c:Int))/2:=by
  intro t b c a1 a2 u1 u2 f1 f2;rw [Rat.intCast_mul,Rat.intCast_add,Rat.intCast_mul,Rat.intCast_mul,Rat.intCast_mul,f1,f2];have f3:((2:Int):Rat)=2:=rfl;rw [f3];generalize (m:Rat)=M at *
  grind
 have wl:∃ i j k,pcOf P n=[i,j,k]:=by
  match hp:pcOf P n,hl with
  | [i,j,k],_=>exact ⟨i,j,k,rfl⟩
 obtain ⟨i,j,k,hp⟩:=wl
 have ewl:Yx (pcOf P n)=[2*pnt P n 0,2*pnt P n 1,2*pnt P n 2,2*pnt P n 0+1,2*pnt P n 1+1,2*pnt P n 2+1]:=by
  unfold pnt;rw [hp];rfl
 rw [ewl] at ew
 match c,ew,ex with
 | 0,ew,ex=>cases ew;cases ex;exact ⟨_,rfl,key _ _ _ _ _ _ _ e1 e3⟩
 | 1,ew,ex=>cases ew;cases ex;exact ⟨_,rfl,key _ _ _ _ _ _ _ e1 e3⟩
 | 2,ew,ex=>cases ew;cases ex;exact ⟨_,rfl,key _ _ _ _ _ _ _ e1 e3⟩
 | 3,ew,ex=>cases ew;cases ex;exact ⟨_,rfl,key _ _ _ _ _ _ _ e3 e2⟩
 | 4,ew,ex=>cases ew;cases ex;exact ⟨_,rfl,key _ _ _ _ _ _ _ e3 e2⟩
 | 5,ew,ex=>cases ew;cases ex;exact ⟨_,rfl,key _ _ _ _ _ _ _ e3 e2⟩
 | (c+6),ew,ex=>simp at ew
def RowsAt (H:Hp) (as:List Addr) (F:Nat→Rat) (n:Nat):Prop:=∀ (w:Nat) (a:Addr),as[w]? = some a→∃ (us:List V) (r:List Pnt),H a=some (.lst us)∧Al (IsP H) us r∧PB 92 r∧r.length≤n∧rsum r=F w
theorem RowsAt.keep {H H':Hp} {as:List Addr} {F:Nat→Rat} {n:Nat} (h:RowsAt H as F n) (s:Same H H'):RowsAt H' as F n:=fun w a e=>let ⟨us,r,h1,h2,h3⟩:=h w a e;⟨us,r,s _ _ h1,h2.imp fun v x r=>r.tk s.tk,h3⟩
theorem Zsh {bs cs th:List Int} (hb:∀ x∈bs,x.natAbs≤200) (hc:∀ x∈cs,x.natAbs≤200) (h3:th.length=3) (ht:∀ x∈th,x.natAbs<2^300):∀ x∈Zok bs cs th,x.natAbs<2^400:=by
 match th,h3 with
 | [p,q,r],_ =>
   have key:∀ (a b c d:Int),a.natAbs<2^300→c.natAbs<2^300→b.natAbs≤200→d.natAbs≤200→(a*b+c*d).natAbs<2^400:=by
    intro a b c d ha hc hb hd;have h1:=FM.natAbs_mul_lt ha (Nat.lt_of_le_of_lt hb (show 200<2^8 by decide));have h2:=FM.natAbs_mul_lt hc (Nat.lt_of_le_of_lt hd (show 200<2^8 by decide));have h3:2^(300+8)+2^(300+8)<2^400:=by decide
    omega
   intro x hx
   rcases List.mem_append.mp hx with h|h
   · obtain ⟨i,hi,e⟩:=List.getElem_of_mem h;rw [List.length_zipWith] at hi;rw [List.getElem_zipWith] at e;rw [← e];exact key _ _ _ _ (ht p (by simp)) (ht r (by simp)) (hb _ (List.getElem_mem _)) (hc _ (List.getElem_mem _))
   · obtain ⟨i,hi,e⟩:=List.getElem_of_mem h;rw [List.length_zipWith] at hi;rw [List.getElem_zipWith] at e;rw [← e];exact key _ _ _ _ (ht r (by simp)) (ht q (by simp)) (hb _ (List.getElem_mem _)) (hc _ (List.getElem_mem _))
theorem Zoi {as:List Addr} (nd:as.Nodup) {i j:Nat} {a b:Addr} (e1:as[i]? = some a) (e2:as[j]? = some b) (ne:i≠j):a≠b:=fun z=>ne (by
 obtain ⟨h1,f1⟩:=List.getElem?_eq_some_iff.mp e1;obtain ⟨h2,f2⟩:=List.getElem?_eq_some_iff.mp e2;exact (List.getElem_inj nd).mp (by rw [f1,f2,z]))
theorem Zi1 {H:Hp} {a:Addr} {us:List V} {r:List Pnt} {ns:List Int} (h1:H a=some (.lst us)) (al:Al (IsP H) us r) (h2:H a=some (.lst (ns.map V.int))) (hn:ns≠[]):False:=by
 rw [h1] at h2;cases h2
 cases ns with
 | nil=>exact hn rfl
 | cons n ns =>
   obtain ⟨p,_,b,e,_⟩:=al.get (i:=0) (v:=.int n) rfl;cases e
theorem Zrg {H:Hp} {as:List Addr} {F:Nat→Rat} {n:Nat} {a:Addr} {ns:List Int} (h:RowsAt H as F n) (h2:H a=some (.lst (ns.map V.int))) (hn:ns≠[]):a∉as:=fun z=>by
 obtain ⟨w,hw⟩:=List.getElem?_of_mem z;obtain ⟨us,r,h1,al,_⟩:=h w a hw;exact Zi1 h1 al h2 hn
theorem Zoq {P:Pl} {n:Nat} (hl:(pcOf P n).length=3):(Yx (pcOf P n)).length=6:=by unfold Yx;simp [hl]
theorem Zll {P:Pl} {n:Nat} {th:List Int}:(Zok (Z9 P.cs (pcOf P n)) (Yc P.cs (pcOf P n)) th).length=6:=rfl
theorem Zb0 {ns:List Int} {k:Nat} (h:ns.length=k) (hk:0<k):ns≠[]:=fun z=>by subst z;simp at h;omega
def Zd7:Sp:=fun vs H Q _=>∃ (v:V) (P:Pl) (n:Int) (l:Addr) (xs:List Int),vs=[v,.int n,.ref l]∧IsPl H v P∧PlOk P∧0≤n∧n<P.ps.length∧H l=some (.lst (xs.map V.int))∧xs.length=2*P.cs.length ∧
 ∀ (H':Hp) (r:Addr),Same H H'→H' r=some (.lst (((Yx (pcOf P n)).map fun w=>xs.getD w.toNat 0).map V.int))→Q (.ref r) H'
theorem Zr3 (P:Pl) (n:Int) (ms:List Rat) (m:Int):((Yx (pcOf P n)).map fun w=>(ms.map (lev m)).getD w.toNat 0)=(Yj P n ms).map (lev m):=by
 unfold Yj;rw [List.map_map];refine List.map_congr_left fun w _=>?_;show _=lev m (ms.getD w.toNat 0)
 rw [List.getD_eq_getElem?_getD,List.getD_eq_getElem?_getD,List.getElem?_map];cases ms[w.toNat]? with
 | none=>show (0:Int)=lev m 0;unfold lev;simp
 | some q=>rfl
def abI (d:Int):Int:=if d<0 then -d else d
def stI (l m:Int) (t:List Int):List Int:=[l*(t.getD 0 0+t.getD 1 0)+2*m*t.getD 0 0,l*(t.getD 0 0+t.getD 1 0)+2*m*t.getD 1 0,m*t.getD 2 0]
def thI (P:Pl) (n:Nat) (ms:List Rat) (m:Int):List Int:=strI (Z9 P.cs (pcOf P n)) (Yc P.cs (pcOf P n)) ((Yj P n ms).map (lev m))
def wTm (P:Pl) (ms:List Rat) (m:Int) (n:Nat):Pnt:=(P.ts.getD n 0*dotI (thI P n ms m) (stI P.l P.m (thI P n ms m)),4*abI (dOf P.cs (pcOf P n)))
def dotR (a b:List Rat):Rat:=a.getD 0 0*b.getD 0 0+a.getD 1 0*b.getD 1 0+a.getD 2 0*b.getD 2 0
def wrN (P:Pl) (ms:List Rat) (n:Nat):Rat:=((P.ts.getD n 0*abI (dOf P.cs (pcOf P n)):Int):Rat)/4*dotR (strQ P n ms) (stsQ P.l P.m (strQ P n ms))
def wrQ (P:Pl) (ms:List Rat):Rat:=((List.range P.ps.length).map (wrN P ms)).sum
theorem Zux {d:Int} (h:d≠0):abI d≠0:=by unfold abI;split<;>omega
theorem Zj8 {d:Int} (h:d≠0):0<abI d:=by unfold abI;split<;>omega
theorem Zeg (d:Int):(abI d).natAbs=d.natAbs:=by unfold abI;split<;>omega
theorem Zvg (d:Int):((abI d:Int):Rat)*(abI d:Int)=(d:Rat)*d:=by
 unfold abI;split
 · rw [Rat.intCast_neg];grind
 · rfl
theorem Zvz (a b c x y z:Int):dotI [a,b,c] [x,y,z]=a*x+b*y+c*z:=by
 simp [dotI,Int.add_assoc]
theorem Zq0 {P:Pl} {ms:List Rat} {m:Int} {n:Nat} (hd:dOf P.cs (pcOf P n)≠0) (hm:m≠0) (dv:∀ q∈Yj P n ms,(q.den:Int)∣m) :
 ((wTm P ms m n).1:Rat)/((wTm P ms m n).2:Rat)=wrN P ms n*((m:Rat)*m):=by
 have hs:=Zlj hd hm dv;unfold wrN;rw [← hs];unfold wTm thI strI;generalize dotI (Z9 P.cs (pcOf P n)) (((Yj P n ms).map (lev m)).take 3)=E;generalize dotI (Yc P.cs (pcOf P n)) (((Yj P n ms).map (lev m)).drop 3)=F;generalize dotI (Yc P.cs (pcOf P n)++Z9 P.cs (pcOf P n)) ((Yj P n ms).map (lev m))=G;generalize P.ts.getD n 0=t;have hA:=Xb (Zux hd);have hsq:=Zvg (dOf P.cs (pcOf P n));have hD:=Xb hd;have hM:=Xb hm;have e1:stI P.l P.m [E,F,G]=[P.l*(E+F)+2*P.m*E,P.l*(E+F)+2*P.m*F,P.m*G]:=rfl;have e2:∀ b:Int,dotR ([E,F,G].map fun t=>Rat.divInt t b) (stsQ P.l P.m ([E,F,G].map fun t=>Rat.divInt t b))=Rat.divInt E b*((P.l:Rat)*(Rat.divInt E b+Rat.divInt F b)+2*(P.m:Rat)*Rat.divInt E b)+Rat.divInt F b*((P.l:Rat)*(Rat.divInt E b+Rat.divInt F b)+2*(P.m:Rat)*Rat.divInt F b)+Rat.divInt G b*((P.m:Rat)*Rat.divInt G b):=fun b=>rfl;rw [e1,Zvz,e2];simp only [Rat.divInt_eq_div,Rat.intCast_mul,Rat.intCast_add];have f2:((2:Int):Rat)=2:=rfl;have f4:((4:Int):Rat)=4:=rfl;rw [f2,f4];generalize ((abI (dOf P.cs (pcOf P n)):Int):Rat)=A at *;generalize ((dOf P.cs (pcOf P n):Int):Rat)=D at *;generalize (m:Rat)=M at *;generalize (E:Rat)=e at *;generalize (F:Rat)=f at *;generalize (G:Rat)=g at *;generalize (P.l:Rat)=l at *;generalize (P.m:Rat)=k at *;generalize (t:Rat)=t at *
 have key:∀ X:Rat,t*X/(4*A)=t*A/4*(X/(D*D)):=fun X=>by
  rw [← hsq];grind
 rw [key]
 grind
theorem Zon {P:Pl} {ms:List Rat} {m:Int} (hd:∀ n:Nat,n<P.ps.length→dOf P.cs (pcOf P n)≠0) (hm:m≠0) (dv:∀ q∈ms,(q.den:Int)∣m):∀ k:Nat,k≤P.ps.length→rsum ((List.range k).map (wTm P ms m))=((List.range k).map (wrN P ms)).sum*((m:Rat)*m)
 | 0,_=>by simp [rsum,Rat.zero_mul]
 | k+1,h=>by
   have ih:=Zon hd hm dv k (by omega)
   have dv6:∀ q∈Yj P k ms,(q.den:Int)∣m:=fun q hq=>by
    obtain ⟨w,_,rfl⟩:=List.mem_map.mp hq;rw [List.getD_eq_getElem?_getD];cases e:ms[w.toNat]? with
    | none=>show ((0:Rat).den:Int)∣m;exact Int.one_dvd m
    | some q=>exact dv q (List.mem_of_getElem? e)
   have e:=Zq0 (hd k (by omega)) hm dv6;unfold rsum at *;rw [List.range_succ,List.map_append,List.map_append,List.map_append,List.sum_append,List.sum_append,ih];simp only [List.map_cons,List.map_nil,List.sum_cons,List.sum_nil,Rat.add_zero];rw [e]
   grind
def Za6:Sp:=fun vs H Q _=>∃ (v w:V) (P:Pl) (ms:List Rat),vs=[v,w]∧IsPl H v P∧PlOk P∧P.cs.length≤6∧IsQs H w ms∧ms.length=2*P.cs.length∧(∀ q∈ms,FM.B 140 q∧(q.den:Int)∣3600)∧∀ (H':Hp) (r:V),Same H H'→IsQ H' r (wrQ P ms)→Q r H'
theorem Zj2 {bs cs six:List Int} {k:Nat} (lb:bs.length=3) (lc:cs.length=3) (hb:∀ x∈bs,x.natAbs≤200) (hc:∀ x∈cs,x.natAbs≤200) (h6:∀ x∈six,x.natAbs<2^k):∀ x∈strI bs cs six,x.natAbs<2^(k+11):=by
 have b1:∀ x∈bs,x.natAbs<2^8:=fun x hx=>Nat.lt_of_le_of_lt (hb x hx) (by decide);have b2:∀ x∈cs,x.natAbs<2^8:=fun x hx=>Nat.lt_of_le_of_lt (hc x hx) (by decide);have h1:=Zbi bs (six.take 3) b1 fun y hy=>h6 y (List.mem_of_mem_take hy);have h2:=Zbi cs (six.drop 3) b2 fun y hy=>h6 y (List.mem_of_mem_drop hy);have h3:=Zbi (cs++bs) six (fun x hx=>(List.mem_append.mp hx).elim (b2 x) (b1 x)) h6;rw [lb] at h1;rw [lc] at h2;rw [List.length_append,lb,lc] at h3;have e:2^(k+11)=8*2^(8+k):=by rw [Nat.add_comm 8 k,Nat.pow_add,Nat.pow_add];omega
 have pp:0<2^(8+k):=Nat.two_pow_pos _;intro x hx;simp only [strI,List.mem_cons,List.not_mem_nil,or_false] at hx
 rcases hx with rfl|rfl|rfl<;>omega
theorem Zlq {l m:Int} {t:List Int} {k:Nat} (hl:0≤l∧l≤9) (hm:1≤m∧m≤9) (h:∀ i,(t.getD i 0).natAbs<2^k):∀ x∈stI l m t,x.natAbs<2^(k+6):=by
 have h0:=h 0;have h1:=h 1;have h2:=h 2;unfold stI;generalize t.getD 0 0=E at *;generalize t.getD 1 0=F at *;generalize t.getD 2 0=G at *;have e:2^(k+6)=64*2^k:=by rw [Nat.pow_add];omega
 generalize 2^k=N at *
 have m1:∀ (a x:Int) (c j:Nat),a.natAbs≤c→x.natAbs≤j→(a*x).natAbs≤c*j:=fun a x c j h1 hx=>by
  rw [Int.natAbs_mul];exact Nat.mul_le_mul h1 hx
 have a1:=m1 l (E+F) 9 (2*N) (by omega) (by omega);have a2:=m1 (2*m) E 18 N (by omega) (by omega);have a3:=m1 (2*m) F 18 N (by omega) (by omega);have a4:=m1 m G 9 N (by omega) (by omega);intro x hx;simp only [List.mem_cons,List.not_mem_nil,or_false] at hx
 rcases hx with rfl|rfl|rfl<;>omega
theorem Zgd {xs:List Int} {k:Nat} (h:∀ x∈xs,x.natAbs<2^k) (i:Nat):(xs.getD i 0).natAbs<2^k:=by
 rw [List.getD_eq_getElem?_getD];cases e:xs[i]? with
 | none=>exact Nat.two_pow_pos _
 | some x=>exact h x (List.mem_of_getElem? e)
theorem Zom {P:Pl} {n:Int} {ms:List Rat} {m:Int} {j k:Nat} (hm:m.natAbs<2^k) (mp:0<m) (hB:∀ q∈ms,FM.B j q∧(q.den:Int)∣m):∀ x∈(Yj P n ms).map (lev m),x.natAbs<2^(j+k):=fun x hx=>by
 obtain ⟨q,hq,rfl⟩:=List.mem_map.mp hx;obtain ⟨w,_,rfl⟩:=List.mem_map.mp hq;rw [List.getD_eq_getElem?_getD];cases e:ms[w.toNat]? with
 | none=>show (lev m 0).natAbs<_;rw [show lev m 0=0 by unfold lev;simp];exact Nat.two_pow_pos _
 | some q =>
   obtain ⟨h1,h2⟩:=hB q (List.mem_of_getElem? e);exact FM.natAbs_mul_lt h1.1 (Xf (FM.den_pos q) h2 hm)
theorem Zl4 {P:Pl} (ok:PlOk P) {i:Nat} (h:i<P.ps.length):P.ts[i]? = some (P.ts.getD i 0)∧1≤P.ts.getD i 0∧P.ts.getD i 0≤9:=by
 have h1:i<P.ts.length:=by rw [ok.t1];exact h
 have e:P.ts[i]? = some (P.ts.getD i 0):=by rw [List.getD_eq_getElem?_getD,List.getElem?_eq_getElem h1];rfl
 exact ⟨e,ok.t9 _ (List.mem_of_getElem? e)⟩
theorem Zif {α β:Type} (f:α→β):∀ (l:List α) (i:Nat),(l.map f).eraseIdx i=(l.eraseIdx i).map f
 | [],i=>by cases i<;>rfl
 | x :: l,0=>rfl
 | x :: l,i+1=>by simp only [List.map_cons,List.eraseIdx_cons_succ,Zif f l i]
theorem Zf1 {α:Type}:∀ (l:List α) (i:Nat) (h:i<l.length),(l[i] :: l.eraseIdx i).Perm l
 | [],i,h=>by simp at h
 | x :: l,0,h=>.refl _
 | x :: l,i+1,h=>by
   simp only [List.eraseIdx_cons_succ,List.getElem_cons_succ];exact (List.Perm.swap x _ _).trans ((Zf1 l i (by simpa using h)).cons x)
theorem Zvx {α:Type} {R:V→α→Prop} {vs:List V} {xs:List α} {v:V} {x:α} (h:Al R vs xs) (j:Nat) (r:R v x):Al R (vs.set j v) (xs.set j x):=by
 refine ⟨by simp [h.1],fun i w y e1 e2=>?_⟩;rw [List.getElem?_set] at e1 e2
 by_cases hi:j=i
 · subst hi;rw [if_pos rfl] at e1 e2;split at e1
   · split at e2
     · cases e1;cases e2;exact r
     · cases e2
   · cases e1
 · rw [if_neg hi] at e1 e2;exact h.2 i w y e1 e2
theorem Zo2 {S:V→List Int→Prop} {T:List Int→List Int→Prop}:∀ {vs:List V} {ps:List (List Int)},Al (fun v p=>∃ r,S v r∧T r p) vs ps→∃ kl:List (List Int),kl.length=ps.length∧Al S vs kl∧∀ i:Nat,i<ps.length→T (kl.getD i []) (ps.getD i [])
 | [],[],_=>⟨[],rfl,.nil,fun i hi=>by simp at hi⟩
 | [],p :: ps,h=>by have:=h.1;simp at this
 | v :: vs,[],h=>by have:=h.1;simp at this
 | v :: vs,p :: ps,h=>by
   obtain ⟨r,s,t⟩:=h.2 0 v p rfl rfl;obtain ⟨kl,l,a,k⟩:=Zo2 (vs:=vs) (ps:=ps) ⟨by have:=h.1;simpa using this,fun i w x e1 e2=>h.2 (i+1) w x (by simpa using e1) (by simpa using e2)⟩;refine ⟨r :: kl,by simp [l],.cons s a,fun i hi=>?_⟩;cases i with
   | zero=>exact t
   | succ i=>simpa using k i (by simpa using hi)
theorem Zrf {n:Nat} {k:Int} (h0:0≤k) (h1:k<n):ixN n k=some k.toNat:=by
 unfold ixN;rw [if_pos h0,if_pos (by omega)]
theorem seqI {n:Nat} {k:Int} (h0:0≤k) (h1:k<n):seqIndex? k n=some k.toNat:=(Zi4 (Zrf h0 h1)).1
theorem tkS {H H':Hp} {l:Addr} (k:Keep l H H') (s:StAt H l):Tk H H':=by
 obtain ⟨a,b,c,e,_⟩:=s;exact Tk.of_keep k e
theorem StAt.neN {H:Hp} {l p:Addr} (s:StAt H l) (h:H p=none):p≠l:=fun z=>s.ne h z.symm
theorem Zj0 {J:It} {n:Nat} {l D:Addr} {g:TG} {te:TE} {σ0:L2.St} {H:Hp} {Q:VK} {α:Type} (R:Hp→V→α→Prop) (hR:∀ H1 H2 v x,Tk H1 H2→R H1 v x→R H2 v x) (hz:n≤1000) (ok:L2.St→Prop) (h0:ok σ0) (hD:H D=none) (hl:StAt H l)
 (hgo:∀ i H2,Keep l H H2→i<n→J.go i H2) (hstop:∀ H2,Keep l H H2→J.stop n H2)
 (hs:∀ i x σ2 H2 H3 (C:L2.St→V→Hp→Prop),i<n→Keep l H H2→StAt H2 l→J.yld i H2 x H3→ok σ2→(∀ σ4 y H5 z,ok σ4→Keep l H2 H5→StAt H5 l→R H5 y z→C σ4 y H5)→g x σ2 H3 fun σ4 H4=>te σ4 H4 (C σ4))
 (hd:∀ H2 vs ys,Keep l H H2→StAt H2 l→H2 D=some (.lst vs)→ys.length=n→Al (R H2) vs ys→Q (.ref D) H2):LcGo J g tYes te σ0 H D Q:=by
 have neD:D≠l:=hl.neN hD;refine Zlc (n:=n) (fun i σ H2=>Keep l H H2∧StAt H2 l∧ok σ∧∃ vs ys,ys.length=i∧H2 D=some (.lst vs)∧Al (R H2) vs ys) ⟨Keep.new hD,hl.new hD,h0,[],[],rfl,Zj,.nil⟩ (fun i σ H2 hi p=>hgo i H2 p.1 hi) (fun σ H2 p=>hstop H2 p.1) (fun i x σ2 H2 H3 hi y p=>?_) (fun σ2 H2 p=>?_)
 · obtain ⟨s2,l2,o2,vs,ys,hy,e2,a2⟩:=p;refine hs i x σ2 H2 H3 (fun σ4 y H6=>∃ ys,H6 D=some (.lst ys)∧ys.length<sizeLine∧∃ m',m'<n-i∧LcN n (fun i σ H2=>Keep l H H2∧StAt H2 l∧ok σ∧∃ vs ys,ys.length=i∧H2 D=some (.lst vs)∧Al (R H2) vs ys) (i+1) m' σ4 (upd H6 D (.lst (ys++[y])))) hi s2 l2 y o2 ?_;intro σ4 v H5 z o4 s5 l5 rz;have e5:H5 D=some (.lst vs):=s5 _ _ neD e2;have tk:Tk H5 (upd H5 D (.lst (vs++[v]))):=Tk.upd_lst e5;refine ⟨vs,e5,?_,n-(i+1),by omega,by omega,rfl,fun b o nb e=>?_,?_,o4,vs++[v],ys++[z],by simp [hy],Zj,?_⟩
   · rw [a2.1,sizeLine_eq];omega
   · rw [Zr (Zo e hD)];exact s5 _ _ nb (s2 _ _ nb e)
   · obtain ⟨a,b,c,e,r⟩:=l5;exact ⟨a,b,c,by rw [Zr neD.symm];exact e,r⟩
   · exact (a2.imp fun v x r=>hR _ _ v x tk (hR _ _ v x (tkS s5 l2) r)).snoc (hR _ _ _ _ tk rz)
 · obtain ⟨s2,l2,_,vs,ys,hy,e2,a2⟩:=p;exact hd H2 vs ys s2 l2 e2 hy a2
def Zlf:Sp:=fun vs H Q _=>∃ (l:Addr) (n:Nat),vs=[.ref l,.int n]∧StAt H l∧n≤60∧∀ (H':Hp) (r:Addr) (o:List Int),Keep l H H'→StAt H' l→H r=none→H' r=some (.lst (o.map V.int))→o.Perm ((List.range n).map fun i:Nat=>(i:Int))→Q (.ref r) H'
def Zh7:Sp:=fun vs H Q _=>vs=[]∧∀ (H':Hp) (r:Addr) (us:List V),Same H H'→H r=none→H' r=some (.lst us)→Al (IsSh H') us Zd6→Q (.ref r) H'
def Zld:Sp:=fun vs H Q _=>∃ l:Addr,vs=[.ref l,.int 8]∧StAt H l∧∀ (H':Hp) (v:V) (P:Pl),Keep l H H'→StAt H' l→IsPl H' v P→PlOk P→P.ps.length≤4→P.cs.length≤6→Q v H'
def Zoh:Sp:=fun vs H Q _=>∃ (l:Addr) (n:Nat),vs=[.ref l,.int n]∧StAt H l∧n≤1000∧∀ (H':Hp) (v:V) (ms:List Rat),Keep l H H'→StAt H' l→IsQs H' v ms→ms.length=n→(∀ q∈ms,FM.B 60 q)→(∀ q∈ms,q.den∣60)→Q v H'
def Zhv (n:Nat):Sp:=fun vs H Q _=>∃ l:Addr,vs=[.ref l]∧StAt H l∧∀ (H':Hp) (p:Addr) (q:Rat),Keep l H H'→StAt H' l→H' p=some (.tup (rt q))→FM.B n q∧q.den∣60→Q (.ref p) H'
theorem Zi8 (t:Int) {b:Int} (h:b≠0):((Rat.divInt t b).den:Int)∣b:=by
 rw [← FM.fdiv_den h]
 have hs:FM.sg t b∣b:=by
  unfold FM.sg;split
  · exact Int.neg_dvd.mpr (Int.gcd_dvd_right t b)
  · exact Int.gcd_dvd_right t b
 obtain ⟨k,hk⟩:=hs
 have e:b.fdiv (FM.sg t b)=k:=by
  have h0:=FM.sg_ne (t:=t) h;generalize FM.sg t b=g at *;rw [hk,Int.mul_comm];exact FM.fdiv_mul h0
 rw [e];exact ⟨_,by rw [Int.mul_comm];exact hk⟩
theorem Zti (t:Int) {b:Int} (h1:1≤b) (h6:b≤6):(Rat.divInt t b).den∣60:=by
 have h:=Zi8 t (show b≠0 by omega)
 have h2:b∣60:=by
  have:b=1∨b=2∨b=3∨b=4∨b=5∨b=6:=by omega
  rcases this with rfl|rfl|rfl|rfl|rfl|rfl<;>decide
 exact_mod_cast Int.dvd_trans h h2
theorem Zp4 {H:Hp} {us:List V} (al:Al (IsSh H) us Zd6) {r:Int} (h0:0≤r) (h1:r<8):∃ (v:V) (s:List Pnt×List (List Int)),atI us r=some v∧IsSh H v s∧s∈Zd6:=by
 obtain ⟨k,rfl⟩:∃ k:Nat,r=k:=⟨r.toNat,by omega⟩;have hk:k<Zd6.length:=by show k<8;omega
 obtain ⟨v,ev,rv⟩:=al.got (List.getElem?_eq_getElem hk);exact ⟨v,_,X2 ev,rv,List.getElem_mem hk⟩
theorem Zrq {α:Type} {R:V→α→Prop} {v:V} {x:α} (r:R v x):∀ n:Nat,Al R (List.replicate n v) (List.replicate n x)
 | 0=>.nil
 | n+1=>by rw [List.replicate_succ,List.replicate_succ];exact .cons r (Zrq r n)
theorem mul4 {a b:Int} (ha:a.natAbs≤1000) (hb:b.natAbs≤1000):CMulB a b:=mul3 ha hb
theorem o_at {o:List Int} {n:Nat} (O:CoOrd n o) {i:Int} (h0:0≤i) (h1:i<n):atI (o.map V.int) i=some (.int (oAt o i)):=by
 obtain ⟨k,rfl⟩:∃ k:Nat,i=k:=⟨i.toNat,by omega⟩;have hk:k<o.length:=by rw [O.len];omega
 refine X2 ?_;rw [List.getElem?_map,List.getElem?_eq_getElem hk];unfold oAt;simp [List.getD_eq_getElem?_getD,hk]
theorem Zp6 {p:Pnt} (h:p.1.natAbs≤6∧p.2.natAbs≤6):p.1.natAbs≤1000∧p.2.natAbs≤1000:=⟨by omega,by omega⟩
theorem Zwb {H:Hp} {vs:List V} {kl:List (List Int)} (al:Al (IsI H) vs kl) {q:List Nat} (hq:∀ i∈q,i<kl.length):Al (IsI H) (q.map fun i=>vs.getD i .non) (q.map fun i=>kl.getD i []):=by
 refine ⟨by simp,fun n v r e1 e2=>?_⟩;rw [List.getElem?_map] at e1 e2;obtain ⟨i,ei,rfl⟩:=Option.map_eq_some_iff.mp e1;rw [ei] at e2;cases e2
 have hi:=hq i (List.mem_of_getElem? ei);have hv:i<vs.length:=by rw [al.1];exact hi
 have:=al.2 i vs[i] kl[i] (List.getElem?_eq_getElem hv) (List.getElem?_eq_getElem hi)
 show IsI H (vs.getD i .non) (kl.getD i [])
 rw [List.getD_eq_getElem?_getD,List.getD_eq_getElem?_getD,List.getElem?_eq_getElem hv,List.getElem?_eq_getElem hi];exact this
theorem Zvu (l:Int):rt (l:Rat)=[.int l,.int 1]:=by
 unfold rt;rfl
theorem Zwe {l:Int} (h:l.natAbs≤18):FM.B 5 (l:Rat):=⟨Nat.lt_of_le_of_lt (show (l:Rat).num.natAbs≤18 from h) (by decide),by show 1<2^5;decide⟩
def Zkl (K:PySem.W.Frag):Sp:=fun vs H Q _=>∃ (a:Addr) (ns:List Int),vs=[.ref a]∧SqL K H a (ns.map V.int)∧ns.length≤63∧∀ H',Q (.bl true) H'
theorem Zwa {X:Cx}:EqT X 1 IsQ:=by
 intro A pins σ H s v u a b x y hu I h1 h2 r1 r2;obtain ⟨p,rfl,e1⟩:=h1;obtain ⟨q,rfl,e2⟩:=h2;have h:=Zr7 (X:=X) Zr0 (fun H v x y (h1:v=.int x) (h2:v=.int y)=>by rw [h1] at h2;cases h2;rfl) A pins σ H s (.ref p) (.ref q) a b [x.num,(x.den:Int)] [y.num,(y.den:Int)] hu I ⟨p,_,rfl,e1,Al.of_ints [x.num,(x.den:Int)]⟩ ⟨q,_,rfl,e2,Al.of_ints [y.num,(y.den:Int)]⟩ r1 r2;rw [Zuk] at h;exact h
theorem Zu0 {A:Around} {k:Nat} (hr:Room k A):A.units+1+1<cLine:=Nat.lt_of_le_of_lt (Nat.add_le_add_left (by decide:2≤64) _) hr.units
theorem Zsx {H:Hp} {P:Pl} {vs:List V} {ss:List (List Rat)} (hl:ss.length=P.ps.length) (al:Al (fun v (s:List Rat)=>IsQs H v s∧s.length=3∧(∀ q∈s,FM.B 60 q)∧∀ q∈s,q.den∣60) vs ss):SOk P ss∧∀ s∈ss,s.length=3∧(∀ q∈s,FM.B 60 q)∧∀ q∈s,q.den∣60:=by
 have key:∀ s∈ss,s.length=3∧(∀ q∈s,FM.B 60 q)∧∀ q∈s,q.den∣60:=fun s hs=>by
  obtain ⟨i,hi,e⟩:=List.getElem_of_mem hs;obtain ⟨v,_,r⟩:=al.got (show ss[i]? = some s by rw [List.getElem?_eq_getElem hi,e]);exact r.2
 refine ⟨⟨hl,fun s hs=>(key s hs).1,fun s hs=>⟨60,⟨by decide,by decide⟩,fun q hq=>⟨((key s hs).2.1 q hq).mono (by decide),?_⟩⟩⟩,key⟩
 exact_mod_cast (key s hs).2.2 q hq
def Fz (M:Int) (j:Nat) (q:Rat):Prop:=∃ z:Int,q*(M:Rat)=(z:Rat)∧z.natAbs<2^j
section
variable {M:Int} {j k:Nat} {p q:Rat}
theorem Fz.div (hM:M≠0) (h:Fz M j q):∃ z:Int,q=Rat.divInt z M∧z.natAbs<2^j:=by
 obtain ⟨z,e,hz⟩:=h;refine ⟨z,?_,hz⟩
 have:=Xb hM
 rw [Rat.divInt_eq_div,← e]
 grind
theorem Fz.B (hM:M≠0) (hk:M.natAbs<2^k) (hj:j≤k) (h:Fz M j q):FM.B k q:=by
 obtain ⟨z,rfl,hz⟩:=h.div hM;exact FM.B_divInt hM (up k hz hj) hk
theorem Fz.den (hM:M≠0) (h:Fz M j q):(q.den:Int)∣M:=by
 obtain ⟨z,rfl,_⟩:=h.div hM;exact Zi8 z hM
theorem Fz.mono (h:Fz M j q) (l:j≤k):Fz M k q:=let ⟨z,e,hz⟩:=h;⟨z,e,up k hz l⟩
theorem Fz.add (h1:Fz M j p) (h2:Fz M j q):Fz M (j+1) (p+q):=by
 obtain ⟨y,e1,h1⟩:=h1;obtain ⟨z,e2,h2⟩:=h2;refine ⟨y+z,by rw [Rat.intCast_add,← e1,← e2,Rat.add_mul],?_⟩;rw [Nat.pow_succ];omega
theorem Fz.mul {c:Int} {d:Nat} (hc:c.natAbs<2^d) (h:Fz M j q):Fz M (d+j) ((c:Rat)*q):=by
 obtain ⟨z,e,hz⟩:=h;exact ⟨c*z,by rw [Rat.intCast_mul,← e,Rat.mul_assoc],FM.natAbs_mul_lt hc hz⟩
theorem Fz.scale {D:Int} {d:Nat} (hD:D.natAbs<2^d) (h:Fz M j q):Fz (M*D) (j+d) q:=by
 obtain ⟨z,e,hz⟩:=h;exact ⟨z*D,by rw [Rat.intCast_mul,Rat.intCast_mul,← e,Rat.mul_assoc],FM.natAbs_mul_lt hz hD⟩
theorem Fz.zero:Fz M j 0:=⟨0,by rw [Rat.zero_mul];rfl,Nat.two_pow_pos _⟩
theorem Fz.of {a b:Nat} (hd:(q.den:Int)∣M) (hq:FM.B a q) (hM:M.natAbs<2^b):Fz M (a+b) q:=⟨lev M q,(Zhc hd).symm,FM.natAbs_mul_lt hq.1 (Xf (FM.den_pos q) hd hM)⟩
theorem Fz.sum:∀ qs:List Rat,(∀ q∈qs,Fz M j q)→Fz M (j+qs.length) qs.sum
 | [],_=>Fz.zero
 | q :: qs,h=>by
   rw [List.sum_cons];exact ((h q List.mem_cons_self).mono (Nat.le_add_right _ _)).add (Fz.sum qs fun x hx=>h x (List.mem_cons_of_mem _ hx))
end
def Zm1:Sp:=fun vs H Q _=>∃ (a:Addr) (us:List V) (qs:List Rat) (M:Int) (j:Nat),vs=[.ref a]∧H a=some (.lst us)∧Al (IsQ H) us qs∧M≠0∧M.natAbs<2^1900∧(∀ q∈qs,Fz M j q)∧j+qs.length≤1900∧∀ (H':Hp) (v:V),Same H H'→IsQ H' v qs.sum→Q v H'
theorem Zpn {qs:List Rat} {i:Nat} {g:Rat} (e:qs[i]? = some g):(qs.take (i+1)).sum=(qs.take i).sum+g:=by
 rw [List.take_succ,e,List.sum_append];show _+(g+0)=_
 rw [Rat.add_zero]
theorem len3 {α:Type} {p:List α} (h:p.length=3):∃ i j k,p=[i,j,k]:=by
 match p,h with
 | [i,j,k],_=>exact ⟨i,j,k,rfl⟩
theorem Zql {α:Type} (l:List α) {f:α→Rat} (h:∀ x∈l,f x=0):(l.map f).sum=0:=by
 induction l with
 | nil=>rfl
 | cons a l ih=>rw [List.map_cons,List.sum_cons,h a List.mem_cons_self,ih fun x hx=>h x (List.mem_cons_of_mem _ hx),Rat.add_zero]
theorem X7 {α:Type} (l:List α) (f g:α→Rat):(l.map fun c=>f c+g c).sum=(l.map f).sum+(l.map g).sum:=by
 induction l with
 | nil=>exact (Rat.add_zero _).symm
 | cons a l ih=>simp only [List.map_cons,List.sum_cons,ih];grind
theorem Zk8 (A:Nat→Rat) (i:Int) (x:Rat):∀ N:Nat,((List.range N).map fun c=>A c*(if i=(c:Int) then x else 0)).sum=if 0≤i∧i<N then A i.toNat*x else 0
 | 0=>by rw [if_neg (by omega)];rfl
 | N+1=>by
   rw [List.range_succ,List.map_append,List.sum_append,Zk8 A i x N];simp only [List.map_cons,List.map_nil,List.sum_cons,List.sum_nil,Rat.add_zero]
   by_cases h:i=(N:Int)
   · subst h;rw [if_neg (by omega),if_pos rfl,if_pos (by omega),Rat.zero_add,Int.toNat_natCast]
   · rw [if_neg h,Rat.mul_zero,Rat.add_zero]
     by_cases h2:0≤i∧i<N
     · rw [if_pos h2,if_pos (by omega)]
     · rw [if_neg h2,if_neg (by omega)]
theorem Ztn (P:Pl) (n:Nat) (s:List Rat) (c:Nat):pt' (ctr P n s) (2*c)=(if pnt P n 0=(c:Int) then xP P n s 0 else 0)+((if pnt P n 1=(c:Int) then xP P n s 1 else 0)+(if pnt P n 2=(c:Int) then xP P n s 2 else 0)):=by
 have e:∀ i:Int,(2*i=((2*c:Nat):Int))=(i=(c:Int)):=fun i=>propext ⟨fun h=>by omega,fun h=>by omega⟩;have o:∀ i:Int,(2*i+1=((2*c:Nat):Int))=False:=fun i=>propext ⟨fun h=>by omega,False.elim⟩;unfold pt' ctr;simp only [List.map_cons,List.map_nil,List.sum_cons,List.sum_nil,e,o,if_false,Rat.add_zero]
theorem Ztt (P:Pl) (n:Nat) (s:List Rat) (c:Nat):pt' (ctr P n s) (2*c+1)=(if pnt P n 0=(c:Int) then yP P n s 0 else 0)+((if pnt P n 1=(c:Int) then yP P n s 1 else 0)+(if pnt P n 2=(c:Int) then yP P n s 2 else 0)):=by
 have e:∀ i:Int,(2*i+1=((2*c+1:Nat):Int))=(i=(c:Int)):=fun i=>propext ⟨fun h=>by omega,fun h=>by omega⟩;have o:∀ i:Int,(2*i=((2*c+1:Nat):Int))=False:=fun i=>propext ⟨fun h=>by omega,False.elim⟩;unfold pt' ctr;simp only [List.map_cons,List.map_nil,List.sum_cons,List.sum_nil,e,o,if_false,Rat.add_zero,Rat.zero_add]
theorem Zu4 {P:Pl} {n:Nat} {s:List Rat} (A B:Nat→Rat) (ok:PieceOk P.cs (pcOf P n)):((List.range P.cs.length).map fun c=>A c*pt' (ctr P n s) (2*c)+B c*pt' (ctr P n s) (2*c+1)).sum =
 (A (pnt P n 0).toNat*xP P n s 0+(A (pnt P n 1).toNat*xP P n s 1+A (pnt P n 2).toNat*xP P n s 2))+(B (pnt P n 0).toNat*yP P n s 0+(B (pnt P n 1).toNat*yP P n s 1+B (pnt P n 2).toNat*yP P n s 2)):=by
 simp only [Ztn,Ztt,Rat.mul_add];simp only [X7,Zk8];obtain ⟨i,j,k,e⟩:=len3 ok.len;have b0:=ok.bd i (by rw [e];simp);have b1:=ok.bd j (by rw [e];simp);have b2:=ok.bd k (by rw [e];simp);have e0:pnt P n 0=i:=by unfold pnt;rw [e];rfl
 have e1:pnt P n 1=j:=by unfold pnt;rw [e];rfl
 have e2:pnt P n 2=k:=by unfold pnt;rw [e];rfl
 rw [e0,e1,e2,if_pos (by omega),if_pos (by omega),if_pos (by omega),if_pos (by omega),if_pos (by omega),if_pos (by omega)]
theorem Zro {P:Pl} {ss:List (List Rat)} {w:Nat} (h:w<2*P.cs.length):(Y0 P ss).getD w 0=Fn P ss ss.length w:=by
 unfold Y0;rw [List.getD_eq_getElem?_getD,List.getElem?_map,List.getElem?_range h];rfl
theorem Zvs {D:Int} (h0:0<D) (hD:D.natAbs<2^30) {t b c:Int} (ht:t.natAbs≤9) (hb:b.natAbs≤200) (hc:c.natAbs≤200) {p r:Rat} (hp:FM.B 170 p∧(p.den:Int)∣D) (hr:FM.B 170 r∧(r.den:Int)∣D):Fz (2*D) 213 ((t:Rat)*(p*((b:Int):Rat)+r*((c:Int):Rat))/2):=by
 have h1:=(Fz.of hp.2 hp.1 hD).mul (c:=b) (d:=8) (Nat.lt_of_le_of_lt hb (by decide));have h2:=(Fz.of hr.2 hr.1 hD).mul (c:=c) (d:=8) (Nat.lt_of_le_of_lt hc (by decide));obtain ⟨z,e,hz⟩:=(h1.add h2).mul (c:=t) (d:=4) (Nat.lt_of_le_of_lt ht (by decide));refine ⟨z,?_,hz⟩;rw [← e,Rat.intCast_mul];have f:((2:Int):Rat)=2:=rfl;rw [f]
 grind
theorem Zvt {P:Pl} {ss:List (List Rat)} (ok:PlOk P) (sok:SOk P ss):∀ i,i≤ss.length→∃ M:Int,M≠0∧M.natAbs<2^(31*i+1)∧∀ w,Fz M (220+32*i) (Fn P ss i w)
 | 0,_=>⟨1,by decide,by decide,fun w=>Fz.zero⟩
 | i+1,h=>by
   obtain ⟨M,m0,m1,hM⟩:=Zvt ok sok i (by omega);have sl:=sok.len;have es:ss.getD i []=ss[i]:=by rw [List.getD_eq_getElem?_getD,List.getElem?_eq_getElem h];rfl
   have sm:ss[i]∈ss:=List.getElem_mem h;obtain ⟨D,⟨D0,D1⟩,hD⟩:=sok.bd _ sm;have s3:=sok.three _ sm;have pk:=ok.pc _ (Z4 (P:=P) (n:=i) (by omega) (by omega));obtain ⟨c1,c2,c3⟩:=Zcs ok.nr pk.len pk.bd;obtain ⟨_,t1,t9⟩:=Zl4 ok (show i<P.ps.length by omega);have thz:(thk P i).natAbs≤9:=by unfold thk;split<;>omega
   have d2:(2*D).natAbs<2^31:=by omega
   rw [← es] at s3 hD;generalize hs':ss.getD i []=s at *
   have gm:∀ c,c<3→FM.B 170 (s.getD c 0)∧((s.getD c 0).den:Int)∣D:=fun c hc=>by
    rw [List.getD_eq_getElem?_getD,List.getElem?_eq_getElem (by omega)];exact hD _ (List.getElem_mem _)
   have bm:∀ c,c<3→((Z9 P.cs (pcOf P i)).getD c 0).natAbs≤200:=fun c hc=>by
    rw [List.getD_eq_getElem?_getD,List.getElem?_eq_getElem (show c<(Z9 P.cs (pcOf P i)).length from hc)];exact c1 _ (List.getElem_mem _)
   have cm:∀ c,c<3→((Yc P.cs (pcOf P i)).getD c 0).natAbs≤200:=fun c hc=>by
    rw [List.getD_eq_getElem?_getD,List.getElem?_eq_getElem (show c<(Yc P.cs (pcOf P i)).length from hc)];exact c2 _ (List.getElem_mem _)
   have hx:∀ c,c<3→Fz (2*D) 213 (xP P i s c):=fun c hc=>Zvs D0 D1 thz (bm c hc) (cm c hc) (gm 0 (by decide)) (gm 2 (by decide));have hy:∀ c,c<3→Fz (2*D) 213 (yP P i s c):=fun c hc=>Zvs D0 D1 thz (bm c hc) (cm c hc) (gm 2 (by decide)) (gm 1 (by decide))
   have hp:∀ w,Fz (2*D) 219 (pt' (ctr P i s) w):=fun w=>by
    refine Fz.sum (j:=213) _ fun q hq=>?_;obtain ⟨e,he,rfl⟩:=List.mem_map.mp hq
    have key:Fz (2*D) 213 e.2:=by
     simp only [ctr,List.mem_cons,List.not_mem_nil,or_false] at he
     rcases he with rfl|rfl|rfl|rfl|rfl|rfl
     · exact hx 0 (by decide)
     · exact hx 1 (by decide)
     · exact hx 2 (by decide)
     · exact hy 0 (by decide)
     · exact hy 1 (by decide)
     · exact hy 2 (by decide)
    split
    · exact key
    · exact Fz.zero
   refine ⟨M*(2*D),Int.mul_ne_zero m0 (by omega),by rw [Nat.mul_add,Nat.add_right_comm];exact FM.natAbs_mul_lt m1 d2,fun w=>?_⟩;have h1:Fz (M*(2*D)) (251+32*i) (Fn P ss i w):=((hM w).scale (d:=31) d2).mono (by omega);have h2:Fz (2*D*M) (219+(31*i+1)) (pt' (ctr P i s) w):=(hp w).scale (d:=31*i+1) m1;rw [Int.mul_comm] at h2;show Fz _ _ (Fn P ss i w+pt' (ctr P i (ss.getD i [])) w)
   rw [hs'];exact (h1.add (h2.mono (k:=251+32*i) (by omega))).mono (by omega)
theorem Zn3 {P:Pl} {ss:List (List Rat)} (ok:PlOk P) (p4:P.ps.length≤4) (sok:SOk P ss):∃ M:Int,M≠0∧M.natAbs<2^130∧∀ q∈Y0 P ss,Fz M 350 q:=by
 have sl:=sok.len;obtain ⟨M,m0,m1,h⟩:=Zvt ok sok ss.length (Nat.le_refl _);refine ⟨M,m0,up 130 m1 (by omega),fun q hq=>?_⟩;obtain ⟨w,_,rfl⟩:=List.mem_map.mp hq;exact (h w).mono (by omega)
abbrev D60 (q:Rat):Prop:=FM.B 60 q∧q.den∣60
theorem Fz.mul2 {M N:Int} {j k:Nat} {p q:Rat} (h1:Fz M j p) (h2:Fz N k q):Fz (M*N) (j+k) (p*q):=by
 obtain ⟨y,e1,h1⟩:=h1;obtain ⟨z,e2,h2⟩:=h2;exact ⟨y*z,by rw [Rat.intCast_mul,Rat.intCast_mul,← e1,← e2];grind,FM.natAbs_mul_lt h1 h2⟩
def dotL (xs ys:List Rat):Rat:=(List.zipWith (·*·) xs ys).sum
def Zov:Sp:=fun vs H Q _=>∃ (v w:V) (xs ys:List Rat) (M N:Int) (j k:Nat),vs=[v,w]∧IsQs H v xs∧IsQs H w ys∧xs.length≤100∧M≠0∧N≠0∧M.natAbs<2^400∧N.natAbs<2^400∧(∀ q∈xs,Fz M j q)∧(∀ q∈ys,Fz N k q)∧j≤800∧k≤800∧∀ (H':Hp) (r:V),Same H H'→IsQ H' r (dotL xs ys)→Q r H'
theorem Zix:∀ xs ys:List Rat,xs.length=ys.length→dotL xs ys=((List.range xs.length).map fun w=>xs.getD w 0*ys.getD w 0).sum
 | [],[],_=>rfl
 | [],y :: ys,h=>by simp at h
 | x :: xs,[],h=>by simp at h
 | x :: xs,y :: ys,h=>by
   have ih:=Zix xs ys (by simpa using h);unfold dotL at *;rw [List.zipWith_cons_cons,List.sum_cons,ih,List.length_cons,List.range_succ_eq_map,List.map_cons,List.sum_cons,List.map_map];rfl
theorem Zrs (f:Nat→Rat):∀ N:Nat,((List.range (2*N)).map f).sum=((List.range N).map fun c=>f (2*c)+f (2*c+1)).sum
 | 0=>rfl
 | N+1=>by
   rw [show 2*(N+1)=2*N+1+1 by omega,List.range_succ,List.range_succ,List.range_succ];simp only [List.map_append,List.sum_append,Zrs f N,List.map_cons,List.map_nil,List.sum_cons,List.sum_nil,Rat.add_zero,Rat.add_assoc]
theorem Zbo {α:Type} (l:List α) (b:Rat) (f:α→Rat):(l.map fun c=>b*f c).sum=b*(l.map f).sum:=by
 induction l with
 | nil=>exact (Rat.mul_zero _).symm
 | cons a l ih=>simp only [List.map_cons,List.sum_cons,ih,Rat.mul_add]
theorem Znu {P:Pl} {ss:List (List Rat)} {N:Nat} (A B:Nat→Rat):∀ i,((List.range N).map fun c=>A c*Fn P ss i (2*c)+B c*Fn P ss i (2*c+1)).sum=((List.range i).map fun n=>((List.range N).map fun c=>A c*pt' (ctr P n (ss.getD n [])) (2*c)+B c*pt' (ctr P n (ss.getD n [])) (2*c+1)).sum).sum
 | 0=>Zql _ fun c _=>by show A c*0+B c*0=0;rw [Rat.mul_zero,Rat.mul_zero,Rat.add_zero]
 | i+1=>by
   have e:(fun c=>A c*Fn P ss (i+1) (2*c)+B c*Fn P ss (i+1) (2*c+1))=fun c=>(A c*Fn P ss i (2*c)+B c*Fn P ss i (2*c+1))+(A c*pt' (ctr P i (ss.getD i [])) (2*c)+B c*pt' (ctr P i (ss.getD i [])) (2*c+1)):=by
    funext c
    show A c*(Fn P ss i (2*c)+_)+B c*(Fn P ss i (2*c+1)+_)=_
    grind
   rw [e,X7,Znu A B i,List.range_succ,List.map_append,List.sum_append,List.map_cons,List.map_nil,List.sum_cons,List.sum_nil,Rat.add_zero]
def tA (P:Pl) (n:Nat):Rat:=((P.ts.getD n 0*abI (dOf P.cs (pcOf P n)):Int):Rat)
def vW (P:Pl) (ss:List (List Rat)) (ms:List Rat) (n:Nat):Rat:=tA P n/2*dotR (ss.getD n []) (strQ P n ms)
def wkQ (P:Pl) (ss:List (List Rat)) (ms:List Rat):Rat:=((List.range ss.length).map (vW P ss ms)).sum
theorem Zs0 (P:Pl) (n:Nat):tA P n=((thk P n:Int):Rat)*((dOf P.cs (pcOf P n):Int):Rat):=by
 unfold tA;rw [← Rat.intCast_mul]
 congr 1
 unfold thk abI;split<;>split<;>first|omega|rfl|(rw [Int.mul_neg,Int.neg_mul])|skip
 have z:dOf P.cs (pcOf P n)=0:=by omega
 rw [z,Int.mul_zero,Int.mul_zero]
theorem Zpr {P:Pl} {n:Nat} {ss:List (List Rat)} {ms:List Rat} (pk:PieceOk P.cs (pcOf P n)):((List.range P.cs.length).map fun c=>ms.getD (2*c) 0*pt' (ctr P n (ss.getD n [])) (2*c)+ms.getD (2*c+1) 0*pt' (ctr P n (ss.getD n [])) (2*c+1)).sum=vW P ss ms n:=by
 rw [Zu4 (fun c=>ms.getD (2*c) 0) (fun c=>ms.getD (2*c+1) 0) pk];unfold vW;rw [Zs0];have hd:=Xb pk.d;obtain ⟨i,j,k,e⟩:=len3 pk.len;have b0:=(pk.bd i (by rw [e];simp)).1;have b1:=(pk.bd j (by rw [e];simp)).1;have b2:=(pk.bd k (by rw [e];simp)).1;have g:∀ i:Int,0≤i→(2*i).toNat=2*i.toNat:=fun i h=>by omega
 have g':∀ i:Int,0≤i→(2*i+1).toNat=2*i.toNat+1:=fun i h=>by omega
 generalize hD:dOf P.cs (pcOf P n)=d at *;unfold strQ xP yP pnt Yj Yx dotR;rw [hD];rw [e];simp only [List.map_cons,List.map_nil,List.cons_append,List.nil_append,List.getD_cons_zero,List.getD_cons_succ,List.take_succ_cons,List.take_zero,List.drop_succ_cons,List.drop_zero,dotQ,Z9,Yc,List.zipWith_cons_cons,List.zipWith_nil_left,List.zipWith_nil_right,List.sum_cons,List.sum_nil,g _ b0,g _ b1,g _ b2,g' _ b0,g' _ b1,g' _ b2];generalize (((p1 P.cs [i,j,k]).2-(p2 P.cs [i,j,k]).2:Int):Rat)=x1;generalize (((p2 P.cs [i,j,k]).2-(p0 P.cs [i,j,k]).2:Int):Rat)=x2;generalize (((p0 P.cs [i,j,k]).2-(p1 P.cs [i,j,k]).2:Int):Rat)=x3;generalize (((p2 P.cs [i,j,k]).1-(p1 P.cs [i,j,k]).1:Int):Rat)=y1;generalize (((p0 P.cs [i,j,k]).1-(p2 P.cs [i,j,k]).1:Int):Rat)=y2;generalize (((p1 P.cs [i,j,k]).1-(p0 P.cs [i,j,k]).1:Int):Rat)=y3;generalize (ss.getD n []).getD 0 0=p;generalize (ss.getD n []).getD 1 0=q;generalize (ss.getD n []).getD 2 0=r;generalize ms.getD (2*i.toNat) 0=u1;generalize ms.getD (2*j.toNat) 0=u2;generalize ms.getD (2*k.toNat) 0=u3;generalize ms.getD (2*i.toNat+1) 0=v1;generalize ms.getD (2*j.toNat+1) 0=v2;generalize ms.getD (2*k.toNat+1) 0=v3;generalize ((thk P n:Int):Rat)=th;generalize (d:Rat)=d at *;have c:∀ p q r E F G:Rat,th*d/2*(p*(E/d)+q*(F/d)+r*(G/d))=th/2*(p*E+q*F+r*G):=fun p q r E F G=>by grind
 rw [c]
 grind
theorem Zkr {P:Pl} {ss:List (List Rat)} {ms:List Rat} (ok:PlOk P) (hl:ss.length=P.ps.length) (hm:ms.length=2*P.cs.length):dotL (Y0 P ss) ms=wkQ P ss ms:=by
 have pl:(Y0 P ss).length=2*P.cs.length:=by unfold Y0;simp
 rw [Zix _ _ (by omega),pl,Zrs]
 have e:(List.range P.cs.length).map (fun c=>(Y0 P ss).getD (2*c) 0*ms.getD (2*c) 0+(Y0 P ss).getD (2*c+1) 0*ms.getD (2*c+1) 0)=(List.range P.cs.length).map fun c=>ms.getD (2*c) 0*Fn P ss ss.length (2*c)+ms.getD (2*c+1) 0*Fn P ss ss.length (2*c+1):=by
  refine List.map_congr_left fun c hc=>?_
  have:=List.mem_range.mp hc
  rw [Zro (by omega),Zro (by omega),Rat.mul_comm,Rat.mul_comm (Fn P ss ss.length (2*c+1))]
 rw [e,Znu (fun c=>ms.getD (2*c) 0) (fun c=>ms.getD (2*c+1) 0)];unfold wkQ
 congr 1
 refine List.map_congr_left fun n hn=>?_;have hn':=List.mem_range.mp hn;exact Zpr (ok.pc _ (Z4 (P:=P) (n:=n) (by omega) (by omega)))
def lin (b:Rat) (xs ys:List Rat):List Rat:=List.zipWith (fun x y=>x+b*y) xs ys
theorem Zt3 {b:Rat} {xs ys:List Rat} (h:xs.length=ys.length) (w:Nat):(lin b xs ys).getD w 0=xs.getD w 0+b*ys.getD w 0:=by
 unfold lin;rw [List.getD_eq_getElem?_getD,List.getD_eq_getElem?_getD,List.getD_eq_getElem?_getD,List.getElem?_zipWith]
 by_cases hw:w<xs.length
 · rw [List.getElem?_eq_getElem hw,List.getElem?_eq_getElem (show w<ys.length by omega)];rfl
 · rw [List.getElem?_eq_none (by omega),List.getElem?_eq_none (by omega)];show (0:Rat)=0+b*0
   rw [Rat.mul_zero,Rat.add_zero]
theorem Znt {P:Pl} {n:Int} {b:Rat} {xs ys:List Rat} (hl:(pcOf P n).length=3) (h:xs.length=ys.length):strQ P n (lin b xs ys)=lin b (strQ P n xs) (strQ P n ys):=by
 obtain ⟨i,j,k,e⟩:=len3 hl;unfold strQ Yj Yx Z9 Yc;rw [e];simp only [Zt3 h,List.map_cons,List.map_nil,List.cons_append,List.nil_append,List.take_succ_cons,List.take_zero,List.drop_succ_cons,List.drop_zero,dotQ,List.zipWith_cons_cons,List.zipWith_nil_left,List.zipWith_nil_right,List.sum_cons,List.sum_nil];unfold lin;simp only [List.zipWith_cons_cons,List.zipWith_nil_left];refine congr (congrArg List.cons ?_) (congr (congrArg List.cons ?_) (congrArg (fun x=>[x]) ?_))<;>(rw [Rat.div_def,Rat.div_def,Rat.div_def];grind)
theorem Zsq {l m:Int} {b:Rat} {e f g e' f' g':Rat}:stsQ l m (lin b [e,f,g] [e',f',g'])=lin b (stsQ l m [e,f,g]) (stsQ l m [e',f',g']):=by
 show [(l:Rat)*((e+b*e')+(f+b*f'))+2*(m:Rat)*(e+b*e'),(l:Rat)*((e+b*e')+(f+b*f'))+2*(m:Rat)*(f+b*f'),(m:Rat)*(g+b*g')]=[((l:Rat)*(e+f)+2*(m:Rat)*e)+b*((l:Rat)*(e'+f')+2*(m:Rat)*e'),((l:Rat)*(e+f)+2*(m:Rat)*f)+b*((l:Rat)*(e'+f')+2*(m:Rat)*f'),(m:Rat)*g+b*((m:Rat)*g')]
 refine congr (congrArg List.cons ?_) (congr (congrArg List.cons ?_) (congrArg (fun x=>[x]) ?_))<;>grind
theorem str3 (P:Pl) (n:Int) (ms:List Rat):∃ e f g,strQ P n ms=[e,f,g]:=⟨_,_,_,rfl⟩
theorem Zej {P:Pl} {ms:List Rat} {n:Nat} (h:n<P.ps.length):(Ym P ms).getD n []=stsQ P.l P.m (strQ P n ms):=by
 unfold Ym;rw [List.getD_eq_getElem?_getD,List.getElem?_map,List.getElem?_range h];rfl
theorem Zaj (P:Pl) (ms:List Rat):(Ym P ms).length=P.ps.length:=by unfold Ym;simp
theorem Zsc {c:Prop} [Decidable c] {x y b:Rat}:(if c then x+b*y else 0)=(if c then x else 0)+b*(if c then y else 0):=by
 split
 · rfl
 · rw [Rat.mul_zero,Rat.add_zero]
theorem Zs2 {P:Pl} {n:Nat} {b p q r p' q' r':Rat} (w:Nat):pt' (ctr P n (lin b [p,q,r] [p',q',r'])) w=pt' (ctr P n [p,q,r]) w+b*pt' (ctr P n [p',q',r']) w:=by
 have hx:∀ c,xP P n (lin b [p,q,r] [p',q',r']) c=xP P n [p,q,r] c+b*xP P n [p',q',r'] c:=fun c=>by
  show (thk P n:Rat)*((p+b*p')*_+(r+b*r')*_)/2=(thk P n:Rat)*(p*_+r*_)/2+b*((thk P n:Rat)*(p'*_+r'*_)/2)
  grind
 have hy:∀ c,yP P n (lin b [p,q,r] [p',q',r']) c=yP P n [p,q,r] c+b*yP P n [p',q',r'] c:=fun c=>by
  show (thk P n:Rat)*((r+b*r')*_+(q+b*q')*_)/2=(thk P n:Rat)*(r*_+q*_)/2+b*((thk P n:Rat)*(r'*_+q'*_)/2)
  grind
 unfold pt' ctr;simp only [hx,hy,List.map_cons,List.map_nil,List.sum_cons,List.sum_nil,Zsc]
 grind
theorem Zrb {P:Pl} {b:Rat} {xs ys:List Rat} (ok:PlOk P) (h:xs.length=ys.length) (w:Nat):∀ i,i≤P.ps.length→Fn P (Ym P (lin b xs ys)) i w=Fn P (Ym P xs) i w+b*Fn P (Ym P ys) i w
 | 0,_=>by show (0:Rat)=0+b*0;rw [Rat.mul_zero,Rat.add_zero]
 | i+1,hi=>by
   have pk:=ok.pc _ (Z4 (P:=P) (n:=i) (by omega) (by omega));show Fn P (Ym P (lin b xs ys)) i w+pt' (ctr P i ((Ym P (lin b xs ys)).getD i [])) w=(Fn P (Ym P xs) i w+pt' (ctr P i ((Ym P xs).getD i [])) w)+b*(Fn P (Ym P ys) i w+pt' (ctr P i ((Ym P ys).getD i [])) w)
   rw [Zej (by omega),Zej (by omega),Zej (by omega),Zrb ok h w i (by omega),Znt pk.len h];obtain ⟨e,f,g,e1⟩:=str3 P i xs;obtain ⟨e',f',g',e2⟩:=str3 P i ys;rw [e1,e2,Zsq];have e3:∃ a b c,stsQ P.l P.m [e,f,g]=[a,b,c]:=⟨_,_,_,rfl⟩;have e4:∃ a b c,stsQ P.l P.m [e',f',g']=[a,b,c]:=⟨_,_,_,rfl⟩;obtain ⟨_,_,_,e3⟩:=e3;obtain ⟨_,_,_,e4⟩:=e4;rw [e3,e4,Zs2]
   grind
theorem Zsd {P:Pl} {b:Rat} {xs ys:List Rat} (ok:PlOk P) (h:xs.length=ys.length):Y0 P (Ym P (lin b xs ys))=lin b (Y0 P (Ym P xs)) (Y0 P (Ym P ys)):=by
 unfold Y0 lin;rw [List.zipWith_map,List.zipWith_self,Zaj,Zaj,Zaj];exact List.map_congr_left fun w _=>Zrb ok h w _ (Nat.le_refl _)
theorem Zpk {l m:Int} {e f g e' f' g':Rat}:dotR (stsQ l m [e,f,g]) [e',f',g']=dotR (stsQ l m [e',f',g']) [e,f,g]:=by
 show ((l:Rat)*(e+f)+2*(m:Rat)*e)*e'+((l:Rat)*(e+f)+2*(m:Rat)*f)*f'+(m:Rat)*g*g'=((l:Rat)*(e'+f')+2*(m:Rat)*e')*e+((l:Rat)*(e'+f')+2*(m:Rat)*f')*f+(m:Rat)*g'*g
 grind
theorem Zvd (P:Pl) (xs ys:List Rat):wkQ P (Ym P xs) ys=wkQ P (Ym P ys) xs:=by
 unfold wkQ;rw [Zaj,Zaj]
 congr 1
 refine List.map_congr_left fun n hn=>?_;have hn':=List.mem_range.mp hn;unfold vW;rw [Zej hn',Zej hn'];obtain ⟨e,f,g,e1⟩:=str3 P n xs;obtain ⟨e',f',g',e2⟩:=str3 P n ys;rw [e1,e2,Zpk]
theorem Zph (P:Pl) (ms:List Rat) (n:Nat):wrN P ms n=tA P n/4*dotR (strQ P n ms) (stsQ P.l P.m (strQ P n ms)):=rfl
theorem Zue (a b:List Rat):dotR a b=dotR b a:=by unfold dotR;grind
theorem Zt9 (P:Pl) (xs:List Rat):wkQ P (Ym P xs) xs=((2:Int):Rat)*wrQ P xs:=by
 unfold wkQ wrQ;rw [← Zbo,Zaj]
 congr 1
 refine List.map_congr_left fun n hn=>?_;have hn':=List.mem_range.mp hn;rw [Zph];unfold vW;rw [Zej hn',Zue];have f:((2:Int):Rat)=2:=rfl;rw [f]
 grind
theorem Zvo {P:Pl} {b:Rat} {xs ys:List Rat} (ok:PlOk P) (h:xs.length=ys.length):wrQ P (lin b xs ys)=wrQ P xs+(b*wkQ P (Ym P xs) ys+b*b*wrQ P ys):=by
 unfold wkQ wrQ;rw [← Zbo,← Zbo,Zaj,← X7,← X7]
 congr 1
 refine List.map_congr_left fun n hn=>?_;have hn':=List.mem_range.mp hn;have pk:=ok.pc _ (Z4 (P:=P) (n:=n) (by omega) (by omega));rw [Zph,Zph,Zph];unfold vW;rw [Zej hn',Znt pk.len h];obtain ⟨e,f,g,e1⟩:=str3 P n xs;obtain ⟨e',f',g',e2⟩:=str3 P n ys;rw [e1,e2];generalize tA P n=T;show T/4*((e+b*e')*((P.l:Rat)*((e+b*e')+(f+b*f'))+2*(P.m:Rat)*(e+b*e'))+(f+b*f')*((P.l:Rat)*((e+b*e')+(f+b*f'))+2*(P.m:Rat)*(f+b*f'))+(g+b*g')*((P.m:Rat)*(g+b*g')))=T/4*(e*((P.l:Rat)*(e+f)+2*(P.m:Rat)*e)+f*((P.l:Rat)*(e+f)+2*(P.m:Rat)*f)+g*((P.m:Rat)*g))+(b*(T/2*(((P.l:Rat)*(e+f)+2*(P.m:Rat)*e)*e'+((P.l:Rat)*(e+f)+2*(P.m:Rat)*f)*f'+(P.m:Rat)*g*g'))+b*b*(T/4*(e'*((P.l:Rat)*(e'+f')+2*(P.m:Rat)*e')+f'*((P.l:Rat)*(e'+f')+2*(P.m:Rat)*f')+g'*((P.m:Rat)*g'))))
 grind
theorem Zo0 {f:Nat→Rat}:∀ k,(∀ n,n<k→∃ D:Int,D≠0∧D.natAbs<2^31∧Fz D 170 (f n))→∃ M:Int,M≠0∧M.natAbs<2^(31*k+1)∧∀ n,n<k→Fz M (171+31*k) (f n)
 | 0,_=>⟨1,by decide,by decide,fun n h=>absurd h (by omega)⟩
 | k+1,h=>by
   obtain ⟨M,m0,m1,hM⟩:=Zo0 k fun n hn=>h n (by omega);obtain ⟨D,d0,d1,hD⟩:=h k (by omega);refine ⟨M*D,Int.mul_ne_zero m0 d0,by rw [Nat.mul_add,Nat.add_right_comm];exact FM.natAbs_mul_lt m1 d1,fun n hn=>?_⟩
   by_cases e:n<k
   · exact ((hM n e).scale (d:=31) d1).mono (by omega)
   · have:n=k:=by omega
     subst this;have h2:=hD.scale (d:=31*n+1) m1;rw [Int.mul_comm] at h2;exact h2.mono (by omega)
theorem F60 {q:Rat} (h:D60 q):Fz 60 66 q:=Fz.of (b:=6) (by exact_mod_cast h.2) h.1 (by decide)
theorem Zv5 {t b:Int} {j:Nat} (hb:b≠0) (ht:t.natAbs<2^j):Fz b j (Rat.divInt t b):=⟨t,by
 have:=Xb hb
 rw [Rat.divInt_eq_div];grind,ht⟩
theorem strG {P:Pl} {n:Nat} {ms:List Rat} {m:Int} {j k:Nat} (ok:PlOk P) (h1:n<P.ps.length) (mp:0<m) (hm:m.natAbs<2^k) (hB:∀ q∈ms,FM.B j q∧(q.den:Int)∣m):(∀ x∈thI P n ms m,x.natAbs<2^(j+k+11))∧strQ P n ms=(thI P n ms m).map (fun t=>Rat.divInt t (dOf P.cs (pcOf P n)*m)):=by
 have pk:=ok.pc _ (Z4 (P:=P) (n:=n) (by omega) (by omega));obtain ⟨c1,c2,c3⟩:=Zcs ok.nr pk.len pk.bd
 have dv:∀ q∈Yj P n ms,(q.den:Int)∣m:=fun q hq=>by
  obtain ⟨w,hw,rfl⟩:=List.mem_map.mp hq;rw [List.getD_eq_getElem?_getD];cases e:ms[w.toNat]? with
  | none=>exact Int.one_dvd m
  | some x=>exact (hB x (List.mem_of_getElem? e)).2
 exact ⟨Zj2 (k:=j+k) rfl rfl c1 c2 (Zom (j:=j) (k:=k) hm mp hB),(Zlj pk.d (by omega) dv).symm⟩
theorem Zpa {P:Pl} {ms:List Rat} (ok:PlOk P) (hB:∀ q∈ms,FM.B 140 q∧(q.den:Int)∣3600):SOk P (Ym P ms):=by
 refine ⟨Zaj P ms,fun s hs=>?_,fun s hs=>?_⟩
 · obtain ⟨n,_,rfl⟩:=List.mem_map.mp hs;rfl
 · obtain ⟨n,hn,rfl⟩:=List.mem_map.mp hs;have hn':=List.mem_range.mp hn;have pk:=ok.pc _ (Z4 (P:=P) (n:=n) (by omega) (by omega));obtain ⟨c1,c2,c3⟩:=Zcs ok.nr pk.len pk.bd;obtain ⟨hz,he⟩:=strG (m:=3600) (k:=12) ok hn' (by decide) (by decide) hB;have hs:=Zlq ok.l9 ok.m9 (Zgd hz);have hd:dOf P.cs (pcOf P n)*3600≠0:=Int.mul_ne_zero pk.d (by decide);refine ⟨(dOf P.cs (pcOf P n)*3600).natAbs,⟨by omega,by omega⟩,fun q hq=>?_⟩;rw [he] at hq;have e3:∃ E F G,thI P n ms 3600=[E,F,G]:=⟨_,_,_,rfl⟩;obtain ⟨E,F,G,e3⟩:=e3;rw [e3] at hq hs;rw [← Zrn] at hq;obtain ⟨t,ht,rfl⟩:=List.mem_map.mp hq;exact ⟨FM.B_divInt hd (up 170 (hs t ht)) (Nat.lt_of_le_of_lt (show _≤80000*3600 by omega) (by decide)),Int.dvd_natAbs.mpr (Zi8 t hd)⟩
theorem Zvb {P:Pl} {n:Nat} {ms:List Rat} (ok:PlOk P) (h1:n<P.ps.length) (hD:∀ q∈ms,D60 q):∃ D:Int,D≠0∧D.natAbs<2^31∧Fz D 170 (wrN P ms n):=by
 have pk:=ok.pc _ (Z4 (P:=P) (n:=n) (by omega) (by omega));obtain ⟨c1,c2,c3⟩:=Zcs ok.nr pk.len pk.bd;obtain ⟨hz,he⟩:=strG (m:=60) (j:=60) (k:=6) ok h1 (by decide) (by decide) fun q hq=>⟨(hD q hq).1,by exact_mod_cast (hD q hq).2⟩;have hs:=Zlq ok.l9 ok.m9 (Zgd hz);obtain ⟨_,t1,t9⟩:=Zl4 ok h1
 have dv:∀ q∈Yj P n ms,(q.den:Int)∣60:=fun q hq=>by
  obtain ⟨w,hw,rfl⟩:=List.mem_map.mp hq;rw [List.getD_eq_getElem?_getD];cases e:ms[w.toNat]? with
  | none=>decide
  | some x=>exact_mod_cast (hD x (List.mem_of_getElem? e)).2
 have e:=Zq0 (P:=P) (ms:=ms) (m:=60) (n:=n) pk.d (by decide) dv;have zd:=Zbi _ _ hz hs;rw [show (thI P n ms 60).length=3 from rfl] at zd;have hA:=Zj8 pk.d;have hN:=Zeg (dOf P.cs (pcOf P n));refine ⟨(wTm P ms 60 n).2*3600,by show 4*abI _*3600≠0;omega,Nat.lt_of_le_of_lt (show (4*abI (dOf P.cs (pcOf P n))*3600).natAbs≤4*80000*3600 by omega) (by decide),(wTm P ms 60 n).1,?_,up 170 (FM.natAbs_mul_lt (n:=4) (m:=163) (by omega) (Nat.lt_of_le_of_lt zd (by decide)))⟩;rw [Rat.intCast_mul];have f:((60:Int):Rat)=60:=rfl;have f2:((3600:Int):Rat)=3600:=rfl;rw [f] at e;rw [f2];have hb:=Xb (show (wTm P ms 60 n).2≠0 by show 4*abI _≠0;omega);generalize (((wTm P ms 60 n).1:Int):Rat)=x at *;generalize (((wTm P ms 60 n).2:Int):Rat)=y at *;generalize wrN P ms n=z at *
 grind
theorem wr_B {P:Pl} {ms:List Rat} (ok:PlOk P) (h4:P.ps.length≤4) (hD:∀ q∈ms,D60 q):FM.B 400 (wrQ P ms):=by
 obtain ⟨M,m0,m1,h⟩:=Zo0 (f:=wrN P ms) P.ps.length fun n hn=>Zvb ok hn hD
 have hs:=Fz.sum (M:=M) (j:=300) ((List.range P.ps.length).map (wrN P ms)) fun q hq=>by
  obtain ⟨n,hn,rfl⟩:=List.mem_map.mp hq;exact (h n (List.mem_range.mp hn)).mono (by omega)
 exact hs.B m0 (up 400 m1 (by omega)) (by rw [List.length_map,List.length_range];omega)
theorem Zv1 {P:Pl} {n:Nat} {ss:List (List Rat)} {ms s:List Rat} (ok:PlOk P) (h1:n<P.ps.length) (hD:∀ q∈ms,D60 q) (gs:ss.getD n []=s) (s3:s.length=3) (hs:∀ q∈s,D60 q):(∀ q∈strQ P n ms,Fz (dOf P.cs (pcOf P n)*60) 77 q)∧FM.B 400 (dotL s (strQ P n ms))∧∃ D:Int,D≠0∧D.natAbs<2^31∧Fz D 170 (vW P ss ms n):=by
 have pk:=ok.pc _ (Z4 (P:=P) (n:=n) (by omega) (by omega));obtain ⟨c1,c2,c3⟩:=Zcs ok.nr pk.len pk.bd;obtain ⟨hz,he⟩:=strG (m:=60) (j:=60) (k:=6) ok h1 (by decide) (by decide) fun q hq=>⟨(hD q hq).1,by exact_mod_cast (hD q hq).2⟩;obtain ⟨_,t1,t9⟩:=Zl4 ok h1;have hN:=Zeg (dOf P.cs (pcOf P n));have hA:=Zj8 pk.d;have hd:dOf P.cs (pcOf P n)*60≠0:=Int.mul_ne_zero pk.d (by decide)
 have hF:∀ q∈strQ P n ms,Fz (dOf P.cs (pcOf P n)*60) 77 q:=fun q hq=>by
  rw [he] at hq;obtain ⟨t,ht,rfl⟩:=List.mem_map.mp hq;exact Zv5 hd (hz t ht)
 have hdot:Fz (60*(dOf P.cs (pcOf P n)*60)) 146 (dotL s (strQ P n ms)):=by
  have:=Fz.sum (M:=60*(dOf P.cs (pcOf P n)*60)) (j:=143) (List.zipWith (·*·) s (strQ P n ms)) fun q hq=>by
   obtain ⟨i,hi,e⟩:=List.getElem_of_mem hq;rw [List.getElem_zipWith] at e;rw [← e];exact (F60 (hs _ (List.getElem_mem _))).mul2 (hF _ (List.getElem_mem _))
  rw [List.length_zipWith,s3] at this;exact this
 have hM0:60*(dOf P.cs (pcOf P n)*60)≠0:=Int.mul_ne_zero (by decide) hd;have hM1:(60*(dOf P.cs (pcOf P n)*60)).natAbs<2^30:=by omega
 refine ⟨hF,hdot.B hM0 (up 400 hM1) (by decide),2*(60*(dOf P.cs (pcOf P n)*60)),by omega,by omega,?_⟩;obtain ⟨z,e,hz'⟩:=hdot.mul (c:=P.ts.getD n 0*abI (dOf P.cs (pcOf P n))) (d:=21) (FM.natAbs_mul_lt (n:=4) (m:=17) (by omega) (by omega));refine ⟨z,?_,up 170 hz'⟩
 have ed:dotR (ss.getD n []) (strQ P n ms)=dotL s (strQ P n ms):=by
  rw [gs];obtain ⟨p,q,r,rfl⟩:=len3 s3;obtain ⟨e,f,g,e1⟩:=str3 P n ms;rw [e1];show p*e+q*f+r*g=p*e+(q*f+(r*g+0))
  rw [Rat.add_zero,Rat.add_assoc]
 unfold vW tA;rw [ed,← e,Rat.intCast_mul 2];have f:((2:Int):Rat)=2:=rfl;rw [f]
 grind
def Zk0:Sp:=fun vs H Q _=>∃ (v w u:V) (P:Pl) (xs ys:List Rat),vs=[v,w,u]∧IsPl H v P∧PlOk P∧P.ps.length≤4∧IsQs H w xs∧IsQs H u ys∧xs.length=2*P.cs.length∧ys.length=2*P.cs.length∧(∀ q∈xs,D60 q)∧(∀ q∈ys,D60 q)∧∀ (H':Hp) (r:V),Same H H'→IsQ H' r (wkQ P (Ym P xs) ys)→FM.B 500 (wkQ P (Ym P xs) ys)→Q r H'
theorem d140 {q:Rat} (h:D60 q):FM.B 140 q∧(q.den:Int)∣3600:=⟨h.1.mono (by decide),Int.dvd_trans (show (q.den:Int)∣60 by exact_mod_cast h.2) (by decide)⟩
theorem Zwj {P:Pl} {ss:List (List Rat)} {ys:List Rat} {M:Int} (m0:M≠0) (m1:M.natAbs<2^130) (hF:∀ q∈Y0 P ss,Fz M 350 q) (c30:P.cs.length≤30) (hy:∀ q∈ys,D60 q):FM.B 500 (dotL (Y0 P ss) ys):=by
 have:=Fz.sum (M:=M*60) (j:=416) (List.zipWith (·*·) (Y0 P ss) ys) fun q hq=>by
  obtain ⟨i,hi,e⟩:=List.getElem_of_mem hq;rw [List.getElem_zipWith] at e;rw [← e];exact (hF _ (List.getElem_mem _)).mul2 (F60 (hy _ (List.getElem_mem _)))
 refine this.B (Int.mul_ne_zero m0 (by decide)) (up 500 (FM.natAbs_mul_lt (m:=6) m1 (by decide))) ?_;rw [List.length_zipWith]
 have:(Y0 P ss).length=2*P.cs.length:=by unfold Y0;simp
 omega
theorem Zwi {b:Rat} {xs ys:List Rat} (bD:D60 b) (xD:∀ q∈xs,D60 q) (yD:∀ q∈ys,D60 q):∀ q∈lin b xs ys,FM.B 140 q∧(q.den:Int)∣3600:=fun q hq=>by
 have key:∀ x y:Rat,D60 x→D60 y→FM.B 140 (x+b*y)∧((x+b*y).den:Int)∣3600:=fun x y hx hy=>by
  have h1:Fz (60*60) (66+6) x:=(F60 hx).scale (D:=60) (d:=6) (by decide);have h3:=(h1.mono (k:=132) (by decide)).add ((F60 bD).mul2 (F60 hy));exact ⟨h3.B (by decide) (by decide) (by decide),h3.den (by decide)⟩
 unfold lin at hq;obtain ⟨i,hi,e⟩:=List.getElem_of_mem hq;rw [List.getElem_zipWith] at e;rw [← e];exact key _ _ (xD _ (List.getElem_mem _)) (yD _ (List.getElem_mem _))
def Zil:Sp:=fun vs H Q _=>∃ (v w:V) (xs ys:List Rat) (p:Addr) (b:Rat),vs=[v,w,.ref p]∧IsQs H v xs∧IsQs H w ys∧H p=some (.tup (rt b))∧xs.length≤100∧(∀ q∈xs,FM.B 400 q)∧(∀ q∈ys,FM.B 400 q)∧FM.B 60 b∧∀ (H':Hp) (r:V),Same H H'→IsQs H' r (lin b xs ys)→Q r H'
def Zc7:Sp:=fun vs H Q _=>∃ (v w u:V) (P:Pl) (ss:List (List Rat)) (ms:List Rat),vs=[v,w,u]∧IsPl H v P∧PlOk P∧P.ps.length≤4∧Zib H w ss∧ss.length=P.ps.length∧(∀ s∈ss,s.length=3∧∀ q∈s,D60 q)∧IsQs H u ms∧ms.length=2*P.cs.length∧(∀ q∈ms,D60 q)∧∀ (H':Hp) (r:V),Same H H'→IsQ H' r (wkQ P ss ms)→Q r H'
theorem Zwc {P:Pl} {n:Nat} {ss:List (List Rat)} {ms s:List Rat} (gs:ss.getD n []=s) (s3:s.length=3):Rat.divInt (P.ts.getD n 0*(if dOf P.cs (pcOf P n)<0 then -dOf P.cs (pcOf P n) else dOf P.cs (pcOf P n))) 2*dotL s (strQ P n ms)=vW P ss ms n:=by
 unfold vW tA;rw [gs,Rat.divInt_eq_div];obtain ⟨p,q,r,rfl⟩:=len3 s3;obtain ⟨e,f,g,e1⟩:=str3 P n ms;rw [e1]
 have:dotL [p,q,r] [e,f,g]=dotR [p,q,r] [e,f,g]:=by
  show p*e+(q*f+(r*g+0))=p*e+q*f+r*g
  rw [Rat.add_zero,Rat.add_assoc]
 rw [this];rfl
section
variable (P:Program) (w:World) (K:PySem.W.Frag) (mg:Str→Option Value) (base:Heap)
abbrev a0_:=Cal P w K mg base "plain_divisor" 1 ["one","other"] Zky
abbrev a1_:=Cal P w K mg base "divisor" 2 ["one","other"] Zfj
abbrev a2_:=Cal P w K mg base "is_whole" 1 ["thing"] Zea
abbrev a3_:=Cal P w K mg base "is_between" 2 ["thing","least","most"] Zft
abbrev a4_:=Cal P w K mg base "is_row" 1 ["thing","fewest","most"] Zrh
abbrev a5_:=Cal P w K mg base "is_corner" 3 ["thing"] Zh4
abbrev a6_:=Cal P w K mg base "turn" 1 ["first","second","third"] Znl
abbrev a7_:=Cal P w K mg base "are_rising" 1 ["things"] Zfo
abbrev a8_:=Cal P w K mg base "turn_of" 2 ["corners","piece"] Zh5
abbrev a9_:=Cal P w K mg base "are_rising" 1 ["things"] Zfn
abbrev a10_:=Cal P w K mg base "is_piece" 3 ["corners","thing"] Zf0
abbrev a11_:=Cal P w K mg base "edges" 1 ["points"] Zlg
abbrev a12_:=Cal P w K mg base "parts_from" 2 ["points","others"] Zc2
abbrev a13_:=Cal P w K mg base "lies_in" 2 ["point","points"] Ziy
abbrev a14_:=Cal P w K mg base "are_apart" 3 ["points","others"] Zk7
abbrev a15_:=Cal P w K mg base "no_strange_corner" 3 ["corners","piece","points"] Zf2
abbrev a16_:=Cal P w K mg base "triangle" 2 ["corners","piece"] Zru
abbrev a17_:=Cal P w K mg base "are_corners" 4 ["thing"] Zfr
abbrev a18_:=Cal P w K mg base "are_pieces" 4 ["corners","thing"] Zig
abbrev a19_:=Cal P w K mg base "are_thicks" 3 ["pieces","thing"] Zip
abbrev a20_:=Cal P w K mg base "every_corner_is_used" 2 ["corners","pieces"] Znh
abbrev a21_:=Cal P w K mg base "fit_together" 4 ["corners","pieces"] Zrr
abbrev a22_:=Cal P w K mg base "is_stuff" 3 ["thing"] Zkn
abbrev a23_:=Cal P w K mg base "is_plate" 5 ["thing"] Zfq
abbrev a24_:=Cal P w K mg base "is_fraction" 3 ["thing"] Zbj
abbrev a25_:=Cal P w K mg base "multiple" 3 ["bottoms"] Zli
abbrev a26_:=Cal P w K mg base "levelled" 4 ["parts"] Zob
abbrev a27_:=Cal P w K mg base "reduced" 3 ["top","bottom"] Zf3
abbrev a28_:=Cal P w K mg base "are_fractions" 4 ["thing","many"] Zk2
abbrev a29_:=Cal P w K mg base "ways_of" 1 ["plate"] Zox
abbrev a30_:=Cal P w K mg base "piece_ways" 1 ["plate","number"] Zlr
abbrev a31_:=Cal P w K mg base "dot" 1 ["ones","others"] Zrk
abbrev a32_:=Cal P w K mg base "at_piece" 2 ["plate","number","things"] Zfw
abbrev a33_:=Cal P w K mg base "slopes" 3 ["plate","number"] Zhl
abbrev a34_:=Cal P w K mg base "strained" 2 ["bees","cees","six"] Ze2
abbrev a35_:=Cal P w K mg base "strain_by" 5 ["plate","motions","number"] Zex
abbrev a36_:=Cal P w K mg base "stressed" 1 ["stuff","three"] Zeh
abbrev a37_:=Cal P w K mg base "stress_by" 6 ["plate","motions","number"] Zhu
abbrev a38_:=Cal P w K mg base "at_piece" 2 ["plate","number","things"] Zd7
abbrev a39_:=Cal P w K mg base "levelled" 4 ["parts"] Zmr
abbrev a40_:=Cal P w K mg base "mixed" 5 ["weights","parts","bottom"] Zdv
abbrev a41_:=Cal P w K mg base "look_at_motions" 5 ["plate","motions"] Zgz
abbrev a42_:=Cal P w K mg base "look_at_plate" 6 ["plate"] Zc3
abbrev a43_:=Cal P w K mg base "are_stresses_of" 5 ["plate","thing"] Zh2
abbrev a44_:=Cal P w K mg base "look_at_stresses" 6 ["plate","given"] Zdy
abbrev a45_:=Cal P w K mg base "look_at_moved" 7 ["plate","motions"] Zlh
abbrev a46_:=Cal P w K mg base "look_at_piece" 3 ["plate","piece"] Zde
abbrev a47_:=Cal P w K mg base "stresses_by" 7 ["plate","motions"] Zaa
abbrev a48_:=Cal P w K mg base "worth_by" 7 ["plate","motions"] Za6
abbrev a49_:=Cal P w K mg base "added" 6 ["terms"] Zln
abbrev a50_:=Cal P w K mg base "pushed" 1 ["bees","cees","three"] Ziu
abbrev a51_:=Cal P w K mg base "look_at_stressed" 7 ["plate","given"] Zdy
abbrev a52_:=Cal P w K mg base "pushes_of" 7 ["plate","given"] Zak
abbrev a53_:=Cal P w K mg base "_law_cell_at" 1 ["_law_script","_law_k"] (Zou K)
abbrev a54_:=Cal P w K mg base "_law_choice" 1 ["_law_state_here","_law_many"] Zet
abbrev a55_:=Cal P w K mg base "_law_low" 1 ["_law_top","_law_bottom"] Zri
abbrev a56_:=Cal P w K mg base "_law_add" 2 ["_law_one","_law_other"] (Zqj (·+·))
abbrev a57_:=Cal P w K mg base "_law_mul" 2 ["_law_one","_law_other"] (Zqj (·*·))
abbrev a58_:=Cal P w K mg base "_law_total" 3 ["_law_some"] Zm1
abbrev a59_:=Cal P w K mg base "_law_order" 2 ["_law_state_here","_law_many"] Zlf
abbrev a60_:=Cal P w K mg base "_law_shapes" 1 [] Zh7
abbrev a61_:=Cal P w K mg base "_law_fraction" 2 ["_law_state_here"] (Zhv 60)
abbrev a62_:=Cal P w K mg base "_law_dot" 4 ["_law_row_here","_law_other"] Zov
abbrev a63_:=Cal P w K mg base "pushes" 8 ["plate","stresses"] Zak
abbrev a64_:=Cal P w K mg base "stresses" 8 ["plate","motions"] Zaa
abbrev a65_:=Cal P w K mg base "strain" 8 ["plate","motions","piece"] Zhi
abbrev a66_:=Cal P w K mg base "_law_mixed" 3 ["_law_one","_law_other","_law_by"] Zil
abbrev a67_:=Cal P w K mg base "_law_plate" 3 ["_law_state_here","_law_most"] Zld
abbrev a68_:=Cal P w K mg base "_law_row" 3 ["_law_state_here","_law_many"] Zoh
abbrev a69_:=Cal P w K mg base "_law_state" 2 ["_law_script","_law_k"] (Zku K)
abbrev a70_:=Cal P w K mg base "_law_strained" 9 ["_law_plate_here","_law_some","_law_motions"] Zc7
abbrev a71_:=Cal P w K mg base "_law_works" 9 ["_law_plate_here","_law_motions","_law_other"] Zk0
abbrev a72_:=Cal P w K mg base "worth_of" 8 ["plate","motions"] Za6
end
section
variable {P:Program} {w:World} {K:PySem.W.Frag} {mg:Str→Option Value} {base:Heap}
abbrev Xr:Stmt:=top 9
theorem Zat:FnScope ["one","other"] ["one","other"] (Zc Xr):=⟨rfl,rfl,rfl,by decide +kernel,rfl,by decide +kernel,by decide +kernel⟩
theorem Zdo {f:Addr} {fd:FuncData} (F:Fun K "plain_divisor" "plain_divisor" Xr f fd) (T:Bt mg):FnOk P w K mg base CX0 1 f fd ["one","other"] Zky:=by
 refine F.ok Zat (fun vs H Q E h=>by obtain ⟨a,b,rfl,_⟩:=h;rfl) fun cdv A outer s H vs Q E hr h=>?_;obtain ⟨a,b,rfl,q⟩:=h;have nd:=Zat.nd;refine' ⟨_,?term,?read⟩
 case term=>refine' @Zd _ _ _ _ _ ?g1 ?g2;(case g1=>refine' @Zds _ _ _ _ _ _ PassesOwn.never ?g3 ?g4;(case g3=>refine' @Zx _ _ _ (pv 1) (fun _=>rfl));case g4=>refine' @Zi _ _ _ ?g5;case g5=>refine' @Zhp _ _ (0) (1) _ _ _ _ _ _ _ _ _ _ _ rfl nd rfl rfl (by decide) rfl rfl ?g6 rfl (by rfl);case g6=>refine' @Za _ _ _ _ _ (pv 1) ?g7 rfl;case g7=>refine' @Za _ _ _ _ _ (Zm Za4 (pv 0) (pv 1)) Zb rfl);case g2=>refine' @Zi _ _ _ ?g8;case g8=>refine' @Zl _ _ _ _ (Zk Zbb rfl T.b_abs Zfx (Za (pv 0) Zb rfl))
 refine Zdt (fun σ H'=>∃ x y:Int,σ=[some (.int x),some (.int y)]∧H'=H∧Int.gcd x y=Int.gcd a b) (fun σ _=>match σ with|[_,some (.int y)]=>y.natAbs|_=>0) ⟨a,b,rfl,rfl,rfl⟩ ?_ ?_
 · rintro σ H' ⟨x,y,rfl,rfl,e⟩
   refine ⟨_,rfl,(y != 0),rfl,?_⟩
   by_cases hy:y=0
   · subst hy;refine iteF ?_;refine ⟨_,rfl,x,rfl,?_⟩
     have z:(if x<0 then -x else x)=(Int.gcd a b:Int):=by
      rw [← e,Int.gcd_zero_right];split<;>omega
     rw [z];exact q
   · rw [show (y != 0)=true by simpa using hy];refine iteT ?_;refine ⟨_,rfl,_,rfl,_,rfl,x,y,rfl,rfl,hy,_,_,rfl,⟨y,x.fmod y,rfl,rfl,by rw [FM.gcd_fmod hy];exact e⟩,FM.fmod_abs_lt hy⟩
 · rintro σ H' Q1 Q2 hq ⟨v,e,k,t,q'⟩
   exact ⟨v,e,k,t,hq _ _ q'⟩
abbrev Zes:Stmt:=top 13
theorem Zmk:FnScope ["one","other","half"] ["one","other"] (Zc Zes):=⟨rfl,rfl,rfl,by decide +kernel,rfl,by decide +kernel,by decide +kernel⟩
theorem Zl5 {f:Addr} {fd:FuncData} (F:Fun K "divisor" "divisor" Zes f fd) (T:Bt mg) (C_plain_divisor:a0_ P w K mg base):FnOk P w K mg base CX0 2 f fd ["one","other"] Zfj:=by
 refine F.ok Zmk (fun vs H Q E h=>by obtain ⟨a,b,rfl,_⟩:=h;rfl) fun cdv A outer s H vs Q E hr h=>?_;obtain ⟨a,b,rfl,hb,q⟩:=h;refine' ⟨_,?term,?read⟩
 case term=>refine' @Zd _ _ _ _ _ ?g1 ?g2;(case g1=>refine' @Zds _ _ _ _ _ _ PassesOwn.never ?g3 Za3;case g3=>refine' @Ye _ _ _ _ _ _ _ _ Zny ?g4 (Zac T.n_GREAT_BITS rfl) (Yb _);case g4=>refine' @Zk _ _ _ _ _ _ _ _ _ (Zhf rfl) rfl T.b_min Zq6 ?g5 (by decide) (by decide) (by rfl) (by rfl);case g5=>refine' @Za _ _ _ _ _ ?g6 ?g7 rfl;(case g6=>refine' @Zq2 _ _ _ _ _ _ _ _ _ PySem.F.plainAttrs_int PySem.F.slot_int_bit_length PySem.F.type_int_bit_length Zmu (pv 0) (by rfl) (by rfl));case g7=>refine' @Za _ _ _ _ _ ?g8 Zb rfl;case g8=>refine' @Zq2 _ _ _ _ _ _ _ _ _ PySem.F.plainAttrs_int PySem.F.slot_int_bit_length PySem.F.type_int_bit_length Zmu (pv 1) (by rfl) (by rfl));case g2=>refine' @Zi _ _ _ ?g9;case g9=>refine' @Zl _ _ _ _ ?ga;case ga=>refine' @Zh _ _ _ _ _ _ _ _ _ _ _ C_plain_divisor hr (by decide) rfl ?gb (by decide) (by rfl) (by rfl);case gb=>refine' @Za _ _ _ _ _ (pv 0) (Za (pv 1) Zb rfl) rfl
 refine Zdt (fun σ H'=>σ=[some (.int a),some (.int b),none]∧H'=H) (fun σ _=>0) ⟨rfl,rfl⟩ ?_ ?_
 · rintro σ H' ⟨rfl,rfl⟩
   refine ⟨_,rfl,rfl,_,rfl,rfl,_,rfl,rfl,_,rfl,rfl,_,_,rfl,_,_,rfl,rfl,_,rfl,?_⟩;rw [Ztr hb];refine iteF ?_;exact ⟨_,rfl,_,rfl,a,b,rfl,q⟩
 · rintro σ H' Q1 Q2 hq ⟨v1,e1,t1,i1,a1,n1,v2,e2,t2,i2,a2,n2,i,j,e3,i4,j4,e4,e5,b,e6,q'⟩
   exact ⟨v1,e1,t1,i1,a1,n1,v2,e2,t2,i2,a2,n2,i,j,e3,i4,j4,e4,e5,b,e6,hq _ _ q'⟩
abbrev Zcz:Stmt:=top 15
theorem Zkc:FnScope ["thing"] ["thing"] (Zc Zcz):=⟨rfl,rfl,rfl,by decide +kernel,rfl,by decide +kernel,by decide +kernel⟩
theorem Zkg {f:Addr} {fd:FuncData} (F:Fun K "is_whole" "is_whole" Zcz f fd) (T:Bt mg):FnOk P w K mg base CX0 1 f fd ["thing"] Zea:=by
 refine F.ok Zkc (fun vs H Q E h=>by obtain ⟨a,rfl,_⟩:=h;rfl) fun cdv A outer s H vs Q E hr h=>?_;obtain ⟨a,rfl,q⟩:=h;refine' ⟨_,?term,?read⟩
 case term=>refine' @Zi _ _ _ ?g1;case g1=>refine' @Zl _ _ _ _ ?g2;case g2=>refine' @Zem _ _ _ _ _ _ _ ?g3 ?g4;(case g3=>refine' @Zk _ _ _ _ _ _ _ _ _ Za9 rfl T.b_isinstance Yz ?g5 (by decide) (by decide) (by rfl) (by rfl);case g5=>refine' @Za _ _ _ _ _ (pv 0) (Za (Zc0 (v:=.ty "int") rfl T.b_int Zqw rfl) Zb rfl) rfl);case g4=>refine' @Zc5 _ _ _ _ _ ?g6;case g6=>refine' @Zra _ _ _ _ ?g7;case g7=>refine' @Zk _ _ _ _ _ _ _ _ _ Za9 rfl T.b_isinstance Yz ?g8 (by decide) (by decide) (by rfl) (by rfl);case g8=>refine' @Za _ _ _ _ _ (pv 0) (Za (Zc0 (v:=.ty "bool") rfl T.b_bool Ztd rfl) Zb rfl) rfl
 refine ⟨_,rfl,_,_,_,_,rfl,TyOf.int a,rfl,true,rfl,iteT ?_⟩;refine ⟨_,rfl,_,_,_,_,rfl,TyOf.int a,rfl,false,rfl,q⟩
abbrev Zd2:Stmt:=top 17
theorem Zf4:FnScope ["top","bottom","common"] ["top","bottom"] (Zc Zd2):=⟨rfl,rfl,rfl,by decide +kernel,rfl,by decide +kernel,by decide +kernel⟩
theorem Zmd {f:Addr} {fd:FuncData} (F:Fun K "reduced" "reduced" Zd2 f fd) (T:Bt mg) (C_divisor:a1_ P w K mg base):FnOk P w K mg base CX0 3 f fd ["top","bottom"] Zf3:=by
 refine F.ok Zf4 (fun vs H Q E h=>by obtain ⟨t,b,rfl,_⟩:=h;rfl) fun cdv A outer s H vs Q E hr h=>?_;obtain ⟨t,b,rfl,hb,hz,q⟩:=h;have nd:=Zf4.nd;refine' ⟨_,?term,?read⟩
 case term=>refine' @Zd _ _ _ _ _ ?g1 ?g2;(case g1=>refine' @Zz _ _ (2) _ _ _ _ nd rfl (Or.inl rfl) ?g3 (by rfl) (by first|exact Or.inl rfl|exact Or.inr rfl|assumption);case g3=>refine' @Zh _ _ _ _ _ _ _ _ _ _ _ C_divisor hr (by decide) rfl ?g4 (by decide) (by rfl) (by rfl);case g4=>refine' @Za _ _ _ _ _ (pv 0) (Za (pv 1) Zb rfl) rfl);case g2=>refine' @Zd _ _ _ _ _ ?g5 ?g6;(case g5=>refine' @Xc _ _ _ _ _ _ _ _ (Ye Zmi (pv 1) Zf (Yb _)) ?g7 Z2;case g7=>refine' @Zi _ _ _ ?g8;case g8=>refine' @Zz _ _ (2) _ _ _ _ nd rfl (Or.inl rfl) (Zqf Zkt (pv 2)) (by rfl) (by first|exact Or.inl rfl|exact Or.inr rfl|assumption));case g6=>refine' @Zi _ _ _ ?g9;case g9=>refine' @Zl _ _ _ _ ?ga;case ga=>refine' @Z5 _ _ _ _ _ ?gb;case gb=>refine' @Za _ _ _ _ _ (Zm Xk (pv 0) (pv 2)) ?gc rfl;case gc=>refine' @Za _ _ _ _ _ (Zm Xk (pv 1) (pv 2)) Zb rfl
 refine ⟨_,rfl,_,rfl,t,b,rfl,hz,?_⟩;have hg:=FM.gcd_ne (t:=t) hb;have hgz:(Int.gcd t b)<2^8999:=Nat.lt_of_le_of_lt (Nat.gcd_le_right _ (Int.natAbs_pos.mpr hb)) (Zrl hz);have hsg:FM.sg t b≠0:=FM.sg_ne hb
 have hsz:(FM.sg t b).natAbs<2^8999:=by
  unfold FM.sg;split
  · rw [Int.natAbs_neg];exact hgz
  · exact hgz
 have fin:∀ g:Int,g=FM.sg t b→∀ p,H p=none→Q (.ref p) (upd H p (.tup [.int (t.fdiv g),.int (b.fdiv g)])):=by
  rintro g rfl p hp
  rw [FM.fdiv_num hb,FM.fdiv_den hb];exact q p _ (Same.new hp) Zj
 refine ⟨_,rfl,_,_,rfl,rfl,_,rfl,?_⟩;refine ite2 (fun hlt=>?_) (fun hlt=>?_)
 · have hlt':b<0:=of_decide_eq_true hlt;have e:-(Int.gcd t b:Int)=FM.sg t b:=by unfold FM.sg;rw [if_pos hlt']
   refine ⟨_,rfl,_,rfl,?_⟩;refine ⟨_,rfl,_,rfl,t,_,rfl,rfl,⟨by rw [e];exact hsg,by rw [e];exact hsz⟩,_,rfl,_,rfl,b,_,rfl,rfl,⟨by rw [e];exact hsg,by rw [e];exact hsz⟩,z2_,?_⟩;exact fin _ e
 · have hlt':¬ b<0:=fun z=>hlt (decide_eq_true z);have e:(Int.gcd t b:Int)=FM.sg t b:=by unfold FM.sg;rw [if_neg hlt']
   refine ⟨_,rfl,_,rfl,t,_,rfl,rfl,⟨by rw [e];exact hsg,by rw [e];exact hsz⟩,_,rfl,_,rfl,b,_,rfl,rfl,⟨by rw [e];exact hsg,by rw [e];exact hsz⟩,z2_,?_⟩;exact fin _ e
abbrev X8:Stmt:=top 18
theorem Zbh:FnScope ["thing","top","bottom"] ["thing"] (Zc X8):=⟨rfl,rfl,rfl,by decide +kernel,rfl,by decide +kernel,by decide +kernel⟩
theorem Zfc {f:Addr} {fd:FuncData} (F:Fun K "is_fraction" "is_fraction" X8 f fd) (T:Bt mg) (C_divisor:a1_ P w K mg base) (C_is_whole:a2_ P w K mg base):FnOk P w K mg base CX0 3 f fd ["thing"] Zbj:=by
 refine F.ok Zbh (fun vs H Q E h=>by obtain ⟨p,x,rfl,_⟩:=h;rfl) fun cdv A outer s H vs Q E hr h=>?_;obtain ⟨p,x,rfl,hp,hB,q⟩:=h;have nd:=Zbh.nd;refine' ⟨_,?term,?read⟩
 case term=>refine' @Zd _ _ _ _ _ ?g1 ?g2;(case g1=>refine' @Xc _ _ _ _ _ _ _ _ ?g3 (Zi (Zl Xw)) Z2;case g3=>refine' @PW.pt _ _ _ ?g4;case g4=>refine' @Zei _ _ _ _ _ _ _ ?g5 ?g6;(case g5=>refine' @Ys _ _ _ _ ?g7;case g7=>refine' @Zx _ _ _ ?g8 (fun _=>rfl);case g8=>refine' @Zk _ _ _ _ _ _ _ _ _ Za9 rfl T.b_isinstance Yz ?g9 (by decide) (by decide) (by rfl) (by rfl);case g9=>refine' @Za _ _ _ _ _ (pv 0) (Za (Zc0 (v:=.ty "tuple") rfl T.b_tuple Yk rfl) Zb rfl) rfl);case g6=>refine' @Zbg _ _ _ _ ?ga;case ga=>refine' @Ye _ _ _ _ _ _ _ _ Zqc (Zk Zp rfl T.b_len Yv (Za (pv 0) Zb rfl)) Zf (Yb _));case g2=>refine' @Zd _ _ _ _ _ ?gb ?gc;(case gb=>refine' @Yt _ _ _ _ _ _ (pv 0) ?gd (by rfl) (by rfl) (by rfl);case gd=>refine' @Zy _ _ _ _ _ (2) rfl ?ge (by rfl) (by rfl);case ge=>refine' @Zg _ _ _ _ _ (Ze (i:=1) nd rfl (Or.inl rfl)) (Zg (Ze (i:=2) nd rfl (Or.inl rfl)) Zq) (by rfl));case gc=>refine' @Zd _ _ _ _ _ ?gf ?gg;(case gf=>refine' @Xc _ _ _ _ _ _ _ _ ?gh (Zi (Zl Xw)) Z2;case gh=>refine' @PW.pt _ _ _ ?gi;case gi=>refine' @Zei _ _ _ _ _ _ _ ?gj ?gk;(case gj=>refine' @Ys _ _ _ _ ?gl;case gl=>refine' @Zx _ _ _ (Zh C_is_whole hr (by decide) rfl (Za (pv 1) Zb rfl)) (fun _=>rfl));case gk=>refine' @Zei _ _ _ _ _ _ _ ?gm ?gn;(case gm=>refine' @Ys _ _ _ _ ?go;case go=>refine' @Zx _ _ _ (Zh C_is_whole hr (by decide) rfl (Za (pv 2) Zb rfl)) (fun _=>rfl));case gn=>refine' @Zbg _ _ _ _ (Ye Zmi (pv 2) Zf (Yb _)));case gg=>refine' @Zi _ _ _ ?gp;case gp=>refine' @Zl _ _ _ _ ?gq;case gq=>refine' @Zam _ _ _ _ _ _ _ _ Zm4 ?gr Zf (Yb _);case gr=>refine' @Zh _ _ _ _ _ _ _ _ _ _ _ C_divisor hr (by decide) rfl ?gs (by decide) (by rfl) (by rfl);case gs=>refine' @Za _ _ _ _ _ (pv 1) (Za (pv 2) Zb rfl) rfl
 have hd:=x.den_nz;refine ⟨_,rfl,_,_,_,_,rfl,TyOf.tup hp,rfl,true,rfl,iteF ?_⟩;refine ⟨_,rfl,p,_,rfl,.inr (SqT.of hp),rfl,false,rfl,iteF ?_⟩;refine ⟨_,rfl,p,_,rfl,SqT.of hp,rfl,_,_,rfl,_,_,rfl,rfl,?_⟩;refine ⟨_,rfl,_,rfl,true,rfl,iteF ?_⟩;refine ⟨_,rfl,_,rfl,true,rfl,iteF ?_⟩;refine ⟨_,rfl,_,_,rfl,rfl,_,rfl,?_⟩;rw [show decide ((x.den:Int)<1)=false by exact decide_eq_false (by omega)];refine iteF ?_;refine ⟨_,rfl,_,rfl,_,_,rfl,hB.2,rfl,?_⟩;rw [FM.gcd_one x];exact q
abbrev Zaz:Stmt:=top 29
theorem Zf5:FnScope ["thing","least","most"] ["thing","least","most"] (Zc Zaz):=⟨rfl,rfl,rfl,by decide +kernel,rfl,by decide +kernel,by decide +kernel⟩
theorem Zgo {f:Addr} {fd:FuncData} (F:Fun K "is_between" "is_between" Zaz f fd) (T:Bt mg) (C_is_whole:a2_ P w K mg base):FnOk P w K mg base CX0 2 f fd ["thing","least","most"] Zft:=by
 refine F.ok Zf5 (fun vs H Q E h=>by obtain ⟨i,lo,hi,rfl,_⟩:=h;rfl) fun cdv A outer s H vs Q E hr h=>?_;obtain ⟨i,lo,hi,rfl,h1,h2,q⟩:=h;refine' ⟨_,?term,?read⟩
 case term=>refine' @Zi _ _ _ ?g1;case g1=>refine' @Zl _ _ _ _ ?g2;case g2=>refine' @Zem _ _ _ _ _ _ _ (Zh C_is_whole hr (by decide) rfl (Za (pv 0) Zb rfl)) ?g3;case g3=>refine' @Zc5 _ _ _ _ _ ?g4;case g4=>refine' @Zlk _ _ _ _ _ _ _ _ _ _ _ _ Zmx Zmx (pv 1) (pv 0) (pv 2) (by with_unfolding_all rfl)
 refine ⟨_,rfl,i,rfl,true,rfl,iteT ?_⟩;refine ⟨_,rfl,_,rfl,_,_,rfl,rfl,true,blT h1,iteT ?_⟩;exact ⟨_,rfl,_,_,rfl,rfl,qT h2 q⟩
abbrev Zgq:Stmt:=top 30
theorem Zn0:FnScope ["thing","fewest","most"] ["thing","fewest","most"] (Zc Zgq):=⟨rfl,rfl,rfl,by decide +kernel,rfl,by decide +kernel,by decide +kernel⟩
theorem Zo3 {f:Addr} {fd:FuncData} (F:Fun K "is_row" "is_row" Zgq f fd) (T:Bt mg):FnOk P w K mg base CX0 1 f fd ["thing","fewest","most"] Zrh:=by
 refine F.ok Zn0 (fun vs H Q E h=>by obtain ⟨a,us,lo,hi,rfl,_⟩:=h;rfl) fun cdv A outer s H vs Q E hr h=>?_;obtain ⟨a,us,lo,hi,rfl,ha,h1,h2,q⟩:=h;refine' ⟨_,?term,?read⟩
 case term=>refine' @Zi _ _ _ ?g1;case g1=>refine' @Zl _ _ _ _ ?g2;case g2=>refine' @Zem _ _ _ _ _ _ _ ?g3 ?g4;(case g3=>refine' @Zk _ _ _ _ _ _ _ _ _ Za9 rfl T.b_isinstance Yz ?g5 (by decide) (by decide) (by rfl) (by rfl);case g5=>refine' @Za _ _ _ _ _ (pv 0) (Za (Zc0 (v:=.ty "tuple") rfl T.b_tuple Yk rfl) Zb rfl) rfl);case g4=>refine' @Zc5 _ _ _ _ _ ?g6;case g6=>refine' @Zlk _ _ _ _ _ _ _ _ _ _ _ _ Zmx Zmx (pv 1) (Zk Zp rfl T.b_len Yv (Za (pv 0) Zb rfl)) (pv 2) (by with_unfolding_all rfl)
 refine ⟨_,rfl,_,_,_,_,rfl,TyOf.tup ha,rfl,true,rfl,iteT ?_⟩;refine ⟨_,rfl,_,rfl,a,_,rfl,.inr (SqT.of ha),_,_,rfl,rfl,true,blT h1,iteT ?_⟩;exact ⟨_,rfl,_,_,rfl,rfl,qT h2 q⟩
abbrev X5:Stmt:=top 31
theorem Zfi:FnScope ["things"] ["things"] (Zc X5):=⟨rfl,rfl,rfl,by decide +kernel,rfl,by decide +kernel,by decide +kernel⟩
theorem Ze9 {f:Addr} {fd:FuncData} (F:Fun K "are_rising" "are_rising" X5 f fd) (T:Bt mg):FnOk P w K mg base CX0 1 f fd ["things"] Zfo:=by
 refine F.ok Zfi (fun vs H Q E h=>by obtain ⟨a,ns,rfl,_⟩:=h;rfl) fun cdv A outer s H vs Q E hr h=>?_;obtain ⟨a,ns,rfl,ha,hz,hr',q⟩:=h;refine' ⟨_,?term,?read⟩
 case term=>refine' @Zi _ _ _ ?g1;case g1=>refine' @Zl _ _ _ _ ?g2;case g2=>refine' @Zk _ _ _ _ _ _ _ _ _ (Yo rfl) rfl T.b_all Zas ?g3 (by decide) (by decide) (by rfl) (by rfl);case g3=>refine' @Za _ _ _ _ _ ?g4 Zb rfl;case g4=>refine' @Yp _ _ _ _ _ _ _ (["one","other"]) ([none,none]) _ _ ((gTup K 2 (Yi (Z8 0) (Yi (Z8 1) gNil)))) _ _ rfl (Z0 (by decide) rfl (by decide) rfl rfl) ?g5 (fun _ _ _ _=>(Zy (n:=2) rfl (Zg (Ze (i:=0) (show List.Nodup [("one" : Str),("other" : Str)] by decide) rfl (Or.inl rfl) (Or.inr rfl)) (Zg (Ze (i:=1) (show List.Nodup [("one" : Str),("other" : Str)] by decide) rfl (Or.inl rfl) (Or.inr rfl)) Zq)))) (fun _ _ _ _=>Zn) (fun _ _ _ _=>(Zam Zmi (pv 0) (pv 1) (Yb _))) (by intro _ ;rfl);case g5=>refine' @Zb1 _ _ _ _ .t .t _ _ _ _ _ rfl T.b_zip ?g6 (by rfl) (by rfl);case g6=>refine' @Za _ _ _ _ _ (pv 0) ?g7 rfl;case g7=>refine' @Za _ _ _ _ _ ?g8 Zb rfl;case g8=>refine' @Zb9 _ _ _ _ _ _ _ _ _ _ Zn4 (pv 0) (Zek Zf) Zeq
 refine ⟨_,rfl,_,rfl,_,rfl,a,_,rfl,ha,fun p H1 s1 h1=>?_⟩;rw [cut1] at h1;refine ⟨a,p,rfl,⟨_,SqT.of (s1 _ _ ha)⟩,⟨_,SqT.of h1⟩,fun D nD=>?_⟩;refine lc_Z (k:=.t) (l:=.t) (vs:=ns.map V.int) (ws:=(ns.map V.int).drop 1) (fun _ v b=>v=V.bl b) (fun _ _ _ _ _ e=>e) (List.replicate (ns.length-1) true) (by simp) (by simp;omega) nD (s1 _ _ ha) h1 (fun i v w H2 C hv hw s2 c=>?_) (fun H2 us s2 e2 a2=>?_)
 · rw [List.getElem?_drop,List.getElem?_map,Nat.add_comm] at hw;rw [List.getElem?_map] at hv;obtain ⟨x,ex,rfl⟩:=Option.map_eq_some_iff.mp hv;obtain ⟨y,ey,rfl⟩:=Option.map_eq_some_iff.mp hw;refine ⟨_,rfl,_,rfl,_,_,rfl,rfl,qT (hr' i x y ex ey) (c _ _ true (Same.refl _) ?_ rfl)⟩
   have:i+1<ns.length:=(List.getElem?_eq_some_iff.mp ey).1
   rw [List.getElem?_replicate,if_pos (by omega)]
 · rw [a2.bls] at e2;refine ⟨D,List.replicate (ns.length-1) true,rfl,SqL.of e2,?_⟩;rw [List.all_replicate];split<;>exact q _ (s1.trans s2)
abbrev Zb5:Stmt:=top 31
theorem Ze4:FnScope ["things"] ["things"] (Zc Zb5):=⟨rfl,rfl,rfl,by decide +kernel,rfl,by decide +kernel,by decide +kernel⟩
theorem Zfg {f:Addr} {fd:FuncData} (F:Fun K "are_rising" "are_rising" Zb5 f fd) (T:Bt mg):FnOk P w K mg base CX0 1 f fd ["things"] Zfn:=by
 refine F.ok Ze4 (fun vs H Q E h=>by obtain ⟨a,us,ks,rfl,_⟩:=h;rfl) fun cdv A outer s H vs Q E hr h=>?_;obtain ⟨a,us,ks,rfl,ha,al,hz,hr',q⟩:=h;have hu:=Zs7 hr;have hu1:=Nat.lt_of_succ_lt hu;refine' ⟨_,?term,?read⟩
 case term=>refine' @Zi _ _ _ ?g1;case g1=>refine' @Zl _ _ _ _ ?g2;case g2=>refine' @Zk _ _ _ _ _ _ _ _ _ (Yo rfl) rfl T.b_all Zas ?g3 (by decide) (by decide) (by rfl) (by rfl);case g3=>refine' @Za _ _ _ _ _ ?g4 Zb rfl;case g4=>refine' @Yp _ _ _ _ _ _ _ (["one","other"]) ([none,none]) _ _ ((gTup K 2 (Yi (Z8 0) (Yi (Z8 1) gNil)))) _ _ rfl (Z0 (by decide) rfl (by decide) rfl rfl) ?g5 (fun _ _ _ _=>(Zy (n:=2) rfl (Zg (Ze (i:=0) (show List.Nodup [("one" : Str),("other" : Str)] by decide) rfl (Or.inl rfl) (Or.inr rfl)) (Zg (Ze (i:=1) (show List.Nodup [("one" : Str),("other" : Str)] by decide) rfl (Or.inl rfl) (Or.inr rfl)) Zq)))) (fun _ _ _ _=>Zn) (fun _ _ _ _=>(Zam (show OpR _ (compareOp .Lt) (rLtT K) from Zvk hu1) (pv 0) (pv 1) (Yb _))) (by intro _ ;rfl);case g5=>refine' @Zb1 _ _ _ _ .t .t _ _ _ _ _ rfl T.b_zip ?g6 (by rfl) (by rfl);case g6=>refine' @Za _ _ _ _ _ (pv 0) ?g7 rfl;case g7=>refine' @Za _ _ _ _ _ ?g8 Zb rfl;case g8=>refine' @Zb9 _ _ _ _ _ _ _ _ _ _ Zn4 (pv 0) (Zek Zf) Zeq
 refine ⟨_,rfl,_,rfl,_,rfl,a,_,rfl,ha,fun p H1 s1 h1=>?_⟩;rw [cut1] at h1;refine ⟨a,p,rfl,⟨_,SqT.of (s1 _ _ ha)⟩,⟨_,SqT.of h1⟩,fun D nD=>?_⟩;refine lc_Z (k:=.t) (l:=.t) (vs:=us) (ws:=us.drop 1) RB hRB (List.replicate (us.length-1) true) (by simp) (by simp;omega) nD (s1 _ _ ha) h1 (fun i v w H2 C hv hw s2 c=>?_) (fun H2 us' s2 e2 a2=>?_)
 · rw [List.getElem?_drop,Nat.add_comm] at hw;obtain ⟨x,ex,a,rfl,qa⟩:=al.get hv;obtain ⟨y,ey,b,rfl,qb⟩:=al.get hw;refine ⟨_,rfl,_,rfl,a,b,x,y,rfl,rfl,SqT.of ((s1.trans s2) _ _ qa),SqT.of ((s1.trans s2) _ _ qb),?_⟩;rw [hr' i x y ex ey];refine c _ _ true (Same.refl _) (repT ?_) rfl
   have:=Yn hw
   omega
 · rw [a2.bls] at e2;refine ⟨D,List.replicate (us.length-1) true,rfl,SqL.of e2,?_⟩;rw [allT];exact q _ (s1.trans s2)
abbrev Zbp:Stmt:=top 32
theorem Zi0:FnScope ["thing"] ["thing"] (Zc Zbp):=⟨rfl,rfl,rfl,by decide +kernel,rfl,by decide +kernel,by decide +kernel⟩
theorem Zhe {f:Addr} {fd:FuncData} (F:Fun K "is_corner" "is_corner" Zbp f fd) (T:Bt mg) (C_is_between:a3_ P w K mg base) (C_is_row:a4_ P w K mg base):FnOk P w K mg base CX0 3 f fd ["thing"] Zh4:=by
 refine F.ok Zi0 (fun vs H Q E h=>by obtain ⟨v,p,rfl,_⟩:=h;rfl) fun cdv A outer s H vs Q E hr h=>?_;obtain ⟨v,p,rfl,⟨a,rfl,ha⟩,⟨⟨n1,n2⟩,n3,n4⟩,q⟩:=h;refine' ⟨_,?term,?read⟩
 case term=>refine' @Zi _ _ _ ?g1;case g1=>refine' @Zl _ _ _ _ ?g2;case g2=>refine' @Zem _ _ _ _ _ _ _ ?g3 ?g4;(case g3=>refine' @Zh _ _ _ _ _ _ _ _ _ _ _ C_is_row hr (by decide) rfl ?g5 (by decide) (by rfl) (by rfl);case g5=>refine' @Za _ _ _ _ _ (pv 0) ?g6 rfl;case g6=>refine' @Za _ _ _ _ _ Zf (Za Zf Zb rfl) rfl);case g4=>refine' @Zc5 _ _ _ _ _ ?g7;case g7=>refine' @Zk _ _ _ _ _ _ _ _ _ (Yo rfl) rfl T.b_all Zas ?g8 (by decide) (by decide) (by rfl) (by rfl);case g8=>refine' @Za _ _ _ _ _ ?g9 Zb rfl;case g9=>refine' @Yp _ _ _ _ _ _ _ (["part"]) ([none]) _ _ _ _ _ rfl (Z0 (by decide) rfl (by decide) rfl rfl) (Yu (pv 0)) (fun _ _ _ _=>(Ze (i:=0) (show List.Nodup [("part" : Str)] by decide) rfl (Or.inl rfl) (Or.inr rfl))) (fun _ _ _ _=>Zn) (fun _ _ _ _=>(Zh C_is_between hr (by decide) rfl (Za (pv 0) (Za (Zqf Zkt (Zac T.n_FARTHEST rfl)) (Za (Zac T.n_FARTHEST rfl) Zb rfl) rfl) rfl))) (by intro _ ;rfl)
 refine ⟨_,rfl,a,_,2,2,rfl,ha,by simp,by simp,true,rfl,iteT ?_⟩;refine ⟨_,rfl,a,rfl,⟨_,SqT.of ha⟩,fun D nD=>?_⟩;refine lc_T (k:=.t) (vs:=[V.int p.1,V.int p.2]) RB hRB [true,true] rfl (by simp) nD ha (fun i w H2 C hw s2 c=>?_) (fun H2 us' s2 e2 a2=>?_)
 · have hi:i=0∨i=1:=by have:i<2:=Yn hw;omega
   rcases hi with rfl|rfl
   · cases (show V.int p.1=w by simpa using hw)
     exact ⟨_,rfl,_,rfl,p.1,-100,100,rfl,n1,n2,c _ _ true (Same.refl _) rfl rfl⟩
   · cases (show V.int p.2=w by simpa using hw)
     exact ⟨_,rfl,_,rfl,p.2,-100,100,rfl,n3,n4,c _ _ true (Same.refl _) rfl rfl⟩
 · rw [a2.bls] at e2;exact ⟨D,[true,true],rfl,SqL.of e2,q _ s2⟩
abbrev Zag:Stmt:=top 33
theorem Ze8:FnScope ["thing"] ["thing"] (Zc Zag):=⟨rfl,rfl,rfl,by decide +kernel,rfl,by decide +kernel,by decide +kernel⟩
theorem Zfh {f:Addr} {fd:FuncData} (F:Fun K "are_corners" "are_corners" Zag f fd) (T:Bt mg) (C_is_corner:a5_ P w K mg base) (C_is_row:a4_ P w K mg base):FnOk P w K mg base CX0 4 f fd ["thing"] Zfr:=by
 refine F.ok Ze8 (fun vs H Q E h=>by obtain ⟨v,cs,rfl,_⟩:=h;rfl) fun cdv A outer s H vs Q E hr h=>?_;obtain ⟨v,cs,rfl,⟨a,us,rfl,ha,al⟩,h3,h30,nr,nd',q⟩:=h;refine' ⟨_,?term,?read⟩
 case term=>refine' @Zd _ _ _ _ _ ?g1 ?g2;(case g1=>refine' @Xc _ _ _ _ _ _ _ _ ?g3 (Zi (Zl Xw)) Z2;case g3=>refine' @PW.pt _ _ _ ?g4;case g4=>refine' @Zei _ _ _ _ _ _ _ ?g5 ?g6;(case g5=>refine' @Ys _ _ _ _ ?g7;case g7=>refine' @Zx _ _ _ ?g8 (fun _=>rfl);case g8=>refine' @Zh _ _ _ _ _ _ _ _ _ _ _ C_is_row hr (by decide) rfl ?g9 (by decide) (by rfl) (by rfl);case g9=>refine' @Za _ _ _ _ _ (pv 0) ?ga rfl;case ga=>refine' @Za _ _ _ _ _ (Zac T.n_FEWEST_CORNERS rfl) (Za (Zac T.n_MOST_CORNERS rfl) Zb rfl) rfl);case g6=>refine' @Zbg _ _ _ _ ?gb;case gb=>refine' @Ys _ _ _ _ ?gc;case gc=>refine' @Zx _ _ _ ?gd (fun _=>rfl);case gd=>refine' @Zk _ _ _ _ _ _ _ _ _ (Yo rfl) rfl T.b_all Zas ?ge (by decide) (by decide) (by rfl) (by rfl);case ge=>refine' @Za _ _ _ _ _ ?gf Zb rfl;case gf=>refine' @Yp _ _ _ _ _ _ _ (["part"]) ([none]) _ _ _ _ _ rfl (Z0 (by decide) rfl (by decide) rfl rfl) (Yu (pv 0)) (fun _ _ _ _=>(Ze (i:=0) (show List.Nodup [("part" : Str)] by decide) rfl (Or.inl rfl) (Or.inr rfl))) (fun _ _ _ _=>Zn) (fun _ _ _ _=>(Zh C_is_corner hr (by decide) rfl (Za (pv 0) Zb rfl))) (by intro _ ;rfl));case g2=>refine' @Zi _ _ _ ?gg;case gg=>refine' @Zl _ _ _ _ ?gh;case gh=>refine' @Zam _ _ _ _ _ _ _ _ Zm4 ?gi (Zk Zp rfl T.b_len Yv (Za (pv 0) Zb rfl)) (Yb _);case gi=>refine' @Zk _ _ _ _ _ _ _ _ _ Zn8 rfl T.b_len Yv ?gj (by decide) (by decide) (by rfl) (by rfl);case gj=>refine' @Za _ _ _ _ _ (Yd (Zot rfl hr) rfl T.b_set Zuh (Za (pv 0) Zb rfl)) Zb rfl
 have hl:=al.1;refine ⟨_,rfl,a,_,3,30,rfl,ha,by omega,by omega,true,rfl,iteF ?_⟩;refine ⟨_,rfl,a,rfl,⟨_,SqT.of ha⟩,fun D nD=>?_⟩;refine lc_T (k:=.t) (vs:=us) RB hRB (List.replicate us.length true) (by simp) (by omega) nD ha (fun i w H2 C hw s2 c=>?_) (fun H2 us' s2 e2 a2=>?_)
 · obtain ⟨p,ep,rp⟩:=al.get hw;exact ⟨_,rfl,w,p,rfl,rp.tk s2.tk,nr p (List.mem_of_getElem? ep),fun H5 s5=>c _ _ true s5 (repT (Yn hw)) rfl⟩
 · rw [a2.bls] at e2;refine ⟨D,List.replicate us.length true,rfl,SqL.of e2,true,by rw [allT];rfl,iteF ?_⟩;refine ⟨_,rfl,a,us,cs.map (fun p=>[p.1,p.2]),rfl,SqT.of (s2 _ _ ha),by simp [hl],fun i v hv=>?_,?_,by simp;omega,fun S nS=>?_⟩
   · obtain ⟨p,ep,b,rfl,hb⟩:=al.get hv;exact ⟨b,[p.1,p.2],rfl,by rw [List.getElem?_map,ep];rfl,SqT.of (s2 _ _ hb)⟩
   · rw [List.nodup_iff_pairwise_ne,List.pairwise_map];refine (List.nodup_iff_pairwise_ne.mp nd').imp fun {x y} ne e=>ne ?_;simp at e;exact Prod.ext e.1 e.2
   · have s3:Same H2 (upd H2 S (.ext (Zfv S (cs.map fun p=>[p.1,p.2]).length))):=Same.new nS;refine ⟨S,_,rfl,Zj,by rw [List.length_map,sizeLine_eq];omega,_,rfl,a,us,rfl,.inr (SqT.of (s3 _ _ (s2 _ _ ha))),rfl,?_⟩;have e:V.int ((cs.map fun p=>[p.1,p.2]).length:Nat)=V.int us.length:=by rw [List.length_map,hl]
     exact qT e (q _ (s2.trans s3))
abbrev Zns:Stmt:=top 34
theorem Zoe:FnScope ["first","second","third","ahead"] ["first","second","third"] (Zc Zns):=⟨rfl,rfl,rfl,by decide +kernel,rfl,by decide +kernel,by decide +kernel⟩
theorem Zst {f:Addr} {fd:FuncData} (F:Fun K "turn" "turn" Zns f fd) (T:Bt mg):FnOk P w K mg base CX0 1 f fd ["first","second","third"] Znl:=by
 refine F.ok Zoe (fun vs H Q E h=>by obtain ⟨u,v,w,a,b,c,rfl,_⟩:=h;rfl) fun cdv A outer s H vs Q E hr h=>?_;obtain ⟨u,v,w,a,b,c,rfl,⟨pa,rfl,ha⟩,⟨pb,rfl,hb⟩,⟨pc,rfl,hc⟩,na,nb,nc,q⟩:=h;have nd:=Zoe.nd;refine' ⟨_,?term,?read⟩
 case term=>refine' @Zd _ _ _ _ _ ?g1 ?g2;(case g1=>refine' @Zz _ _ (3) _ _ _ _ nd rfl (Or.inl rfl) ?g3 (by rfl) (by first|exact Or.inl rfl|exact Or.inr rfl|assumption);case g3=>refine' @Zm _ _ _ _ _ _ _ _ Zs ?g4 ?g5;(case g4=>refine' @Zm _ _ _ _ _ _ _ _ Y1 ?g6 ?g7;(case g6=>refine' @Zt _ _ _ _ _ _ _ Zu (pv 1) Zf (fun _ _=>rfl));case g7=>refine' @Zt _ _ _ _ _ _ _ Zu (pv 0) Zf (fun _ _=>rfl));case g5=>refine' @Zm _ _ _ _ _ _ _ _ Y1 ?g8 ?g9;(case g8=>refine' @Zt _ _ _ _ _ _ _ Zu (pv 2) Zf (fun _ _=>rfl));case g9=>refine' @Zt _ _ _ _ _ _ _ Zu (pv 0) Zf (fun _ _=>rfl));case g2=>refine' @Zi _ _ _ ?ga;case ga=>refine' @Zl _ _ _ _ ?gb;case gb=>refine' @Zm _ _ _ _ _ _ _ _ Y1 (pv 3) ?gc;case gc=>refine' @Zm _ _ _ _ _ _ _ _ Zs ?gd ?ge;(case gd=>refine' @Zm _ _ _ _ _ _ _ _ Y1 ?gf ?gg;(case gf=>refine' @Zt _ _ _ _ _ _ _ Zu (pv 2) Zf (fun _ _=>rfl));case gg=>refine' @Zt _ _ _ _ _ _ _ Zu (pv 0) Zf (fun _ _=>rfl));case ge=>refine' @Zm _ _ _ _ _ _ _ _ Y1 ?gh ?gi;(case gh=>refine' @Zt _ _ _ _ _ _ _ Zu (pv 1) Zf (fun _ _=>rfl));case gi=>refine' @Zt _ _ _ _ _ _ _ Zu (pv 0) Zf (fun _ _=>rfl)
 obtain ⟨⟨a1,a2⟩,a3,a4⟩:=na;obtain ⟨⟨b1,b2⟩,b3,b4⟩:=nb;obtain ⟨⟨c1,c2⟩,c3,c4⟩:=nc;refine ⟨_,rfl,pb,_,0,_,rfl,rfl,SqT.of hb,rfl,_,rfl,pa,_,0,_,rfl,rfl,SqT.of ha,rfl,_,_,rfl,rfl,_,rfl,pc,_,1,_,rfl,rfl,SqT.of hc,rfl,_,rfl,pa,_,1,_,rfl,rfl,SqT.of ha,rfl,_,_,rfl,rfl,_,_,rfl,rfl,mul3 (by omega) (by omega),?_⟩;refine ⟨_,rfl,_,rfl,pc,_,0,_,rfl,rfl,SqT.of hc,rfl,_,rfl,pa,_,0,_,rfl,rfl,SqT.of ha,rfl,_,_,rfl,rfl,_,rfl,pb,_,1,_,rfl,rfl,SqT.of hb,rfl,_,rfl,pa,_,1,_,rfl,rfl,SqT.of ha,rfl,_,_,rfl,rfl,_,_,rfl,rfl,mul3 (by omega) (by omega),_,_,rfl,rfl,?_⟩;exact q
abbrev Zen:Stmt:=top 35
theorem Zmm:FnScope ["corners","piece"] ["corners","piece"] (Zc Zen):=⟨rfl,rfl,rfl,by decide +kernel,rfl,by decide +kernel,by decide +kernel⟩
theorem Zl9 {f:Addr} {fd:FuncData} (F:Fun K "turn_of" "turn_of" Zen f fd) (T:Bt mg) (C_turn:a6_ P w K mg base):FnOk P w K mg base CX0 2 f fd ["corners","piece"] Zh5:=by
 refine F.ok Zmm (fun vs H Q E h=>by obtain ⟨u,v,cs,p,rfl,_⟩:=h;rfl) fun cdv A outer s H vs Q E hr h=>?_;obtain ⟨u,v,cs,p,rfl,⟨a,us,rfl,ha,al⟩,⟨b,rfl,hb⟩,hl,bd,nr,q⟩:=h;refine' ⟨_,?term,?read⟩
 case term=>refine' @Zi _ _ _ ?g1;case g1=>refine' @Zl _ _ _ _ ?g2;case g2=>refine' @Zh _ _ _ _ _ _ _ _ _ _ _ C_turn hr (by decide) rfl ?g3 (by decide) (by rfl) (by rfl);case g3=>refine' @Za _ _ _ _ _ ?g4 ?g5 rfl;(case g4=>refine' @Zt _ _ _ _ _ _ _ Zu (pv 0) ?g6 (fun _ _=>rfl);case g6=>refine' @Zt _ _ _ _ _ _ _ Zu (pv 1) Zf (fun _ _=>rfl));case g5=>refine' @Za _ _ _ _ _ ?g7 ?g8 rfl;(case g7=>refine' @Zt _ _ _ _ _ _ _ Zu (pv 0) ?g9 (fun _ _=>rfl);case g9=>refine' @Zt _ _ _ _ _ _ _ Zu (pv 1) Zf (fun _ _=>rfl));case g8=>refine' @Za _ _ _ _ _ ?ga Zb rfl;case ga=>refine' @Zt _ _ _ _ _ _ _ Zu (pv 0) ?gb (fun _ _=>rfl);case gb=>refine' @Zt _ _ _ _ _ _ _ Zu (pv 1) Zf (fun _ _=>rfl)
 match p,hl with
 | [i,j,k],_ =>
   have bi:=bd i (by simp);have bj:=bd j (by simp);have bk:=bd k (by simp);obtain ⟨x,ex,rx⟩:=Zmn al bi.1 bi.2;obtain ⟨y,ey,ry⟩:=Zmn al bj.1 bj.2;obtain ⟨z,ez,rz⟩:=Zmn al bk.1 bk.2;refine ⟨_,rfl,_,rfl,b,_,0,_,rfl,rfl,SqT.of hb,rfl,a,us,i,x,rfl,rfl,SqT.of ha,ex,?_⟩;refine ⟨_,rfl,_,rfl,b,_,1,_,rfl,rfl,SqT.of hb,rfl,a,us,j,y,rfl,rfl,SqT.of ha,ey,?_⟩;refine ⟨_,rfl,_,rfl,b,_,2,_,rfl,rfl,SqT.of hb,rfl,a,us,k,z,rfl,rfl,SqT.of ha,ez,?_⟩;exact ⟨x,y,z,_,_,_,rfl,rx,ry,rz,nr _ (Xg bi.1 bi.2),nr _ (Xg bj.1 bj.2),nr _ (Xg bk.1 bk.2),q⟩
abbrev Za8:Stmt:=top 36
theorem Zi7:FnScope ["corners","thing"] ["corners","thing"] (Zc Za8):=⟨rfl,rfl,rfl,by decide +kernel,rfl,by decide +kernel,by decide +kernel⟩
theorem Zkh {f:Addr} {fd:FuncData} (F:Fun K "is_piece" "is_piece" Za8 f fd) (T:Bt mg) (C_are_risingI:a7_ P w K mg base) (C_is_between:a3_ P w K mg base) (C_is_row:a4_ P w K mg base) (C_turn_of:a8_ P w K mg base):FnOk P w K mg base CX0 3 f fd ["corners","thing"] Zf0:=by
 refine F.ok Zi7 (fun vs H Q E h=>by obtain ⟨u,v,cs,p,rfl,_⟩:=h;rfl) fun cdv A outer s H vs Q E hr h=>?_;obtain ⟨u,v,cs,p,rfl,⟨a,us,rfl,ha,al⟩,⟨b,rfl,hb⟩,ok,nr,q⟩:=h;refine' ⟨_,?term,?read⟩
 case term=>refine' @Zd _ _ _ _ _ ?g1 ?g2;(case g1=>refine' @Xc _ _ _ _ _ _ _ _ ?g3 (Zi (Zl Xw)) Z2;case g3=>refine' @PW.pt _ _ _ ?g4;case g4=>refine' @Zei _ _ _ _ _ _ _ ?g5 ?g6;(case g5=>refine' @Ys _ _ _ _ ?g7;case g7=>refine' @Zx _ _ _ ?g8 (fun _=>rfl);case g8=>refine' @Zh _ _ _ _ _ _ _ _ _ _ _ C_is_row hr (by decide) rfl ?g9 (by decide) (by rfl) (by rfl);case g9=>refine' @Za _ _ _ _ _ (pv 1) ?ga rfl;case ga=>refine' @Za _ _ _ _ _ Zf (Za Zf Zb rfl) rfl);case g6=>refine' @Zbg _ _ _ _ ?gb;case gb=>refine' @Ys _ _ _ _ ?gc;case gc=>refine' @Zx _ _ _ ?gd (fun _=>rfl);case gd=>refine' @Zk _ _ _ _ _ _ _ _ _ (Yo rfl) rfl T.b_all Zas ?ge (by decide) (by decide) (by rfl) (by rfl);case ge=>refine' @Za _ _ _ _ _ ?gf Zb rfl;case gf=>refine' @Yp _ _ _ _ _ _ _ (["part","corners"]) ([none,some 0]) _ _ _ _ _ rfl (Z3 (XN:=[("corners" : Str),("thing" : Str)]) (Scope.names (Zc Za8)) rfl rfl rfl (fun _ h=>Zv h) (by decide +kernel) rfl) (Yu (pv 1)) (fun _ _ _ _=>(Ze (i:=0) (show List.Nodup [("part" : Str),("corners" : Str)] by decide) rfl (Or.inl rfl) (Or.inr rfl))) (fun _ _ _ _=>Zn) (fun _ _ _ _=>(Zh C_is_between hr (by decide) rfl (Za (pv 0) (Za Zf (Za (Zm Y1 (Zk (Zga K rfl) rfl T.b_len Yv (Za (pv 1) Zb rfl)) Zf) Zb rfl) rfl) rfl))) (by intro _ ;rfl));case g2=>refine' @Zi _ _ _ ?gg;case gg=>refine' @Zl _ _ _ _ ?gh;case gh=>refine' @Zem _ _ _ _ _ _ _ (Zh C_are_risingI hr (by decide) rfl (Za (pv 1) Zb rfl)) ?gi;case gi=>refine' @Zc5 _ _ _ _ _ ?gj;case gj=>refine' @Zam _ _ _ _ _ _ _ _ Zqc ?gk Zf (Yb _);case gk=>refine' @Zh _ _ _ _ _ _ _ _ _ _ _ C_turn_of hr (by decide) rfl ?gl (by decide) (by rfl) (by rfl);case gl=>refine' @Za _ _ _ _ _ (pv 0) (Za (pv 1) Zb rfl) rfl
 have hl:=ok.len;have hl2:=al.1;refine ⟨_,rfl,b,_,3,3,rfl,hb,by simp [hl],by simp [hl],true,rfl,iteF ?_⟩;refine ⟨_,rfl,b,rfl,⟨_,SqT.of hb⟩,fun D nD=>?_⟩;refine lc_T (k:=.t) (vs:=p.map V.int) RB hRB (List.replicate 3 true) (by simp [hl]) (by simp [hl]) nD hb (fun i w H2 C hw s2 c=>?_) (fun H2 us' s2 e2 a2=>?_)
 · rw [List.getElem?_map] at hw;obtain ⟨x,ex,rfl⟩:=Option.map_eq_some_iff.mp hw;obtain ⟨b1,b2⟩:=ok.bd x (List.mem_of_getElem? ex);refine ⟨_,rfl,_,rfl,a,us,rfl,.inr (SqT.of (s2 _ _ ha)),_,_,rfl,rfl,x,0,_,rfl,b1,by rw [hl2];exact b2,c _ _ true (Same.refl _) (repT ?_) rfl⟩
   have:=Yn ex
   omega
 · rw [a2.bls] at e2;refine ⟨D,List.replicate 3 true,rfl,SqL.of e2,true,by rw [allT];rfl,iteF ?_⟩;refine ⟨_,rfl,b,p,rfl,s2 _ _ hb,by omega,fun i x y ex ey=>?_,fun H3 s3=>⟨true,rfl,iteT ?_⟩⟩
   · have r:=ok.rise
     match p,hl with
     | [i0,i1,i2],_ =>
       match i,ex,ey with
       | 0,ex,ey=>simp at ex ey;subst ex;subst ey;exact r.1
       | 1,ex,ey=>simp at ex ey;subst ex;subst ey;exact r.2
       | 2,ex,ey=>simp at ey
       | (n+3),ex,ey=>simp at ex
   · have s4:=s2.trans s3;refine ⟨_,rfl,_,rfl,_,_,cs,p,rfl,⟨a,us,rfl,s4 _ _ ha,al.imp fun v x r=>r.tk s4.tk⟩,⟨b,rfl,s4 _ _ hb⟩,hl,ok.bd,nr,rfl,?_⟩;have e:decide (V.int (dOf cs p)=V.int 0)=false:=decide_eq_false fun z=>ok.d (V.int.inj z);rw [e];exact q _ s4
abbrev Xx:Stmt:=top 37
theorem Zgt:FnScope ["corners","thing"] ["corners","thing"] (Zc Xx):=⟨rfl,rfl,rfl,by decide +kernel,rfl,by decide +kernel,by decide +kernel⟩
theorem Zgf {f:Addr} {fd:FuncData} (F:Fun K "are_pieces" "are_pieces" Xx f fd) (T:Bt mg) (C_are_risingT:a9_ P w K mg base) (C_is_piece:a10_ P w K mg base) (C_is_row:a4_ P w K mg base):FnOk P w K mg base CX0 4 f fd ["corners","thing"] Zig:=by
 refine F.ok Zgt (fun vs H Q E h=>by obtain ⟨u,v,cs,ps,rfl,_⟩:=h;rfl) fun cdv A outer s H vs Q E hr h=>?_;obtain ⟨u,v,cs,ps,rfl,hc,⟨b,ws,rfl,hb,bl⟩,p1,p40,pc,rise,nr,q⟩:=h;refine' ⟨_,?term,?read⟩
 case term=>refine' @Zd _ _ _ _ _ ?g1 ?g2;(case g1=>refine' @Xc _ _ _ _ _ _ _ _ ?g3 (Zi (Zl Xw)) Z2;case g3=>refine' @PW.pt _ _ _ ?g4;case g4=>refine' @Zei _ _ _ _ _ _ _ ?g5 ?g6;(case g5=>refine' @Ys _ _ _ _ ?g7;case g7=>refine' @Zx _ _ _ ?g8 (fun _=>rfl);case g8=>refine' @Zh _ _ _ _ _ _ _ _ _ _ _ C_is_row hr (by decide) rfl ?g9 (by decide) (by rfl) (by rfl);case g9=>refine' @Za _ _ _ _ _ (pv 1) ?ga rfl;case ga=>refine' @Za _ _ _ _ _ Zf (Za (Zac T.n_MOST_PIECES rfl) Zb rfl) rfl);case g6=>refine' @Zbg _ _ _ _ ?gb;case gb=>refine' @Ys _ _ _ _ ?gc;case gc=>refine' @Zx _ _ _ ?gd (fun _=>rfl);case gd=>refine' @Zk _ _ _ _ _ _ _ _ _ (Yo rfl) rfl T.b_all Zas ?ge (by decide) (by decide) (by rfl) (by rfl);case ge=>refine' @Za _ _ _ _ _ ?gf Zb rfl;case gf=>refine' @Yp _ _ _ _ _ _ _ (["part","corners"]) ([none,some 0]) _ _ _ _ _ rfl (Z3 (XN:=[("corners" : Str),("thing" : Str)]) (Scope.names (Zc Xx)) rfl rfl rfl (fun _ h=>Zv h) (by decide +kernel) rfl) (Yu (pv 1)) (fun _ _ _ _=>(Ze (i:=0) (show List.Nodup [("part" : Str),("corners" : Str)] by decide) rfl (Or.inl rfl) (Or.inr rfl))) (fun _ _ _ _=>Zn) (fun _ _ _ _=>(Zh C_is_piece hr (by decide) rfl (Za (pv 1) (Za (pv 0) Zb rfl) rfl))) (by intro _ ;rfl));case g2=>refine' @Zi _ _ _ ?gg;case gg=>refine' @Zl _ _ _ _ (Zh C_are_risingT hr (by decide) rfl (Za (pv 1) Zb rfl))
 have hl:=bl.1;refine ⟨_,rfl,b,_,1,40,rfl,hb,by omega,by omega,true,rfl,iteF ?_⟩;refine ⟨_,rfl,b,rfl,⟨_,SqT.of hb⟩,fun D nD=>?_⟩;refine lc_T (k:=.t) (vs:=ws) RB hRB (List.replicate ws.length true) (by simp) (by omega) nD hb (fun i w H2 C hw s2 c=>?_) (fun H2 us' s2 e2 a2=>?_)
 · obtain ⟨p,ep,rp⟩:=bl.get hw;exact ⟨_,rfl,_,rfl,_,_,cs,p,rfl,hc.tk s2.tk,rp.tk s2.tk,pc p (List.mem_of_getElem? ep),nr,fun H5 s5=>c _ _ true s5 (repT (Yn hw)) rfl⟩
 · rw [a2.bls] at e2;refine ⟨D,List.replicate ws.length true,rfl,SqL.of e2,true,by rw [allT];rfl,iteF ?_⟩;refine ⟨_,rfl,b,ws,ps,rfl,s2 _ _ hb,bl.imp fun v x r=>r.tk s2.tk,by omega,fun i x y ex ey=>?_,fun H3 s3=>q _ (s2.trans s3)⟩
   have:=rise i (Yn ey)
   rw [List.getD_eq_getElem?_getD,List.getD_eq_getElem?_getD,ex,ey] at this;exact this
abbrev Za1:Stmt:=top 38
theorem Zg9:FnScope ["pieces","thing"] ["pieces","thing"] (Zc Za1):=⟨rfl,rfl,rfl,by decide +kernel,rfl,by decide +kernel,by decide +kernel⟩
theorem Zg5 {f:Addr} {fd:FuncData} (F:Fun K "are_thicks" "are_thicks" Za1 f fd) (T:Bt mg) (C_is_between:a3_ P w K mg base) (C_is_row:a4_ P w K mg base):FnOk P w K mg base CX0 3 f fd ["pieces","thing"] Zip:=by
 refine F.ok Zg9 (fun vs H Q E h=>by obtain ⟨u,v,ps,ts,rfl,_⟩:=h;rfl) fun cdv A outer s H vs Q E hr h=>?_;obtain ⟨u,v,ps,ts,rfl,⟨a,us,rfl,ha,al⟩,⟨b,rfl,hb⟩,hl,p40,t9,q⟩:=h;refine' ⟨_,?term,?read⟩
 case term=>refine' @Zd _ _ _ _ _ ?g1 ?g2;(case g1=>refine' @Xc _ _ _ _ _ _ _ _ ?g3 (Zi (Zl Xw)) Z2;case g3=>refine' @Ys _ _ _ _ ?g4;case g4=>refine' @Zx _ _ _ ?g5 (fun _=>rfl);case g5=>refine' @Zh _ _ _ _ _ _ _ _ _ _ _ C_is_row hr (by decide) rfl ?g6 (by decide) (by rfl) (by rfl);case g6=>refine' @Za _ _ _ _ _ (pv 1) ?g7 rfl;case g7=>refine' @Za _ _ _ _ _ (Zk Zp rfl T.b_len Yv (Za (pv 0) Zb rfl)) ?g8 rfl;case g8=>refine' @Za _ _ _ _ _ (Zk Zp rfl T.b_len Yv (Za (pv 0) Zb rfl)) Zb rfl);case g2=>refine' @Zi _ _ _ ?g9;case g9=>refine' @Zl _ _ _ _ ?ga;case ga=>refine' @Zk _ _ _ _ _ _ _ _ _ (Yo rfl) rfl T.b_all Zas ?gb (by decide) (by decide) (by rfl) (by rfl);case gb=>refine' @Za _ _ _ _ _ ?gc Zb rfl;case gc=>refine' @Yp _ _ _ _ _ _ _ (["part"]) ([none]) _ _ _ _ _ rfl (Z0 (by decide) rfl (by decide) rfl rfl) (Yu (pv 1)) (fun _ _ _ _=>(Ze (i:=0) (show List.Nodup [("part" : Str)] by decide) rfl (Or.inl rfl) (Or.inr rfl))) (fun _ _ _ _=>Zn) (fun _ _ _ _=>(Zh C_is_between hr (by decide) rfl (Za (pv 0) (Za Zf (Za (Zac T.n_THICKEST rfl) Zb rfl) rfl) rfl))) (by intro _ ;rfl)
 have hl2:=al.1;have hl3:((ts.map V.int).length:Int)=us.length:=by simp;omega
 refine ⟨_,rfl,_,rfl,a,us,rfl,.inr (SqT.of ha),_,rfl,a,us,rfl,.inr (SqT.of ha),b,_,_,_,rfl,hb,by rw [hl3];exact Int.le_refl _,by rw [hl3];exact Int.le_refl _,true,rfl,iteF ?_⟩;refine ⟨_,rfl,b,rfl,⟨_,SqT.of hb⟩,fun D nD=>?_⟩;refine lc_T (k:=.t) (vs:=ts.map V.int) RB hRB (List.replicate ts.length true) (by simp) (by simp;omega) nD hb (fun i w H2 C hw s2 c=>?_) (fun H2 us' s2 e2 a2=>?_)
 · rw [List.getElem?_map] at hw;obtain ⟨x,ex,rfl⟩:=Option.map_eq_some_iff.mp hw;obtain ⟨b1,b2⟩:=t9 x (List.mem_of_getElem? ex);exact ⟨_,rfl,x,1,9,rfl,b1,b2,c _ _ true (Same.refl _) (repT (Yn ex)) rfl⟩
 · rw [a2.bls] at e2;refine ⟨D,List.replicate ts.length true,rfl,SqL.of e2,?_⟩;rw [allT];exact q _ s2
abbrev Zcq:Stmt:=top 39
theorem Zkf:FnScope ["thing"] ["thing"] (Zc Zcq):=⟨rfl,rfl,rfl,by decide +kernel,rfl,by decide +kernel,by decide +kernel⟩
theorem Zjv {f:Addr} {fd:FuncData} (F:Fun K "is_stuff" "is_stuff" Zcq f fd) (T:Bt mg) (C_is_between:a3_ P w K mg base) (C_is_row:a4_ P w K mg base):FnOk P w K mg base CX0 3 f fd ["thing"] Zkn:=by
 refine F.ok Zkf (fun vs H Q E h=>by obtain ⟨v,l,m,rfl,_⟩:=h;rfl) fun cdv A outer s H vs Q E hr h=>?_;obtain ⟨v,l,m,rfl,⟨b,rfl,hb⟩,l9,m9,q⟩:=h;refine' ⟨_,?term,?read⟩
 case term=>refine' @Zd _ _ _ _ _ ?g1 ?g2;(case g1=>refine' @Xc _ _ _ _ _ _ _ _ ?g3 (Zi (Zl Xw)) Z2;case g3=>refine' @Ys _ _ _ _ ?g4;case g4=>refine' @Zx _ _ _ ?g5 (fun _=>rfl);case g5=>refine' @Zh _ _ _ _ _ _ _ _ _ _ _ C_is_row hr (by decide) rfl ?g6 (by decide) (by rfl) (by rfl);case g6=>refine' @Za _ _ _ _ _ (pv 0) ?g7 rfl;case g7=>refine' @Za _ _ _ _ _ Zf (Za Zf Zb rfl) rfl);case g2=>refine' @Zi _ _ _ ?g8;case g8=>refine' @Zl _ _ _ _ ?g9;case g9=>refine' @Zem _ _ _ _ _ _ _ ?ga ?gb;(case ga=>refine' @Zh _ _ _ _ _ _ _ _ _ _ _ C_is_between hr (by decide) rfl ?gc (by decide) (by rfl) (by rfl);case gc=>refine' @Za _ _ _ _ _ ?gd ?ge rfl;(case gd=>refine' @Zt _ _ _ _ _ _ _ Zu (pv 0) Zf (fun _ _=>rfl));case ge=>refine' @Za _ _ _ _ _ Zf (Za (Zac T.n_MOST_STUFF rfl) Zb rfl) rfl);case gb=>refine' @Zc5 _ _ _ _ _ ?gf;case gf=>refine' @Zh _ _ _ _ _ _ _ _ _ _ _ C_is_between hr (by decide) rfl ?gg (by decide) (by rfl) (by rfl);case gg=>refine' @Za _ _ _ _ _ ?gh ?gi rfl;(case gh=>refine' @Zt _ _ _ _ _ _ _ Zu (pv 0) Zf (fun _ _=>rfl));case gi=>refine' @Za _ _ _ _ _ Zf (Za (Zac T.n_MOST_STUFF rfl) Zb rfl) rfl
 refine ⟨_,rfl,b,_,2,2,rfl,hb,by simp,by simp,true,rfl,iteF ?_⟩;refine ⟨_,rfl,b,_,0,_,rfl,rfl,SqT.of hb,rfl,l,0,9,rfl,l9.1,l9.2,true,rfl,iteT ?_⟩;exact ⟨_,rfl,b,_,1,_,rfl,rfl,SqT.of hb,rfl,m,1,9,rfl,m9.1,m9.2,q⟩
abbrev Zbc:Stmt:=top 40
theorem Zey:FnScope ["corners","piece","first","second","third"] ["corners","piece"] (Zc Zbc):=⟨rfl,rfl,rfl,by decide +kernel,rfl,by decide +kernel,by decide +kernel⟩
theorem Zjh {f:Addr} {fd:FuncData} (F:Fun K "triangle" "triangle" Zbc f fd) (T:Bt mg) (C_turn:a6_ P w K mg base):FnOk P w K mg base CX0 2 f fd ["corners","piece"] Zru:=by
 refine F.ok Zey (fun vs H Q E h=>by obtain ⟨u,v,cs,p,rfl,_⟩:=h;rfl) fun cdv A outer s H vs Q E hr h=>?_;obtain ⟨u,v,cs,p,rfl,⟨a,us,rfl,ha,al⟩,⟨b,rfl,hb⟩,hl,bd,nr,q⟩:=h;have nd:=Zey.nd;refine' ⟨_,?term,?read⟩
 case term=>refine' @Zd _ _ _ _ _ ?g1 ?g2;(case g1=>refine' @Yt _ _ _ _ _ _ ?g3 ?g4 (by rfl) (by rfl) (by rfl);(case g3=>refine' @Yp _ _ _ _ _ _ _ (["number","corners"]) ([none,some 0]) _ _ _ _ _ rfl (Z3 (XN:=[("corners" : Str),("piece" : Str),("first" : Str),("second" : Str),("third" : Str)]) (Scope.names (Zc Zbc)) rfl rfl rfl (fun _ h=>Zv h) (by decide +kernel) rfl) (Yu (pv 1)) (fun _ _ _ _=>(Ze (i:=0) (show List.Nodup [("number" : Str),("corners" : Str)] by decide) rfl (Or.inl rfl) (Or.inr rfl))) (fun _ _ _ _=>Zn) (fun _ _ _ _=>(Zt (Zan K rfl) (pv 1) (pv 0) (fun _ _=>rfl))) (by intro _ ;rfl));case g4=>refine' @Zhb _ _ _ _ _ (3) rfl ?g5 (by rfl) (by rfl);case g5=>refine' @Zg _ _ _ _ _ (Ze (i:=2) nd rfl (Or.inl rfl)) ?g6 (by rfl);case g6=>refine' @Zg _ _ _ _ _ (Ze (i:=3) nd rfl (Or.inl rfl)) (Zg (Ze (i:=4) nd rfl (Or.inl rfl)) Zq) (by rfl));case g2=>refine' @Zd _ _ _ _ _ ?g7 ?g8;(case g7=>refine' @Xc _ _ _ _ _ _ _ _ ?g9 ?ga Z2;(case g9=>refine' @Ye _ _ _ _ _ _ _ _ Zmi ?gb Zf (Yb _);case gb=>refine' @Zh _ _ _ _ _ _ _ _ _ _ _ C_turn hr (by decide) rfl ?gc (by decide) (by rfl) (by rfl);case gc=>refine' @Za _ _ _ _ _ (pv 2) ?gd rfl;case gd=>refine' @Za _ _ _ _ _ (pv 3) (Za (pv 4) Zb rfl) rfl);case ga=>refine' @Zi _ _ _ ?ge;case ge=>refine' @Zl _ _ _ _ ?gf;case gf=>refine' @Z5 _ _ _ _ _ ?gg;case gg=>refine' @Za _ _ _ _ _ (pv 2) ?gh rfl;case gh=>refine' @Za _ _ _ _ _ (pv 4) (Za (pv 3) Zb rfl) rfl);case g8=>refine' @Zi _ _ _ ?gi;case gi=>refine' @Zl _ _ _ _ ?gj;case gj=>refine' @Z5 _ _ _ _ _ ?gk;case gk=>refine' @Za _ _ _ _ _ (pv 2) ?gl rfl;case gl=>refine' @Za _ _ _ _ _ (pv 3) (Za (pv 4) Zb rfl) rfl
 refine ⟨_,rfl,b,rfl,⟨_,SqT.of hb⟩,fun D nD=>?_⟩;refine lc_T (k:=.t) (vs:=p.map V.int) IsP hRP (p.map (cAt cs)) (by simp) (by simp [hl]) nD hb (fun i w H2 C hw s2 c=>?_) (fun H2 us' s2 e2 a2=>?_)
 · rw [List.getElem?_map] at hw;obtain ⟨x,ex,rfl⟩:=Option.map_eq_some_iff.mp hw;obtain ⟨b1,b2⟩:=bd x (List.mem_of_getElem? ex);obtain ⟨v,ev,rv⟩:=Zmn al b1 b2;exact ⟨_,rfl,_,rfl,a,us,x,v,rfl,rfl,SqT.of (s2 _ _ ha),ev,c _ _ _ (Same.refl _) (by rw [List.getElem?_map,ex];rfl) (rv.tk s2.tk)⟩
 · obtain ⟨x,y,z,rfl,rx,ry,rz⟩:=cs3 (al.imp fun v x r=>r.tk s2.tk) hl bd a2;have nx:=nr (cAt cs (p.getD 0 0)) (by match p,hl with|[i,j,k],_=>exact Xg (bd i (by simp)).1 (bd i (by simp)).2);have ny:=nr (cAt cs (p.getD 1 0)) (by match p,hl with|[i,j,k],_=>exact Xg (bd j (by simp)).1 (bd j (by simp)).2);have nz:=nr (cAt cs (p.getD 2 0)) (by match p,hl with|[i,j,k],_=>exact Xg (bd k (by simp)).1 (bd k (by simp)).2);refine ⟨D,_,rfl,SqL.of e2,rfl,x,_,rfl,y,_,rfl,z,_,rfl,rfl,?_⟩;refine ⟨_,rfl,_,rfl,_,rfl,x,y,z,_,_,_,rfl,rx,ry,rz,nx,ny,nz,_,_,rfl,rfl,_,rfl,?_⟩;refine ite2 (fun h=>?_) (fun h=>?_)
   · refine ⟨_,rfl,_,rfl,_,rfl,z3_,fun r nr'=>?_⟩;have s3:Same H2 (upd H2 r (.tup [x,z,y])):=Same.new nr';refine q _ _ (s2.trans s3) ⟨r,x,z,y,rfl,Zj,?_⟩;unfold trOf tri;rw [if_pos (of_decide_eq_true h)];exact ⟨rx.tk s3.tk,rz.tk s3.tk,ry.tk s3.tk⟩
   · refine ⟨_,rfl,_,rfl,_,rfl,z3_,fun r nr'=>?_⟩;have s3:Same H2 (upd H2 r (.tup [x,y,z])):=Same.new nr';refine q _ _ (s2.trans s3) ⟨r,x,y,z,rfl,Zj,?_⟩;unfold trOf tri;rw [if_neg fun z=>h (decide_eq_true z)];exact ⟨rx.tk s3.tk,ry.tk s3.tk,rz.tk s3.tk⟩
abbrev Zkk:Stmt:=top 41
theorem Zpg:FnScope ["points"] ["points"] (Zc Zkk):=⟨rfl,rfl,rfl,by decide +kernel,rfl,by decide +kernel,by decide +kernel⟩
theorem Zpt {f:Addr} {fd:FuncData} (F:Fun K "edges" "edges" Zkk f fd) (T:Bt mg):FnOk P w K mg base CX0 1 f fd ["points"] Zlg:=by
 refine F.ok Zpg (fun vs H Q E h=>by obtain ⟨v,t,rfl,_⟩:=h;rfl) fun cdv A outer s H vs Q E hr h=>?_;obtain ⟨v,t,rfl,⟨a,x,y,z,rfl,ha,rx,ry,rz⟩,q⟩:=h;refine' ⟨_,?term,?read⟩
 case term=>refine' @Zi _ _ _ ?g1;case g1=>refine' @Zl _ _ _ _ ?g2;case g2=>refine' @Z5 _ _ _ _ _ ?g3;case g3=>refine' @Za _ _ _ _ _ ?g4 ?g5 rfl;(case g4=>refine' @Z5 _ _ _ _ _ ?g6;case g6=>refine' @Za _ _ _ _ _ ?g7 ?g8 rfl;(case g7=>refine' @Zt _ _ _ _ _ _ _ Zu (pv 0) Zf (fun _ _=>rfl));case g8=>refine' @Za _ _ _ _ _ ?g9 Zb rfl;case g9=>refine' @Zt _ _ _ _ _ _ _ Zu (pv 0) Zf (fun _ _=>rfl));case g5=>refine' @Za _ _ _ _ _ ?ga ?gb rfl;(case ga=>refine' @Z5 _ _ _ _ _ ?gc;case gc=>refine' @Za _ _ _ _ _ ?gd ?ge rfl;(case gd=>refine' @Zt _ _ _ _ _ _ _ Zu (pv 0) Zf (fun _ _=>rfl));case ge=>refine' @Za _ _ _ _ _ ?gf Zb rfl;case gf=>refine' @Zt _ _ _ _ _ _ _ Zu (pv 0) Zf (fun _ _=>rfl));case gb=>refine' @Za _ _ _ _ _ ?gg Zb rfl;case gg=>refine' @Z5 _ _ _ _ _ ?gh;case gh=>refine' @Za _ _ _ _ _ ?gi ?gj rfl;(case gi=>refine' @Zt _ _ _ _ _ _ _ Zu (pv 0) Zf (fun _ _=>rfl));case gj=>refine' @Za _ _ _ _ _ ?gk Zb rfl;case gk=>refine' @Zt _ _ _ _ _ _ _ Zu (pv 0) Zf (fun _ _=>rfl)
 refine ⟨_,rfl,a,_,0,x,rfl,rfl,SqT.of ha,rfl,_,rfl,a,_,1,y,rfl,rfl,SqT.of ha,rfl,z2_,fun p np=>?_⟩;have s1:Same H (upd H p (.tup [x,y])):=Same.new np;generalize hH1:upd H p (.tup [x,y])=H1 at s1 ⊢;have e1:H1 p=some (.tup [x,y]):=by rw [← hH1];exact Zj
 refine ⟨_,rfl,a,_,1,y,rfl,rfl,SqT.of (s1 _ _ ha),rfl,_,rfl,a,_,2,z,rfl,rfl,SqT.of (s1 _ _ ha),rfl,z2_,fun p2 np2=>?_⟩;have s2:Same H1 (upd H1 p2 (.tup [y,z])):=Same.new np2;generalize hH2:upd H1 p2 (.tup [y,z])=H2 at s2 ⊢;have e2:H2 p2=some (.tup [y,z]):=by rw [← hH2];exact Zj
 have s12:=s1.trans s2;refine ⟨_,rfl,a,_,2,z,rfl,rfl,SqT.of (s12 _ _ ha),rfl,_,rfl,a,_,0,x,rfl,rfl,SqT.of (s12 _ _ ha),rfl,z2_,fun p3 np3=>?_⟩;have s3:Same H2 (upd H2 p3 (.tup [z,x])):=Same.new np3;generalize hH3:upd H2 p3 (.tup [z,x])=H3 at s3 ⊢;have e3:H3 p3=some (.tup [z,x]):=by rw [← hH3];exact Zj
 refine ⟨z3_,fun p4 np4=>?_⟩;have s4:Same H3 (upd H3 p4 (.tup [.ref p,.ref p2,.ref p3])):=Same.new np4;have t4:=(s12.trans (s3.trans s4)).tk;refine q _ _ (s12.trans (s3.trans s4)) ⟨p4,_,rfl,Zj,.cons ⟨p,x,y,rfl,s4 _ _ (s3 _ _ (s2 _ _ e1)),rx.tk t4,ry.tk t4⟩ (.cons ⟨p2,y,z,rfl,s4 _ _ (s3 _ _ e2),ry.tk t4,rz.tk t4⟩ (.cons ⟨p3,z,x,rfl,s4 _ _ e3,rz.tk t4,rx.tk t4⟩ .nil))⟩
abbrev Zca:Stmt:=top 42
theorem Zlz:FnScope ["point","points"] ["point","points"] (Zc Zca):=⟨rfl,rfl,rfl,by decide +kernel,rfl,by decide +kernel,by decide +kernel⟩
theorem Zma {f:Addr} {fd:FuncData} (F:Fun K "lies_in" "lies_in" Zca f fd) (T:Bt mg) (C_edges:a11_ P w K mg base) (C_turn:a6_ P w K mg base):FnOk P w K mg base CX0 2 f fd ["point","points"] Ziy:=by
 refine F.ok Zlz (fun vs H Q E h=>by obtain ⟨u,v,p,t,rfl,_⟩:=h;rfl) fun cdv A outer s H vs Q E hr h=>?_;obtain ⟨u,v,p,t,rfl,hp,ht,np,nt,q⟩:=h;refine' ⟨_,?term,?read⟩
 case term=>refine' @Zi _ _ _ ?g1;case g1=>refine' @Zl _ _ _ _ ?g2;case g2=>refine' @Zk _ _ _ _ _ _ _ _ _ (Yo rfl) rfl T.b_all Zas ?g3 (by decide) (by decide) (by rfl) (by rfl);case g3=>refine' @Za _ _ _ _ _ ?g4 Zb rfl;case g4=>refine' @Yp _ _ _ _ _ _ _ (["one","other","point"]) ([none,none,some 0]) _ _ ((gTup K 2 (Yi (Z8 0) (Yi (Z8 1) gNil)))) _ _ rfl (Z3 (XN:=[("point" : Str),("points" : Str)]) (Scope.names (Zc Zca)) rfl rfl rfl (fun _ h=>Zv h) (by decide +kernel) rfl) ?g5 (fun _ _ _ _=>(Zy (n:=2) rfl (Zg (Ze (i:=0) (show List.Nodup [("one" : Str),("other" : Str),("point" : Str)] by decide) rfl (Or.inl rfl) (Or.inr rfl)) (Zg (Ze (i:=1) (show List.Nodup [("one" : Str),("other" : Str),("point" : Str)] by decide) rfl (Or.inl rfl) (Or.inr rfl)) Zq)))) (fun _ _ _ _=>Zn) (fun _ _ _ _=>(Zam Zv4 (Zh C_turn hr (by decide) rfl (Za (pv 0) (Za (pv 1) (Za (pv 2) Zb rfl) rfl) rfl)) Zf (Yb _))) (by intro _ ;rfl);case g5=>refine' @Yu _ _ _ _ (Zh C_edges hr (by decide) rfl (Za (pv 1) Zb rfl))
 refine ⟨_,rfl,v,t,rfl,ht,fun H1 w s1 hw=>?_⟩;obtain ⟨a,vs,rfl,ha,al⟩:=hw;have hl:vs.length=3:=al.1;refine ⟨a,rfl,⟨_,SqT.of ha⟩,fun D nD=>?_⟩;refine Zjr (k:=.t) (vs:=vs) RB hRB (t.edges.map fun e=>decide (0≤tn e.1 e.2 p)) (by simp [hl,Tri.edges]) (by omega) nD ha (prs al) (fun i p' x y H2 C hw hp' s2 c=>?_) (fun H2 us' s2 e2 a2=>?_)
 · obtain ⟨e,ee,rx,ry⟩:=pr1 al hw hp';obtain ⟨n1,n2⟩:=Zhq nt (List.mem_of_getElem? ee);exact ⟨_,rfl,_,rfl,_,rfl,x,y,u,e.1,e.2,p,rfl,rx.tk s2.tk,ry.tk s2.tk,hp.tk (s1.trans s2).tk,n1,n2,np,_,_,rfl,rfl,c _ _ _ (Same.refl _) (by rw [List.getElem?_map,ee];rfl) rfl⟩
 · rw [a2.bls] at e2;exact ⟨D,_,rfl,SqL.of e2,q _ (s1.trans s2)⟩
abbrev Xy:Stmt:=top 43
theorem Zb2:FnScope ["points","others","one","other"] ["points","others"] (Zc Xy):=⟨rfl,rfl,rfl,by decide +kernel,rfl,by decide +kernel,by decide +kernel⟩
theorem Zgl {f:Addr} {fd:FuncData} (F:Fun K "parts_from" "parts_from" Xy f fd) (T:Bt mg) (C_edges:a11_ P w K mg base) (C_turn:a6_ P w K mg base):FnOk P w K mg base CX0 2 f fd ["points","others"] Zc2:=by
 refine F.ok Zb2 (fun vs H Q E h=>by obtain ⟨u,v,t,r,rfl,_⟩:=h;rfl) fun cdv A outer s H vs Q E hr h=>?_;obtain ⟨u,v,t,r,rfl,ht,hr',nt,nr,q⟩:=h;have nd:=Zb2.nd;refine' ⟨_,?term,?read⟩
 case term=>refine' @Zd _ _ _ _ _ ?g1 (Zi (Zl Xw));case g1=>refine' @Zbf _ _ _ _ _ _ _ _ PassesOwn.never rfl ?g2 ?g3 ?g4 (by intro _ ;rfl);(case g2=>refine' @Yu _ _ _ _ (Zh C_edges hr (by decide) rfl (Za (pv 0) Zb rfl)));(case g3=>refine' @Zy _ _ _ _ _ (2) rfl ?g5 (by rfl) (by rfl);case g5=>refine' @Zg _ _ _ _ _ (Ze (i:=2) nd rfl (Or.inr rfl)) (Zg (Ze (i:=3) nd rfl (Or.inr rfl)) Zq) (by rfl));case g4=>refine' @Zi _ _ _ ?g6;case g6=>refine' @Xc _ _ _ _ _ _ _ _ ?g7 (Zi (Zl Xw)) Z2;case g7=>refine' @Zx _ _ _ ?g8 (fun _=>rfl);case g8=>refine' @Zk _ _ _ _ _ _ _ _ _ (Yo rfl) rfl T.b_all Zas ?g9 (by decide) (by decide) (by rfl) (by rfl);case g9=>refine' @Za _ _ _ _ _ ?ga Zb rfl;case ga=>refine' @Yp _ _ _ _ _ _ _ (["point","one","other"]) ([none,some 2,some 3]) _ _ _ _ _ rfl (Z3 (XN:=[("points" : Str),("others" : Str),("one" : Str),("other" : Str)]) (Scope.names (Zc Xy)) rfl rfl rfl (fun _ h=>Zv h) (by decide +kernel) rfl) (Yu (pv 1)) (fun _ _ _ _=>(Ze (i:=0) (show List.Nodup [("point" : Str),("one" : Str),("other" : Str)] by decide) rfl (Or.inl rfl) (Or.inr rfl))) (fun _ _ _ _=>Zn) (fun _ _ _ _=>(Zam Zmx (Zh C_turn hr (by decide) rfl (Za (pv 1) (Za (pv 2) (Za (pv 0) Zb rfl) rfl) rfl)) Zf (Yb _))) (by intro _ ;rfl)
 refine ⟨_,rfl,u,t,rfl,ht,fun H1 w s1 hw=>?_⟩;obtain ⟨a,vs,rfl,ha,al⟩:=hw;have hl:vs.length=3:=al.1;have hel:t.edges.length=3:=rfl;refine ⟨a,rfl,⟨_,SqT.of ha⟩,?_⟩;refine Zab (n:=3) (fun i σ H2=>Same H1 H2∧(∃ x y,σ=[some u,some v,x,y])∧((t.edges.take i).any fun e=>Ze3 e r)=false) ⟨Same.refl _,⟨_,_,rfl⟩,rfl⟩ (fun i σ H2 hi p=>⟨vs,vs[i]'(by omega),SqT.of (p.1 _ _ ha),List.getElem?_eq_getElem (by omega)⟩) (fun σ H2 p=>⟨vs,SqT.of (p.1 _ _ ha),by omega⟩) (fun i x σ H2 H3 hi y p=>?_) (fun σ H2 p=>?_)
 · obtain ⟨s2,⟨u1,u2,rfl⟩,no⟩:=p;obtain ⟨rfl,y2⟩:=y;have ex:=y2 vs (SqT.of (s2 _ _ ha));obtain ⟨p',x1,y1,rfl,hp'⟩:=prs al i x ex;obtain ⟨e,ee,rx,ry⟩:=pr1 al ex hp';obtain ⟨n1,n2⟩:=Zhq nt (List.mem_of_getElem? ee);refine ⟨p',_,rfl,SqT.of (s2 _ _ hp'),rfl,x1,_,rfl,y1,_,rfl,rfl,?_⟩;obtain ⟨b,ws,rfl,hb,hl2,bl⟩:=Zuf hr';have s02:=s1.trans s2;refine ⟨_,rfl,b,rfl,⟨_,SqT.of (s02 _ _ hb)⟩,fun D nD=>?_⟩;refine lc_T (k:=.t) (vs:=ws) RB hRB (r.pts.map fun q=>decide (tn e.1 e.2 q≤0)) (by simp [hl2,Tri.pts]) (by omega) nD (s02 _ _ hb) (fun j w H4 C hw s4 c=>?_) (fun H4 us' s4 e4 a4=>?_)
   · obtain ⟨g,eg,rg⟩:=bl.get hw;have tk4:=(s2.trans s4).tk;exact ⟨_,rfl,_,rfl,_,rfl,x1,y1,w,e.1,e.2,g,rfl,rx.tk tk4,ry.tk tk4,rg.tk (s02.trans s4).tk,n1,n2,Ztl nr (List.mem_of_getElem? eg),_,_,rfl,rfl,c _ _ _ (Same.refl _) (by rw [List.getElem?_map,eg];rfl) rfl⟩
   · rw [a4.bls] at e4;refine ⟨D,_,rfl,SqL.of e4,_,rfl,ite2 (fun h=>?_) (fun h=>?_)⟩
     · have:Xa t r=true:=List.any_eq_true.mpr ⟨e,List.mem_of_getElem? ee,h⟩
       rw [this] at q;exact q _ (s02.trans s4)
     · refine ⟨s2.trans s4,⟨_,_,rfl⟩,?_⟩;have hi':i<t.edges.length:=by omega
       rw [List.take_succ,ee,List.any_append,no]
       have:Ze3 e r=false:=Bool.eq_false_iff.mpr h
       simp [this]
 · obtain ⟨s2,⟨u1,u2,rfl⟩,no⟩:=p
   have:Xa t r=false:=no
   rw [this] at q;exact q _ (s1.trans s2)
abbrev Zbw:Stmt:=top 44
theorem Ziw:FnScope ["points","others"] ["points","others"] (Zc Zbw):=⟨rfl,rfl,rfl,by decide +kernel,rfl,by decide +kernel,by decide +kernel⟩
theorem Ziz {f:Addr} {fd:FuncData} (F:Fun K "are_apart" "are_apart" Zbw f fd) (T:Bt mg) (C_parts_from:a12_ P w K mg base):FnOk P w K mg base CX0 3 f fd ["points","others"] Zk7:=by
 refine F.ok Ziw (fun vs H Q E h=>by obtain ⟨u,v,t,r,rfl,_⟩:=h;rfl) fun cdv A outer s H vs Q E hr h=>?_;obtain ⟨u,v,t,r,rfl,ht,hr',nt,nr,q⟩:=h;refine' ⟨_,?term,?read⟩
 case term=>refine' @Zi _ _ _ ?g1;case g1=>refine' @Zl _ _ _ _ ?g2;case g2=>refine' @Zv6 _ _ _ _ _ _ _ ?g3 ?g4;(case g3=>refine' @Zh _ _ _ _ _ _ _ _ _ _ _ C_parts_from hr (by decide) rfl ?g5 (by decide) (by rfl) (by rfl);case g5=>refine' @Za _ _ _ _ _ (pv 0) (Za (pv 1) Zb rfl) rfl);case g4=>refine' @Zc5 _ _ _ _ _ ?g6;case g6=>refine' @Zh _ _ _ _ _ _ _ _ _ _ _ C_parts_from hr (by decide) rfl ?g7 (by decide) (by rfl) (by rfl);case g7=>refine' @Za _ _ _ _ _ (pv 1) (Za (pv 0) Zb rfl) rfl
 refine ⟨_,rfl,_,rfl,u,v,t,r,rfl,ht,hr',nt,nr,fun H1 s1=>⟨_,rfl,ite2 (fun h=>?_) (fun h=>?_)⟩⟩
 · rw [show L2.apart t r=true by unfold L2.apart;rw [h];rfl] at q;exact q _ s1
 · rw [show L2.apart t r=Xa r t by unfold L2.apart;rw [show Xa t r=false by simpa using h];rfl] at q;exact ⟨_,rfl,_,rfl,v,u,r,t,rfl,hr'.tk s1.tk,ht.tk s1.tk,nr,nt,fun H2 s2=>q _ (s1.trans s2)⟩
abbrev Yr:Stmt:=top 45
theorem X9:FnScope ["corners","pieces"] ["corners","pieces"] (Zc Yr):=⟨rfl,rfl,rfl,by decide +kernel,rfl,by decide +kernel,by decide +kernel⟩
theorem Zad {f:Addr} {fd:FuncData} (F:Fun K "every_corner_is_used" "every_corner_is_used" Yr f fd) (T:Bt mg):FnOk P w K mg base CX0 2 f fd ["corners","pieces"] Znh:=by
 refine F.ok X9 (fun vs H Q E h=>by obtain ⟨u,v,cs,ps,rfl,_⟩:=h;rfl) fun cdv A outer s H vs Q E hr h=>?_;obtain ⟨u,v,cs,ps,rfl,⟨a,us,rfl,ha,al⟩,⟨b,ws,rfl,hb,bl⟩,h3,p40,cnt,c30,q⟩:=h;refine' ⟨_,?term,?read⟩
 case term=>refine' @Zi _ _ _ ?g1;case g1=>refine' @Zl _ _ _ _ ?g2;case g2=>refine' @Zam _ _ _ _ _ _ _ _ Zm4 ?g3 (Zk Zp rfl T.b_len Yv (Za (pv 0) Zb rfl)) (Yb _);case g3=>refine' @Zk _ _ _ _ _ _ _ _ _ Zo4 rfl T.b_len Yv ?g4 (by decide) (by decide) (by rfl) (by rfl);case g4=>refine' @Za _ _ _ _ _ ?g5 Zb rfl;case g5=>refine' @Zva _ _ _ _ _ _ _ _ (["piece","number"]) ([none,none]) _ _ _ _ _ _ rfl (Z0 (by decide) rfl (by decide) rfl rfl) (Yu (pv 1)) (fun _ _ _ _=>(Ze (i:=0) (show List.Nodup [("piece" : Str),("number" : Str)] by decide) rfl (Or.inl rfl) (Or.inr rfl))) (fun _ _ _ _=>(Znx K rfl (pv 0))) (fun _ _ _ _=>(Ze (i:=1) (show List.Nodup [("piece" : Str),("number" : Str)] by decide) rfl (Or.inl rfl) (Or.inr rfl))) (fun _ _ _ _=>(pv 1)) (by intro _ ;rfl) (by intro _ _ ;rfl)
 have hl:=al.1
 have fl:∀ l:List (List Int),(∀ p∈l,p.length=3)→l.flatten.length=3*l.length:=by
  intro l
  induction l with
  | nil=>intro _;rfl
  | cons x l ih =>
    intro h;rw [List.flatten_cons,List.length_append,ih fun p hp=>h p (List.mem_cons_of_mem _ hp),h x List.mem_cons_self,List.length_cons];omega
 refine ⟨_,rfl,b,rfl,⟨_,SqT.of hb⟩,fun D nD=>?_⟩;refine Zs1 hb bl (by rw [fl ps h3];omega) nD (fun S=>?_);have s1:Same H (upd H D (.set S (cntS ps.flatten))):=Same.new nD;refine ⟨D,S,_,rfl,Zj,_,rfl,a,us,rfl,.inr (SqT.of (s1 _ _ ha)),rfl,?_⟩;have e:V.int (cntS ps.flatten:Nat)=V.int us.length:=by rw [cnt,hl]
 exact qT e (q _ s1)
abbrev Z6:Stmt:=top 46
theorem Xm:FnScope ["corners","piece","points","strange"] ["corners","piece","points"] (Zc Z6):=⟨rfl,rfl,rfl,by decide +kernel,rfl,by decide +kernel,by decide +kernel⟩
theorem Zbe {f:Addr} {fd:FuncData} (F:Fun K "no_strange_corner" "no_strange_corner" Z6 f fd) (T:Bt mg) (C_lies_in:a13_ P w K mg base):FnOk P w K mg base CX0 3 f fd ["corners","piece","points"] Zf2:=by
 refine F.ok Xm (fun vs H Q E h=>by obtain ⟨u,v,w,cs,p,t,rfl,_⟩:=h;rfl) fun cdv A outer s H vs Q E hr h=>?_;obtain ⟨u,v,w,cs,p,t,rfl,⟨a,us,rfl,ha,al⟩,⟨b,rfl,hb⟩,ht,c30,nr,nt,no,q⟩:=h;have nd:=Xm.nd;refine' ⟨_,?term,?read⟩
 case term=>refine' @Zd _ _ _ _ _ ?g1 ?g2;(case g1=>refine' @Zdf _ _ _ _ _ _ _ _ _ _ (["number","corner","piece"]) ([none,none,some 1]) _ _ ((gTup K 2 (Yi (Z8 0) (Yi (Z8 1) gNil)))) _ _ _ rfl rfl (Ze (i:=3) nd rfl (Or.inl rfl)) (Z3 (XN:=[("corners" : Str),("piece" : Str),("points" : Str),("strange" : Str)]) (Scope.names (Zc Z6)) rfl rfl rfl (fun _ h=>Zv h) (by decide +kernel) rfl) ?g3 (fun _ _ _ _=>(Zy (n:=2) rfl (Zg (Ze (i:=0) (show List.Nodup [("number" : Str),("corner" : Str),("piece" : Str)] by decide) rfl (Or.inl rfl) (Or.inr rfl)) (Zg (Ze (i:=1) (show List.Nodup [("number" : Str),("corner" : Str),("piece" : Str)] by decide) rfl (Or.inl rfl) (Or.inr rfl)) Zq)))) (fun _ _ _ _=>(Zp3 (Ye (Zgy K rfl) (pv 0) (pv 2) rfl))) (fun _ _ _ _=>(pv 1)) (by intro _ ;rfl);case g3=>refine' @Zer _ _ _ _ .t _ _ _ _ rfl T.b_enumerate (Za (pv 0) Zb rfl) (by rfl));case g2=>refine' @Zi _ _ _ ?g4;case g4=>refine' @Zl _ _ _ _ ?g5;case g5=>refine' @Zra _ _ _ _ ?g6;case g6=>refine' @Zk _ _ _ _ _ _ _ _ _ (Zo1 rfl) rfl T.b_any Zu9 ?g7 (by decide) (by decide) (by rfl) (by rfl);case g7=>refine' @Za _ _ _ _ _ ?g8 Zb rfl;case g8=>refine' @Yp _ _ _ _ _ _ _ (["corner","points"]) ([none,some 2]) _ _ _ _ _ rfl (Z3 (XN:=[("corners" : Str),("piece" : Str),("points" : Str),("strange" : Str)]) (Scope.names (Zc Z6)) rfl rfl rfl (fun _ h=>Zv h) (by decide +kernel) rfl) (Y8 (pv 3)) (fun _ _ _ _=>(Ze (i:=0) (show List.Nodup [("corner" : Str),("points" : Str)] by decide) rfl (Or.inl rfl) (Or.inr rfl))) (fun _ _ _ _=>Zn) (fun _ _ _ _=>(Zh C_lies_in hr (by decide) rfl (Za (pv 0) (Za (pv 1) Zb rfl) rfl))) (by intro _ ;rfl)
 have hl:=al.1;refine ⟨_,rfl,a,rfl,⟨_,SqT.of ha⟩,fun D nD=>?_⟩;refine lc_E (k:=.t) (vs:=us) IsP hRP (fun i=>if (i:Int)∈p then none else cs[i]?) (by omega) nD ha (fun i x H2 C N hx s2 c n=>?_) (fun H2 us' s2 e2 a2=>?_)
 · obtain ⟨g,eg,rg⟩:=al.get hx;refine ⟨_,rfl,_,rfl,b,_,rfl,.inr (SqT.of (s2 _ _ hb)),rfl,by rw [List.all_map];exact List.all_eq_true.mpr fun _ _=>rfl,_,rfl,?_⟩;rw [Zqn]
   by_cases hm:(i:Int)∈p
   · rw [decide_eq_true hm];exact iteF (n _ (Same.refl _) (by rw [if_pos hm]))
   · rw [decide_eq_false hm];exact iteT ⟨_,rfl,c _ _ g (Same.refl _) (by rw [if_neg hm];exact eg) (rg.tk s2.tk)⟩
 · generalize hst:(List.range us.length).filterMap (fun i:Nat=>if (i:Int)∈p then none else cs[i]?)=st at a2
   have hst2:∀ g∈st,near g∧Zb7 g t=false:=by
    intro g hg;rw [← hst] at hg;obtain ⟨i,hi,e⟩:=List.mem_filterMap.mp hg;have hi:=List.mem_range.mp hi;split at e
    · cases e
    · rename_i hm
      have:=no i (by omega) hm
      rw [List.getD_eq_getElem?_getD,e] at this;exact ⟨nr g (List.mem_of_getElem? e),this⟩
   have hl3:st.length≤us.length:=by
    rw [← hst]
    have:=List.length_filterMap_le (fun i:Nat=>if (i:Int)∈p then none else cs[i]?) (List.range us.length)
    rwa [List.length_range] at this
   have l2:=a2.1;refine ⟨_,rfl,D,rfl,⟨_,SqL.of e2⟩,fun E nE=>?_⟩;refine lc_T (k:=.l) (vs:=us') RB hRB (st.map fun g=>Zb7 g t) (by simp [l2]) (by omega) nE e2 (fun j x H4 C hx s4 c=>?_) (fun H4 us'' s4 e4 a4=>?_)
   · obtain ⟨g,eg,rg⟩:=a2.get hx;exact ⟨_,rfl,_,rfl,x,w,g,t,rfl,rg.tk s4.tk,ht.tk (s2.trans s4).tk,(hst2 g (List.mem_of_getElem? eg)).1,nt,fun H5 s5=>c _ _ _ s5 (by rw [List.getElem?_map,eg];rfl) rfl⟩
   · rw [a4.bls] at e4;refine ⟨E,_,rfl,SqL.of e4,false,by rw [anyM fun g hg=>(hst2 g hg).2],?_⟩;exact q _ (s2.trans s4)
abbrev Y3:Stmt:=top 47
theorem Zax:FnScope ["corners","pieces","triangles","at","piece","points"] ["corners","pieces"] (Zc Y3):=⟨rfl,rfl,rfl,by decide +kernel,rfl,by decide +kernel,by decide +kernel⟩
theorem Zd0 {f:Addr} {fd:FuncData} (F:Fun K "fit_together" "fit_together" Y3 f fd) (T:Bt mg) (C_are_apart:a14_ P w K mg base) (C_no_strange_corner:a15_ P w K mg base) (C_triangle:a16_ P w K mg base):FnOk P w K mg base CX0 4 f fd ["corners","pieces"] Zrr:=by
 refine F.ok Zax (fun vs H Q E h=>by obtain ⟨u,v,cs,ps,rfl,_⟩:=h;rfl) fun cdv A outer s H vs Q E hr h=>?_;obtain ⟨u,v,cs,ps,rfl,hc,⟨b,ws,rfl,hb,bl⟩,ok,q⟩:=h;have nd:=Zax.nd;refine' ⟨_,?term,?read⟩
 case term=>refine' @Zd _ _ _ _ _ ?g1 ?g2;(case g1=>refine' @Zdf _ _ _ _ _ _ _ _ _ _ (["piece","corners"]) ([none,some 0]) _ _ _ _ _ _ rfl rfl (Ze (i:=2) nd rfl (Or.inl rfl)) (Z3 (XN:=[("corners" : Str),("pieces" : Str),("triangles" : Str),("at" : Str),("piece" : Str),("points" : Str)]) (Scope.names (Zc Y3)) rfl rfl rfl (fun _ h=>Zv h) (by decide +kernel) rfl) (Yu (pv 1)) (fun _ _ _ _=>(Ze (i:=0) (show List.Nodup [("piece" : Str),("corners" : Str)] by decide) rfl (Or.inl rfl) (Or.inr rfl))) (fun _ _ _ _=>Zn) (fun _ _ _ _=>(Zh C_triangle hr (by decide) rfl (Za (pv 1) (Za (pv 0) Zb rfl) rfl))) (by intro _ ;rfl));case g2=>refine' @Zd _ _ _ _ _ ?g3 (Zi (Zl Xw));case g3=>refine' @Zbf _ _ _ _ _ _ _ _ PassesOwn.never rfl ?g4 ?g5 ?g6 (by intro _ ;rfl);(case g4=>refine' @Zly _ _ _ _ .t .l _ _ _ _ _ _ _ rfl T.b_enumerate rfl T.b_zip ?g7 (by rfl) (by rfl) (by rfl);case g7=>refine' @Za _ _ _ _ _ (pv 1) (Za (pv 2) Zb rfl) rfl);(case g5=>refine' @Zy _ _ _ _ _ (2) rfl ?g8 (by rfl) (by rfl);case g8=>refine' @Zg _ _ _ _ _ (Ze (i:=3) nd rfl (Or.inl rfl)) ?g9 (by rfl);case g9=>refine' @Zg _ _ _ _ _ ?ga Zq (by rfl);case ga=>refine' @Zy _ _ _ _ _ (2) rfl ?gb (by rfl) (by rfl);case gb=>refine' @Zg _ _ _ _ _ (Ze (i:=4) nd rfl (Or.inl rfl)) (Zg (Ze (i:=5) nd rfl (Or.inr rfl)) Zq) (by rfl));case g6=>refine' @Zd _ _ _ _ _ ?gc ?gd;(case gc=>refine' @Xc _ _ _ _ _ _ _ _ ?ge (Zi (Zl Xw)) Z2;case ge=>refine' @Ys _ _ _ _ ?gf;case gf=>refine' @Zx _ _ _ ?gg (fun _=>rfl);case gg=>refine' @Zh _ _ _ _ _ _ _ _ _ _ _ C_no_strange_corner hr (by decide) rfl ?gh (by decide) (by rfl) (by rfl);case gh=>refine' @Za _ _ _ _ _ (pv 0) ?gi rfl;case gi=>refine' @Za _ _ _ _ _ (pv 4) (Za (pv 5) Zb rfl) rfl);case gd=>refine' @Zi _ _ _ ?gj;case gj=>refine' @Xc _ _ _ _ _ _ _ _ ?gk (Zi (Zl Xw)) Z2;case gk=>refine' @Ys _ _ _ _ ?gl;case gl=>refine' @Zx _ _ _ ?gm (fun _=>rfl);case gm=>refine' @Zk _ _ _ _ _ _ _ _ _ (Yo rfl) rfl T.b_all Zas ?gn (by decide) (by decide) (by rfl) (by rfl);case gn=>refine' @Za _ _ _ _ _ ?go Zb rfl;case go=>refine' @Yp _ _ _ _ _ _ _ (["others","points"]) ([none,some 5]) _ _ _ _ _ rfl (Z3 (XN:=[("corners" : Str),("pieces" : Str),("triangles" : Str),("at" : Str),("piece" : Str),("points" : Str)]) (Scope.names (Zc Y3)) rfl rfl rfl (fun _ h=>Zv h) (by decide +kernel) rfl) ?gp (fun _ _ _ _=>(Ze (i:=0) (show List.Nodup [("others" : Str),("points" : Str)] by decide) rfl (Or.inl rfl) (Or.inr rfl))) (fun _ _ _ _=>Zn) (fun _ _ _ _=>(Zh C_are_apart hr (by decide) rfl (Za (pv 1) (Za (pv 0) Zb rfl) rfl))) (by intro _ ;rfl);case gp=>refine' @Y8 _ _ _ _ ?gq;case gq=>refine' @Zb9 _ _ _ _ _ _ _ _ _ _ Zj3 (pv 2) Zeq (Zek (pv 3))
 have hl:=bl.1;have p40:=ok.p40;refine ⟨_,rfl,b,rfl,⟨_,SqT.of hb⟩,fun D nD=>?_⟩;refine lc_T (k:=.t) (vs:=ws) IsT hRT (ps.map (trOf cs)) (by simp [hl]) (by omega) nD hb (fun i w H2 C hw s2 c=>?_) (fun H2 us' s2 e2 a2=>?_)
 · obtain ⟨p,ep,rp⟩:=bl.get hw;have pk:=ok.pc p (List.mem_of_getElem? ep);exact ⟨_,rfl,_,rfl,u,w,cs,p,rfl,hc.tk s2.tk,rp.tk s2.tk,pk.len,pk.bd,ok.nr,fun H5 w5 s5 h5=>c _ _ _ s5 (by rw [List.getElem?_map,ep];rfl) h5⟩
 · have l2:=a2.1;rw [List.length_map] at l2;have hb2:=s2 _ _ hb;refine ⟨_,rfl,_,rfl,b,D,rfl,⟨_,SqT.of hb2⟩,⟨_,SqL.of e2⟩,?_⟩;refine Zab (n:=ps.length) (fun i σ H3=>Same H2 H3∧∃ x y z,σ=[some u,some (.ref b),some (.ref D),x,y,z]) ⟨Same.refl _,_,_,_,rfl⟩ (fun i σ H3 hi p=>⟨ws,us',ws[i]'(by omega),us'[i]'(by omega),SqT.of (p.1 _ _ hb2),SqL.of (p.1 _ _ e2),List.getElem?_eq_getElem (by omega),List.getElem?_eq_getElem (by omega)⟩) (fun σ H3 p=>⟨ws,us',SqT.of (p.1 _ _ hb2),SqL.of (p.1 _ _ e2),by omega⟩) (fun i x σ H3 H4 hi y p=>?_) (fun σ H3 p=>?_)
   · obtain ⟨s3,x1,x2,x3,rfl⟩:=p;obtain ⟨p1,p2,x,y,rfl,n1,n2,ne,rfl,y1,y2⟩:=y;have ex:=y1 ws (SqT.of (s3 _ _ hb2));have ey:=y2 us' (SqL.of (s3 _ _ e2));have sa:Same H3 (upd H3 p1 (.tup [x,y])):=Same.new n1;have sb:Same (upd H3 p1 (.tup [x,y])) (upd (upd H3 p1 (.tup [x,y])) p2 (.tup [.int i,.ref p1])):=Same.new (by rw [Zr ne.symm];exact n2);have e5:upd (upd H3 p1 (.tup [x,y])) p2 (.tup [.int i,.ref p1]) p1=some (.tup [x,y]):=sb _ _ Zj;have e6:upd (upd H3 p1 (.tup [x,y])) p2 (.tup [.int i,.ref p1]) p2=some (.tup [.int i,.ref p1]):=Zj;have s4:=s3.trans (sa.trans sb);generalize upd (upd H3 p1 (.tup [x,y])) p2 (.tup [.int i,.ref p1])=H4 at s4 e5 e6;obtain ⟨p,ep,rp⟩:=bl.get ex;obtain ⟨t,et,rt'⟩:=a2.get ey;rw [List.getElem?_map,ep] at et;cases et
     have pk:=ok.pc p (List.mem_of_getElem? ep);have tn':=Zii pk.bd pk.len ok.nr;have gp:ps.getD i []=p:=by rw [List.getD_eq_getElem?_getD,ep];rfl
     refine ⟨p2,_,rfl,SqT.of e6,rfl,_,_,rfl,_,_,rfl,⟨p1,_,rfl,SqT.of e5,rfl,x,_,rfl,y,_,rfl,rfl,rfl,?_⟩⟩;have s04:=s2.trans s4;refine ⟨_,rfl,_,rfl,_,rfl,u,x,y,cs,p,_,rfl,hc.tk s04.tk,rp.tk s04.tk,rt'.tk s4.tk,ok.c30,ok.nr,tn',ok.strange p (List.mem_of_getElem? ep),fun H5 s5=>⟨true,rfl,iteF ?_⟩⟩;have s45:=s4.trans s5;refine ⟨_,rfl,_,rfl,_,rfl,D,us',rfl,SqL.of (s45 _ _ e2),fun r nr'=>?_⟩;have s6:Same H5 (upd H5 r (.lst (us'.take i))):=Same.new nr';rw [Zum _ _ (by omega)];have e7:upd H5 r (.lst (us'.take i)) r=some (.lst (us'.take i)):=Zj;generalize upd H5 r (.lst (us'.take i))=H6 at s6 e7 ⊢;refine ⟨r,rfl,⟨_,SqL.of e7⟩,fun E nE=>?_⟩;have s46:=s45.trans s6;refine lc_T (k:=.l) (vs:=us'.take i) RB hRB (List.replicate i true) (by simp;omega) (by simp;omega) nE e7 (fun j w H8 C hw s8 c=>?_) (fun H8 us'' s8 e8 a8=>?_)
     · have hj:j<i:=by
        have:=Yn hw
        rw [List.length_take] at this;omega
       rw [List.getElem?_take_of_lt hj] at hw;obtain ⟨t2,et2,rt2⟩:=a2.get hw;rw [List.getElem?_map] at et2;obtain ⟨p',ep',rfl⟩:=Option.map_eq_some_iff.mp et2;have pk':=ok.pc p' (List.mem_of_getElem? ep');have gp':ps.getD j []=p':=by rw [List.getD_eq_getElem?_getD,ep'];rfl
       have ap:=ok.apart j i hj hi;rw [gp,gp'] at ap;have s48:=s46.trans s8;refine ⟨_,rfl,_,rfl,y,w,_,_,rfl,rt'.tk s48.tk,rt2.tk s48.tk,tn',Zii pk'.bd pk'.len ok.nr,fun H9 s9=>c _ _ true s9 (repT hj) (congrArg V.bl ap)⟩
     · rw [a8.bls] at e8;refine ⟨E,_,rfl,SqL.of e8,true,by rw [allT];rfl,iteF ?_⟩;exact ⟨s46.trans s8,_,_,_,rfl⟩
   · obtain ⟨s3,x1,x2,x3,rfl⟩:=p;exact q _ (s2.trans s3)
abbrev Zcu:Stmt:=top 48
theorem Ze1:FnScope ["thing","corners","pieces","thicks","stuff"] ["thing"] (Zc Zcu):=⟨rfl,rfl,rfl,by decide +kernel,rfl,by decide +kernel,by decide +kernel⟩
theorem Zje {f:Addr} {fd:FuncData} (F:Fun K "is_plate" "is_plate" Zcu f fd) (T:Bt mg) (C_are_corners:a17_ P w K mg base) (C_are_pieces:a18_ P w K mg base) (C_are_thicks:a19_ P w K mg base) (C_every_corner_is_used:a20_ P w K mg base) (C_fit_together:a21_ P w K mg base) (C_is_row:a4_ P w K mg base) (C_is_stuff:a22_ P w K mg base):FnOk P w K mg base CX0 5 f fd ["thing"] Zfq:=by
 refine F.ok Ze1 (fun vs H Q E h=>by obtain ⟨v,P',rfl,_⟩:=h;rfl) fun cdv A outer s H vs Q E hr h=>?_;obtain ⟨v,P',rfl,⟨a,c,p,t,st,rfl,ha,hc,hp,ht,hs⟩,ok,q⟩:=h;have nd:=Ze1.nd;refine' ⟨_,?term,?read⟩
 case term=>refine' @Zd _ _ _ _ _ ?g1 ?g2;(case g1=>refine' @Xc _ _ _ _ _ _ _ _ ?g3 (Zi (Zl Xw)) Z2;case g3=>refine' @Ys _ _ _ _ ?g4;case g4=>refine' @Zx _ _ _ ?g5 (fun _=>rfl);case g5=>refine' @Zh _ _ _ _ _ _ _ _ _ _ _ C_is_row hr (by decide) rfl ?g6 (by decide) (by rfl) (by rfl);case g6=>refine' @Za _ _ _ _ _ (pv 0) ?g7 rfl;case g7=>refine' @Za _ _ _ _ _ Zf (Za Zf Zb rfl) rfl);case g2=>refine' @Zd _ _ _ _ _ ?g8 ?g9;(case g8=>refine' @Yt _ _ _ _ _ _ (pv 0) ?ga (by rfl) (by rfl) (by rfl);case ga=>refine' @Zy _ _ _ _ _ (4) rfl ?gb (by rfl) (by rfl);case gb=>refine' @Zg _ _ _ _ _ (Ze (i:=1) nd rfl (Or.inl rfl)) ?gc (by rfl);case gc=>refine' @Zg _ _ _ _ _ (Ze (i:=2) nd rfl (Or.inl rfl)) ?gd (by rfl);case gd=>refine' @Zg _ _ _ _ _ (Ze (i:=3) nd rfl (Or.inl rfl)) (Zg (Ze (i:=4) nd rfl (Or.inl rfl)) Zq) (by rfl));case g9=>refine' @Zd _ _ _ _ _ ?ge ?gf;(case ge=>refine' @Xc _ _ _ _ _ _ _ _ ?gg (Zi (Zl Xw)) Z2;case gg=>refine' @PW.pt _ _ _ ?gh;case gh=>refine' @Zei _ _ _ _ _ _ _ ?gi ?gj;(case gi=>refine' @Ys _ _ _ _ ?gk;case gk=>refine' @Zx _ _ _ (Zh C_are_corners hr (by decide) rfl (Za (pv 1) Zb rfl)) (fun _=>rfl));case gj=>refine' @Zbg _ _ _ _ ?gl;case gl=>refine' @Ys _ _ _ _ ?gm;case gm=>refine' @Zx _ _ _ ?gn (fun _=>rfl);case gn=>refine' @Zh _ _ _ _ _ _ _ _ _ _ _ C_are_pieces hr (by decide) rfl ?go (by decide) (by rfl) (by rfl);case go=>refine' @Za _ _ _ _ _ (pv 1) (Za (pv 2) Zb rfl) rfl);case gf=>refine' @Zd _ _ _ _ _ ?gp ?gq;(case gp=>refine' @Xc _ _ _ _ _ _ _ _ ?gr (Zi (Zl Xw)) Z2;case gr=>refine' @PW.pt _ _ _ ?gs;case gs=>refine' @Zei _ _ _ _ _ _ _ ?gt ?gu;(case gt=>refine' @Ys _ _ _ _ ?gv;case gv=>refine' @Zx _ _ _ ?gw (fun _=>rfl);case gw=>refine' @Zh _ _ _ _ _ _ _ _ _ _ _ C_are_thicks hr (by decide) rfl ?gx (by decide) (by rfl) (by rfl);case gx=>refine' @Za _ _ _ _ _ (pv 2) (Za (pv 3) Zb rfl) rfl);case gu=>refine' @Zbg _ _ _ _ ?gy;case gy=>refine' @Ys _ _ _ _ ?gz;case gz=>refine' @Zx _ _ _ (Zh C_is_stuff hr (by decide) rfl (Za (pv 4) Zb rfl)) (fun _=>rfl));case gq=>refine' @Zi _ _ _ ?g10;case g10=>refine' @Zl _ _ _ _ ?g11;case g11=>refine' @Zem _ _ _ _ _ _ _ ?g12 ?g13;(case g12=>refine' @Zh _ _ _ _ _ _ _ _ _ _ _ C_every_corner_is_used hr (by decide) rfl ?g14 (by decide) (by rfl) (by rfl);case g14=>refine' @Za _ _ _ _ _ (pv 1) (Za (pv 2) Zb rfl) rfl);case g13=>refine' @Zc5 _ _ _ _ _ ?g15;case g15=>refine' @Zh _ _ _ _ _ _ _ _ _ _ _ C_fit_together hr (by decide) rfl ?g16 (by decide) (by rfl) (by rfl);case g16=>refine' @Za _ _ _ _ _ (pv 1) (Za (pv 2) Zb rfl) rfl
 refine ⟨_,rfl,a,_,4,4,rfl,ha,by simp,by simp,true,rfl,iteF ?_⟩;refine ⟨_,rfl,a,_,rfl,SqT.of ha,rfl,c,_,rfl,p,_,rfl,t,_,rfl,st,_,rfl,rfl,?_⟩;refine ⟨_,rfl,c,P'.cs,rfl,hc,ok.c3,ok.c30,ok.nr,ok.nd,fun H1 s1=>⟨true,rfl,iteF ?_⟩⟩;refine ⟨_,rfl,_,rfl,c,p,P'.cs,P'.ps,rfl,hc.tk s1.tk,hp.tk s1.tk,ok.p1,ok.p40,ok.pc,ok.rise,ok.nr,fun H2 s2=>⟨true,rfl,iteF ?_⟩⟩;have s12:=s1.trans s2;refine ⟨_,rfl,_,rfl,p,t,P'.ps,P'.ts,rfl,hp.tk s12.tk,ht.tk s12.tk,ok.t1,ok.p40,ok.t9,fun H3 s3=>⟨true,rfl,iteF ?_⟩⟩;have s13:=s12.trans s3;refine ⟨_,rfl,st,P'.l,P'.m,rfl,hs.tk s13.tk,ok.l9,ok.m9,true,rfl,iteF ?_⟩;refine ⟨_,rfl,_,rfl,c,p,P'.cs,P'.ps,rfl,hc.tk s13.tk,hp.tk s13.tk,fun x hx=>(ok.pc x hx).len,ok.p40,ok.used,ok.c30,fun H4 s4=>⟨true,rfl,iteT ?_⟩⟩;have s14:=s13.trans s4;exact ⟨_,rfl,_,rfl,c,p,P'.cs,P'.ps,rfl,hc.tk s14.tk,hp.tk s14.tk,⟨ok.c30,ok.nr,ok.p40,ok.pc,ok.strange,ok.apart⟩,fun H5 s5=>q _ (s14.trans s5)⟩
abbrev Xs:Stmt:=top 49
theorem Zdg:FnScope ["plate"] ["plate"] (Zc Xs):=⟨rfl,rfl,rfl,by decide +kernel,rfl,by decide +kernel,by decide +kernel⟩
theorem Zdh {f:Addr} {fd:FuncData} (F:Fun K "look_at_plate" "look_at_plate" Xs f fd) (T:Bt mg) (C_is_plate:a23_ P w K mg base):FnOk P w K mg base CX0 6 f fd ["plate"] Zc3:=by
 refine F.ok Zdg (fun vs H Q E h=>by obtain ⟨v,P',rfl,_⟩:=h;rfl) fun cdv A outer s H vs Q E hr h=>?_;obtain ⟨v,P',rfl,hv,ok,q⟩:=h;refine' ⟨_,?term,?read⟩
 case term=>refine' @Zi _ _ _ ?g1;case g1=>refine' @Xc _ _ _ _ _ _ _ _ ?g2 Za3 Z2;case g2=>refine' @Ys _ _ _ _ ?g3;case g3=>refine' @Zx _ _ _ (Zh C_is_plate hr (by decide) rfl (Za (pv 0) Zb rfl)) (fun _=>rfl)
 exact ⟨_,rfl,v,P',rfl,hv,ok,fun H1 s1=>⟨true,rfl,iteF (q _ s1)⟩⟩
abbrev Xv:Stmt:=top 50
theorem Zdl:FnScope ["plate","piece"] ["plate","piece"] (Zc Xv):=⟨rfl,rfl,rfl,by decide +kernel,rfl,by decide +kernel,by decide +kernel⟩
theorem Zdi {f:Addr} {fd:FuncData} (F:Fun K "look_at_piece" "look_at_piece" Xv f fd) (T:Bt mg) (C_is_between:a3_ P w K mg base):FnOk P w K mg base CX0 3 f fd ["plate","piece"] Zde:=by
 refine F.ok Zdl (fun vs H Q E h=>by obtain ⟨v,P',i,rfl,_⟩:=h;rfl) fun cdv A outer s H vs Q E hr h=>?_;obtain ⟨v,P',i,rfl,⟨a,c,p,t,st,rfl,ha,hc,⟨b,ws,rfl,hb,bl⟩,ht,hs⟩,h0,h1,q⟩:=h;refine' ⟨_,?term,?read⟩
 case term=>refine' @Zi _ _ _ ?g1;case g1=>refine' @Xc _ _ _ _ _ _ _ _ ?g2 Za3 Z2;case g2=>refine' @Ys _ _ _ _ ?g3;case g3=>refine' @Zx _ _ _ ?g4 (fun _=>rfl);case g4=>refine' @Zh _ _ _ _ _ _ _ _ _ _ _ C_is_between hr (by decide) rfl ?g5 (by decide) (by rfl) (by rfl);case g5=>refine' @Za _ _ _ _ _ (pv 1) ?g6 rfl;case g6=>refine' @Za _ _ _ _ _ Zf ?g7 rfl;case g7=>refine' @Za _ _ _ _ _ ?g8 Zb rfl;case g8=>refine' @Zm _ _ _ _ _ _ _ _ Y1 ?g9 Zf;case g9=>refine' @Zk _ _ _ _ _ _ _ _ _ Zp rfl T.b_len Yv ?ga (by decide) (by decide) (by rfl) (by rfl);case ga=>refine' @Za _ _ _ _ _ ?gb Zb rfl;case gb=>refine' @Zt _ _ _ _ _ _ _ Zu (pv 0) Zf (fun _ _=>rfl)
 have hl:=bl.1;exact ⟨_,rfl,_,rfl,a,_,1,_,rfl,rfl,SqT.of ha,rfl,b,ws,rfl,.inr (SqT.of hb),_,_,rfl,rfl,i,0,_,rfl,h0,by omega,true,rfl,iteF q⟩
abbrev Zd1:Stmt:=top 52
theorem Zlw:FnScope ["plate"] ["plate"] (Zc Zd1):=⟨rfl,rfl,rfl,by decide +kernel,rfl,by decide +kernel,by decide +kernel⟩
theorem Zmf {f:Addr} {fd:FuncData} (F:Fun K "ways_of" "ways_of" Zd1 f fd) (T:Bt mg):FnOk P w K mg base CX0 1 f fd ["plate"] Zox:=by
 refine F.ok Zlw (fun vs H Q E h=>by obtain ⟨v,P',rfl,_⟩:=h;rfl) fun cdv A outer s H vs Q E hr h=>?_;obtain ⟨v,P',rfl,⟨a,c,p,t,st,rfl,ha,⟨b,ws,rfl,hb,bl⟩,hp,ht,hs⟩,ok,q⟩:=h;refine' ⟨_,?term,?read⟩
 case term=>refine' @Zi _ _ _ ?g1;case g1=>refine' @Zl _ _ _ _ ?g2;case g2=>refine' @Zm _ _ _ _ _ _ _ _ Zs Zf ?g3;case g3=>refine' @Zk _ _ _ _ _ _ _ _ _ Zp rfl T.b_len Yv ?g4 (by decide) (by decide) (by rfl) (by rfl);case g4=>refine' @Za _ _ _ _ _ ?g5 Zb rfl;case g5=>refine' @Zt _ _ _ _ _ _ _ Zu (pv 0) Zf (fun _ _=>rfl)
 have hl:=bl.1;have c30:=ok.c30;refine ⟨_,rfl,a,_,0,_,rfl,rfl,SqT.of ha,rfl,b,ws,rfl,.inr (SqT.of hb),_,_,rfl,rfl,mul3 (by decide) (by omega),?_⟩;rw [hl];exact q
abbrev Zcy:Stmt:=top 16
theorem Zeo:FnScope ["bottoms","many","bottom"] ["bottoms"] (Zc Zcy):=⟨rfl,rfl,rfl,by decide +kernel,rfl,by decide +kernel,by decide +kernel⟩
theorem Zi5 {f:Addr} {fd:FuncData} (F:Fun K "multiple" "multiple" Zcy f fd) (T:Bt mg) (C_divisor:a1_ P w K mg base):FnOk P w K mg base CX0 3 f fd ["bottoms"] Zli:=by
 refine F.ok Zeo (fun vs H Q E h=>by obtain ⟨l,ds,k,rfl,_⟩:=h;rfl) fun cdv A outer s H vs Q E hr h=>?_;obtain ⟨l,ds,k,rfl,hl,hd,h39,hk39,q⟩:=h;have nd:=Zeo.nd;refine' ⟨_,?term,?read⟩
 case term=>refine' @Zd _ _ _ _ _ ?g1 ?g2;(case g1=>refine' @Zz _ _ (1) _ _ _ _ nd rfl (Or.inl rfl) Zf (by rfl) (by first|exact Or.inl rfl|exact Or.inr rfl|assumption));case g2=>refine' @Zd _ _ _ _ _ ?g3 (Zi (Zl (pv 1)));case g3=>refine' @Zbf _ _ _ _ _ _ _ _ PassesOwn.never rfl (Y8 (pv 0)) (Ze (i:=2) nd rfl (Or.inl rfl)) ?g4 (by intro _ ;rfl);case g4=>refine' @Zi _ _ _ ?g5;case g5=>refine' @Zz _ _ (1) _ _ _ _ nd rfl (Or.inl rfl) ?g6 (by rfl) (by first|exact Or.inl rfl|exact Or.inr rfl|assumption);case g6=>refine' @Zm _ _ _ _ _ _ _ _ Zs ?g7 (pv 2);case g7=>refine' @Zm _ _ _ _ _ _ _ _ Xk (pv 1) ?g8;case g8=>refine' @Zh _ _ _ _ _ _ _ _ _ _ _ C_divisor hr (by decide) rfl ?g9 (by decide) (by rfl) (by rfl);case g9=>refine' @Za _ _ _ _ _ (pv 1) (Za (pv 2) Zb rfl) rfl
 refine ⟨_,rfl,l,rfl,⟨_,SqL.of hl⟩,?_⟩;refine Zab (n:=ds.length) (fun i σ H2=>H2=H∧∃ (m:Int) (x:Option V),σ=[some (.ref l),some (.int m),x]∧0<m∧(∀ x∈ds.take i,x∣m)∧m.natAbs<2^(k*i+1)∧∀ c:Int,(∀ x∈ds.take i,x∣c)→m∣c) ⟨rfl,1,_,rfl,by decide,by simp,by rw [Nat.mul_zero];decide,fun c _=>Int.one_dvd c⟩ (fun i σ H2 hi p=>⟨_,V.int ds[i],SqL.of (p.1 ▸ hl),by simp [hi]⟩) (fun σ H2 p=>⟨_,SqL.of (p.1 ▸ hl),by simp⟩) (fun i x σ H2 H3 hi y p=>?_) (fun σ H2 p=>?_)
 · obtain ⟨rfl,m,x',rfl,hm,dv,sz,lm⟩:=p;obtain ⟨rfl,y2⟩:=y;have ex:=y2 _ (SqL.of hl);rw [List.getElem?_map,List.getElem?_eq_getElem hi] at ex;cases ex
   obtain ⟨b0,b64⟩:=hd ds[i] (List.getElem_mem hi);obtain ⟨l1,l2,l3,l4⟩:=Zqe hm b0;have hg:=FM.gcd_ne (t:=m) (b:=ds[i]) (by omega);have gz:(Int.gcd m ds[i])<2^k:=Nat.lt_of_le_of_lt (Nat.gcd_le_right _ (by omega)) b64;have sz2:(m.fdiv (Int.gcd m ds[i]:Int)).natAbs<2^(k*i+1):=Nat.lt_of_le_of_lt l4 sz;have ki:k*i≤3900:=Nat.le_trans (Nat.mul_le_mul_left k (Nat.le_of_lt hi)) h39;refine ⟨_,rfl,_,rfl,_,rfl,m,ds[i],rfl,up 4000 b64 (by omega),_,_,rfl,rfl,⟨hg,up 8999 gz (by omega)⟩,_,rfl,_,_,rfl,rfl,⟨up 1000000 sz2 (by omega),up 1000000 b64 (by omega)⟩,?_⟩;refine ⟨rfl,_,_,rfl,l1,fun x hx=>?_,?_,fun c hc=>Zp8 hm b0 (lm c fun x hx=>hc x (by rw [List.take_succ_eq_append_getElem hi];exact List.mem_append_left _ hx)) (hc _ (by rw [List.take_succ_eq_append_getElem hi];exact List.mem_append_right _ (List.mem_singleton.mpr rfl)))⟩
   · rw [List.take_succ_eq_append_getElem hi] at hx
     rcases List.mem_append.mp hx with h|h
     · exact Int.dvd_trans (dv x h) l2
     · rw [List.mem_singleton.mp h];exact l3
   · exact Nat.lt_of_lt_of_le (FM.natAbs_mul_lt sz2 b64) (Nat.pow_le_pow_right (by decide) (by rw [Nat.mul_add];omega))
 · obtain ⟨rfl,m,x',rfl,hm,dv,sz,lm⟩:=p;rw [List.take_of_length_le (Nat.le_refl _)] at dv lm;exact ⟨_,rfl,q m hm dv sz lm⟩
abbrev Xq:Stmt:=top 19
theorem Zdj:FnScope ["thing","many"] ["thing","many"] (Zc Xq):=⟨rfl,rfl,rfl,by decide +kernel,rfl,by decide +kernel,by decide +kernel⟩
theorem Zdm {f:Addr} {fd:FuncData} (F:Fun K "are_fractions" "are_fractions" Xq f fd) (T:Bt mg) (C_is_fraction:a24_ P w K mg base):FnOk P w K mg base CX0 4 f fd ["thing","many"] Zk2:=by
 refine F.ok Zdj (fun vs H Q E h=>by obtain ⟨v,ms,rfl,_⟩:=h;rfl) fun cdv A outer s H vs Q E hr h=>?_;obtain ⟨v,ms,rfl,⟨a,us,rfl,ha,al⟩,hB,h1000,q⟩:=h;refine' ⟨_,?term,?read⟩
 case term=>refine' @Zd _ _ _ _ _ ?g1 ?g2;(case g1=>refine' @Xc _ _ _ _ _ _ _ _ ?g3 (Zi (Zl Xw)) Z2;case g3=>refine' @PW.pt _ _ _ ?g4;case g4=>refine' @Zei _ _ _ _ _ _ _ ?g5 ?g6;(case g5=>refine' @Ys _ _ _ _ ?g7;case g7=>refine' @Zx _ _ _ ?g8 (fun _=>rfl);case g8=>refine' @Zk _ _ _ _ _ _ _ _ _ Za9 rfl T.b_isinstance Yz ?g9 (by decide) (by decide) (by rfl) (by rfl);case g9=>refine' @Za _ _ _ _ _ (pv 0) (Za (Zc0 (v:=.ty "tuple") rfl T.b_tuple Yk rfl) Zb rfl) rfl);case g6=>refine' @Zbg _ _ _ _ ?ga;case ga=>refine' @Ye _ _ _ _ _ _ _ _ Zqc (Zk Zp rfl T.b_len Yv (Za (pv 0) Zb rfl)) (pv 1) (Yb _));case g2=>refine' @Zi _ _ _ ?gb;case gb=>refine' @Zl _ _ _ _ ?gc;case gc=>refine' @Zk _ _ _ _ _ _ _ _ _ (Yo rfl) rfl T.b_all Zas ?gd (by decide) (by decide) (by rfl) (by rfl);case gd=>refine' @Za _ _ _ _ _ ?ge Zb rfl;case ge=>refine' @Yp _ _ _ _ _ _ _ (["part"]) ([none]) _ _ _ _ _ rfl (Z0 (by decide) rfl (by decide) rfl rfl) (Yu (pv 0)) (fun _ _ _ _=>(Ze (i:=0) (show List.Nodup [("part" : Str)] by decide) rfl (Or.inl rfl) (Or.inr rfl))) (fun _ _ _ _=>Zn) (fun _ _ _ _=>(Zh C_is_fraction hr (by decide) rfl (Za (pv 0) Zb rfl))) (by intro _ ;rfl)
 have hl:=al.1;refine ⟨_,rfl,_,_,_,_,rfl,TyOf.tup ha,rfl,true,rfl,iteF ?_⟩;refine ⟨_,rfl,a,us,rfl,.inr (SqT.of ha),_,rfl,rfl,_,rfl,?_⟩;rw [decide_eq_true (show V.int us.length=V.int ms.length by rw [hl])];refine iteF ?_;refine ⟨_,rfl,a,rfl,⟨_,SqT.of ha⟩,fun D nD=>?_⟩;refine lc_T (k:=.t) (vs:=us) RB hRB (List.replicate us.length true) (by simp) (by omega) nD ha (fun i w H2 C hw s2 c=>?_) (fun H2 us' s2 e2 a2=>?_)
 · obtain ⟨x,ex,p,rfl,hp⟩:=al.get hw;exact ⟨_,rfl,p,x,rfl,s2 _ _ hp,hB x (List.mem_of_getElem? ex),c _ _ true (Same.refl _) (repT (Yn hw)) rfl⟩
 · rw [a2.bls] at e2;refine ⟨D,List.replicate us.length true,rfl,SqL.of e2,?_⟩;rw [allT];exact q _ s2
abbrev Zai:Stmt:=top 20
theorem Zc9:FnScope ["parts","many"] ["parts"] (Zc Zai):=⟨rfl,rfl,rfl,by decide +kernel,rfl,by decide +kernel,by decide +kernel⟩
theorem Zhm {f:Addr} {fd:FuncData} (F:Fun K "levelled" "levelled" Zai f fd) (T:Bt mg) (C_multiple:a25_ P w K mg base):FnOk P w K mg base CX0 4 f fd ["parts"] Zob:=by
 refine F.ok Zc9 (fun vs H Q E h=>by obtain ⟨l,us,ps,k,rfl,_⟩:=h;rfl) fun cdv A outer s H vs Q E hr h=>?_;obtain ⟨l,us,ps,k,rfl,hl,al,hB,h39,hk39,h1000,q⟩:=h;have nd:=Zc9.nd;refine' ⟨_,?term,?read⟩
 case term=>refine' @Zd _ _ _ _ _ ?g1 ?g2;(case g1=>refine' @Zz _ _ (1) _ _ _ _ nd rfl (Or.inr rfl) ?g3 (by rfl) (by first|exact Or.inl rfl|exact Or.inr rfl|assumption);case g3=>refine' @Zh _ _ _ _ _ _ _ _ _ _ _ C_multiple hr (by decide) rfl ?g4 (by decide) (by rfl) (by rfl);case g4=>refine' @Za _ _ _ _ _ ?g5 Zb rfl;case g5=>refine' @Yp _ _ _ _ _ _ _ (["top","bottom"]) ([none,none]) _ _ ((gTup K 2 (Yi (Z8 0) (Yi (Z8 1) gNil)))) _ _ rfl (Z0 (by decide) rfl (by decide) rfl rfl) (Y8 (pv 0)) (fun _ _ _ _=>(Zy (n:=2) rfl (Zg (Ze (i:=0) (show List.Nodup [("top" : Str),("bottom" : Str)] by decide) rfl (Or.inl rfl) (Or.inr rfl)) (Zg (Ze (i:=1) (show List.Nodup [("top" : Str),("bottom" : Str)] by decide) rfl (Or.inl rfl) (Or.inr rfl)) Zq)))) (fun _ _ _ _=>Zn) (fun _ _ _ _=>(pv 1)) (by intro _ ;rfl));case g2=>refine' @Zi _ _ _ ?g6;case g6=>refine' @Zl _ _ _ _ ?g7;case g7=>refine' @Z5 _ _ _ _ _ ?g8;case g8=>refine' @Za _ _ _ _ _ ?g9 (Za (pv 1) Zb rfl) rfl;case g9=>refine' @Yp _ _ _ _ _ _ _ (["top","bottom","many"]) ([none,none,some 1]) _ _ ((gTup K 2 (Yi (Z8 0) (Yi (Z8 1) gNil)))) _ _ rfl (Z3 (XN:=[("parts" : Str),("many" : Str)]) (Scope.names (Zc Zai)) rfl rfl rfl (fun _ h=>Zv h) (by decide +kernel) rfl) (Y8 (pv 0)) (fun _ _ _ _=>(Zy (n:=2) rfl (Zg (Ze (i:=0) (show List.Nodup [("top" : Str),("bottom" : Str),("many" : Str)] by decide) rfl (Or.inl rfl) (Or.inr rfl)) (Zg (Ze (i:=1) (show List.Nodup [("top" : Str),("bottom" : Str),("many" : Str)] by decide) rfl (Or.inl rfl) (Or.inr rfl)) Zq)))) (fun _ _ _ _=>Zn) (fun _ _ _ _=>(Zm Zs (pv 0) (Zm Xk (pv 2) (pv 1)))) (by intro _ ;rfl)
 have hl2:=al.1;refine ⟨_,rfl,l,rfl,⟨_,SqL.of hl⟩,fun D nD=>?_⟩;refine Zjr (k:=.l) (vs:=us) RI hRI (ps.map fun x=>x.2) (by simp [hl2]) (by omega) nD hl (Zle al) (fun i p x y H2 C hw hp s2 c=>?_) (fun H2 us' s2 e2 a2=>?_)
 · obtain ⟨x',ex,rfl,rfl⟩:=Zqd al hw hp;exact ⟨_,rfl,c _ _ _ (Same.refl _) (by rw [List.getElem?_map,ex];rfl) rfl⟩
 · rw [a2.ints] at e2;refine ⟨D,_,k,rfl,e2,fun x hx=>?_,by rw [List.length_map];exact h39,hk39,fun m hm dv sz lm=>?_⟩
   · obtain ⟨x',hx',rfl⟩:=List.mem_map.mp hx;exact (hB x' hx').1
   · rw [List.length_map] at sz;have dv':∀ p∈ps,p.2∣m:=fun x hx=>dv _ (List.mem_map.mpr ⟨x,hx,rfl⟩);refine ⟨_,rfl,l,rfl,⟨_,SqL.of (s2 _ _ hl)⟩,fun E nE=>?_⟩;have al2:Al (IsP H2) us ps:=al.imp fun v x r=>r.tk s2.tk;refine Zjr (k:=.l) (vs:=us) RI hRI (ps.map (levP m)) (by simp [hl2]) (by omega) nE (s2 _ _ hl) (Zle al2) (fun i p x y H4 C hw hp s4 c=>?_) (fun H4 us'' s4 e4 a4=>?_)
     · obtain ⟨x',ex,rfl,rfl⟩:=Zqd al2 hw hp;obtain ⟨⟨b0,b1⟩,t1⟩:=hB x' (List.mem_of_getElem? ex);have d1:=Xf b0 (dv' x' (List.mem_of_getElem? ex)) sz;exact ⟨_,rfl,_,rfl,_,rfl,m,_,rfl,rfl,⟨by omega,up 8999 b1 (by omega)⟩,_,_,rfl,rfl,Y2 (n:=4000) (up 4000 t1 (by omega)) (up 4000 d1 (by omega)),c _ _ _ (Same.refl _) (by rw [List.getElem?_map,ex];rfl) rfl⟩
     · rw [a4.ints] at e4;refine ⟨_,rfl,z2_,fun p np=>?_⟩;have s5:Same H4 (upd H4 p (.tup [.ref E,.int m])):=Same.new np;exact q _ p E m (s2.trans (s4.trans s5)) Zj (s5 _ _ e4) hm dv' sz fun c hc=>lm c fun x hx=>by obtain ⟨x',hx',rfl⟩:=List.mem_map.mp hx;exact hc x' hx'
abbrev Zbr:Stmt:=top 20
theorem Zda:FnScope ["parts","many"] ["parts"] (Zc Zbr):=⟨rfl,rfl,rfl,by decide +kernel,rfl,by decide +kernel,by decide +kernel⟩
theorem Ziv {f:Addr} {fd:FuncData} (F:Fun K "levelled" "levelled" Zbr f fd) (T:Bt mg) (C_multiple:a25_ P w K mg base):FnOk P w K mg base CX0 4 f fd ["parts"] Zmr:=by
 refine F.ok Zda (fun vs H Q E h=>by obtain ⟨l,us,ps,k,rfl,_⟩:=h;rfl) fun cdv A outer s H vs Q E hr h=>?_;obtain ⟨l,us,ps,k,rfl,hl,al,hB,h39,hk39,h1000,q⟩:=h;have nd:=Zda.nd;refine' ⟨_,?term,?read⟩
 case term=>refine' @Zd _ _ _ _ _ ?g1 ?g2;(case g1=>refine' @Zz _ _ (1) _ _ _ _ nd rfl (Or.inr rfl) ?g3 (by rfl) (by first|exact Or.inl rfl|exact Or.inr rfl|assumption);case g3=>refine' @Zh _ _ _ _ _ _ _ _ _ _ _ C_multiple hr (by decide) rfl ?g4 (by decide) (by rfl) (by rfl);case g4=>refine' @Za _ _ _ _ _ ?g5 Zb rfl;case g5=>refine' @Yp _ _ _ _ _ _ _ (["top","bottom"]) ([none,none]) _ _ ((gTup K 2 (Yi (Z8 0) (Yi (Z8 1) gNil)))) _ _ rfl (Z0 (by decide) rfl (by decide) rfl rfl) (Yu (pv 0)) (fun _ _ _ _=>(Zy (n:=2) rfl (Zg (Ze (i:=0) (show List.Nodup [("top" : Str),("bottom" : Str)] by decide) rfl (Or.inl rfl) (Or.inr rfl)) (Zg (Ze (i:=1) (show List.Nodup [("top" : Str),("bottom" : Str)] by decide) rfl (Or.inl rfl) (Or.inr rfl)) Zq)))) (fun _ _ _ _=>Zn) (fun _ _ _ _=>(pv 1)) (by intro _ ;rfl));case g2=>refine' @Zi _ _ _ ?g6;case g6=>refine' @Zl _ _ _ _ ?g7;case g7=>refine' @Z5 _ _ _ _ _ ?g8;case g8=>refine' @Za _ _ _ _ _ ?g9 (Za (pv 1) Zb rfl) rfl;case g9=>refine' @Yp _ _ _ _ _ _ _ (["top","bottom","many"]) ([none,none,some 1]) _ _ ((gTup K 2 (Yi (Z8 0) (Yi (Z8 1) gNil)))) _ _ rfl (Z3 (XN:=[("parts" : Str),("many" : Str)]) (Scope.names (Zc Zbr)) rfl rfl rfl (fun _ h=>Zv h) (by decide +kernel) rfl) (Yu (pv 0)) (fun _ _ _ _=>(Zy (n:=2) rfl (Zg (Ze (i:=0) (show List.Nodup [("top" : Str),("bottom" : Str),("many" : Str)] by decide) rfl (Or.inl rfl) (Or.inr rfl)) (Zg (Ze (i:=1) (show List.Nodup [("top" : Str),("bottom" : Str),("many" : Str)] by decide) rfl (Or.inl rfl) (Or.inr rfl)) Zq)))) (fun _ _ _ _=>Zn) (fun _ _ _ _=>(Zm Zs (pv 0) (Zm Xk (pv 2) (pv 1)))) (by intro _ ;rfl)
 have hl2:=al.1;refine ⟨_,rfl,l,rfl,⟨_,SqT.of hl⟩,fun D nD=>?_⟩;refine Zjr (k:=.t) (vs:=us) RI hRI (ps.map fun x=>x.2) (by simp [hl2]) (by omega) nD hl (Zle al) (fun i p x y H2 C hw hp s2 c=>?_) (fun H2 us' s2 e2 a2=>?_)
 · obtain ⟨x',ex,rfl,rfl⟩:=Zqd al hw hp;exact ⟨_,rfl,c _ _ _ (Same.refl _) (by rw [List.getElem?_map,ex];rfl) rfl⟩
 · rw [a2.ints] at e2;refine ⟨D,_,k,rfl,e2,fun x hx=>?_,by rw [List.length_map];exact h39,hk39,fun m hm dv sz lm=>?_⟩
   · obtain ⟨x',hx',rfl⟩:=List.mem_map.mp hx;exact (hB x' hx').1
   · rw [List.length_map] at sz;have dv':∀ p∈ps,p.2∣m:=fun x hx=>dv _ (List.mem_map.mpr ⟨x,hx,rfl⟩);refine ⟨_,rfl,l,rfl,⟨_,SqT.of (s2 _ _ hl)⟩,fun E nE=>?_⟩;have al2:Al (IsP H2) us ps:=al.imp fun v x r=>r.tk s2.tk;refine Zjr (k:=.t) (vs:=us) RI hRI (ps.map (levP m)) (by simp [hl2]) (by omega) nE (s2 _ _ hl) (Zle al2) (fun i p x y H4 C hw hp s4 c=>?_) (fun H4 us'' s4 e4 a4=>?_)
     · obtain ⟨x',ex,rfl,rfl⟩:=Zqd al2 hw hp;obtain ⟨⟨b0,b1⟩,t1⟩:=hB x' (List.mem_of_getElem? ex);have d1:=Xf b0 (dv' x' (List.mem_of_getElem? ex)) sz;exact ⟨_,rfl,_,rfl,_,rfl,m,_,rfl,rfl,⟨by omega,up 8999 b1 (by omega)⟩,_,_,rfl,rfl,Y2 (n:=4000) (up 4000 t1 (by omega)) (up 4000 d1 (by omega)),c _ _ _ (Same.refl _) (by rw [List.getElem?_map,ex];rfl) rfl⟩
     · rw [a4.ints] at e4;refine ⟨_,rfl,z2_,fun p np=>?_⟩;have s5:Same H4 (upd H4 p (.tup [.ref E,.int m])):=Same.new np;exact q _ p E m (s2.trans (s4.trans s5)) Zj (s5 _ _ e4) hm dv' sz fun c hc=>lm c fun x hx=>by obtain ⟨x',hx',rfl⟩:=List.mem_map.mp hx;exact hc x' hx'
abbrev Zcv:Stmt:=top 21
theorem Zkp:FnScope ["weights","parts","bottom","tops","many"] ["weights","parts","bottom"] (Zc Zcv):=⟨rfl,rfl,rfl,by decide +kernel,rfl,by decide +kernel,by decide +kernel⟩
theorem Zk6 {f:Addr} {fd:FuncData} (F:FunD K "mixed" "mixed" Zcv f fd) (T:Bt mg) (C_levelledL:a26_ P w K mg base) (C_reduced:a27_ P w K mg base):FnOk P w K mg base CX0 5 f fd ["weights","parts","bottom"] Zdv:=by
 refine F.ok Zkp (fun vs H Q E h=>by obtain ⟨a,l,us,ps,b,k,rfl,_⟩:=h;rfl) fun cdv A outer s H vs Q E hr h=>?_;obtain ⟨a,l,us,ps,b,k,rfl,ha,hl,al,hB,⟨h100,h28,hk⟩,hb0,hb1,q⟩:=h;have nd:=Zkp.nd;refine' ⟨_,?term,?read⟩
 case term=>refine' @Zd _ _ _ _ _ ?g1 ?g2;(case g1=>refine' @Yt _ _ _ _ _ _ (Zh C_levelledL hr (by decide) rfl (Za (pv 1) Zb rfl)) ?g3 (by rfl) (by rfl) (by rfl);case g3=>refine' @Zy _ _ _ _ _ (2) rfl ?g4 (by rfl) (by rfl);case g4=>refine' @Zg _ _ _ _ _ (Ze (i:=3) nd rfl (Or.inl rfl)) (Zg (Ze (i:=4) nd rfl (Or.inl rfl)) Zq) (by rfl));case g2=>refine' @Zi _ _ _ ?g5;case g5=>refine' @Zl _ _ _ _ ?g6;case g6=>refine' @Zh _ _ _ _ _ _ _ _ _ _ _ C_reduced hr (by decide) rfl ?g7 (by decide) (by rfl) (by rfl);case g7=>refine' @Za _ _ _ _ _ ?g8 ?g9 rfl;(case g8=>refine' @Zk _ _ _ _ _ _ _ _ _ (Zhx rfl) rfl T.b_sum Zq1 ?ga (by decide) (by decide) (by rfl) (by rfl);case ga=>refine' @Za _ _ _ _ _ ?gb Zb rfl;case gb=>refine' @Yp _ _ _ _ _ _ _ (["weight","top"]) ([none,none]) _ _ ((gTup K 2 (Yi (Z8 0) (Yi (Z8 1) gNil)))) _ _ rfl (Z0 (by decide) rfl (by decide) rfl rfl) ?gc (fun _ _ _ _=>(Zy (n:=2) rfl (Zg (Ze (i:=0) (show List.Nodup [("weight" : Str),("top" : Str)] by decide) rfl (Or.inl rfl) (Or.inr rfl)) (Zg (Ze (i:=1) (show List.Nodup [("weight" : Str),("top" : Str)] by decide) rfl (Or.inl rfl) (Or.inr rfl)) Zq)))) (fun _ _ _ _=>Zn) (fun _ _ _ _=>(Zm Zs (pv 0) (pv 1))) (by intro _ ;rfl);case gc=>refine' @Zb1 _ _ _ _ .l .l _ _ _ _ _ rfl T.b_zip ?gd (by rfl) (by rfl);case gd=>refine' @Za _ _ _ _ _ (pv 0) (Za (pv 3) Zb rfl) rfl);case g9=>refine' @Za _ _ _ _ _ (Zm Zs (pv 4) (pv 2)) Zb rfl
 have hl2:=al.1;refine ⟨_,rfl,l,us,ps,k,rfl,hl,al,hB,by omega,by omega,by omega,fun H1 r t m s1 hr1 ht1 mp dv sz _=>?_⟩;refine ⟨r,_,rfl,SqT.of hr1,rfl,_,_,rfl,_,_,rfl,rfl,?_⟩;have mz:m.natAbs<2^2850:=up 2850 sz (by omega);refine ⟨_,rfl,_,rfl,a,t,rfl,⟨_,SqL.of (s1 _ _ ha)⟩,⟨_,SqL.of ht1⟩,fun D nD=>?_⟩;refine lc_Z (k:=.l) (l:=.l) (vs:=List.replicate ps.length (.int 1)) (ws:=(ps.map (levP m)).map V.int) RI hRI (ps.map (levP m)) (by simp) (by simp;omega) nD (s1 _ _ ha) ht1 (fun i v w H2 C hv hw s2 c=>?_) (fun H2 us s2 e2 a2=>?_)
 · rw [List.getElem?_map] at hw;obtain ⟨y,ey,rfl⟩:=Option.map_eq_some_iff.mp hw;rw [List.getElem?_replicate] at hv;split at hv
   · cases hv
     have hy:y.natAbs<2^4000:=by
      obtain ⟨p,hp,rfl⟩:=List.mem_map.mp (List.mem_of_getElem? ey);exact up 4000 (Zsm (hB p hp).1.1 (dv p hp) mz (hB p hp).2)
     refine ⟨_,rfl,_,rfl,1,y,rfl,rfl,Y2 (n:=4000) (Nat.one_lt_two_pow (by decide)) hy,?_⟩;show C (V.int (1*y)) H2
     rw [Int.one_mul];exact c _ _ _ (Same.refl _) ey rfl
   · cases hv
 · rw [a2.ints] at e2;refine ⟨D,_,rfl,SqL.of e2,_,rfl,_,rfl,_,_,rfl,rfl,Y2 (n:=2850) mz (up 2850 hb1),_,_,rfl,Int.mul_ne_zero (by omega) hb0,up 4000 (FM.natAbs_mul_lt mz hb1),fun p H3 s3 hp=>?_⟩;refine q _ _ (s1.trans (s2.trans s3)) ⟨p,rfl,?_⟩;rw [hp];have e:=Zn7 ps fun p hp=>⟨(hB p hp).1.1,dv p hp⟩
   have:Rat.divInt (ps.map (levP m)).sum (m*b)=rsum ps/b:=by
    rw [Rat.divInt_eq_div,e,Rat.intCast_mul];have h1:=Xb (show m≠0 by omega);have h2:=Xb hb0;generalize rsum ps=S at *
    grind
   rw [this]
abbrev Xi:Stmt:=top 53
theorem Zb4:FnScope ["plate","motions"] ["plate","motions"] (Zc Xi):=⟨rfl,rfl,rfl,by decide +kernel,rfl,by decide +kernel,by decide +kernel⟩
theorem Zb8 {f:Addr} {fd:FuncData} (F:Fun K "look_at_motions" "look_at_motions" Xi f fd) (T:Bt mg) (C_are_fractions:a28_ P w K mg base) (C_ways_of:a29_ P w K mg base):FnOk P w K mg base CX0 5 f fd ["plate","motions"] Zgz:=by
 refine F.ok Zb4 (fun vs H Q E h=>by obtain ⟨v,w,P',ms,rfl,_⟩:=h;rfl) fun cdv A outer s H vs Q E hr h=>?_;obtain ⟨v,w,P',ms,rfl,hv,ok,hw,hl,hB,q⟩:=h;refine' ⟨_,?term,?read⟩
 case term=>refine' @Zi _ _ _ ?g1;case g1=>refine' @Xc _ _ _ _ _ _ _ _ ?g2 Za3 Z2;case g2=>refine' @Ys _ _ _ _ ?g3;case g3=>refine' @Zx _ _ _ ?g4 (fun _=>rfl);case g4=>refine' @Zh _ _ _ _ _ _ _ _ _ _ _ C_are_fractions hr (by decide) rfl ?g5 (by decide) (by rfl) (by rfl);case g5=>refine' @Za _ _ _ _ _ (pv 1) ?g6 rfl;case g6=>refine' @Za _ _ _ _ _ (Zh C_ways_of hr (by decide) rfl (Za (pv 0) Zb rfl)) Zb rfl
 have c30:=ok.c30;refine ⟨_,rfl,_,rfl,v,P',rfl,hv,ok,w,ms,?_,hw,fun x hx=>(hB x hx).mono (by decide),by omega,fun H1 s1=>⟨true,rfl,iteF (q _ s1)⟩⟩;rw [hl];rfl
abbrev Zs8:Stmt:=top 55
theorem Zt5:FnScope ["ones","others"] ["ones","others"] (Zc Zs8):=⟨rfl,rfl,rfl,by decide +kernel,rfl,by decide +kernel,by decide +kernel⟩
theorem Zut {f:Addr} {fd:FuncData} (F:Fun K "dot" "dot" Zs8 f fd) (T:Bt mg):FnOk P w K mg base CX0 1 f fd ["ones","others"] Zrk:=by
 refine F.ok Zt5 (fun vs H Q E h=>by obtain ⟨a,b,xs,ys,rfl,_⟩:=h;rfl) fun cdv A outer s H vs Q E hr h=>?_;obtain ⟨a,b,xs,ys,rfl,ha,hb,h100,hx,hy,q⟩:=h;refine' ⟨_,?term,?read⟩
 case term=>refine' @Zi _ _ _ ?g1;case g1=>refine' @Zl _ _ _ _ ?g2;case g2=>refine' @Zk _ _ _ _ _ _ _ _ _ (Zhx rfl) rfl T.b_sum Zq1 ?g3 (by decide) (by decide) (by rfl) (by rfl);case g3=>refine' @Za _ _ _ _ _ ?g4 Zb rfl;case g4=>refine' @Yp _ _ _ _ _ _ _ (["one","other"]) ([none,none]) _ _ ((gTup K 2 (Yi (Z8 0) (Yi (Z8 1) gNil)))) _ _ rfl (Z0 (by decide) rfl (by decide) rfl rfl) ?g5 (fun _ _ _ _=>(Zy (n:=2) rfl (Zg (Ze (i:=0) (show List.Nodup [("one" : Str),("other" : Str)] by decide) rfl (Or.inl rfl) (Or.inr rfl)) (Zg (Ze (i:=1) (show List.Nodup [("one" : Str),("other" : Str)] by decide) rfl (Or.inl rfl) (Or.inr rfl)) Zq)))) (fun _ _ _ _=>Zn) (fun _ _ _ _=>(Zm Zs (pv 0) (pv 1))) (by intro _ ;rfl);case g5=>refine' @Zb1 _ _ _ _ .l .l _ _ _ _ _ rfl T.b_zip ?g6 (by rfl) (by rfl);case g6=>refine' @Za _ _ _ _ _ (pv 0) (Za (pv 1) Zb rfl) rfl
 refine ⟨_,rfl,_,rfl,a,b,rfl,⟨_,SqL.of ha⟩,⟨_,SqL.of hb⟩,fun D nD=>?_⟩;refine lc_Z (k:=.l) (l:=.l) (vs:=xs.map V.int) (ws:=ys.map V.int) RI hRI (List.zipWith (·*·) xs ys) (by simp) (by simp;omega) nD ha hb (fun i v w H2 C hv hw s2 c=>?_) (fun H2 us s2 e2 a2=>?_)
 · rw [List.getElem?_map] at hv hw;obtain ⟨x,ex,rfl⟩:=Option.map_eq_some_iff.mp hv;obtain ⟨y,ey,rfl⟩:=Option.map_eq_some_iff.mp hw;exact ⟨_,rfl,_,rfl,x,y,rfl,rfl,Y2 (hx x (List.mem_of_getElem? ex)) (hy y (List.mem_of_getElem? ey)),c _ _ _ (Same.refl _) (by rw [List.getElem?_zipWith,ex,ey]) rfl⟩
 · rw [a2.ints] at e2;exact ⟨D,_,rfl,SqL.of e2,q _ s2⟩
abbrev Zkj:Stmt:=top 56
theorem Zpp:FnScope ["terms"] ["terms"] (Zc Zkj):=⟨rfl,rfl,rfl,by decide +kernel,rfl,by decide +kernel,by decide +kernel⟩
theorem Zp1 {f:Addr} {fd:FuncData} (F:Fun K "added" "added" Zkj f fd) (T:Bt mg) (D_mixed:CalD P w K mg base "mixed" 5 ["weights","parts","bottom"] [.int 1] Zdv):FnOk P w K mg base CX0 6 f fd ["terms"] Zln:=by
 refine F.ok Zpp (fun vs H Q E h=>by obtain ⟨l,us,ps,k,rfl,_⟩:=h;rfl) fun cdv A outer s H vs Q E hr h=>?_;obtain ⟨l,us,ps,k,rfl,hl,al,hB,h40,q⟩:=h;refine' ⟨_,?term,?read⟩
 case term=>refine' @Zi _ _ _ ?g1;case g1=>refine' @Zl _ _ _ _ ?g2;case g2=>refine' @Zsa _ _ _ _ _ _ _ _ _ _ _ _ D_mixed hr (by decide) rfl ?g3 (by decide) (by rfl) (by rfl);case g3=>refine' @Za _ _ _ _ _ ?g4 (Za (pv 0) Zb rfl) rfl;case g4=>refine' @Zm _ _ _ _ _ _ _ _ Zna ?g5 (Zk Zp rfl T.b_len Yv (Za (pv 0) Zb rfl));case g5=>refine' @Xl _ _ _ _ (Za Zf Zb rfl)
 have hl2:=al.1;obtain ⟨h100,_⟩:=id h40;refine ⟨z1_,fun y ny=>?_⟩;generalize gG:upd H y (.lst [.int 1])=H1;obtain ⟨s1,e1⟩:=gen_upd gG ny;refine ⟨_,rfl,l,us,rfl,.inl (SqL.of (s1 _ _ hl)),y,us.length,_,rfl,rfl,e1,by omega,by omega,by simp;rw [sizeLine_eq];omega,fun C nC=>?_⟩;rw [Int.toNat_natCast,Zdw,hl2];generalize gG:upd H1 C (.lst (List.replicate ps.length (.int 1)))=H2;obtain ⟨s2,e2⟩:=gen_upd gG nC;have s12:=s1.trans s2;refine ⟨_,rfl,C,l,us,ps,1,k,rfl,e2,s12 _ _ hl,al.imp fun v x r=>r.tk s12.tk,hB,h40,by decide,by decide,fun H3 v s3 hv=>q _ _ (s12.trans s3) ?_⟩
 have:rsum ps/((1:Int):Rat)=rsum ps:=by
  have:((1:Int):Rat)=1:=rfl
  rw [this];grind
 rw [this] at hv;exact hv
abbrev Zdu:Stmt:=top 57
theorem Zhy:FnScope ["plate","number","corners","piece","first","second","third","nexts","bees","cees"] ["plate","number"] (Zc Zdu):=⟨rfl,rfl,rfl,by decide +kernel,rfl,by decide +kernel,by decide +kernel⟩
theorem Zn2 {f:Addr} {fd:FuncData} (F:Fun K "slopes" "slopes" Zdu f fd) (T:Bt mg) (C_turn_of:a8_ P w K mg base):FnOk P w K mg base CX0 3 f fd ["plate","number"] Zhl:=by
 refine F.ok Zhy (fun vs H Q E h=>by obtain ⟨v,P',n,rfl,_⟩:=h;rfl) fun cdv A outer s H vs Q E hr h=>?_;obtain ⟨v,P',n,rfl,⟨a,c,p,t,st,rfl,ha,⟨a',us,rfl,ha',al⟩,⟨b',ws,rfl,hb',bl⟩,ht,hs⟩,ok,h0,h1,q⟩:=h;have nd:=Zhy.nd;refine' ⟨_,?term,?read⟩
 case term=>refine' @Zd _ _ _ _ _ ?g1 ?g2;(case g1=>refine' @Yt _ _ _ _ _ _ ?g3 ?g4 (by rfl) (by rfl) (by rfl);(case g3=>refine' @Z5 _ _ _ _ _ ?g5;case g5=>refine' @Za _ _ _ _ _ ?g6 ?g7 rfl;(case g6=>refine' @Zt _ _ _ _ _ _ _ Zu (pv 0) Zf (fun _ _=>rfl));case g7=>refine' @Za _ _ _ _ _ ?g8 Zb rfl;case g8=>refine' @Zt _ _ _ _ _ _ _ Zu ?g9 (pv 1) (fun _ _=>rfl);case g9=>refine' @Zt _ _ _ _ _ _ _ Zu (pv 0) Zf (fun _ _=>rfl));case g4=>refine' @Zy _ _ _ _ _ (2) rfl ?ga (by rfl) (by rfl);case ga=>refine' @Zg _ _ _ _ _ (Ze (i:=2) nd rfl (Or.inr rfl)) (Zg (Ze (i:=3) nd rfl (Or.inl rfl)) Zq) (by rfl));case g2=>refine' @Zd _ _ _ _ _ ?gb ?gc;(case gb=>refine' @Yt _ _ _ _ _ _ ?gd ?ge (by rfl) (by rfl) (by rfl);(case gd=>refine' @Yp _ _ _ _ _ _ _ (["corner","corners"]) ([none,some 2]) _ _ _ _ _ rfl (Z3 (XN:=[("plate" : Str),("number" : Str),("corners" : Str),("piece" : Str),("first" : Str),("second" : Str),("third" : Str),("nexts" : Str),("bees" : Str),("cees" : Str)]) (Scope.names (Zc Zdu)) rfl rfl rfl (fun _ h=>Zv h) (by decide +kernel) rfl) (Yu (pv 3)) (fun _ _ _ _=>(Ze (i:=0) (show List.Nodup [("corner" : Str),("corners" : Str)] by decide) rfl (Or.inl rfl) (Or.inr rfl))) (fun _ _ _ _=>Zn) (fun _ _ _ _=>(Zt (Zan K rfl) (pv 1) (pv 0) (fun _ _=>rfl))) (by intro _ ;rfl));case ge=>refine' @Zhb _ _ _ _ _ (3) rfl ?gf (by rfl) (by rfl);case gf=>refine' @Zg _ _ _ _ _ (Ze (i:=4) nd rfl (Or.inl rfl)) ?gg (by rfl);case gg=>refine' @Zg _ _ _ _ _ (Ze (i:=5) nd rfl (Or.inl rfl)) (Zg (Ze (i:=6) nd rfl (Or.inl rfl)) Zq) (by rfl));case gc=>refine' @Zd _ _ _ _ _ ?gh ?gi;(case gh=>refine' @Zz _ _ (7) _ _ _ _ nd rfl (Or.inl rfl) ?gj (by rfl) (by first|exact Or.inl rfl|exact Or.inr rfl|assumption);case gj=>refine' @Xl _ _ _ _ ?gk;case gk=>refine' @Za _ _ _ _ _ ?gl ?gm rfl;(case gl=>refine' @Z5 _ _ _ _ _ ?gn;case gn=>refine' @Za _ _ _ _ _ (pv 5) (Za (pv 6) Zb rfl) rfl);case gm=>refine' @Za _ _ _ _ _ ?go ?gp rfl;(case go=>refine' @Z5 _ _ _ _ _ ?gq;case gq=>refine' @Za _ _ _ _ _ (pv 6) (Za (pv 4) Zb rfl) rfl);case gp=>refine' @Za _ _ _ _ _ ?gr Zb rfl;case gr=>refine' @Z5 _ _ _ _ _ ?gs;case gs=>refine' @Za _ _ _ _ _ (pv 4) (Za (pv 5) Zb rfl) rfl);case gi=>refine' @Zd _ _ _ _ _ ?gt ?gu;(case gt=>refine' @Zdf _ _ _ _ _ _ _ _ _ _ (["one","other"]) ([none,none]) _ _ ((gTup K 2 (Yi (Z8 0) (Yi (Z8 1) gNil)))) _ _ _ rfl rfl (Ze (i:=8) nd rfl (Or.inl rfl)) (Z0 (by decide) rfl (by decide) rfl rfl) (Y8 (pv 7)) (fun _ _ _ _=>(Zy (n:=2) rfl (Zg (Ze (i:=0) (show List.Nodup [("one" : Str),("other" : Str)] by decide) rfl (Or.inl rfl) (Or.inr rfl)) (Zg (Ze (i:=1) (show List.Nodup [("one" : Str),("other" : Str)] by decide) rfl (Or.inl rfl) (Or.inr rfl)) Zq)))) (fun _ _ _ _=>Zn) (fun _ _ _ _=>(Zm Y1 (Zt (Zan K rfl) (pv 0) Zf (fun _ _=>rfl)) (Zt (Zan K rfl) (pv 1) Zf (fun _ _=>rfl)))) (by intro _ ;rfl));case gu=>refine' @Zd _ _ _ _ _ ?gv ?gw;(case gv=>refine' @Zdf _ _ _ _ _ _ _ _ _ _ (["one","other"]) ([none,none]) _ _ ((gTup K 2 (Yi (Z8 0) (Yi (Z8 1) gNil)))) _ _ _ rfl rfl (Ze (i:=9) nd rfl (Or.inl rfl)) (Z0 (by decide) rfl (by decide) rfl rfl) (Y8 (pv 7)) (fun _ _ _ _=>(Zy (n:=2) rfl (Zg (Ze (i:=0) (show List.Nodup [("one" : Str),("other" : Str)] by decide) rfl (Or.inl rfl) (Or.inr rfl)) (Zg (Ze (i:=1) (show List.Nodup [("one" : Str),("other" : Str)] by decide) rfl (Or.inl rfl) (Or.inr rfl)) Zq)))) (fun _ _ _ _=>Zn) (fun _ _ _ _=>(Zm Y1 (Zt (Zan K rfl) (pv 1) Zf (fun _ _=>rfl)) (Zt (Zan K rfl) (pv 0) Zf (fun _ _=>rfl)))) (by intro _ ;rfl));case gw=>refine' @Zi _ _ _ ?gx;case gx=>refine' @Zl _ _ _ _ ?gy;case gy=>refine' @Z5 _ _ _ _ _ ?gz;case gz=>refine' @Za _ _ _ _ _ ?g10 ?g11 rfl;(case g10=>refine' @Zh _ _ _ _ _ _ _ _ _ _ _ C_turn_of hr (by decide) rfl ?g12 (by decide) (by rfl) (by rfl);case g12=>refine' @Za _ _ _ _ _ (pv 2) (Za (pv 3) Zb rfl) rfl);case g11=>refine' @Za _ _ _ _ _ (pv 8) (Za (pv 9) Zb rfl) rfl
 have pk:=ok.pc _ (Z4 h0 h1);obtain ⟨pv',ev,b,rfl,hb⟩:=Zth bl h0 h1;have hl:=pk.len;have bd:=pk.bd;generalize hp:pcOf P' n=p at *;have nr:=ok.nr;generalize P'.cs=cs at *;refine ⟨_,rfl,a,_,0,_,rfl,rfl,SqT.of ha,rfl,_,rfl,a,_,1,_,rfl,rfl,SqT.of ha,rfl,_,rfl,b',ws,n,_,rfl,rfl,SqT.of hb',ev,z2_,fun r0 n0=>?_⟩;generalize gG:upd H r0 (.tup [.ref a',.ref b])=H0;obtain ⟨s0,e0⟩:=gen_upd gG n0;refine ⟨r0,_,rfl,SqT.of e0,rfl,_,_,rfl,_,_,rfl,rfl,?_⟩;have ha0:=s0 _ _ ha';have al0:Al (IsP H0) us cs:=al.imp fun v x r=>r.tk s0.tk;refine ⟨_,rfl,b,rfl,⟨_,SqT.of (s0 _ _ hb)⟩,fun D nD=>?_⟩;refine lc_T (k:=.t) (vs:=p.map V.int) IsP hRP (p.map (cAt cs)) (by simp) (by simp [hl]) nD (s0 _ _ hb) (fun i w H2 C hw s2 c=>?_) (fun H2 us' s2 e2 a2=>?_)
 · rw [List.getElem?_map] at hw;obtain ⟨x,ex,rfl⟩:=Option.map_eq_some_iff.mp hw;obtain ⟨b1,b2⟩:=bd x (List.mem_of_getElem? ex);obtain ⟨v,ev,rv⟩:=Zmn al0 b1 b2;exact ⟨_,rfl,_,rfl,a',us,x,v,rfl,rfl,SqT.of (s2 _ _ ha0),ev,c _ _ _ (Same.refl _) (by rw [List.getElem?_map,ex];rfl) (rv.tk s2.tk)⟩
 · obtain ⟨x,y,z,rfl,rx,ry,rz⟩:=cs3 (al0.imp fun v x r=>r.tk s2.tk) hl bd a2;refine ⟨D,_,rfl,SqL.of e2,rfl,x,_,rfl,y,_,rfl,z,_,rfl,rfl,?_⟩;refine ⟨_,rfl,_,rfl,z2_,fun q1 n1=>?_⟩;generalize gG:upd H2 q1 (.tup [y,z])=H3;obtain ⟨s3,e3⟩:=gen_upd gG n1;refine ⟨_,rfl,_,rfl,z2_,fun q2 n2=>?_⟩;generalize gG:upd H3 q2 (.tup [z,x])=H4;obtain ⟨s4,e4⟩:=gen_upd gG n2;refine ⟨_,rfl,_,rfl,z2_,fun q3 n3=>?_⟩;generalize gG:upd H4 q3 (.tup [x,y])=H5;obtain ⟨s5,e5⟩:=gen_upd gG n3;refine ⟨z3_,fun N nN=>?_⟩;generalize gG:upd H5 N (.lst [.ref q1,.ref q2,.ref q3])=H6;obtain ⟨s6,e6⟩:=gen_upd gG nN;have t26:=(s3.trans (s4.trans (s5.trans s6))).tk;have rx6:=rx.tk t26;have ry6:=ry.tk t26;have rz6:=rz.tk t26;have s06:=s0.trans (s2.trans (s3.trans (s4.trans (s5.trans s6))));clear rx ry rz;change IsP H6 x (p0 cs p) at rx6;change IsP H6 y (p1 cs p) at ry6;change IsP H6 z (p2 cs p) at rz6;have alN:Al (IsE H6) [.ref q1,.ref q2,.ref q3] [(p1 cs p,p2 cs p),(p2 cs p,p0 cs p),(p0 cs p,p1 cs p)]:=.cons ⟨q1,y,z,rfl,s6 _ _ (s5 _ _ (s4 _ _ e3)),ry6,rz6⟩ (.cons ⟨q2,z,x,rfl,s6 _ _ (s5 _ _ e4),rz6,rx6⟩ (.cons ⟨q3,x,y,rfl,s6 _ _ e5,rx6,ry6⟩ .nil));refine ⟨_,rfl,N,rfl,⟨_,SqL.of e6⟩,fun E nE=>?_⟩;refine Zjr (k:=.l) (vs:=[.ref q1,.ref q2,.ref q3]) RI hRI (Z9 cs p) rfl (by simp) nE e6 (prs alN) (fun i p' x' y' H7 C hw hp' s7 c=>?_) (fun H7 us7 s7 e7 a7=>?_)
   · obtain ⟨e,ee,⟨g1,rfl,hg1⟩,⟨g2,rfl,hg2⟩⟩:=pr1 alN hw hp';refine ⟨_,rfl,g1,_,1,_,rfl,rfl,SqT.of (s7 _ _ hg1),rfl,_,rfl,g2,_,1,_,rfl,rfl,SqT.of (s7 _ _ hg2),rfl,_,_,rfl,rfl,c _ _ (e.1.2-e.2.2) (Same.refl _) ?_ rfl⟩
     have:Z9 cs p=[(p1 cs p,p2 cs p),(p2 cs p,p0 cs p),(p0 cs p,p1 cs p)].map fun e=>e.1.2-e.2.2:=rfl
     rw [this,List.getElem?_map,ee];rfl
   · rw [a7.ints] at e7;refine ⟨_,rfl,N,rfl,⟨_,SqL.of (s7 _ _ e6)⟩,fun G nG=>?_⟩;have alN7:Al (IsE H7) [.ref q1,.ref q2,.ref q3] [(p1 cs p,p2 cs p),(p2 cs p,p0 cs p),(p0 cs p,p1 cs p)]:=alN.imp fun v x r=>r.tk s7.tk;refine Zjr (k:=.l) (vs:=[.ref q1,.ref q2,.ref q3]) RI hRI (Yc cs p) rfl (by simp) nG (s7 _ _ e6) (prs alN7) (fun i p' x' y' H8 C hw hp' s8 c=>?_) (fun H8 us8 s8 e8 a8=>?_)
     · obtain ⟨e,ee,⟨g1,rfl,hg1⟩,⟨g2,rfl,hg2⟩⟩:=pr1 alN7 hw hp';refine ⟨_,rfl,g2,_,0,_,rfl,rfl,SqT.of (s8 _ _ hg2),rfl,_,rfl,g1,_,0,_,rfl,rfl,SqT.of (s8 _ _ hg1),rfl,_,_,rfl,rfl,c _ _ (e.2.1-e.1.1) (Same.refl _) ?_ rfl⟩
       have:Yc cs p=[(p1 cs p,p2 cs p),(p2 cs p,p0 cs p),(p0 cs p,p1 cs p)].map fun e=>e.2.1-e.1.1:=rfl
       rw [this,List.getElem?_map,ee];rfl
     · rw [a8.ints] at e8;have s08:=s06.trans (s7.trans s8);refine ⟨_,rfl,_,rfl,_,_,cs,p,rfl,⟨a',us,rfl,s08 _ _ ha',al.imp fun v x r=>r.tk s08.tk⟩,⟨b,rfl,s08 _ _ hb⟩,hl,bd,nr,?_⟩;refine ⟨_,rfl,_,rfl,z3_,fun R nR=>?_⟩;have s9:Same H8 (upd H8 R (.tup [.int (dOf cs p),.ref E,.ref G])):=Same.new nR;exact q _ R E G (s08.trans s9) Zj (s9 _ _ (s8 _ _ e7)) (s9 _ _ e8)
abbrev Zau:Stmt:=top 58
theorem Zb3:FnScope ["plate","number","piece"] ["plate","number"] (Zc Zau):=⟨rfl,rfl,rfl,by decide +kernel,rfl,by decide +kernel,by decide +kernel⟩
theorem Zgn {f:Addr} {fd:FuncData} (F:Fun K "piece_ways" "piece_ways" Zau f fd) (T:Bt mg):FnOk P w K mg base CX0 1 f fd ["plate","number"] Zlr:=by
 refine F.ok Zb3 (fun vs H Q E h=>by obtain ⟨v,P',n,rfl,_⟩:=h;rfl) fun cdv A outer s H vs Q E hr h=>?_;obtain ⟨v,P',n,rfl,⟨a,c,p,t,st,rfl,ha,⟨a',us,rfl,ha',al⟩,⟨b',ws,rfl,hb',bl⟩,ht,hs⟩,ok,h0,h1,q⟩:=h;have nd:=Zb3.nd;refine' ⟨_,?term,?read⟩
 case term=>refine' @Zd _ _ _ _ _ ?g1 ?g2;(case g1=>refine' @Zz _ _ (2) _ _ _ _ nd rfl (Or.inl rfl) ?g3 (by rfl) (by first|exact Or.inl rfl|exact Or.inr rfl|assumption);case g3=>refine' @Zt _ _ _ _ _ _ _ Zu ?g4 (pv 1) (fun _ _=>rfl);case g4=>refine' @Zt _ _ _ _ _ _ _ Zu (pv 0) Zf (fun _ _=>rfl));case g2=>refine' @Zi _ _ _ ?g5;case g5=>refine' @Zl _ _ _ _ ?g6;case g6=>refine' @Zm _ _ _ _ _ _ _ _ Zo5 ?g7 ?g8;(case g7=>refine' @Yp _ _ _ _ _ _ _ (["corner"]) ([none]) _ _ _ _ _ rfl (Z0 (by decide) rfl (by decide) rfl rfl) (Yu (pv 2)) (fun _ _ _ _=>(Ze (i:=0) (show List.Nodup [("corner" : Str)] by decide) rfl (Or.inl rfl) (Or.inr rfl))) (fun _ _ _ _=>Zn) (fun _ _ _ _=>(Zm Zs Zf (pv 0))) (by intro _ ;rfl));case g8=>refine' @Yp _ _ _ _ _ _ _ (["corner"]) ([none]) _ _ _ _ _ rfl (Z0 (by decide) rfl (by decide) rfl rfl) (Yu (pv 2)) (fun _ _ _ _=>(Ze (i:=0) (show List.Nodup [("corner" : Str)] by decide) rfl (Or.inl rfl) (Or.inr rfl))) (fun _ _ _ _=>Zn) (fun _ _ _ _=>(Zm Yw (Zm Zs Zf (pv 0)) Zf)) (by intro _ ;rfl)
 have pk:=ok.pc _ (Z4 h0 h1);have c30:=ok.c30;obtain ⟨pv',ev,b,rfl,hb⟩:=Zth bl h0 h1;have hl:=pk.len;have bd:=pk.bd;generalize hp:pcOf P' n=p at *;refine ⟨_,rfl,a,_,1,_,rfl,rfl,SqT.of ha,rfl,_,rfl,b',ws,n,_,rfl,rfl,SqT.of hb',ev,?_⟩;refine ⟨_,rfl,b,rfl,⟨_,SqT.of hb⟩,fun D nD=>?_⟩;refine lc_T (k:=.t) (vs:=p.map V.int) RI hRI (p.map fun i=>2*i) (by simp) (by simp [hl]) nD hb (fun i w H2 C hw s2 c=>?_) (fun H2 us' s2 e2 a2=>?_)
 · rw [List.getElem?_map] at hw;obtain ⟨x,ex,rfl⟩:=Option.map_eq_some_iff.mp hw;obtain ⟨b1,b2⟩:=bd x (List.mem_of_getElem? ex);exact ⟨_,rfl,_,_,rfl,rfl,mul3 (by decide) (by omega),c _ _ _ (Same.refl _) (by rw [List.getElem?_map,ex];rfl) rfl⟩
 · rw [a2.ints] at e2;refine ⟨_,rfl,b,rfl,⟨_,SqT.of (s2 _ _ hb)⟩,fun E nE=>?_⟩;refine lc_T (k:=.t) (vs:=p.map V.int) RI hRI (p.map fun i=>2*i+1) (by simp) (by simp [hl]) nE (s2 _ _ hb) (fun i w H4 C hw s4 c=>?_) (fun H4 us'' s4 e4 a4=>?_)
   · rw [List.getElem?_map] at hw;obtain ⟨x,ex,rfl⟩:=Option.map_eq_some_iff.mp hw;obtain ⟨b1,b2⟩:=bd x (List.mem_of_getElem? ex);exact ⟨_,rfl,_,_,rfl,rfl,mul3 (by decide) (by omega),_,_,rfl,rfl,c _ _ _ (Same.refl _) (by rw [List.getElem?_map,ex];rfl) rfl⟩
   · rw [a4.ints] at e4;refine ⟨D,E,_,_,rfl,rfl,s4 _ _ e2,e4,by simp [hl];rw [sizeLine_eq];decide,fun r nr=>?_⟩;have s5:Same H4 (upd H4 r (.lst ((Yx p).map V.int))):=Same.new nr;have e5:((p.map fun i=>2*i).map V.int)++((p.map fun i=>2*i+1).map V.int)=(Yx p).map V.int:=by unfold Yx;rw [List.map_append]
     rw [e5];exact q _ r (s2.trans (s4.trans s5)) Zj
abbrev Zba:Stmt:=top 59
theorem Zjz:FnScope ["plate","number","things"] ["plate","number","things"] (Zc Zba):=⟨rfl,rfl,rfl,by decide +kernel,rfl,by decide +kernel,by decide +kernel⟩
theorem Zj7 {f:Addr} {fd:FuncData} (F:Fun K "at_piece" "at_piece" Zba f fd) (T:Bt mg) (C_piece_ways:a30_ P w K mg base):FnOk P w K mg base CX0 2 f fd ["plate","number","things"] Zfw:=by
 refine F.ok Zjz (fun vs H Q E h=>by obtain ⟨v,w,P',n,ms,rfl,_⟩:=h;rfl) fun cdv A outer s H vs Q E hr h=>?_;obtain ⟨v,w,P',n,ms,rfl,hv,ok,h0,h1,⟨a,us,rfl,ha,al⟩,hm,q⟩:=h;refine' ⟨_,?term,?read⟩
 case term=>refine' @Zi _ _ _ ?g1;case g1=>refine' @Zl _ _ _ _ ?g2;case g2=>refine' @Yp _ _ _ _ _ _ _ (["way","things"]) ([none,some 2]) _ _ _ _ _ rfl (Z3 (XN:=[("plate" : Str),("number" : Str),("things" : Str)]) (Scope.names (Zc Zba)) rfl rfl rfl (fun _ h=>Zv h) (by decide +kernel) rfl) ?g3 (fun _ _ _ _=>(Ze (i:=0) (show List.Nodup [("way" : Str),("things" : Str)] by decide) rfl (Or.inl rfl) (Or.inr rfl))) (fun _ _ _ _=>Zn) (fun _ _ _ _=>(Zt (Zan K rfl) (pv 1) (pv 0) (fun _ _=>rfl))) (by intro _ ;rfl);case g3=>refine' @Y8 _ _ _ _ ?g4;case g4=>refine' @Zh _ _ _ _ _ _ _ _ _ _ _ C_piece_ways hr (by decide) rfl ?g5 (by decide) (by rfl) (by rfl);case g5=>refine' @Za _ _ _ _ _ (pv 0) (Za (pv 1) Zb rfl) rfl
 have pk:=ok.pc _ (Z4 h0 h1);refine ⟨_,rfl,_,rfl,v,P',n,rfl,hv,ok,h0,h1,fun H1 r s1 hr1=>?_⟩;refine ⟨r,rfl,⟨_,SqL.of hr1⟩,fun D nD=>?_⟩;have hwl:(Yx (pcOf P' n)).length=6:=by unfold Yx;simp [pk.len]
 refine lc_T (k:=.l) (vs:=(Yx (pcOf P' n)).map V.int) IsQ hRQ (Yj P' n ms) (by unfold Yj;simp) (by simp [hwl]) nD hr1 (fun i x H2 C hx s2 c=>?_) (fun H2 us' s2 e2 a2=>?_)
 · rw [List.getElem?_map] at hx;obtain ⟨y,ey,rfl⟩:=Option.map_eq_some_iff.mp hx;obtain ⟨b1,b2⟩:=Zj4 pk.bd y (List.mem_of_getElem? ey);obtain ⟨u,eu,ru⟩:=Zws al b1 (by rw [hm];exact b2);have s12:=s1.trans s2;exact ⟨_,rfl,_,rfl,a,us,y,u,rfl,rfl,SqT.of (s12 _ _ ha),eu,c _ _ _ (Same.refl _) (by unfold Yj;rw [List.getElem?_map,ey];rfl) (ru.tk s12.tk)⟩
 · exact q _ D us' (s1.trans s2) e2 a2
abbrev Zbm:Stmt:=top 59
theorem Zih:FnScope ["plate","number","things"] ["plate","number","things"] (Zc Zbm):=⟨rfl,rfl,rfl,by decide +kernel,rfl,by decide +kernel,by decide +kernel⟩
theorem Zic {f:Addr} {fd:FuncData} (F:Fun K "at_piece" "at_piece" Zbm f fd) (T:Bt mg) (C_piece_ways:a30_ P w K mg base):FnOk P w K mg base CX0 2 f fd ["plate","number","things"] Zd7:=by
 refine F.ok Zih (fun vs H Q E h=>by obtain ⟨v,P',n,l,xs,rfl,_⟩:=h;rfl) fun cdv A outer s H vs Q E hr h=>?_;obtain ⟨v,P',n,l,xs,rfl,hv,ok,h0,h1,hl,hx,q⟩:=h;refine' ⟨_,?term,?read⟩
 case term=>refine' @Zi _ _ _ ?g1;case g1=>refine' @Zl _ _ _ _ ?g2;case g2=>refine' @Yp _ _ _ _ _ _ _ (["way","things"]) ([none,some 2]) _ _ _ _ _ rfl (Z3 (XN:=[("plate" : Str),("number" : Str),("things" : Str)]) (Scope.names (Zc Zbm)) rfl rfl rfl (fun _ h=>Zv h) (by decide +kernel) rfl) ?g3 (fun _ _ _ _=>(Ze (i:=0) (show List.Nodup [("way" : Str),("things" : Str)] by decide) rfl (Or.inl rfl) (Or.inr rfl))) (fun _ _ _ _=>Zn) (fun _ _ _ _=>(Zt (Zf6 K rfl) (pv 1) (pv 0) (fun _ _=>rfl))) (by intro _ ;rfl);case g3=>refine' @Y8 _ _ _ _ ?g4;case g4=>refine' @Zh _ _ _ _ _ _ _ _ _ _ _ C_piece_ways hr (by decide) rfl ?g5 (by decide) (by rfl) (by rfl);case g5=>refine' @Za _ _ _ _ _ (pv 0) (Za (pv 1) Zb rfl) rfl
 have pk:=ok.pc _ (Z4 h0 h1);refine ⟨_,rfl,_,rfl,v,P',n,rfl,hv,ok,h0,h1,fun H1 r s1 hr1=>?_⟩;refine ⟨r,rfl,⟨_,SqL.of hr1⟩,fun D nD=>?_⟩;have hwl:(Yx (pcOf P' n)).length=6:=by unfold Yx;simp [pk.len]
 refine lc_T (k:=.l) (vs:=(Yx (pcOf P' n)).map V.int) RI hRI ((Yx (pcOf P' n)).map fun w=>xs.getD w.toNat 0) (by simp) (by simp [hwl]) nD hr1 (fun i x H2 C hx' s2 c=>?_) (fun H2 us' s2 e2 a2=>?_)
 · rw [List.getElem?_map] at hx';obtain ⟨y,ey,rfl⟩:=Option.map_eq_some_iff.mp hx';obtain ⟨b1,b2⟩:=Zj4 pk.bd y (List.mem_of_getElem? ey);have s12:=s1.trans s2;obtain ⟨yn,rfl⟩:∃ yn:Nat,y=yn:=⟨y.toNat,by omega⟩;have hy:yn<xs.length:=by omega
   have ex:(xs.map V.int)[yn]? = some (.int (xs.getD ((yn:Int)).toNat 0)):=by
    rw [List.getElem?_map,List.getElem?_eq_getElem hy,Int.toNat_natCast,List.getD_eq_getElem?_getD,List.getElem?_eq_getElem hy];rfl
   exact ⟨_,rfl,_,rfl,l,_,(yn:Int),_,rfl,rfl,SqL.of (s12 _ _ hl),X2 ex,c _ _ _ (Same.refl _) (by rw [List.getElem?_map,ey];rfl) rfl⟩
 · rw [a2.ints] at e2;exact q _ D (s1.trans s2) e2
abbrev Zcm:Stmt:=top 60
theorem Zka:FnScope ["bees","cees","six"] ["bees","cees","six"] (Zc Zcm):=⟨rfl,rfl,rfl,by decide +kernel,rfl,by decide +kernel,by decide +kernel⟩
theorem Zj9 {f:Addr} {fd:FuncData} (F:Fun K "strained" "strained" Zcm f fd) (T:Bt mg) (C_dot:a31_ P w K mg base):FnOk P w K mg base CX0 2 f fd ["bees","cees","six"] Ze2:=by
 refine F.ok Zka (fun vs H Q E h=>by obtain ⟨a,b,c,bs,cs,six,rfl,_⟩:=h;rfl) fun cdv A outer s H vs Q E hr h=>?_;obtain ⟨a,b,c,bs,cs,six,rfl,ha,hb,hc,lb,lc,l6,bb,bc,b6,q⟩:=h;refine' ⟨_,?term,?read⟩
 case term=>refine' @Zi _ _ _ ?g1;case g1=>refine' @Zl _ _ _ _ ?g2;case g2=>refine' @Xl _ _ _ _ ?g3;case g3=>refine' @Za _ _ _ _ _ ?g4 ?g5 rfl;(case g4=>refine' @Zh _ _ _ _ _ _ _ _ _ _ _ C_dot hr (by decide) rfl ?g6 (by decide) (by rfl) (by rfl);case g6=>refine' @Za _ _ _ _ _ (pv 0) ?g7 rfl;case g7=>refine' @Za _ _ _ _ _ ?g8 Zb rfl;case g8=>refine' @Zb9 _ _ _ _ _ _ _ _ _ _ Zj3 (pv 2) Zeq (Zek Zf));case g5=>refine' @Za _ _ _ _ _ ?g9 ?ga rfl;(case g9=>refine' @Zh _ _ _ _ _ _ _ _ _ _ _ C_dot hr (by decide) rfl ?gb (by decide) (by rfl) (by rfl);case gb=>refine' @Za _ _ _ _ _ (pv 1) ?gc rfl;case gc=>refine' @Za _ _ _ _ _ ?gd Zb rfl;case gd=>refine' @Zb9 _ _ _ _ _ _ _ _ _ _ Zj3 (pv 2) (Zek Zf) Zeq);case ga=>refine' @Za _ _ _ _ _ ?ge Zb rfl;case ge=>refine' @Zh _ _ _ _ _ _ _ _ _ _ _ C_dot hr (by decide) rfl ?gf (by decide) (by rfl) (by rfl);case gf=>refine' @Za _ _ _ _ _ (Zm Zo5 (pv 1) (pv 0)) (Za (pv 2) Zb rfl) rfl
 refine ⟨_,rfl,_,rfl,_,rfl,c,_,rfl,SqL.of hc,fun p1 n1=>?_⟩
 have e1':cutV (six.map V.int) none (some 3)=(six.take 3).map V.int:=by
  have:=Zum (six.map V.int) 3 (by simp [l6])
  rw [show ((3:Nat):Int)=3 from rfl] at this;rw [this,List.map_take]
 have e2':cutV (six.map V.int) (some 3) none=(six.drop 3).map V.int:=by
  have:=Zs3 (six.map V.int) 3 (by simp [l6])
  rw [show ((3:Nat):Int)=3 from rfl] at this;rw [this,List.map_drop]
 rw [e1'];generalize gG:upd H p1 (.lst ((six.take 3).map V.int))=H1;obtain ⟨s1,f1⟩:=gen_upd gG n1;refine ⟨a,p1,bs,six.take 3,rfl,s1 _ _ ha,f1,by omega,bb,fun x hx=>b6 x (List.mem_of_mem_take hx),fun H2 s2=>?_⟩;have s02:=s1.trans s2;refine ⟨_,rfl,_,rfl,_,rfl,c,_,rfl,SqL.of (s02 _ _ hc),fun p3 n3=>?_⟩;rw [e2'];generalize gG:upd H2 p3 (.lst ((six.drop 3).map V.int))=H3;obtain ⟨s3,f3⟩:=gen_upd gG n3;have s03:=s02.trans s3;refine ⟨b,p3,cs,six.drop 3,rfl,s03 _ _ hb,f3,by omega,bc,fun x hx=>b6 x (List.mem_of_mem_drop hx),fun H4 s4=>?_⟩;have s04:=s03.trans s4;refine ⟨_,rfl,_,rfl,b,a,_,_,rfl,rfl,s04 _ _ hb,s04 _ _ ha,by simp [lb,lc];rw [sizeLine_eq];decide,fun p5 n5=>?_⟩;rw [← List.map_append];generalize gG:upd H4 p5 (.lst ((cs++bs).map V.int))=H5;obtain ⟨s5,f5⟩:=gen_upd gG n5;have s05:=s04.trans s5;refine ⟨_,rfl,p5,c,cs++bs,six,rfl,f5,s05 _ _ hc,by simp;omega,fun x hx=>(List.mem_append.mp hx).elim (bc x) (bb x),b6,fun H6 s6=>?_⟩;refine ⟨z3_,fun r nr=>?_⟩;exact q _ r (s05.trans (s6.trans (Same.new nr))) Zj
abbrev Zcl:Stmt:=top 61
theorem Zd9:FnScope ["stuff","three","l","m","e","f","g","both"] ["stuff","three"] (Zc Zcl):=⟨rfl,rfl,rfl,by decide +kernel,rfl,by decide +kernel,by decide +kernel⟩
theorem Zjg {f:Addr} {fd:FuncData} (F:Fun K "stressed" "stressed" Zcl f fd) (T:Bt mg):FnOk P w K mg base CX0 1 f fd ["stuff","three"] Zeh:=by
 refine F.ok Zd9 (fun vs H Q E h=>by obtain ⟨a,b,l,m,e,f',g,rfl,_⟩:=h;rfl) fun cdv A outer s H vs Q E hr h=>?_;obtain ⟨a,b,l,m,e,f',g,rfl,ha,hb,l9,m9,he,hf,hg,q⟩:=h;have nd:=Zd9.nd;refine' ⟨_,?term,?read⟩
 case term=>refine' @Zd _ _ _ _ _ ?g1 ?g2;(case g1=>refine' @Yt _ _ _ _ _ _ (pv 0) ?g3 (by rfl) (by rfl) (by rfl);case g3=>refine' @Zy _ _ _ _ _ (2) rfl ?g4 (by rfl) (by rfl);case g4=>refine' @Zg _ _ _ _ _ (Ze (i:=2) nd rfl (Or.inl rfl)) (Zg (Ze (i:=3) nd rfl (Or.inl rfl)) Zq) (by rfl));case g2=>refine' @Zd _ _ _ _ _ ?g5 ?g6;(case g5=>refine' @Yt _ _ _ _ _ _ (pv 1) ?g7 (by rfl) (by rfl) (by rfl);case g7=>refine' @Zhb _ _ _ _ _ (3) rfl ?g8 (by rfl) (by rfl);case g8=>refine' @Zg _ _ _ _ _ (Ze (i:=4) nd rfl (Or.inl rfl)) ?g9 (by rfl);case g9=>refine' @Zg _ _ _ _ _ (Ze (i:=5) nd rfl (Or.inl rfl)) (Zg (Ze (i:=6) nd rfl (Or.inl rfl)) Zq) (by rfl));case g6=>refine' @Zd _ _ _ _ _ ?ga ?gb;(case ga=>refine' @Zz _ _ (7) _ _ _ _ nd rfl (Or.inl rfl) ?gc (by rfl) (by first|exact Or.inl rfl|exact Or.inr rfl|assumption);case gc=>refine' @Zm _ _ _ _ _ _ _ _ Zs (pv 2) (Zm Yw (pv 4) (pv 5)));case gb=>refine' @Zi _ _ _ ?gd;case gd=>refine' @Zl _ _ _ _ ?ge;case ge=>refine' @Xl _ _ _ _ ?gf;case gf=>refine' @Za _ _ _ _ _ ?gg ?gh rfl;(case gg=>refine' @Zm _ _ _ _ _ _ _ _ Yw (pv 7) ?gi;case gi=>refine' @Zm _ _ _ _ _ _ _ _ Zs (Zm Zs Zf (pv 3)) (pv 4));case gh=>refine' @Za _ _ _ _ _ ?gj ?gk rfl;(case gj=>refine' @Zm _ _ _ _ _ _ _ _ Yw (pv 7) ?gl;case gl=>refine' @Zm _ _ _ _ _ _ _ _ Zs (Zm Zs Zf (pv 3)) (pv 5));case gk=>refine' @Za _ _ _ _ _ (Zm Zs (pv 3) (pv 6)) Zb rfl
 have bl:l.natAbs<2^5002:=Nat.lt_of_le_of_lt (show l.natAbs≤9 by omega) (by decide);have bm:m.natAbs<2^5002:=Nat.lt_of_le_of_lt (show m.natAbs≤9 by omega) (by decide);have bm2:(2*m).natAbs<2^5002:=Nat.lt_of_le_of_lt (show (2*m).natAbs≤18 by omega) (by decide);have b2:(2:Int).natAbs<2^5002:=by decide
 have bef:(e+f').natAbs<2^5002:=by
  have h1:=up 5001 he;have h2:2^5001+2^5001=2^5002:=by decide
  have h3:=up 5001 hf;omega
 refine ⟨_,rfl,a,_,rfl,SqT.of ha,rfl,_,_,rfl,_,_,rfl,rfl,?_⟩;refine ⟨_,rfl,b,_,rfl,SqL.of hb,rfl,_,_,rfl,_,_,rfl,_,_,rfl,rfl,?_⟩;refine ⟨_,rfl,_,rfl,_,rfl,_,_,rfl,rfl,_,_,rfl,rfl,Y2 bl bef,?_⟩;refine ⟨_,rfl,_,rfl,_,_,rfl,rfl,Y2 b2 bm,_,rfl,_,_,rfl,rfl,Y2 bm2 (up 5002 he),_,_,rfl,rfl,?_⟩;refine ⟨_,rfl,_,rfl,_,_,rfl,rfl,Y2 b2 bm,_,rfl,_,_,rfl,rfl,Y2 bm2 (up 5002 hf),_,_,rfl,rfl,?_⟩;refine ⟨_,rfl,_,rfl,_,_,rfl,rfl,Y2 bm (up 5002 hg),z3_,fun r nr=>?_⟩;exact q _ r (Same.new nr) Zj
abbrev Zcc:Stmt:=top 62
theorem Zht:FnScope ["bees","cees","three","p","q","r","along"] ["bees","cees","three"] (Zc Zcc):=⟨rfl,rfl,rfl,by decide +kernel,rfl,by decide +kernel,by decide +kernel⟩
theorem Zow {f:Addr} {fd:FuncData} (F:Fun K "pushed" "pushed" Zcc f fd) (T:Bt mg):FnOk P w K mg base CX0 1 f fd ["bees","cees","three"] Ziu:=by
 refine F.ok Zht (fun vs H Q E h=>by obtain ⟨a,b,c,bs,cs,th,rfl,_⟩:=h;rfl) fun cdv A outer s H vs Q E hr h=>?_;obtain ⟨a,b,c,bs,cs,th,rfl,ha,hb,hc,l3,lb,lc,bb,bc,b3,q⟩:=h;have nd:=Zht.nd;refine' ⟨_,?term,?read⟩
 case term=>refine' @Zd _ _ _ _ _ ?g1 ?g2;(case g1=>refine' @Yt _ _ _ _ _ _ (pv 2) ?g3 (by rfl) (by rfl) (by rfl);case g3=>refine' @Zhb _ _ _ _ _ (3) rfl ?g4 (by rfl) (by rfl);case g4=>refine' @Zg _ _ _ _ _ (Ze (i:=3) nd rfl (Or.inr rfl)) ?g5 (by rfl);case g5=>refine' @Zg _ _ _ _ _ (Ze (i:=4) nd rfl (Or.inr rfl)) (Zg (Ze (i:=5) nd rfl (Or.inr rfl)) Zq) (by rfl));case g2=>refine' @Zd _ _ _ _ _ ?g6 ?g7;(case g6=>refine' @Zdf _ _ _ _ _ _ _ _ _ _ (["bee","cee","p","r"]) ([none,none,some 3,some 5]) _ _ ((gTup K 2 (Yi (Z8 0) (Yi (Z8 1) gNil)))) _ _ _ rfl rfl (Ze (i:=6) nd rfl (Or.inl rfl)) (Z3 (XN:=[("bees" : Str),("cees" : Str),("three" : Str),("p" : Str),("q" : Str),("r" : Str),("along" : Str)]) (Scope.names (Zc Zcc)) rfl rfl rfl (fun _ h=>Zv h) (by decide +kernel) rfl) ?g8 (fun _ _ _ _=>(Zy (n:=2) rfl (Zg (Ze (i:=0) (show List.Nodup [("bee" : Str),("cee" : Str),("p" : Str),("r" : Str)] by decide) rfl (Or.inl rfl) (Or.inr rfl)) (Zg (Ze (i:=1) (show List.Nodup [("bee" : Str),("cee" : Str),("p" : Str),("r" : Str)] by decide) rfl (Or.inl rfl) (Or.inr rfl)) Zq)))) (fun _ _ _ _=>Zn) (fun _ _ _ _=>(Zm Yw (Zm Zs (pv 2) (pv 0)) (Zm Zs (pv 3) (pv 1)))) (by intro _ ;rfl);case g8=>refine' @Zb1 _ _ _ _ .l .l _ _ _ _ _ rfl T.b_zip ?g9 (by rfl) (by rfl);case g9=>refine' @Za _ _ _ _ _ (pv 0) (Za (pv 1) Zb rfl) rfl);case g7=>refine' @Zi _ _ _ ?ga;case ga=>refine' @Zl _ _ _ _ ?gb;case gb=>refine' @Zm _ _ _ _ _ _ _ _ Zo5 (pv 6) ?gc;case gc=>refine' @Yp _ _ _ _ _ _ _ (["bee","cee","r","q"]) ([none,none,some 5,some 4]) _ _ ((gTup K 2 (Yi (Z8 0) (Yi (Z8 1) gNil)))) _ _ rfl (Z3 (XN:=[("bees" : Str),("cees" : Str),("three" : Str),("p" : Str),("q" : Str),("r" : Str),("along" : Str)]) (Scope.names (Zc Zcc)) rfl rfl rfl (fun _ h=>Zv h) (by decide +kernel) rfl) ?gd (fun _ _ _ _=>(Zy (n:=2) rfl (Zg (Ze (i:=0) (show List.Nodup [("bee" : Str),("cee" : Str),("r" : Str),("q" : Str)] by decide) rfl (Or.inl rfl) (Or.inr rfl)) (Zg (Ze (i:=1) (show List.Nodup [("bee" : Str),("cee" : Str),("r" : Str),("q" : Str)] by decide) rfl (Or.inl rfl) (Or.inr rfl)) Zq)))) (fun _ _ _ _=>Zn) (fun _ _ _ _=>(Zm Yw (Zm Zs (pv 2) (pv 0)) (Zm Zs (pv 3) (pv 1)))) (by intro _ ;rfl);case gd=>refine' @Zb1 _ _ _ _ .l .l _ _ _ _ _ rfl T.b_zip ?ge (by rfl) (by rfl);case ge=>refine' @Za _ _ _ _ _ (pv 0) (Za (pv 1) Zb rfl) rfl
 match th,l3 with
 | [p,q',r],_ =>
   have bp:=b3 p (by simp);have bq:=b3 q' (by simp);have br:=b3 r (by simp);refine ⟨_,rfl,c,_,rfl,SqL.of hc,rfl,_,_,rfl,_,_,rfl,_,_,rfl,rfl,?_⟩;refine ⟨_,rfl,_,rfl,a,b,rfl,⟨_,SqL.of ha⟩,⟨_,SqL.of hb⟩,fun D nD=>?_⟩;refine lc_Z (k:=.l) (l:=.l) (vs:=bs.map V.int) (ws:=cs.map V.int) RI hRI (List.zipWith (fun b c=>p*b+r*c) bs cs) (by simp) (by simp;omega) nD ha hb (fun i v w H2 C hv hw s2 c'=>?_) (fun H2 us s2 e2 a2=>?_)
   · rw [List.getElem?_map] at hv hw;obtain ⟨x,ex,rfl⟩:=Option.map_eq_some_iff.mp hv;obtain ⟨y,ey,rfl⟩:=Option.map_eq_some_iff.mp hw;exact ⟨_,rfl,_,rfl,_,_,rfl,rfl,Y2 bp (bb x (List.mem_of_getElem? ex)),_,rfl,_,rfl,_,_,rfl,rfl,Y2 br (bc y (List.mem_of_getElem? ey)),_,_,rfl,rfl,c' _ _ _ (Same.refl _) (by rw [List.getElem?_zipWith,ex,ey]) rfl⟩
   · rw [a2.ints] at e2;refine ⟨_,rfl,_,rfl,_,rfl,a,b,rfl,⟨_,SqL.of (s2 _ _ ha)⟩,⟨_,SqL.of (s2 _ _ hb)⟩,fun E nE=>?_⟩;refine lc_Z (k:=.l) (l:=.l) (vs:=bs.map V.int) (ws:=cs.map V.int) RI hRI (List.zipWith (fun b c=>r*b+q'*c) bs cs) (by simp) (by simp;omega) nE (s2 _ _ ha) (s2 _ _ hb) (fun i v w H4 C hv hw s4 c'=>?_) (fun H4 us s4 e4 a4=>?_)
     · rw [List.getElem?_map] at hv hw;obtain ⟨x,ex,rfl⟩:=Option.map_eq_some_iff.mp hv;obtain ⟨y,ey,rfl⟩:=Option.map_eq_some_iff.mp hw;exact ⟨_,rfl,_,rfl,_,_,rfl,rfl,Y2 br (bb x (List.mem_of_getElem? ex)),_,rfl,_,rfl,_,_,rfl,rfl,Y2 bq (bc y (List.mem_of_getElem? ey)),_,_,rfl,rfl,c' _ _ _ (Same.refl _) (by rw [List.getElem?_zipWith,ex,ey]) rfl⟩
     · rw [a4.ints] at e4;refine ⟨D,E,_,_,rfl,rfl,s4 _ _ e2,e4,by simp [lb,lc];rw [sizeLine_eq];decide,fun R nR=>?_⟩;rw [← List.map_append];exact q _ R (s2.trans (s4.trans (Same.new nR))) Zj
abbrev Zby:Stmt:=top 63
theorem Zdc:FnScope ["plate","motions","number","double","bees","cees","tops","many"] ["plate","motions","number"] (Zc Zby):=⟨rfl,rfl,rfl,by decide +kernel,rfl,by decide +kernel,by decide +kernel⟩
theorem Zim {f:Addr} {fd:FuncData} (F:Fun K "strain_by" "strain_by" Zby f fd) (T:Bt mg) (C_at_piece:a32_ P w K mg base) (C_levelledL:a26_ P w K mg base) (C_slopes:a33_ P w K mg base) (C_strained:a34_ P w K mg base):FnOk P w K mg base CX0 5 f fd ["plate","motions","number"] Zex:=by
 refine F.ok Zdc (fun vs H Q E h=>by obtain ⟨v,w,P',n,ms,rfl,_⟩:=h;rfl) fun cdv A outer s H vs Q E hr h=>?_;obtain ⟨v,w,P',n,ms,rfl,hv,ok,h0,h1,hw,hm,hB,q⟩:=h;have nd:=Zdc.nd;refine' ⟨_,?term,?read⟩
 case term=>refine' @Zd _ _ _ _ _ ?g1 ?g2;(case g1=>refine' @Yt _ _ _ _ _ _ ?g3 ?g4 (by rfl) (by rfl) (by rfl);(case g3=>refine' @Zh _ _ _ _ _ _ _ _ _ _ _ C_slopes hr (by decide) rfl ?g5 (by decide) (by rfl) (by rfl);case g5=>refine' @Za _ _ _ _ _ (pv 0) (Za (pv 2) Zb rfl) rfl);case g4=>refine' @Zy _ _ _ _ _ (3) rfl ?g6 (by rfl) (by rfl);case g6=>refine' @Zg _ _ _ _ _ (Ze (i:=3) nd rfl (Or.inl rfl)) ?g7 (by rfl);case g7=>refine' @Zg _ _ _ _ _ (Ze (i:=4) nd rfl (Or.inl rfl)) (Zg (Ze (i:=5) nd rfl (Or.inl rfl)) Zq) (by rfl));case g2=>refine' @Zd _ _ _ _ _ ?g8 ?g9;(case g8=>refine' @Yt _ _ _ _ _ _ ?ga ?gb (by rfl) (by rfl) (by rfl);(case ga=>refine' @Zh _ _ _ _ _ _ _ _ _ _ _ C_levelledL hr (by decide) rfl ?gc (by decide) (by rfl) (by rfl);case gc=>refine' @Za _ _ _ _ _ ?gd Zb rfl;case gd=>refine' @Zh _ _ _ _ _ _ _ _ _ _ _ C_at_piece hr (by decide) rfl ?ge (by decide) (by rfl) (by rfl);case ge=>refine' @Za _ _ _ _ _ (pv 0) ?gf rfl;case gf=>refine' @Za _ _ _ _ _ (pv 2) (Za (pv 1) Zb rfl) rfl);case gb=>refine' @Zy _ _ _ _ _ (2) rfl ?gg (by rfl) (by rfl);case gg=>refine' @Zg _ _ _ _ _ (Ze (i:=6) nd rfl (Or.inl rfl)) (Zg (Ze (i:=7) nd rfl (Or.inl rfl)) Zq) (by rfl));case g9=>refine' @Zi _ _ _ ?gh;case gh=>refine' @Zl _ _ _ _ ?gi;case gi=>refine' @Z5 _ _ _ _ _ ?gj;case gj=>refine' @Za _ _ _ _ _ ?gk ?gl rfl;(case gk=>refine' @Zh _ _ _ _ _ _ _ _ _ _ _ C_strained hr (by decide) rfl ?gm (by decide) (by rfl) (by rfl);case gm=>refine' @Za _ _ _ _ _ (pv 4) ?gn rfl;case gn=>refine' @Za _ _ _ _ _ (pv 5) (Za (pv 6) Zb rfl) rfl);case gl=>refine' @Za _ _ _ _ _ (Zm Zs (pv 3) (pv 7)) Zb rfl
 have pk:=ok.pc _ (Z4 h0 h1);obtain ⟨c1,c2,c3⟩:=Zcs ok.nr pk.len pk.bd;have six6:=Znp (P:=P') (n:=n) (ms:=ms) pk.len;refine ⟨_,rfl,_,rfl,v,P',n,rfl,hv,ok,h0,h1,fun H1 r bl cl s1 hr1 hb1 hc1=>?_⟩;refine ⟨r,_,rfl,SqT.of hr1,rfl,_,_,rfl,_,_,rfl,_,_,rfl,rfl,?_⟩;refine ⟨_,rfl,_,rfl,_,rfl,v,w,P',n,ms,rfl,hv.tk s1.tk,ok,h0,h1,Zw s1.tk hw,hm,fun H2 r2 us s2 hr2 al2=>?_⟩;refine ⟨r2,us,_,140,rfl,hr2,Zol al2,Zoz fun q hq=>⟨(Zpq hB q hq).mono (by decide),(Zpq hB q hq).2⟩,by rw [List.length_map,six6];decide,by decide,by rw [List.length_map,six6];decide,fun H3 r3 t m s3 hr3 ht3 mp dv0 sz lcm=>?_⟩;rw [Zjw] at ht3;have dv:∀ q∈Yj P' n ms,(q.den:Int)∣m:=fun q hq=>dv0 _ (List.mem_map.mpr ⟨q,hq,rfl⟩);refine ⟨r3,_,rfl,SqT.of hr3,rfl,_,_,rfl,_,_,rfl,rfl,?_⟩;rw [List.length_map,six6] at sz;have s23:=s2.trans s3;have mz:m.natAbs<2^900:=up 900 sz;refine ⟨_,rfl,_,rfl,_,rfl,bl,cl,t,_,_,_,rfl,s23 _ _ hb1,s23 _ _ hc1,ht3,rfl,rfl,by simp [six6],fun x hx=>Nat.lt_of_le_of_lt (c1 x hx) (by decide),fun x hx=>Nat.lt_of_le_of_lt (c2 x hx) (by decide),fun x hx=>?_,fun H4 r4 s4 hr4=>?_⟩
 · obtain ⟨y,hy,rfl⟩:=List.mem_map.mp hx;exact up 5000 (Zre mz (Zpq hB y hy) (dv y hy))
 · refine ⟨_,rfl,_,rfl,_,_,rfl,rfl,Y2 (n:=900) (Nat.lt_of_le_of_lt c3 (by decide)) mz,z2_,fun r5 n5=>?_⟩;have s5:Same H4 (upd H4 r5 (.tup [.ref r4,.int (dOf P'.cs (pcOf P' n)*m)])):=Same.new n5;exact q _ r5 r4 m (s1.trans (s23.trans (s4.trans s5))) Zj (s5 _ _ hr4) mp dv mz
abbrev Zah:Stmt:=top 64
theorem Zdb:FnScope ["plate","motions","number","three","bottom"] ["plate","motions","number"] (Zc Zah):=⟨rfl,rfl,rfl,by decide +kernel,rfl,by decide +kernel,by decide +kernel⟩
theorem Zis {f:Addr} {fd:FuncData} (F:Fun K "stress_by" "stress_by" Zah f fd) (T:Bt mg) (C_reduced:a27_ P w K mg base) (C_strain_by:a35_ P w K mg base) (C_stressed:a36_ P w K mg base):FnOk P w K mg base CX0 6 f fd ["plate","motions","number"] Zhu:=by
 refine F.ok Zdb (fun vs H Q E h=>by obtain ⟨v,w,P',n,ms,rfl,_⟩:=h;rfl) fun cdv A outer s H vs Q E hr h=>?_;obtain ⟨v,w,P',n,ms,rfl,hv,ok,h0,h1,hw,hm,hB,q⟩:=h;have nd:=Zdb.nd;refine' ⟨_,?term,?read⟩
 case term=>refine' @Zd _ _ _ _ _ ?g1 ?g2;(case g1=>refine' @Yt _ _ _ _ _ _ ?g3 ?g4 (by rfl) (by rfl) (by rfl);(case g3=>refine' @Zh _ _ _ _ _ _ _ _ _ _ _ C_strain_by hr (by decide) rfl ?g5 (by decide) (by rfl) (by rfl);case g5=>refine' @Za _ _ _ _ _ (pv 0) ?g6 rfl;case g6=>refine' @Za _ _ _ _ _ (pv 1) (Za (pv 2) Zb rfl) rfl);case g4=>refine' @Zy _ _ _ _ _ (2) rfl ?g7 (by rfl) (by rfl);case g7=>refine' @Zg _ _ _ _ _ (Ze (i:=3) nd rfl (Or.inl rfl)) (Zg (Ze (i:=4) nd rfl (Or.inr rfl)) Zq) (by rfl));case g2=>refine' @Zi _ _ _ ?g8;case g8=>refine' @Zl _ _ _ _ ?g9;case g9=>refine' @Yd _ _ _ _ _ _ _ _ _ Z1 rfl T.b_tuple Yk ?ga (by decide) (by decide) (by rfl) (by rfl);case ga=>refine' @Za _ _ _ _ _ ?gb Zb rfl;case gb=>refine' @Yp _ _ _ _ _ _ _ (["part","bottom"]) ([none,some 4]) _ _ _ _ _ rfl (Z3 (XN:=[("plate" : Str),("motions" : Str),("number" : Str),("three" : Str),("bottom" : Str)]) (Scope.names (Zc Zah)) rfl rfl rfl (fun _ h=>Zv h) (by decide +kernel) rfl) ?gc (fun _ _ _ _=>(Ze (i:=0) (show List.Nodup [("part" : Str),("bottom" : Str)] by decide) rfl (Or.inl rfl) (Or.inr rfl))) (fun _ _ _ _=>Zn) (fun _ _ _ _=>(Zh C_reduced hr (by decide) rfl (Za (pv 0) (Za (pv 1) Zb rfl) rfl))) (by intro _ ;rfl);case gc=>refine' @Y8 _ _ _ _ ?gd;case gd=>refine' @Zh _ _ _ _ _ _ _ _ _ _ _ C_stressed hr (by decide) rfl ?ge (by decide) (by rfl) (by rfl);case ge=>refine' @Za _ _ _ _ _ ?gf (Za (pv 3) Zb rfl) rfl;case gf=>refine' @Zt _ _ _ _ _ _ _ Zu (pv 0) Zf (fun _ _=>rfl)
 have pk:=ok.pc _ (Z4 h0 h1);obtain ⟨c1,c2,c3⟩:=Zcs ok.nr pk.len pk.bd;refine ⟨_,rfl,_,rfl,_,rfl,v,w,P',n,ms,rfl,hv,ok,h0,h1,hw,hm,hB,fun H1 r t m s1 hr1 ht1 mp dv mz=>?_⟩;have lt:=Zu2 ok h0 h1 hB mz dv;refine ⟨r,_,rfl,SqT.of hr1,rfl,_,_,rfl,_,_,rfl,rfl,?_⟩;have hv1:=hv.tk s1.tk;obtain ⟨a,c,p,t',st,rfl,ha,hc,hp,ht,⟨sa,rfl,hsa⟩⟩:=hv1;refine ⟨_,rfl,a,_,3,_,rfl,rfl,SqT.of ha,rfl,_,rfl,sa,t,P'.l,P'.m,_,_,_,rfl,hsa,ht1,ok.l9,ok.m9,up 5000 (lt _ (by simp [strI])),up 5000 (lt _ (by simp [strI])),up 5000 (lt _ (by simp [strI])),fun H2 r2 s2 hr2=>?_⟩;refine ⟨r2,rfl,⟨_,SqL.of hr2⟩,fun D nD=>?_⟩;have bne:dOf P'.cs (pcOf P' n)*m≠0:=Int.mul_ne_zero pk.d (by omega);have bz:(dOf P'.cs (pcOf P' n)*m).natAbs<2^4000:=up 4000 (FM.natAbs_mul_lt (n:=20) (m:=900) (Nat.lt_of_le_of_lt c3 (by decide)) mz);generalize hE:dotI (Z9 P'.cs (pcOf P' n)) (((Yj P' n ms).map (lev m)).take 3)=E' at *;generalize hF:dotI (Yc P'.cs (pcOf P' n)) (((Yj P' n ms).map (lev m)).drop 3)=F' at *;generalize hG:dotI (Yc P'.cs (pcOf P' n)++Z9 P'.cs (pcOf P' n)) ((Yj P' n ms).map (lev m))=G' at *;refine lc_T (k:=.l) (vs:=[P'.l*(E'+F')+2*P'.m*E',P'.l*(E'+F')+2*P'.m*F',P'.m*G'].map V.int) IsQ hRQ ([P'.l*(E'+F')+2*P'.m*E',P'.l*(E'+F')+2*P'.m*F',P'.m*G'].map fun x=>Rat.divInt x (dOf P'.cs (pcOf P' n)*m)) (by simp) (by rw [List.length_map];exact Nat.le_trans (Nat.le_of_eq rfl:_≤3) (by decide)) nD hr2 (fun i x H5 C hx s5 c=>?_) (fun H5 us s5 e5 a5=>?_)
 · rw [List.getElem?_map] at hx;obtain ⟨y,ey,rfl⟩:=Option.map_eq_some_iff.mp hx;exact ⟨_,rfl,_,rfl,y,_,rfl,bne,bz,fun z H6 s6 hz=>c _ _ _ s6 (by rw [List.getElem?_map,ey];rfl) ⟨z,rfl,hz⟩⟩
 · refine ⟨D,us,rfl,.inl ⟨SqL.of e5,fun r5 n5=>?_⟩⟩;have s6:Same H5 (upd H5 r5 (.tup us)):=Same.new n5;refine q _ _ (s1.trans (s2.trans (s5.trans s6))) ⟨r5,us,rfl,Zj,?_⟩;rw [Zrn] at a5;have e:=Zlj (ms:=ms) pk.d (show m≠0 by omega) dv;unfold strI at e;rw [hE,hF,hG] at e;rw [e] at a5;exact a5.imp fun v x r=>r.tk s6.tk
abbrev Xo:Stmt:=top 65
theorem Zfa:FnScope ["plate","motions"] ["plate","motions"] (Zc Xo):=⟨rfl,rfl,rfl,by decide +kernel,rfl,by decide +kernel,by decide +kernel⟩
theorem Zfb {f:Addr} {fd:FuncData} (F:Fun K "stresses_by" "stresses_by" Xo f fd) (T:Bt mg) (C_stress_by:a37_ P w K mg base):FnOk P w K mg base CX0 7 f fd ["plate","motions"] Zaa:=by
 refine F.ok Zfa (fun vs H Q E h=>by obtain ⟨v,w,P',ms,rfl,_⟩:=h;rfl) fun cdv A outer s H vs Q E hr h=>?_;obtain ⟨v,w,P',ms,rfl,hv,ok,hw,hm,hB,q⟩:=h;refine' ⟨_,?term,?read⟩
 case term=>refine' @Zi _ _ _ ?g1;case g1=>refine' @Zl _ _ _ _ ?g2;case g2=>refine' @Yd _ _ _ _ _ _ _ _ _ Z1 rfl T.b_tuple Yk ?g3 (by decide) (by decide) (by rfl) (by rfl);case g3=>refine' @Za _ _ _ _ _ ?g4 Zb rfl;case g4=>refine' @Yp _ _ _ _ _ _ _ (["number","plate","motions"]) ([none,some 0,some 1]) _ _ _ _ _ rfl (Z3 (XN:=[("plate" : Str),("motions" : Str)]) (Scope.names (Zc Xo)) rfl rfl rfl (fun _ h=>Zv h) (by decide +kernel) rfl) ?g5 (fun _ _ _ _=>(Ze (i:=0) (show List.Nodup [("number" : Str),("plate" : Str),("motions" : Str)] by decide) rfl (Or.inl rfl) (Or.inr rfl))) (fun _ _ _ _=>Zn) (fun _ _ _ _=>(Zh C_stress_by hr (by decide) rfl (Za (pv 1) (Za (pv 2) (Za (pv 0) Zb rfl) rfl) rfl))) (by intro _ ;rfl);case g5=>refine' @Zch _ _ _ _ _ _ rfl T.b_range ?g6 (by rfl);case g6=>refine' @Za _ _ _ _ _ ?g7 Zb rfl;case g7=>refine' @Zk _ _ _ _ _ _ _ _ _ Zp rfl T.b_len Yv ?g8 (by decide) (by decide) (by rfl) (by rfl);case g8=>refine' @Za _ _ _ _ _ ?g9 Zb rfl;case g9=>refine' @Zt _ _ _ _ _ _ _ Zu (pv 0) Zf (fun _ _=>rfl)
 have hv0:=hv;obtain ⟨a,c,p,t,st,rfl,ha,hc,⟨b',ws,rfl,hb',bl⟩,ht,hs⟩:=hv0;have hl:=bl.1;have p40:=ok.p40;refine ⟨_,rfl,a,_,1,_,rfl,rfl,SqT.of ha,rfl,b',ws,rfl,.inr (SqT.of hb'),ws.length,rfl,by omega,by omega,fun D nD=>?_⟩;refine lc_R (n:=ws.length) IsQs hRQs (Ym P' ms) (by unfold Ym;simp [hl]) (by omega) nD (fun i H2 C hi s2 c=>?_) (fun H2 us s2 e2 a2=>?_)
 · refine ⟨_,rfl,_,rfl,_,rfl,.ref a,w,P',0+i,ms,rfl,hv.tk s2.tk,ok,by omega,by omega,Zw s2.tk hw,hm,hB,fun H3 r s3 hr=>c _ _ _ s3 ?_ hr⟩;unfold Ym;rw [List.getElem?_map,List.getElem?_range (by omega),Int.zero_add];rfl
 · refine ⟨D,us,rfl,.inl ⟨SqL.of e2,fun r nr=>?_⟩⟩;have s3:Same H2 (upd H2 r (.tup us)):=Same.new nr;exact q _ _ (s2.trans s3) ⟨r,us,rfl,Zj,a2.imp fun v x r=>Zw s3.tk r⟩
abbrev Zcj:Stmt:=top 67
theorem Zez:FnScope ["plate","motions","tops","many","terms","number","thick","double","bees","cees","three"] ["plate","motions"] (Zc Zcj):=⟨rfl,rfl,rfl,by decide +kernel,rfl,by decide +kernel,by decide +kernel⟩
theorem Zi3 {f:Addr} {fd:FuncData} (F:Fun K "worth_by" "worth_by" Zcj f fd) (T:Bt mg) (C_at_pieceL:a38_ P w K mg base) (C_dot:a31_ P w K mg base) (C_levelledT:a39_ P w K mg base) (C_mixed:a40_ P w K mg base) (C_slopes:a33_ P w K mg base) (C_strained:a34_ P w K mg base) (C_stressed:a36_ P w K mg base):FnOk P w K mg base CX0 7 f fd ["plate","motions"] Za6:=by
 refine F.ok Zez (fun vs H Q E h=>by obtain ⟨v,w,P',ms,rfl,_⟩:=h;rfl) fun cdv A outer s H vs Q E hr h=>?_;obtain ⟨v,w,P',ms,rfl,hv,ok,c6,hw,hm,hB,q⟩:=h;have nd:=Zez.nd;refine' ⟨_,?term,?read⟩
 case term=>refine' @Zd _ _ _ _ _ ?g1 ?g2;(case g1=>refine' @Yt _ _ _ _ _ _ (Zh C_levelledT hr (by decide) rfl (Za (pv 1) Zb rfl)) ?g3 (by rfl) (by rfl) (by rfl);case g3=>refine' @Zy _ _ _ _ _ (2) rfl ?g4 (by rfl) (by rfl);case g4=>refine' @Zg _ _ _ _ _ (Ze (i:=2) nd rfl (Or.inl rfl)) (Zg (Ze (i:=3) nd rfl (Or.inl rfl)) Zq) (by rfl));case g2=>refine' @Zd _ _ _ _ _ ?g5 ?g6;(case g5=>refine' @Zz _ _ (4) _ _ _ _ nd rfl (Or.inl rfl) ?g7 (by rfl) (by first|exact Or.inl rfl|exact Or.inr rfl|assumption);case g7=>refine' @Xl _ _ _ _ Zb);case g6=>refine' @Zd _ _ _ _ _ ?g8 ?g9;(case g8=>refine' @Zbf _ _ _ _ _ _ _ _ PassesOwn.never rfl ?ga ?gb ?gc (by intro _ ;rfl);(case ga=>refine' @Zer _ _ _ _ .t _ _ _ _ rfl T.b_enumerate ?gd (by rfl);case gd=>refine' @Za _ _ _ _ _ ?ge Zb rfl;case ge=>refine' @Zt _ _ _ _ _ _ _ Zu (pv 0) Zf (fun _ _=>rfl));(case gb=>refine' @Zy _ _ _ _ _ (2) rfl ?gf (by rfl) (by rfl);case gf=>refine' @Zg _ _ _ _ _ (Ze (i:=5) nd rfl (Or.inl rfl)) (Zg (Ze (i:=6) nd rfl (Or.inl rfl)) Zq) (by rfl));case gc=>refine' @Zd _ _ _ _ _ ?gg ?gh;(case gg=>refine' @Yt _ _ _ _ _ _ ?gi ?gj (by rfl) (by rfl) (by rfl);(case gi=>refine' @Zh _ _ _ _ _ _ _ _ _ _ _ C_slopes hr (by decide) rfl ?gk (by decide) (by rfl) (by rfl);case gk=>refine' @Za _ _ _ _ _ (pv 0) (Za (pv 5) Zb rfl) rfl);case gj=>refine' @Zy _ _ _ _ _ (3) rfl ?gl (by rfl) (by rfl);case gl=>refine' @Zg _ _ _ _ _ (Ze (i:=7) nd rfl (Or.inl rfl)) ?gm (by rfl);case gm=>refine' @Zg _ _ _ _ _ (Ze (i:=8) nd rfl (Or.inl rfl)) (Zg (Ze (i:=9) nd rfl (Or.inl rfl)) Zq) (by rfl));case gh=>refine' @Zd _ _ _ _ _ ?gn ?go;(case gn=>refine' @Zz _ _ (10) _ _ _ _ nd rfl (Or.inl rfl) ?gp (by rfl) (by first|exact Or.inl rfl|exact Or.inr rfl|assumption);case gp=>refine' @Zh _ _ _ _ _ _ _ _ _ _ _ C_strained hr (by decide) rfl ?gq (by decide) (by rfl) (by rfl);case gq=>refine' @Za _ _ _ _ _ (pv 8) ?gr rfl;case gr=>refine' @Za _ _ _ _ _ (pv 9) ?gs rfl;case gs=>refine' @Za _ _ _ _ _ ?gt Zb rfl;case gt=>refine' @Zh _ _ _ _ _ _ _ _ _ _ _ C_at_pieceL hr (by decide) rfl ?gu (by decide) (by rfl) (by rfl);case gu=>refine' @Za _ _ _ _ _ (pv 0) ?gv rfl;case gv=>refine' @Za _ _ _ _ _ (pv 5) (Za (pv 2) Zb rfl) rfl);case go=>refine' @Zi _ _ _ ?gw;case gw=>refine' @Xe _ _ _ _ ?gx (by rfl);case gx=>refine' @Znc _ _ _ _ _ _ _ _ _ _ _ _ PySem.F.plainAttrs_list PySem.F.slot_list_append PySem.F.type_list_append X4 (pv 4) ?gy (by rfl) (by rfl) (by rfl) (by rfl) (by rfl);case gy=>refine' @Za _ _ _ _ _ ?gz Zb rfl;case gz=>refine' @Z5 _ _ _ _ _ ?g10;case g10=>refine' @Za _ _ _ _ _ ?g11 ?g12 rfl;(case g11=>refine' @Zm _ _ _ _ _ _ _ _ Zs (pv 6) ?g13;case g13=>refine' @Zh _ _ _ _ _ _ _ _ _ _ _ C_dot hr (by decide) rfl ?g14 (by decide) (by rfl) (by rfl);case g14=>refine' @Za _ _ _ _ _ (pv 10) ?g15 rfl;case g15=>refine' @Za _ _ _ _ _ ?g16 Zb rfl;case g16=>refine' @Zh _ _ _ _ _ _ _ _ _ _ _ C_stressed hr (by decide) rfl ?g17 (by decide) (by rfl) (by rfl);case g17=>refine' @Za _ _ _ _ _ ?g18 (Za (pv 10) Zb rfl) rfl;case g18=>refine' @Zt _ _ _ _ _ _ _ Zu (pv 0) Zf (fun _ _=>rfl));case g12=>refine' @Za _ _ _ _ _ ?g19 Zb rfl;case g19=>refine' @Zm _ _ _ _ _ _ _ _ Zs Zf (Zk Zbb rfl T.b_abs Zfx (Za (pv 7) Zb rfl)));case g9=>refine' @Zi _ _ _ ?g1a;case g1a=>refine' @Zl _ _ _ _ ?g1b;case g1b=>refine' @Zh _ _ _ _ _ _ _ _ _ _ _ C_mixed hr (by decide) rfl ?g1c (by decide) (by rfl) (by rfl);case g1c=>refine' @Za _ _ _ _ _ ?g1d ?g1e rfl;(case g1d=>refine' @Zm _ _ _ _ _ _ _ _ Zna ?g1f (Zk Zp rfl T.b_len Yv (Za (pv 4) Zb rfl));case g1f=>refine' @Xl _ _ _ _ (Za Zf Zb rfl));case g1e=>refine' @Za _ _ _ _ _ (pv 4) ?g1g rfl;case g1g=>refine' @Za _ _ _ _ _ (Zm Zoy (pv 3) Zf) Zb rfl
 have hv0:=hv;obtain ⟨pa,pc,pp',ptk,pst,rfl,hpa,hpc,hpp,⟨ta,rfl,hta⟩,⟨sa,rfl,hsa⟩⟩:=hv0;obtain ⟨wa,us,rfl,hwa,alw⟩:=hw;have hd:∀ n:Nat,n<P'.ps.length→dOf P'.cs (pcOf P' n)≠0:=fun n hn=>(ok.pc _ (Z4 (by omega) (by omega))).d
 have dlt:∀ q∈ms,q.den<2^12:=fun q hq=>by
  have:=Int.le_of_dvd (by decide) (hB q hq).2
  omega
 refine ⟨_,rfl,wa,us,ms.map prQ,12,rfl,hwa,Zol alw,Zoz fun q hq=>⟨(hB q hq).1.mono (by decide),dlt q hq⟩,by rw [List.length_map];omega,by decide,by rw [List.length_map];omega,fun H1 r1 tl m s1 hr1 ht1 mp dv0 sz lcm=>?_⟩;rw [Zjw] at ht1;have dv:∀ q∈ms,(q.den:Int)∣m:=fun q hq=>dv0 _ (List.mem_map.mpr ⟨q,hq,rfl⟩);have m36:m≤3600:=Int.le_of_dvd (by decide) (lcm 3600 fun p hp=>by obtain ⟨q,hq,rfl⟩:=List.mem_map.mp hp;exact (hB q hq).2);have m12:m.natAbs<2^12:=by omega
 refine ⟨r1,_,rfl,SqT.of hr1,rfl,_,_,rfl,_,_,rfl,rfl,?_⟩;refine ⟨z0_,fun T nT=>?_⟩;generalize gG:upd H1 T (.lst [])=H2;obtain ⟨s2,e2⟩:=gen_upd gG nT;have s02:=s1.trans s2;have ht2:=s2 _ _ ht1;have nTl:tl≠T:=Zo ht1 nT;refine ⟨_,rfl,pa,_,2,_,rfl,rfl,SqT.of (s02 _ _ hpa),rfl,ta,rfl,⟨_,SqT.of (s02 _ _ hta)⟩,?_⟩;have tl1:=ok.t1;refine Zab (n:=P'.ts.length) (fun i σ H3=>Keep T H2 H3∧(∃ y1 y2 y3 y4 y5 y6,σ=[some (.ref pa),some (.ref wa),some (.ref tl),some (.int m),some (.ref T),y1,y2,y3,y4,y5,y6])∧∃ fs,H3 T=some (.lst fs)∧Al (IsP H3) fs ((List.range i).map (wTm P' ms m))) ⟨Keep.refl _ _,⟨_,_,_,_,_,_,rfl⟩,[],e2,.nil⟩ (fun i σ H3 hi p=>⟨P'.ts.map V.int,(P'.ts.map V.int)[i]'(by simpa using hi),SqT.of (Tk.of_keep p.1 e2 _ _ (s02 _ _ hta)),List.getElem?_eq_getElem _⟩) (fun σ H3 p=>⟨P'.ts.map V.int,SqT.of (Tk.of_keep p.1 e2 _ _ (s02 _ _ hta)),by simp⟩) (fun i x σ H3 H4 hi y p=>?_) (fun σ H3 p=>?_)
 · obtain ⟨k3,⟨y1,y2,y3,y4,y5,y6,rfl⟩,fs,eT,alT⟩:=p;obtain ⟨g,x,rfl,ng,rfl,yx⟩:=y;have t3:Tk H2 H3:=Tk.of_keep k3 e2;have ex:=yx _ (SqT.of (t3 _ _ (s02 _ _ hta)));have hi':i<P'.ps.length:=by omega
   obtain ⟨tti,t1,t9⟩:=Zl4 ok hi';rw [List.getElem?_map,tti] at ex;cases ex
   generalize htt:P'.ts.getD i 0=tt at *;generalize gG:upd H3 g (.tup [.int i,.int tt])=H4;obtain ⟨s4,e4⟩:=gen_upd gG ng;have t04:Tk H H4:=s02.tk.trans (t3.trans s4.tk);have n0:(0:Int)≤(i:Int):=by omega
   have n1:(i:Int)<P'.ps.length:=by omega
   have pk:=ok.pc _ (Z4 n0 n1);obtain ⟨c1,c2,c3⟩:=Zcs ok.nr pk.len pk.bd;refine ⟨g,_,rfl,SqT.of e4,rfl,_,_,rfl,_,_,rfl,rfl,?_⟩;refine ⟨_,rfl,_,rfl,.ref pa,P',(i:Int),rfl,hv.tk t04,ok,n0,n1,fun H5 r bl cl s5 hr5 hb5 hc5=>?_⟩;refine ⟨r,_,rfl,SqT.of hr5,rfl,_,_,rfl,_,_,rfl,_,_,rfl,rfl,?_⟩;have t05:=t04.trans s5.tk;have hl5:=s5 _ _ (s4 _ _ (k3 _ _ nTl ht2));refine ⟨_,rfl,_,rfl,_,rfl,_,rfl,_,rfl,.ref pa,P',(i:Int),tl,_,rfl,hv.tk t05,ok,n0,n1,hl5,by rw [List.length_map];exact hm,fun H6 r6 s6 hr6=>?_⟩;rw [Zr3] at hr6;have six6:((Yj P' i ms).map (lev m)).length=6:=by rw [List.length_map];exact Znp pk.len
   have z6:∀ x∈(Yj P' i ms).map (lev m),x.natAbs<2^(140+12):=Zom m12 mp fun q hq=>⟨(hB q hq).1,dv q hq⟩;refine ⟨bl,cl,r6,_,_,_,rfl,s6 _ _ hb5,s6 _ _ hc5,hr6,rfl,rfl,six6,fun x hx=>Nat.lt_of_le_of_lt (c1 x hx) (by decide),fun x hx=>Nat.lt_of_le_of_lt (c2 x hx) (by decide),fun x hx=>up 5000 (z6 x hx),fun H7 r7 s7 hr7=>?_⟩;have zt:∀ x∈thI P' i ms m,x.natAbs<2^163:=Zj2 rfl rfl c1 c2 z6;change H7 r7=some (.lst ((thI P' i ms m).map V.int)) at hr7;have th3:(thI P' i ms m).length=3:=rfl;have zs:=Zlq ok.l9 ok.m9 (Zgd zt);have zd:=Zbi _ _ zt zs;rw [th3] at zd;have hwT:wTm P' ms m i=(tt*dotI (thI P' i ms m) (stI P'.l P'.m (thI P' i ms m)),4*abI (dOf P'.cs (pcOf P' i))):=by unfold wTm;rw [htt]
   have hth:∃ E F G,thI P' i ms m=[E,F,G]:=⟨_,_,_,rfl⟩;obtain ⟨E,F,G,hth⟩:=hth;rw [hth] at hr7 zt zs zd hwT;clear hth th3;have s57:=s6.trans s7;have t07:=t05.trans s57.tk;have s37:=s4.trans (s5.trans s57);refine ⟨_,rfl,.inl ⟨rfl,_,SqL.of (s37 _ _ eT)⟩,_,rfl,_,rfl,_,rfl,pa,_,3,_,rfl,rfl,SqT.of (t07 _ _ hpa),rfl,_,rfl,sa,r7,P'.l,P'.m,E,F,G,rfl,t07 _ _ hsa,hr7,ok.l9,ok.m9,up 5000 (zt E (by simp)),up 5000 (zt F (by simp)),up 5000 (zt G (by simp)),fun H8 r8 s8 hr8=>?_⟩;refine ⟨r7,r8,[E,F,G],stI P'.l P'.m [E,F,G],rfl,s8 _ _ hr7,hr8,by simp,fun x hx=>up 5000 (zt x hx),fun x hx=>up 5000 (zs x hx),fun H9 s9=>?_⟩;have dz:(dotI [E,F,G] (stI P'.l P'.m [E,F,G])).natAbs<2^340:=Nat.lt_of_le_of_lt zd (by decide);generalize dotI [E,F,G] (stI P'.l P'.m [E,F,G])=dd at *;have tz:tt.natAbs<2^4:=by omega
   have az:(4*abI (dOf P'.cs (pcOf P' i))).natAbs<2^20:=by
    have:=Zeg (dOf P'.cs (pcOf P' i));omega
   refine ⟨_,_,rfl,rfl,Y2 (n:=340) (up 340 tz) dz,_,rfl,_,rfl,_,_,rfl,rfl,Y2 (n:=20) (by decide) (Nat.lt_of_le_of_lt (Nat.le_trans (Nat.le_of_eq (Zeg _)) c3) (by decide)),z2_,fun Z nZ=>?_⟩;generalize hHz:upd H9 Z _=H10;have s10:Same H9 H10:=by (rw [← hHz];exact Same.new nZ)
   have e10':=(congrFun hHz Z).symm;rw [Zj] at e10';have e10:H10 Z=some (.tup [.int (wTm P' ms m i).1,.int (wTm P' ms m i).2]):=by rw [hwT];exact e10'
   clear e10' hHz;have s310:=s37.trans (s8.trans (s9.trans s10));refine ⟨T,fs,_,rfl,rfl,s310 _ _ eT,by rw [alT.1,sizeLine_eq,List.length_map,List.length_range];have:=ok.p40;omega,?_⟩;have tA:Tk H10 (upd H10 T (.lst (fs++[.ref Z]))):=Tk.upd_lst (s310 _ _ eT);refine ⟨fun b o nb e=>by rw [Zr nb];exact s310 _ _ (k3 _ _ nb e),⟨_,_,_,_,_,_,rfl⟩,_,Zj,?_⟩;rw [List.range_succ,List.map_append];exact (alT.imp fun v x r=>r.tk (s310.tk.trans tA)).snoc ⟨Z,rfl,tA _ _ e10⟩
 · obtain ⟨k3,⟨y1,y2,y3,y4,y5,y6,rfl⟩,fs,eT,alT⟩:=p;have s03:Same H H3:=fun b o e=>k3 _ _ (Zo (s1 _ _ e) nT) (s02 _ _ e);rw [tl1] at alT;have lf:fs.length=P'.ps.length:=by rw [alT.1];simp
   have p40:=ok.p40;refine ⟨z1_,fun y ny=>?_⟩;generalize gG:upd H3 y (.lst [.int 1])=H4;obtain ⟨s4,e4⟩:=gen_upd gG ny;refine ⟨_,rfl,T,fs,rfl,.inl (SqL.of (s4 _ _ eT)),y,fs.length,_,rfl,rfl,e4,by omega,by omega,by simp;rw [sizeLine_eq];omega,fun C nC=>?_⟩;rw [Int.toNat_natCast,Zdw,lf];generalize gG:upd H4 C (.lst (List.replicate P'.ps.length (.int 1)))=H5;obtain ⟨s5,e5⟩:=gen_upd gG nC;have s35:=s4.trans s5;have m2:m^Int.toNat 2=m*m:=by show m^2=_;rw [Int.pow_succ,Int.pow_succ,Int.pow_zero,Int.one_mul]
   refine ⟨_,rfl,_,rfl,_,_,rfl,rfl,⟨by decide,by decide,by omega⟩,C,T,fs,_,_,20,rfl,by rw [List.length_map,List.length_range];exact e5,s35 _ _ eT,alT.imp fun v x r=>r.tk s35.tk,?_,⟨by simp;omega,by simp;omega,by decide⟩,by rw [m2];exact Int.mul_ne_zero (by omega) (by omega),by rw [m2];exact up 1000 (FM.natAbs_mul_lt m12 m12),fun H6 r s6 hr=>?_⟩
   · intro p hp;obtain ⟨n,hn,rfl⟩:=List.mem_map.mp hp;have hn':=List.mem_range.mp hn;have pk:=ok.pc _ (Z4 (P:=P') (n:=n) (by omega) (by omega));obtain ⟨c1,c2,c3⟩:=Zcs ok.nr pk.len pk.bd;obtain ⟨tti,t1,t9⟩:=Zl4 ok hn';have z6:∀ x∈(Yj P' n ms).map (lev m),x.natAbs<2^(140+12):=Zom m12 mp fun q hq=>⟨(hB q hq).1,dv q hq⟩;have zt:∀ x∈thI P' n ms m,x.natAbs<2^163:=Zj2 rfl rfl c1 c2 z6;have zs:=Zlq ok.l9 ok.m9 (Zgd zt);have zd:=Zbi _ _ zt zs;have hp:=Zj8 pk.d;have hq:=Zeg (dOf P'.cs (pcOf P' n));rw [show (thI P' n ms m).length=3 from rfl] at zd;refine ⟨⟨?_,?_⟩,?_⟩
     · show 0<4*_;omega
     · show (4*_:Int).natAbs<_;omega
     · exact up 1000 (FM.natAbs_mul_lt (n:=4) (m:=340) (by omega) (Nat.lt_of_le_of_lt zd (by decide)))
   · refine q _ _ (s03.trans (s35.trans s6)) ?_;have e:=Zon hd (show m≠0 by omega) dv P'.ps.length (Nat.le_refl _);rw [e,m2,Rat.intCast_mul] at hr;have hM:=Xb (show m≠0 by omega)
     have:((List.range P'.ps.length).map (wrN P' ms)).sum*((m:Rat)*m)/((m:Rat)*m)=wrQ P' ms:=by
      unfold wrQ;generalize ((List.range P'.ps.length).map (wrN P' ms)).sum=S
      grind
     rw [this] at hr;exact hr
abbrev Xh:Stmt:=top 68
theorem Zci:FnScope ["plate","thing"] ["plate","thing"] (Zc Xh):=⟨rfl,rfl,rfl,by decide +kernel,rfl,by decide +kernel,by decide +kernel⟩
theorem Zcb {f:Addr} {fd:FuncData} (F:Fun K "are_stresses_of" "are_stresses_of" Xh f fd) (T:Bt mg) (C_are_fractions:a28_ P w K mg base):FnOk P w K mg base CX0 5 f fd ["plate","thing"] Zh2:=by
 refine F.ok Zci (fun vs H Q E h=>by obtain ⟨v,w,P',ss,rfl,_⟩:=h;rfl) fun cdv A outer s H vs Q E hr h=>?_;obtain ⟨v,w,P',ss,rfl,⟨a,c,p,t,st,rfl,ha,hc,⟨b',ws,rfl,hb',bl⟩,ht,hs⟩,ok,⟨e,us,rfl,he,al⟩,sok,q⟩:=h;refine' ⟨_,?term,?read⟩
 case term=>refine' @Zd _ _ _ _ _ ?g1 ?g2;(case g1=>refine' @Xc _ _ _ _ _ _ _ _ ?g3 (Zi (Zl Xw)) Z2;case g3=>refine' @PW.pt _ _ _ ?g4;case g4=>refine' @Zei _ _ _ _ _ _ _ ?g5 ?g6;(case g5=>refine' @Ys _ _ _ _ ?g7;case g7=>refine' @Zx _ _ _ ?g8 (fun _=>rfl);case g8=>refine' @Zk _ _ _ _ _ _ _ _ _ Za9 rfl T.b_isinstance Yz ?g9 (by decide) (by decide) (by rfl) (by rfl);case g9=>refine' @Za _ _ _ _ _ (pv 1) (Za (Zc0 (v:=.ty "tuple") rfl T.b_tuple Yk rfl) Zb rfl) rfl);case g6=>refine' @Zbg _ _ _ _ ?ga;case ga=>refine' @Ye _ _ _ _ _ _ _ _ Zqc (Zk Zp rfl T.b_len Yv (Za (pv 1) Zb rfl)) ?gb (Yb _);case gb=>refine' @Zk _ _ _ _ _ _ _ _ _ Zp rfl T.b_len Yv ?gc (by decide) (by decide) (by rfl) (by rfl);case gc=>refine' @Za _ _ _ _ _ ?gd Zb rfl;case gd=>refine' @Zt _ _ _ _ _ _ _ Zu (pv 0) Zf (fun _ _=>rfl));case g2=>refine' @Zi _ _ _ ?ge;case ge=>refine' @Zl _ _ _ _ ?gf;case gf=>refine' @Zk _ _ _ _ _ _ _ _ _ (Yo rfl) rfl T.b_all Zas ?gg (by decide) (by decide) (by rfl) (by rfl);case gg=>refine' @Za _ _ _ _ _ ?gh Zb rfl;case gh=>refine' @Yp _ _ _ _ _ _ _ (["part"]) ([none]) _ _ _ _ _ rfl (Z0 (by decide) rfl (by decide) rfl rfl) (Yu (pv 1)) (fun _ _ _ _=>(Ze (i:=0) (show List.Nodup [("part" : Str)] by decide) rfl (Or.inl rfl) (Or.inr rfl))) (fun _ _ _ _=>Zn) (fun _ _ _ _=>(Zh C_are_fractions hr (by decide) rfl (Za (pv 0) (Za Zf Zb rfl) rfl))) (by intro _ ;rfl)
 have hl:=bl.1;have hl2:=al.1;have p40:=ok.p40;have sl:=sok.len;refine ⟨_,rfl,_,_,_,_,rfl,TyOf.tup he,rfl,true,rfl,iteF ?_⟩;refine ⟨_,rfl,e,us,rfl,.inr (SqT.of he),_,rfl,a,_,1,_,rfl,rfl,SqT.of ha,rfl,b',ws,rfl,.inr (SqT.of hb'),rfl,_,rfl,?_⟩;rw [decide_eq_true (show V.int us.length=V.int ws.length by rw [hl,hl2,sl])];refine iteF ?_;refine ⟨_,rfl,e,rfl,⟨_,SqT.of he⟩,fun D nD=>?_⟩;refine lc_T (k:=.t) (vs:=us) RB hRB (List.replicate us.length true) (by simp) (by omega) nD he (fun i x H2 C hx s2 c=>?_) (fun H2 us' s2 e2 a2=>?_)
 · obtain ⟨s,es,rs⟩:=al.get hx;have hs3:=sok.three s (List.mem_of_getElem? es);obtain ⟨D',_,hD⟩:=sok.bd s (List.mem_of_getElem? es);exact ⟨_,rfl,x,s,by rw [hs3];rfl,Zw s2.tk rs,fun y hy=>(hD y hy).1.mono (by decide),by omega,fun H5 s5=>c _ _ true s5 (repT (Yn hx)) rfl⟩
 · rw [a2.bls] at e2;refine ⟨D,List.replicate us.length true,rfl,SqL.of e2,?_⟩;rw [allT];exact q _ s2
abbrev Xp:Stmt:=top 69
theorem Zdq:FnScope ["plate","motions"] ["plate","motions"] (Zc Xp):=⟨rfl,rfl,rfl,by decide +kernel,rfl,by decide +kernel,by decide +kernel⟩
theorem Zdk {f:Addr} {fd:FuncData} (F:Fun K "look_at_moved" "look_at_moved" Xp f fd) (T:Bt mg) (C_look_at_motions:a41_ P w K mg base) (C_look_at_plate:a42_ P w K mg base):FnOk P w K mg base CX0 7 f fd ["plate","motions"] Zlh:=by
 refine F.ok Zdq (fun vs H Q E h=>by obtain ⟨v,w,P',ms,rfl,_⟩:=h;rfl) fun cdv A outer s H vs Q E hr h=>?_;obtain ⟨v,w,P',ms,rfl,hv,ok,hw,hl,hB,q⟩:=h;refine' ⟨_,?term,?read⟩
 case term=>refine' @Zd _ _ _ _ _ ?g1 ?g2;(case g1=>refine' @Xe _ _ _ _ (Zh C_look_at_plate hr (by decide) rfl (Za (pv 0) Zb rfl)) (by rfl));case g2=>refine' @Zi _ _ _ ?g3;case g3=>refine' @Xe _ _ _ _ ?g4 (by rfl);case g4=>refine' @Zh _ _ _ _ _ _ _ _ _ _ _ C_look_at_motions hr (by decide) rfl ?g5 (by decide) (by rfl) (by rfl);case g5=>refine' @Za _ _ _ _ _ (pv 0) (Za (pv 1) Zb rfl) rfl
 refine ⟨_,rfl,v,P',rfl,hv,ok,fun H1 s1=>?_⟩;exact ⟨_,rfl,_,rfl,v,w,P',ms,rfl,hv.tk s1.tk,ok,Zw s1.tk hw,hl,hB,fun H2 s2=>q _ (s1.trans s2)⟩
abbrev Y9:Stmt:=top 70
theorem Zbt:FnScope ["plate","given"] ["plate","given"] (Zc Y9):=⟨rfl,rfl,rfl,by decide +kernel,rfl,by decide +kernel,by decide +kernel⟩
theorem Zbv {f:Addr} {fd:FuncData} (F:Fun K "look_at_stresses" "look_at_stresses" Y9 f fd) (T:Bt mg) (C_are_stresses_of:a43_ P w K mg base):FnOk P w K mg base CX0 6 f fd ["plate","given"] Zdy:=by
 refine F.ok Zbt (fun vs H Q E h=>by obtain ⟨v,w,P',ss,rfl,_⟩:=h;rfl) fun cdv A outer s H vs Q E hr h=>?_;obtain ⟨v,w,P',ss,rfl,hv,ok,hw,sok,q⟩:=h;refine' ⟨_,?term,?read⟩
 case term=>refine' @Zi _ _ _ ?g1;case g1=>refine' @Xc _ _ _ _ _ _ _ _ ?g2 Za3 Z2;case g2=>refine' @Ys _ _ _ _ ?g3;case g3=>refine' @Zx _ _ _ ?g4 (fun _=>rfl);case g4=>refine' @Zh _ _ _ _ _ _ _ _ _ _ _ C_are_stresses_of hr (by decide) rfl ?g5 (by decide) (by rfl) (by rfl);case g5=>refine' @Za _ _ _ _ _ (pv 0) (Za (pv 1) Zb rfl) rfl
 exact ⟨_,rfl,_,rfl,v,w,P',ss,rfl,hv,ok,hw,sok,fun H1 s1=>⟨true,rfl,iteF (q _ s1)⟩⟩
abbrev Xd:Stmt:=top 71
theorem Zbx:FnScope ["plate","given"] ["plate","given"] (Zc Xd):=⟨rfl,rfl,rfl,by decide +kernel,rfl,by decide +kernel,by decide +kernel⟩
theorem Zbs {f:Addr} {fd:FuncData} (F:Fun K "look_at_stressed" "look_at_stressed" Xd f fd) (T:Bt mg) (C_look_at_plate:a42_ P w K mg base) (C_look_at_stresses:a44_ P w K mg base):FnOk P w K mg base CX0 7 f fd ["plate","given"] Zdy:=by
 refine F.ok Zbx (fun vs H Q E h=>by obtain ⟨v,w,P',ss,rfl,_⟩:=h;rfl) fun cdv A outer s H vs Q E hr h=>?_;obtain ⟨v,w,P',ss,rfl,hv,ok,hw,sok,q⟩:=h;refine' ⟨_,?term,?read⟩
 case term=>refine' @Zd _ _ _ _ _ ?g1 ?g2;(case g1=>refine' @Xe _ _ _ _ (Zh C_look_at_plate hr (by decide) rfl (Za (pv 0) Zb rfl)) (by rfl));case g2=>refine' @Zi _ _ _ ?g3;case g3=>refine' @Xe _ _ _ _ ?g4 (by rfl);case g4=>refine' @Zh _ _ _ _ _ _ _ _ _ _ _ C_look_at_stresses hr (by decide) rfl ?g5 (by decide) (by rfl) (by rfl);case g5=>refine' @Za _ _ _ _ _ (pv 0) (Za (pv 1) Zb rfl) rfl
 refine ⟨_,rfl,v,P',rfl,hv,ok,fun H1 s1=>?_⟩;exact ⟨_,rfl,_,rfl,v,w,P',ss,rfl,hv.tk s1.tk,ok,Zgk s1.tk hw,sok,fun H2 s2=>q _ (s1.trans s2)⟩
abbrev Zdz:Stmt:=top 72
theorem Zin:FnScope ["plate","motions","piece","three","bottom"] ["plate","motions","piece"] (Zc Zdz):=⟨rfl,rfl,rfl,by decide +kernel,rfl,by decide +kernel,by decide +kernel⟩
theorem Zpb {f:Addr} {fd:FuncData} (F:Fun K "strain" "strain" Zdz f fd) (T:Bt mg) (C_look_at_moved:a45_ P w K mg base) (C_look_at_piece:a46_ P w K mg base) (C_reduced:a27_ P w K mg base) (C_strain_by:a35_ P w K mg base):FnOk P w K mg base CX0 8 f fd ["plate","motions","piece"] Zhi:=by
 refine F.ok Zin (fun vs H Q E h=>by obtain ⟨v,w,P',n,ms,rfl,_⟩:=h;rfl) fun cdv A outer s H vs Q E hr h=>?_;obtain ⟨v,w,P',n,ms,rfl,hv,ok,h0,h1,hw,hm,hB,q⟩:=h;have nd:=Zin.nd;refine' ⟨_,?term,?read⟩
 case term=>refine' @Zd _ _ _ _ _ ?g1 ?g2;(case g1=>refine' @Xe _ _ _ _ ?g3 (by rfl);case g3=>refine' @Zh _ _ _ _ _ _ _ _ _ _ _ C_look_at_moved hr (by decide) rfl ?g4 (by decide) (by rfl) (by rfl);case g4=>refine' @Za _ _ _ _ _ (pv 0) (Za (pv 1) Zb rfl) rfl);case g2=>refine' @Zd _ _ _ _ _ ?g5 ?g6;(case g5=>refine' @Xe _ _ _ _ ?g7 (by rfl);case g7=>refine' @Zh _ _ _ _ _ _ _ _ _ _ _ C_look_at_piece hr (by decide) rfl ?g8 (by decide) (by rfl) (by rfl);case g8=>refine' @Za _ _ _ _ _ (pv 0) (Za (pv 2) Zb rfl) rfl);case g6=>refine' @Zd _ _ _ _ _ ?g9 ?ga;(case g9=>refine' @Yt _ _ _ _ _ _ ?gb ?gc (by rfl) (by rfl) (by rfl);(case gb=>refine' @Zh _ _ _ _ _ _ _ _ _ _ _ C_strain_by hr (by decide) rfl ?gd (by decide) (by rfl) (by rfl);case gd=>refine' @Za _ _ _ _ _ (pv 0) ?ge rfl;case ge=>refine' @Za _ _ _ _ _ (pv 1) (Za (pv 2) Zb rfl) rfl);case gc=>refine' @Zy _ _ _ _ _ (2) rfl ?gf (by rfl) (by rfl);case gf=>refine' @Zg _ _ _ _ _ (Ze (i:=3) nd rfl (Or.inl rfl)) (Zg (Ze (i:=4) nd rfl (Or.inr rfl)) Zq) (by rfl));case ga=>refine' @Zi _ _ _ ?gg;case gg=>refine' @Zl _ _ _ _ ?gh;case gh=>refine' @Yd _ _ _ _ _ _ _ _ _ Z1 rfl T.b_tuple Yk ?gi (by decide) (by decide) (by rfl) (by rfl);case gi=>refine' @Za _ _ _ _ _ ?gj Zb rfl;case gj=>refine' @Yp _ _ _ _ _ _ _ (["part","bottom"]) ([none,some 4]) _ _ _ _ _ rfl (Z3 (XN:=[("plate" : Str),("motions" : Str),("piece" : Str),("three" : Str),("bottom" : Str)]) (Scope.names (Zc Zdz)) rfl rfl rfl (fun _ h=>Zv h) (by decide +kernel) rfl) (Y8 (pv 3)) (fun _ _ _ _=>(Ze (i:=0) (show List.Nodup [("part" : Str),("bottom" : Str)] by decide) rfl (Or.inl rfl) (Or.inr rfl))) (fun _ _ _ _=>Zn) (fun _ _ _ _=>(Zh C_reduced hr (by decide) rfl (Za (pv 0) (Za (pv 1) Zb rfl) rfl))) (by intro _ ;rfl)
 have pk:=ok.pc _ (Z4 h0 h1);obtain ⟨c1,c2,c3⟩:=Zcs ok.nr pk.len pk.bd;refine ⟨_,rfl,_,rfl,v,w,P',ms,rfl,hv,ok,hw,hm,hB,fun H0 s0=>?_⟩;refine ⟨_,rfl,_,rfl,v,P',n,rfl,hv.tk s0.tk,h0,h1,?_⟩;refine ⟨_,rfl,_,rfl,_,rfl,v,w,P',n,ms,rfl,hv.tk s0.tk,ok,h0,h1,Zw s0.tk hw,hm,hB,fun H1 r t m s1 hr1 ht1 mp dv mz=>?_⟩;refine ⟨r,_,rfl,SqT.of hr1,rfl,_,_,rfl,_,_,rfl,rfl,?_⟩;refine ⟨_,rfl,t,rfl,⟨_,SqL.of ht1⟩,fun D nD=>?_⟩;have bne:dOf P'.cs (pcOf P' n)*m≠0:=Int.mul_ne_zero pk.d (by omega);have bz:(dOf P'.cs (pcOf P' n)*m).natAbs<2^4000:=up 4000 (FM.natAbs_mul_lt (n:=20) (m:=900) (Nat.lt_of_le_of_lt c3 (by decide)) mz);refine lc_T (k:=.l) (vs:=(strI (Z9 P'.cs (pcOf P' n)) (Yc P'.cs (pcOf P' n)) ((Yj P' n ms).map (lev m))).map V.int) IsQ hRQ ((strI (Z9 P'.cs (pcOf P' n)) (Yc P'.cs (pcOf P' n)) ((Yj P' n ms).map (lev m))).map fun x=>Rat.divInt x (dOf P'.cs (pcOf P' n)*m)) (by simp) (by rw [List.length_map];exact Nat.le_trans (Nat.le_of_eq rfl:_≤3) (by decide)) nD ht1 (fun i x H5 C hx s5 c=>?_) (fun H5 us s5 e5 a5=>?_)
 · rw [List.getElem?_map] at hx;obtain ⟨y,ey,rfl⟩:=Option.map_eq_some_iff.mp hx;exact ⟨_,rfl,_,rfl,y,_,rfl,bne,bz,fun z H6 s6 hz=>c _ _ _ s6 (by rw [List.getElem?_map,ey];rfl) ⟨z,rfl,hz⟩⟩
 · refine ⟨D,us,rfl,.inl ⟨SqL.of e5,fun r5 n5=>?_⟩⟩;have s6:Same H5 (upd H5 r5 (.tup us)):=Same.new n5;refine q _ _ (s0.trans (s1.trans (s5.trans s6))) ⟨r5,us,rfl,Zj,?_⟩;rw [Zlj pk.d (show m≠0 by omega) dv] at a5;exact a5.imp fun v x r=>r.tk s6.tk
abbrev Zcp:Stmt:=top 73
theorem Zi2:FnScope ["plate","motions"] ["plate","motions"] (Zc Zcp):=⟨rfl,rfl,rfl,by decide +kernel,rfl,by decide +kernel,by decide +kernel⟩
theorem Zjn {f:Addr} {fd:FuncData} (F:Fun K "stresses" "stresses" Zcp f fd) (T:Bt mg) (C_look_at_moved:a45_ P w K mg base) (C_stresses_by:a47_ P w K mg base):FnOk P w K mg base CX0 8 f fd ["plate","motions"] Zaa:=by
 refine F.ok Zi2 (fun vs H Q E h=>by obtain ⟨v,w,P',ms,rfl,_⟩:=h;rfl) fun cdv A outer s H vs Q E hr h=>?_;obtain ⟨v,w,P',ms,rfl,hv,ok,hw,hm,hB,q⟩:=h;refine' ⟨_,?term,?read⟩
 case term=>refine' @Zd _ _ _ _ _ ?g1 ?g2;(case g1=>refine' @Xe _ _ _ _ ?g3 (by rfl);case g3=>refine' @Zh _ _ _ _ _ _ _ _ _ _ _ C_look_at_moved hr (by decide) rfl ?g4 (by decide) (by rfl) (by rfl);case g4=>refine' @Za _ _ _ _ _ (pv 0) (Za (pv 1) Zb rfl) rfl);case g2=>refine' @Zi _ _ _ ?g5;case g5=>refine' @Zl _ _ _ _ ?g6;case g6=>refine' @Zh _ _ _ _ _ _ _ _ _ _ _ C_stresses_by hr (by decide) rfl ?g7 (by decide) (by rfl) (by rfl);case g7=>refine' @Za _ _ _ _ _ (pv 0) (Za (pv 1) Zb rfl) rfl
 refine ⟨_,rfl,_,rfl,v,w,P',ms,rfl,hv,ok,hw,hm,hB,fun H0 s0=>?_⟩;exact ⟨_,rfl,_,rfl,v,w,P',ms,rfl,hv.tk s0.tk,ok,Zw s0.tk hw,hm,hB,fun H1 r s1 hr1=>q _ _ (s0.trans s1) hr1⟩
abbrev Zcn:Stmt:=top 75
theorem Zi9:FnScope ["plate","motions"] ["plate","motions"] (Zc Zcn):=⟨rfl,rfl,rfl,by decide +kernel,rfl,by decide +kernel,by decide +kernel⟩
theorem Zja {f:Addr} {fd:FuncData} (F:Fun K "worth_of" "worth_of" Zcn f fd) (T:Bt mg) (C_look_at_moved:a45_ P w K mg base) (C_worth_by:a48_ P w K mg base):FnOk P w K mg base CX0 8 f fd ["plate","motions"] Za6:=by
 refine F.ok Zi9 (fun vs H Q E h=>by obtain ⟨v,w,P',ms,rfl,_⟩:=h;rfl) fun cdv A outer s H vs Q E hr h=>?_;obtain ⟨v,w,P',ms,rfl,hv,ok,c6,hw,hm,hB,q⟩:=h;refine' ⟨_,?term,?read⟩
 case term=>refine' @Zd _ _ _ _ _ ?g1 ?g2;(case g1=>refine' @Xe _ _ _ _ ?g3 (by rfl);case g3=>refine' @Zh _ _ _ _ _ _ _ _ _ _ _ C_look_at_moved hr (by decide) rfl ?g4 (by decide) (by rfl) (by rfl);case g4=>refine' @Za _ _ _ _ _ (pv 0) (Za (pv 1) Zb rfl) rfl);case g2=>refine' @Zi _ _ _ ?g5;case g5=>refine' @Zl _ _ _ _ ?g6;case g6=>refine' @Zh _ _ _ _ _ _ _ _ _ _ _ C_worth_by hr (by decide) rfl ?g7 (by decide) (by rfl) (by rfl);case g7=>refine' @Za _ _ _ _ _ (pv 0) (Za (pv 1) Zb rfl) rfl
 refine ⟨_,rfl,_,rfl,v,w,P',ms,rfl,hv,ok,hw,hm,fun q hq=>(hB q hq).1,fun H0 s0=>?_⟩;exact ⟨_,rfl,_,rfl,v,w,P',ms,rfl,hv.tk s0.tk,ok,c6,Zw s0.tk hw,hm,hB,fun H1 r s1 hr1=>q _ _ (s0.trans s1) hr1⟩
abbrev Zbz:Stmt:=top 66
theorem Zc4:FnScope ["plate","given","terms","number","three","double","bees","cees","tops","many","thick","way","push"] ["plate","given"] (Zc Zbz):=⟨rfl,rfl,rfl,by decide +kernel,rfl,by decide +kernel,by decide +kernel⟩
theorem Zhn {f:Addr} {fd:FuncData} (F:Fun K "pushes_of" "pushes_of" Zbz f fd) (T:Bt mg) (C_added:a49_ P w K mg base) (C_levelledT:a39_ P w K mg base) (C_piece_ways:a30_ P w K mg base) (C_pushed:a50_ P w K mg base) (C_slopes:a33_ P w K mg base) (C_ways_of:a29_ P w K mg base):FnOk P w K mg base CX0 7 f fd ["plate","given"] Zak:=by
 refine F.ok Zc4 (fun vs H Q E h=>by obtain ⟨v,w,P',ss,rfl,_⟩:=h;rfl) fun cdv A outer s H vs Q E hr h=>?_;obtain ⟨v,w,P',ss,rfl,hv,ok,p4,⟨gv,us,rfl,hg,al⟩,sok,q⟩:=h;have nd:=Zc4.nd;refine' ⟨_,?term,?read⟩
 case term=>refine' @Zd _ _ _ _ _ ?g1 ?g2;(case g1=>refine' @Zdf _ _ _ _ _ _ _ _ _ _ (["way"]) ([none]) _ _ _ _ _ _ rfl rfl (Ze (i:=2) nd rfl (Or.inl rfl)) (Z0 (by decide) rfl (by decide) rfl rfl) ?g3 (fun _ _ _ _=>(Ze (i:=0) (show List.Nodup [("way" : Str)] by decide) rfl (Or.inl rfl) (Or.inr rfl))) (fun _ _ _ _=>Zn) (fun _ _ _ _=>(Xl Zb)) (by intro _ ;rfl);case g3=>refine' @Zch _ _ _ _ _ _ rfl T.b_range ?g4 (by rfl);case g4=>refine' @Za _ _ _ _ _ (Zh C_ways_of hr (by decide) rfl (Za (pv 0) Zb rfl)) Zb rfl);case g2=>refine' @Zd _ _ _ _ _ ?g5 ?g6;(case g5=>refine' @Zbf _ _ _ _ _ _ _ _ PassesOwn.never rfl ?g7 ?g8 ?g9 (by intro _ ;rfl);(case g7=>refine' @Zer _ _ _ _ .t _ _ _ _ rfl T.b_enumerate (Za (pv 1) Zb rfl) (by rfl));(case g8=>refine' @Zy _ _ _ _ _ (2) rfl ?ga (by rfl) (by rfl);case ga=>refine' @Zg _ _ _ _ _ (Ze (i:=3) nd rfl (Or.inl rfl)) (Zg (Ze (i:=4) nd rfl (Or.inl rfl)) Zq) (by rfl));case g9=>refine' @Zd _ _ _ _ _ ?gb ?gc;(case gb=>refine' @Yt _ _ _ _ _ _ ?gd ?ge (by rfl) (by rfl) (by rfl);(case gd=>refine' @Zh _ _ _ _ _ _ _ _ _ _ _ C_slopes hr (by decide) rfl ?gf (by decide) (by rfl) (by rfl);case gf=>refine' @Za _ _ _ _ _ (pv 0) (Za (pv 3) Zb rfl) rfl);case ge=>refine' @Zy _ _ _ _ _ (3) rfl ?gg (by rfl) (by rfl);case gg=>refine' @Zg _ _ _ _ _ (Ze (i:=5) nd rfl (Or.inl rfl)) ?gh (by rfl);case gh=>refine' @Zg _ _ _ _ _ (Ze (i:=6) nd rfl (Or.inl rfl)) (Zg (Ze (i:=7) nd rfl (Or.inl rfl)) Zq) (by rfl));case gc=>refine' @Zd _ _ _ _ _ ?gi ?gj;(case gi=>refine' @Yt _ _ _ _ _ _ (Zh C_levelledT hr (by decide) rfl (Za (pv 4) Zb rfl)) ?gk (by rfl) (by rfl) (by rfl);case gk=>refine' @Zy _ _ _ _ _ (2) rfl ?gl (by rfl) (by rfl);case gl=>refine' @Zg _ _ _ _ _ (Ze (i:=8) nd rfl (Or.inl rfl)) (Zg (Ze (i:=9) nd rfl (Or.inl rfl)) Zq) (by rfl));case gj=>refine' @Zd _ _ _ _ _ ?gm ?gn;(case gm=>refine' @Zz _ _ (10) _ _ _ _ nd rfl (Or.inl rfl) ?go (by rfl) (by first|exact Or.inl rfl|exact Or.inr rfl|assumption);case go=>refine' @Zkv _ _ _ _ _ _ _ _ (Ye Zny (pv 5) Zf (Yb _)) ?gp ?gq;(case gp=>refine' @Zt _ _ _ _ _ _ _ Zu ?gr (pv 3) (fun _ _=>rfl);case gr=>refine' @Zt _ _ _ _ _ _ _ Zu (pv 0) Zf (fun _ _=>rfl));case gq=>refine' @Zqf _ _ _ _ _ _ Zkt ?gs;case gs=>refine' @Zt _ _ _ _ _ _ _ Zu ?gt (pv 3) (fun _ _=>rfl);case gt=>refine' @Zt _ _ _ _ _ _ _ Zu (pv 0) Zf (fun _ _=>rfl));case gn=>refine' @Zi _ _ _ ?gu;case gu=>refine' @Zbf _ _ _ _ _ _ _ _ PassesOwn.never rfl ?gv ?gw ?gx (by intro _ ;rfl);(case gv=>refine' @Zb1 _ _ _ _ .l .l _ _ _ _ _ rfl T.b_zip ?gy (by rfl) (by rfl);case gy=>refine' @Za _ _ _ _ _ ?gz ?g10 rfl;(case gz=>refine' @Zh _ _ _ _ _ _ _ _ _ _ _ C_piece_ways hr (by decide) rfl ?g11 (by decide) (by rfl) (by rfl);case g11=>refine' @Za _ _ _ _ _ (pv 0) (Za (pv 3) Zb rfl) rfl);case g10=>refine' @Za _ _ _ _ _ ?g12 Zb rfl;case g12=>refine' @Zh _ _ _ _ _ _ _ _ _ _ _ C_pushed hr (by decide) rfl ?g13 (by decide) (by rfl) (by rfl);case g13=>refine' @Za _ _ _ _ _ (pv 6) ?g14 rfl;case g14=>refine' @Za _ _ _ _ _ (pv 7) (Za (pv 8) Zb rfl) rfl);(case gw=>refine' @Zy _ _ _ _ _ (2) rfl ?g15 (by rfl) (by rfl);case g15=>refine' @Zg _ _ _ _ _ (Ze (i:=11) nd rfl (Or.inl rfl)) (Zg (Ze (i:=12) nd rfl (Or.inl rfl)) Zq) (by rfl));case gx=>refine' @Zi _ _ _ ?g16;case g16=>refine' @Xe _ _ _ _ ?g17 (by rfl);case g17=>refine' @Znc _ _ _ _ _ _ _ _ _ _ _ _ PySem.F.plainAttrs_list PySem.F.slot_list_append PySem.F.type_list_append X4 ?g18 ?g19 (by rfl) (by rfl) (by rfl) (by rfl) (by rfl);(case g18=>refine' @Zt _ _ _ _ _ _ _ Yl (pv 2) (pv 11) (fun _ _=>rfl));case g19=>refine' @Za _ _ _ _ _ ?g1a Zb rfl;case g1a=>refine' @Z5 _ _ _ _ _ ?g1b;case g1b=>refine' @Za _ _ _ _ _ (Zm Zs (pv 10) (pv 12)) ?g1c rfl;case g1c=>refine' @Za _ _ _ _ _ (Zm Zs Zf (pv 9)) Zb rfl);case g6=>refine' @Zi _ _ _ ?g1d;case g1d=>refine' @Zl _ _ _ _ ?g1e;case g1e=>refine' @Yd _ _ _ _ _ _ _ _ _ Z1 rfl T.b_tuple Yk ?g1f (by decide) (by decide) (by rfl) (by rfl);case g1f=>refine' @Za _ _ _ _ _ ?g1g Zb rfl;case g1g=>refine' @Yp _ _ _ _ _ _ _ (["row"]) ([none]) _ _ _ _ _ rfl (Z0 (by decide) rfl (by decide) rfl rfl) (Y8 (pv 2)) (fun _ _ _ _=>(Ze (i:=0) (show List.Nodup [("row" : Str)] by decide) rfl (Or.inl rfl) (Or.inr rfl))) (fun _ _ _ _=>Zn) (fun _ _ _ _=>(Zh C_added hr (by decide) rfl (Za (pv 0) Zb rfl))) (by intro _ ;rfl)
 have hv0:=hv;obtain ⟨pa,pc,pp',ptk,pst,rfl,hpa,hpc,hpp,⟨ta,rfl,hta⟩,hps⟩:=hv0;have c30:=ok.c30;have hl2:=al.1;have sl:=sok.len;generalize hvv:V.ref pa=v at *;refine ⟨_,rfl,v,P',rfl,hv,ok,_,rfl,by omega,by omega,fun D nD=>?_⟩;refine Zl6 (by omega) nD (fun H1 as s1 len nd' has hD1=>?_);have hlen:as.length=2*P'.cs.length:=by rw [len];omega
 have nDa:D∉as:=fun z=>(has D z).2.2 rfl;have nas:∀ b o,H b=some o→b∉as:=fun b o e z=>by rw [(has b z).2.1] at e;cases e
 refine ⟨_,rfl,gv,rfl,⟨_,SqT.of (s1 _ _ hg)⟩,?_⟩;refine Zab (n:=ss.length) (fun i σ H2=>Zrz as H1 H2∧Tk H1 H2∧(∃ y1 y2 y3 y4 y5 y6 y7 y8 y9 y10,σ=[some v,some (.ref gv),some (.ref D),y1,y2,y3,y4,y5,y6,y7,y8,y9,y10])∧RowsAt H2 as (Fn P' ss i) (6*i)) ⟨fun _ _ _ e=>e,Tk.refl,⟨_,_,_,_,_,_,_,_,_,_,rfl⟩,fun w a e=>⟨[],[],(has a (List.mem_of_getElem? e)).1,.nil,fun p hp=>absurd hp (by simp),Nat.zero_le _,rfl⟩⟩ (fun i σ H2 hi p=>⟨us,us[i]'(by omega),SqT.of (p.2.1 _ _ (s1 _ _ hg)),List.getElem?_eq_getElem _⟩) (fun σ H2 p=>⟨us,SqT.of (p.2.1 _ _ (s1 _ _ hg)),hl2⟩) (fun i x σ H2 H3 hi y p=>?_) (fun σ H2 p=>?_)
 · obtain ⟨k2,t2,⟨y1,y2,y3,y4,y5,y6,y7,y8,y9,y10,rfl⟩,R2⟩:=p;obtain ⟨g,x,rfl,ng,rfl,yx⟩:=y;obtain ⟨s,es,th,us3,rfl,hth3,al3⟩:=al.get (yx us (SqT.of (t2 _ _ (s1 _ _ hg))));have sm:=List.mem_of_getElem? es;have gs:ss.getD i []=s:=by rw [List.getD_eq_getElem?_getD,es];rfl
   have s3l:=sok.three s sm;obtain ⟨DD,⟨D0,D1⟩,hDD⟩:=sok.bd s sm;have n0:(0:Int)≤(i:Int):=by omega
   have n1:(i:Int)<P'.ps.length:=by omega
   have pk:=ok.pc _ (Z4 n0 n1);obtain ⟨c1,c2,c3⟩:=Zcs ok.nr pk.len pk.bd;generalize gG:upd H2 g (.tup [.int i,.ref th])=H3;obtain ⟨s3,e3⟩:=gen_upd gG ng;have t03:Tk H H3:=s1.tk.trans (t2.trans s3.tk);refine ⟨g,_,rfl,SqT.of e3,rfl,_,_,rfl,_,_,rfl,rfl,?_⟩;refine ⟨_,rfl,_,rfl,v,P',(i:Int),rfl,hv.tk t03,ok,n0,n1,fun H4 r bl cl s4 hr4 hb4 hc4=>?_⟩;refine ⟨r,_,rfl,SqT.of hr4,rfl,_,_,rfl,_,_,rfl,_,_,rfl,rfl,?_⟩;have t04:=t03.trans s4.tk
   have denlt:∀ q∈s,q.den<2^30:=fun q hq=>by
    have h:=Int.le_of_dvd D0 (hDD q hq).2;omega
   refine ⟨_,rfl,th,us3,s.map prQ,30,rfl,t04 _ _ hth3,(Zol al3).imp fun v x r=>r.tk t04,Zoz fun q hq=>⟨(hDD q hq).1.mono (by decide),denlt q hq⟩,by rw [List.length_map,s3l];decide,by decide,by rw [List.length_map,s3l];decide,fun H5 p5 tp m s5 hp5 ht5 mp dv0 sz lcm=>?_⟩;rw [List.length_map,s3l] at sz;have mz:m.natAbs<2^91:=sz;rw [Zjw] at ht5;refine ⟨p5,_,rfl,SqT.of hp5,rfl,_,_,rfl,_,_,rfl,rfl,?_⟩
   match s,s3l with
   | [p3,q3,r3],_ =>
   have dv:∀ q∈[p3,q3,r3],(q.den:Int)∣m:=fun q hq=>dv0 _ (List.mem_map.mpr ⟨q,hq,rfl⟩);have dp:=dv p3 (by simp);have dq:=dv q3 (by simp);have dr:=dv r3 (by simp)
   have tpz:∀ x∈[lev m p3,lev m q3,lev m r3],x.natAbs<2^300:=fun x hx=>by
    have key:∀ q∈[p3,q3,r3],(lev m q).natAbs<2^300:=fun q hq=>by
     have h1:=Xf (FM.den_pos q) (dv q hq) mz;exact up 300 (FM.natAbs_mul_lt (hDD q hq).1.1 h1)
    simp only [List.mem_cons,List.not_mem_nil,or_false] at hx
    rcases hx with rfl|rfl|rfl
    · exact key p3 (by simp)
    · exact key q3 (by simp)
    · exact key r3 (by simp)
   have s45:=s5;have s25:=s3.trans (s4.trans s5);have t05:=t04.trans s5.tk;have t15:Tk H1 H5:=t2.trans s25.tk;have k5:Zrz as H1 H5:=fun b o nb e=>s25 _ _ (k2 _ _ nb e);have R5:=R2.keep s25;have hb5:=s5 _ _ hb4;have hc5:=s5 _ _ hc4;have hD5:=k5 _ _ nDa hD1
   have tti:P'.ts[i]? = some (P'.ts.getD i 0):=by
    have:i<P'.ts.length:=by rw [ok.t1];omega
    rw [List.getD_eq_getElem?_getD,List.getElem?_eq_getElem this];rfl
   obtain ⟨tl,tu⟩:=ok.t9 _ (List.mem_of_getElem? tti);have att:atI (P'.ts.map V.int) (i:Int)=some (.int (P'.ts.getD i 0)):=X2 (by rw [List.getElem?_map,tti];rfl);dsimp only;refine Zr8 (R:=fun z Hn=>z=.int (thk P' i)∧Hn=H5) ?_ ?_ ?_ ?_ ?_
   · refine ⟨_,rfl,_,_,rfl,rfl,_,rfl,?_⟩;refine ite2 (fun hpos=>?_) (fun hpos=>?_)
     · have hth:thk P' i=P'.ts.getD i 0:=by unfold thk;rw [if_pos (of_decide_eq_true hpos)]
       exact ⟨_,hvv ▸ rfl,pa,_,2,_,rfl,rfl,SqT.of (t05 _ _ hpa),rfl,_,rfl,ta,_,(i:Int),_,rfl,rfl,SqT.of (t05 _ _ hta),att,by rw [hth],rfl⟩
     · have hth:thk P' i = -(P'.ts.getD i 0):=by unfold thk;rw [if_neg (fun z=>hpos (decide_eq_true z))]
       exact ⟨_,hvv ▸ rfl,pa,_,2,_,rfl,rfl,SqT.of (t05 _ _ hpa),rfl,_,rfl,ta,_,(i:Int),_,rfl,rfl,SqT.of (t05 _ _ hta),att,_,rfl,by rw [hth],rfl⟩
   · rintro Q1 Q2 hq ⟨v1,e1,i1,j1,f1,f2,k,f3,q3'⟩
     exact ⟨v1,e1,i1,j1,f1,f2,k,f3,hq _ _ q3'⟩
   · rintro key H1' ⟨v1,e1,b1,x1,i1,z1,f1,f2,f3,f4,v2,e2,b2,x2,i2,z2,g1,g2,g3,g4,q4⟩
     exact ⟨v1,e1,b1,x1,i1,z1,f1,f2,f3,f4,v2,e2,b2,x2,i2,z2,g1,g2,g3,g4,key _ _ q4⟩
   · rintro key H1' ⟨v1,e1,b1,x1,i1,z1,f1,f2,f3,f4,v2,e2,b2,x2,i2,z2,g1,g2,g3,g4,i3,g5,q4⟩
     exact ⟨v1,e1,b1,x1,i1,z1,f1,f2,f3,f4,v2,e2,b2,x2,i2,z2,g1,g2,g3,g4,i3,g5,key _ _ q4⟩
   rintro z Hn ⟨rfl,rfl⟩
   have hth:thk P' i=thk P' i:=rfl;have thz:(thk P' i).natAbs≤9:=by unfold thk;split<;>omega
   refine ⟨_,rfl,_,rfl,v,P',(i:Int),rfl,hv.tk t05,ok,n0,n1,fun H6 rw1 s6 hrw=>?_⟩;refine ⟨_,rfl,_,rfl,_,rfl,bl,cl,tp,_,_,_,rfl,s6 _ _ hb5,s6 _ _ hc5,s6 _ _ ht5,by simp,rfl,rfl,fun x hx=>Nat.lt_of_le_of_lt (c1 x hx) (by decide),fun x hx=>Nat.lt_of_le_of_lt (c2 x hx) (by decide),fun x hx=>up 5000 (tpz x hx),fun H7 rp s7 hrp=>?_⟩;have s57:=s6.trans s7;have R7:=R5.keep s57;have hrw7:=s7 _ _ hrw;have nrw:rw1∉as:=Zrg R7 hrw7 (Zb0 (Zoq pk.len) (by decide));have nrp:rp∉as:=Zrg R7 hrp (Zb0 (Zll (P:=P') (n:=i)) (by decide));have hD7:=s57 _ _ hD5;refine ⟨rw1,rp,rfl,⟨_,SqL.of hrw7⟩,⟨_,SqL.of hrp⟩,?_⟩;refine Zab (n:=6) (fun k σ H8=>Zrz as H7 H8∧Tk H7 H8∧(∃ z1 z2,σ=[some v,some (.ref gv),some (.ref D),some (.int i),some (.ref th),some (.int (dOf P'.cs (pcOf P' i))),some (.ref bl),some (.ref cl),some (.ref tp),some (.int m),some (.int (thk P' i)),z1,z2])∧RowsAt H8 as (fun w=>Fn P' ss i w+pt' ((ctr P' i [p3,q3,r3]).take k) w) (6*i+k)) ⟨fun _ _ _ e=>e,Tk.refl,⟨_,_,rfl⟩,fun w a e=>?_⟩ (fun k σ H8 hk p=>?_) (fun σ H8 p=>?_) (fun k x σ H8 H9 hk y p=>?_) (fun σ H8 p=>?_)
   · obtain ⟨us',r',h1,h2,h3,h4,h5⟩:=R7 w a e;exact ⟨us',r',h1,h2,h3,h4,by rw [h5];show _=_+(0:Rat);rw [Rat.add_zero]⟩
   · refine ⟨_,_,V.int ((Yx (pcOf P' i))[k]'(by rw [Zoq pk.len];exact hk)),V.int ((Zok (Z9 P'.cs (pcOf P' i)) (Yc P'.cs (pcOf P' i)) [lev m p3,lev m q3,lev m r3])[k]'(by rw [Zll];exact hk)),SqL.of (p.1 _ _ nrw hrw7),SqL.of (p.1 _ _ nrp hrp),?_,?_⟩
     · rw [List.getElem?_map,List.getElem?_eq_getElem];rfl
     · rw [List.getElem?_map,List.getElem?_eq_getElem];rfl
   · exact ⟨_,_,SqL.of (p.1 _ _ nrw hrw7),SqL.of (p.1 _ _ nrp hrp),.inl (by rw [List.length_map,Zoq pk.len];exact Nat.le_refl _)⟩
   · obtain ⟨k8,t8,⟨z1,z2,rfl⟩,R8⟩:=p;obtain ⟨pp,x1,y1,rfl,npp,rfl,y2,y3⟩:=y;have ex:=y2 _ (SqL.of (k8 _ _ nrw hrw7));have ey:=y3 _ (SqL.of (k8 _ _ nrp hrp));rw [List.getElem?_map] at ex ey;obtain ⟨wy,ew,rfl⟩:=Option.map_eq_some_iff.mp ex;obtain ⟨xv,exv,rfl⟩:=Option.map_eq_some_iff.mp ey;obtain ⟨cv,ec,ecv⟩:=Zu1 pk.len (by omega) dp dq dr ew exv;obtain ⟨w0,w1⟩:=Zj4 pk.bd wy (List.mem_of_getElem? ew);have xz:=Zsh c1 c2 (by simp) tpz xv (List.mem_of_getElem? exv);obtain ⟨wn,rfl⟩:∃ wn:Nat,wy=wn:=⟨wy.toNat,by omega⟩;have hwn:wn<as.length:=by omega
     obtain ⟨us',r',h1,h2,h3,h4,h5⟩:=R8 wn as[wn] (List.getElem?_eq_getElem hwn);generalize gG:upd H8 pp (.tup [.int wn,.int xv])=H9;obtain ⟨s9,e9⟩:=gen_upd gG npp;refine ⟨pp,_,rfl,SqT.of e9,rfl,_,_,rfl,_,_,rfl,rfl,?_⟩;have tz:((thk P' i):Int).natAbs≤9:=thz;refine ⟨_,rfl,_,rfl,D,_,(wn:Int),.ref as[wn],rfl,rfl,SqL.of (s9 _ _ (k8 _ _ nDa hD7)),X2 (by rw [List.getElem?_map,List.getElem?_eq_getElem hwn];rfl),.inl ⟨rfl,_,SqL.of (s9 _ _ h1)⟩,?_⟩;refine ⟨_,rfl,_,rfl,_,_,rfl,rfl,Y2 (n:=400) (Nat.lt_of_le_of_lt tz (by decide)) xz,_,rfl,_,_,rfl,rfl,Y2 (n:=400) (by decide) (up 400 mz),z2_,fun Z nZ=>?_⟩;generalize hHz:upd H9 Z _=H10;have s10:Same H9 H10:=by (rw [← hHz];exact Same.new nZ)
     have e10':=(congrFun hHz Z).symm;rw [Zj] at e10';have e10:H10 Z=some (.tup [.int ((thk P' i)*xv),.int (2*m)]):=e10';clear e10' hHz;have s810:=s9.trans s10;refine ⟨as[wn],us',_,rfl,rfl,s810 _ _ h1,by rw [h2.1,sizeLine_eq];omega,?_⟩;have tA:Tk H10 (upd H10 as[wn] (.lst (us'++[.ref Z]))):=Tk.upd_lst (s810 _ _ h1);refine ⟨fun b o nb e=>?_,t8.trans (s810.tk.trans tA),⟨_,_,rfl⟩,fun w a ea=>?_⟩
     · rw [Zr (fun z=>nb (by rw [z];exact List.getElem_mem _))];exact s810 _ _ (k8 _ _ nb e)
     · have etk:(ctr P' i [p3,q3,r3]).take (k+1)=(ctr P' i [p3,q3,r3]).take k++[((wn:Int),cv)]:=by rw [List.take_succ,ec];rfl
       show ∃ us r,_∧_∧_∧_∧rsum r=Fn P' ss i w+pt' ((ctr P' i [p3,q3,r3]).take (k+1)) w
       rw [etk,Zsg]
       by_cases hw:w=wn
       · subst hw;rw [List.getElem?_eq_getElem hwn] at ea;cases ea
         refine ⟨_,r'++[((thk P' i)*xv,2*m)],Zj,(h2.imp fun v x r=>r.tk (s810.tk.trans tA)).snoc ⟨Z,rfl,tA _ _ e10⟩,fun p hp=>?_,by simp;omega,?_⟩
         · rcases List.mem_append.mp hp with h|h
           · exact h3 p h
           · rw [List.mem_singleton.mp h];refine ⟨⟨by show 0<2*m;omega,?_⟩,?_⟩
             · show (2*m).natAbs<2^92
               have:2^92=2*2^91:=by decide
               omega
             · show ((thk P' i)*xv).natAbs<2^1000
               exact up 1000 (FM.natAbs_mul_lt (n:=4) (Nat.lt_of_le_of_lt tz (by decide)) xz)
         · rw [Zm7,h5,if_pos rfl]
           have:(((thk P' i)*xv:Int):Rat)/((2*m:Int):Rat)=cv:=by rw [← ecv,← hth]
           show _+(((thk P' i)*xv:Int):Rat)/((2*m:Int):Rat)=_
           rw [this,Rat.add_assoc]
       · obtain ⟨us2,r2,g1,g2,g3,g4,g5⟩:=R8 w a ea;have na:a≠as[wn]:=Zoi nd' ea (List.getElem?_eq_getElem hwn) hw;refine ⟨us2,r2,by rw [Zr na];exact s810 _ _ g1,g2.imp fun v x r=>r.tk (s810.tk.trans tA),g3,by omega,?_⟩;rw [g5,if_neg (fun z=>hw (by omega)),Rat.add_zero]
   · obtain ⟨k8,t8,⟨z1,z2,rfl⟩,R8⟩:=p;refine ⟨fun b o nb e=>k8 _ _ nb (s57 _ _ (k5 _ _ nb e)),t15.trans (s57.tk.trans t8),⟨_,_,_,_,_,_,_,_,_,_,rfl⟩,fun w a e=>?_⟩;obtain ⟨us2,r2,g1,g2,g3,g4,g5⟩:=R8 w a e;refine ⟨us2,r2,g1,g2,g3,by omega,?_⟩;rw [g5];show _=Fn P' ss i w+pt' (ctr P' i (ss.getD i [])) w
     rw [gs,List.take_of_length_le (by rw [Zs6];exact Nat.le_refl _)]
 · obtain ⟨k2,t2,⟨y1,y2,y3,y4,y5,y6,y7,y8,y9,y10,rfl⟩,R2⟩:=p;have s02:Same H H2:=fun b o e=>k2 _ _ (nas b o e) (s1 _ _ e);have hD2:=k2 _ _ nDa hD1;refine ⟨_,rfl,D,rfl,⟨_,SqL.of hD2⟩,fun E nE=>?_⟩;refine lc_T (k:=.l) (vs:=as.map V.ref) IsQ hRQ (Y0 P' ss) (by unfold Y0;simp [hlen]) (by simp [hlen];omega) nE hD2 (fun k x H4 C hx s4 c=>?_) (fun H4 us4 s4 e4 a4=>?_)
   · rw [List.getElem?_map] at hx;obtain ⟨a,ea,rfl⟩:=Option.map_eq_some_iff.mp hx;obtain ⟨us',r',h1,h2,h3,h4,h5⟩:=(R2.keep s4) k a ea;refine ⟨_,rfl,a,us',r',92,rfl,h1,h2,h3,⟨by omega,by omega,by decide⟩,fun H5 v5 s5 hv5=>c _ _ _ s5 ?_ hv5⟩;have hk:k<2*P'.cs.length:=by have:=Yn ea;omega
     unfold Y0;rw [List.getElem?_map,List.getElem?_range hk,h5];rfl
   · refine ⟨E,us4,rfl,.inl ⟨SqL.of e4,fun r nr=>?_⟩⟩;have s5:Same H4 (upd H4 r (.tup us4)):=Same.new nr;exact q _ _ (s02.trans (s4.trans s5)) ⟨r,us4,rfl,Zj,a4.imp fun v x r=>r.tk s5.tk⟩
abbrev Zf9:Stmt:=top 74
theorem Znw:FnScope ["plate","stresses"] ["plate","stresses"] (Zc Zf9):=⟨rfl,rfl,rfl,by decide +kernel,rfl,by decide +kernel,by decide +kernel⟩
theorem Zm6 {f:Addr} {fd:FuncData} (F:Fun K "pushes" "pushes" Zf9 f fd) (T:Bt mg) (C_look_at_stressed:a51_ P w K mg base) (C_pushes_of:a52_ P w K mg base):FnOk P w K mg base CX0 8 f fd ["plate","stresses"] Zak:=by
 refine F.ok Znw (fun vs H Q E h=>by obtain ⟨v,w,P',ss,rfl,_⟩:=h;rfl) fun cdv A outer s H vs Q E hr h=>?_;obtain ⟨v,w,P',ss,rfl,hv,ok,p4,hw,sok,q⟩:=h;refine' ⟨_,?term,?read⟩
 case term=>refine' @Zd _ _ _ _ _ ?g1 ?g2;(case g1=>refine' @Xe _ _ _ _ ?g3 (by rfl);case g3=>refine' @Zh _ _ _ _ _ _ _ _ _ _ _ C_look_at_stressed hr (by decide) rfl ?g4 (by decide) (by rfl) (by rfl);case g4=>refine' @Za _ _ _ _ _ (pv 0) (Za (pv 1) Zb rfl) rfl);case g2=>refine' @Zi _ _ _ ?g5;case g5=>refine' @Zl _ _ _ _ ?g6;case g6=>refine' @Zh _ _ _ _ _ _ _ _ _ _ _ C_pushes_of hr (by decide) rfl ?g7 (by decide) (by rfl) (by rfl);case g7=>refine' @Za _ _ _ _ _ (pv 0) (Za (pv 1) Zb rfl) rfl
 refine ⟨_,rfl,_,rfl,v,w,P',ss,rfl,hv,ok,hw,sok,fun H0 s0=>?_⟩;exact ⟨_,rfl,_,rfl,v,w,P',ss,rfl,hv.tk s0.tk,ok,p4,Zgk s0.tk hw,sok,fun H1 r s1 hr1=>q _ _ (s0.trans s1) hr1⟩
abbrev X3:Stmt:=top 77
theorem Zel:FnScope ["_law_script","_law_k"] ["_law_script","_law_k"] (Zc X3):=⟨rfl,rfl,rfl,by decide +kernel,rfl,by decide +kernel,by decide +kernel⟩
theorem Zev {f:Addr} {fd:FuncData} (F:Fun K "_law_cell_at" "_law_cell_at" X3 f fd) (T:Bt mg):FnOk P w K mg base CX0 1 f fd ["_law_script","_law_k"] (Zou K):=by
 refine F.ok Zel (fun vs H Q E h=>by obtain ⟨a,ns,k,rfl,_⟩:=h;rfl) fun cdv A outer s H vs Q E hr h=>?_;obtain ⟨a,ns,k,rfl,hS,q⟩:=h;refine' ⟨_,?term,?read⟩
 case term=>refine' @Zd _ _ _ _ _ ?g1 (Zi (Zl Zf));case g1=>refine' @Xc _ _ _ _ _ _ _ _ ?g2 ?g3 Z2;(case g2=>refine' @Ye _ _ _ _ _ _ _ _ Zmi (pv 1) (Zk Zp rfl T.b_len Yv (Za (pv 0) Zb rfl)) (Yb _));case g3=>refine' @Zi _ _ _ ?g4;case g4=>refine' @Zl _ _ _ _ ?g5;case g5=>refine' @Zt _ _ _ _ _ _ _ Yl (pv 0) (pv 1) (fun _ _=>rfl)
 refine ⟨_,rfl,_,rfl,a,_,rfl,.inl hS,_,_,rfl,rfl,_,rfl,?_⟩;refine ite2 (fun hlt=>?_) (fun _=>q 0)
 have hk:k<ns.length:=by
  have z:=of_decide_eq_true hlt;rw [List.length_map] at z;omega
 exact ⟨_,rfl,_,rfl,a,_,_,_,rfl,rfl,hS,X2 (by rw [List.getElem?_map,List.getElem?_eq_getElem hk];rfl),q _⟩
abbrev Zay:Stmt:=top 78
theorem Zcd:FnScope ["_law_script","_law_k","_law_cell"] ["_law_script","_law_k"] (Zc Zay):=⟨rfl,rfl,rfl,by decide +kernel,rfl,by decide +kernel,by decide +kernel⟩
theorem Zg1 {f:Addr} {fd:FuncData} (F:Fun K "_law_state" "_law_state" Zay f fd) (T:Bt mg) (C__law_cell_at:a53_ P w K mg base):FnOk P w K mg base CX0 2 f fd ["_law_script","_law_k"] (Zku K):=by
 refine F.ok Zcd (fun vs H Q E h=>by obtain ⟨a,ns,k,rfl,_⟩:=h;rfl) fun cdv A outer s H vs Q E hr h=>?_;obtain ⟨a,ns,k,rfl,hS,q⟩:=h;have nd:=Zcd.nd;refine' ⟨_,?term,?read⟩
 case term=>refine' @Zd _ _ _ _ _ ?g1 ?g2;(case g1=>refine' @Zz _ _ (2) _ _ _ _ nd rfl (Or.inl rfl) ?g3 (by rfl) (by first|exact Or.inl rfl|exact Or.inr rfl|assumption);case g3=>refine' @Zh _ _ _ _ _ _ _ _ _ _ _ C__law_cell_at hr (by decide) rfl ?g4 (by decide) (by rfl) (by rfl);case g4=>refine' @Za _ _ _ _ _ (pv 0) (Za (pv 1) Zb rfl) rfl);case g2=>refine' @Zi _ _ _ ?g5;case g5=>refine' @Zl _ _ _ _ ?g6;case g6=>refine' @Xl _ _ _ _ ?g7;case g7=>refine' @Za _ _ _ _ _ ?g8 ?g9 rfl;(case g8=>refine' @Zk _ _ _ _ _ _ _ _ _ (Zh8 rfl) rfl T.b_max Zq9 ?ga (by decide) (by decide) (by rfl) (by rfl);case ga=>refine' @Za _ _ _ _ _ Zf ?gb rfl;case gb=>refine' @Za _ _ _ _ _ ?gc Zb rfl;case gc=>refine' @Zm _ _ _ _ _ _ _ _ Y1 (pv 2) (Zm Zoy Zf Zf));case g9=>refine' @Za _ _ _ _ _ ?gd (Za Zf Zb rfl) rfl;case gd=>refine' @Zm _ _ _ _ _ _ _ _ Yw (Zm Za4 (pv 2) Zf) Zf
 refine ⟨_,rfl,_,rfl,a,ns,k,rfl,hS,fun c=>?_⟩;refine ⟨_,rfl,_,_,rfl,rfl,⟨by decide,by decide,by decide⟩,_,_,rfl,rfl,_,_,rfl,?_⟩;refine ⟨_,rfl,_,_,rfl,rfl,(by show (2147483629:Int)≠0;decide),_,_,rfl,rfl,(z3_),fun p hp=>q p _ hp (Same.new hp) ⟨_,_,_,Zj,?_,?_⟩⟩
 · have:=Int.fmod_nonneg_of_pos c (b:=2147483629) (by decide)
   omega
 · have:=Int.fmod_lt_of_pos c (b:=2147483629) (by decide)
   omega
abbrev Zae:Stmt:=top 79
theorem Zbk:FnScope ["_law_state_here","_law_many","_law_found","_law_mixed_here"] ["_law_state_here","_law_many"] (Zc Zae):=⟨rfl,rfl,rfl,by decide +kernel,rfl,by decide +kernel,by decide +kernel⟩
theorem Zff {f:Addr} {fd:FuncData} (F:Fun K "_law_choice" "_law_choice" Zae f fd) (T:Bt mg):FnOk P w K mg base CX0 1 f fd ["_law_state_here","_law_many"] Zet:=by
 refine F.ok Zbk (fun vs H Q E h=>by obtain ⟨l,m,rfl,_⟩:=h;rfl) fun cdv A outer s H vs Q E hr h=>?_;obtain ⟨l,m,rfl,⟨s0,s1,s2,hl,h0,h1⟩,hm,hz,q⟩:=h;have nd:=Zbk.nd;refine' ⟨_,?term,?read⟩
 case term=>refine' @Zd _ _ _ _ _ ?g1 ?g2;(case g1=>refine' @Xc _ _ _ _ _ _ _ _ ?g3 ?g4 Z2;(case g3=>refine' @Ye _ _ _ _ _ _ _ _ Zny ?g5 Zf (Yb _);case g5=>refine' @Zt _ _ _ _ _ _ _ Yl (pv 0) Zf (fun _ _=>rfl));case g4=>refine' @Zd _ _ _ _ _ ?g6 ?g7;(case g6=>refine' @Zz _ _ (2) _ _ _ _ nd rfl (Or.inl rfl) ?g8 (by rfl) (by first|exact Or.inl rfl|exact Or.inr rfl|assumption);case g8=>refine' @Zm _ _ _ _ _ _ _ _ Za4 ?g9 (pv 1);case g9=>refine' @Zt _ _ _ _ _ _ _ Yl (pv 0) Zf (fun _ _=>rfl));case g7=>refine' @Zd _ _ _ _ _ ?ga (Zi (Zl (pv 2)));case ga=>refine' @Yt _ _ _ _ _ _ ?gb ?gc (by rfl) (by rfl) (by rfl);(case gb=>refine' @Zm _ _ _ _ _ _ _ _ Xk ?gd (pv 1);case gd=>refine' @Zt _ _ _ _ _ _ _ Yl (pv 0) Zf (fun _ _=>rfl));case gc=>refine' @Zk4 _ _ _ _ _ _ _ (pv 0) Zf Zdx (by intro _ ;rfl));case g2=>refine' @Zd _ _ _ _ _ ?ge ?gf;(case ge=>refine' @Yt _ _ _ _ _ _ ?gg ?gh (by rfl) (by rfl) (by rfl);(case gg=>refine' @Zm _ _ _ _ _ _ _ _ Yw ?gi Zf;case gi=>refine' @Zt _ _ _ _ _ _ _ Yl (pv 0) Zf (fun _ _=>rfl));case gh=>refine' @Zk4 _ _ _ _ _ _ _ (pv 0) Zf Zdx (by intro _ ;rfl));case gf=>refine' @Zd _ _ _ _ _ ?gj ?gk;(case gj=>refine' @Yt _ _ _ _ _ _ ?gl ?gm (by rfl) (by rfl) (by rfl);(case gl=>refine' @Zm _ _ _ _ _ _ _ _ Za4 ?gn Zf;case gn=>refine' @Zm _ _ _ _ _ _ _ _ Yw ?go ?gp;(case go=>refine' @Zm _ _ _ _ _ _ _ _ Yw ?gq Zf;case gq=>refine' @Zm _ _ _ _ _ _ _ _ Zs ?gr Zf;case gr=>refine' @Zt _ _ _ _ _ _ _ Yl (pv 0) Zf (fun _ _=>rfl));case gp=>refine' @Zt _ _ _ _ _ _ _ Yl (pv 0) Zf (fun _ _=>rfl));case gm=>refine' @Zk4 _ _ _ _ _ _ _ (pv 0) Zf Zdx (by intro _ ;rfl));case gk=>refine' @Zd _ _ _ _ _ ?gs ?gt;(case gs=>refine' @Zz _ _ (3) _ _ _ _ nd rfl (Or.inl rfl) ?gu (by rfl) (by first|exact Or.inl rfl|exact Or.inr rfl|assumption);case gu=>refine' @Zm _ _ _ _ _ _ _ _ Za4 ?gv Zf;case gv=>refine' @Zm _ _ _ _ _ _ _ _ Yw ?gw Zf;case gw=>refine' @Zm _ _ _ _ _ _ _ _ Yw ?gx ?gy;(case gx=>refine' @Zm _ _ _ _ _ _ _ _ Zs ?gz ?g10;(case gz=>refine' @Zt _ _ _ _ _ _ _ Yl (pv 0) Zf (fun _ _=>rfl));case g10=>refine' @Zt _ _ _ _ _ _ _ Yl (pv 0) Zf (fun _ _=>rfl));case gy=>refine' @Zm _ _ _ _ _ _ _ _ Zs Zf ?g11;case g11=>refine' @Zt _ _ _ _ _ _ _ Yl (pv 0) Zf (fun _ _=>rfl));case gt=>refine' @Zd _ _ _ _ _ ?g12 ?g13;(case g12=>refine' @Zz _ _ (3) _ _ _ _ nd rfl (Or.inl rfl) ?g14 (by rfl) (by first|exact Or.inl rfl|exact Or.inr rfl|assumption);case g14=>refine' @Zm _ _ _ _ _ _ _ _ Za4 ?g15 Zf;case g15=>refine' @Zm _ _ _ _ _ _ _ _ Yw (Zm Zs (pv 3) (pv 3)) (Zm Zs Zf (pv 3)));case g13=>refine' @Zi _ _ _ ?g16;case g16=>refine' @Zl _ _ _ _ ?g17;case g17=>refine' @Zm _ _ _ _ _ _ _ _ Za4 (Zm Xk (pv 3) Zf) (pv 1)
 have hm0:m≠0:=by omega
 refine ⟨_,rfl,l,_,0,_,rfl,rfl,SqL.of hl,rfl,_,_,rfl,rfl,_,rfl,?_⟩;refine ite2 (fun _=>?_) (fun _=>?_)
 · refine ⟨_,rfl,l,_,0,_,rfl,rfl,SqL.of hl,rfl,_,rfl,_,_,rfl,rfl,hm0,?_⟩;refine ⟨_,rfl,l,_,0,_,rfl,rfl,SqL.of hl,rfl,_,rfl,_,_,rfl,rfl,⟨hm0,hz⟩,?_⟩;refine ⟨_,rfl,l,_,0,0,rfl,rfl,hl,rfl,?_⟩;exact ⟨_,rfl,q _ _ (Int.fmod_nonneg_of_pos _ hm) (Int.fmod_lt_of_pos _ hm) Keep.upd ⟨_,_,_,Zj,h0,h1⟩⟩
 ·
  refine ⟨_,rfl,l,_,2,_,rfl,rfl,SqL.of hl,rfl,_,_,rfl,rfl,?_⟩;refine ⟨_,rfl,l,_,2,2,rfl,rfl,hl,rfl,?_⟩;refine ⟨_,rfl,l,_,1,_,rfl,rfl,SqL.of Zj,rfl,_,_,rfl,rfl,mulS (by rw [p64];omega) (by decide),_,_,rfl,rfl,?_⟩;refine ⟨_,rfl,l,_,2,_,rfl,rfl,SqL.of Zj,rfl,_,_,rfl,rfl,_,_,rfl,rfl,(by show (2147483647:Int)≠0;decide),?_⟩;refine ⟨_,rfl,l,_,1,1,rfl,rfl,Zj,rfl,?_⟩;generalize hs:Int.fmod (s1*48271+29+(s2+1)) 2147483647=u;have u0:0≤u:=by rw [← hs];exact Int.fmod_nonneg_of_pos _ (by decide)
  have u1:u<2147483647:=by rw [← hs];exact Int.fmod_lt_of_pos _ (by decide)
  refine ⟨_,rfl,l,_,1,_,rfl,rfl,SqL.of Zj,rfl,_,rfl,l,_,1,_,rfl,rfl,SqL.of Zj,rfl,u,u,by rw [← hs],by rw [← hs],mulS (by rw [p64];omega) (by rw [p64];omega),?_⟩;refine ⟨_,rfl,l,_,1,_,rfl,rfl,SqL.of Zj,rfl,39373,u,rfl,by rw [← hs],mulS (by decide) (by rw [p64];omega),_,_,rfl,rfl,_,_,rfl,rfl,_,_,rfl,rfl,(by show (2147483629:Int)≠0;decide),?_⟩;generalize hv:Int.fmod (u*u+39373*u+7) 2147483629=v;have v0:0≤v:=by rw [← hv];exact Int.fmod_nonneg_of_pos _ (by decide)
  have v1:v<2147483629:=by rw [← hv];exact Int.fmod_lt_of_pos _ (by decide)
  refine ⟨_,rfl,_,rfl,v,v,by rw [← hv],by rw [← hv],mulS (by rw [p64];omega) (by rw [p64];omega),_,rfl,50021,v,rfl,by rw [← hv],mulS (by decide) (by rw [p64];omega),_,_,rfl,rfl,_,_,rfl,rfl,(by show (2147483587:Int)≠0;decide),?_⟩;refine ⟨_,rfl,_,_,rfl,rfl,⟨by decide,Y5 (by decide)⟩,_,rfl,_,_,rfl,rfl,hm0,?_⟩;exact q _ _ (Int.fmod_nonneg_of_pos _ hm) (Int.fmod_lt_of_pos _ hm) (Keep.upd.trans Keep.upd) ⟨_,u,_,by rw [← hs];exact Zj,u0,by omega⟩
abbrev Za0:Stmt:=top 80
theorem Zb6:FnScope ["_law_state_here","_law_many","_law_left","_law_found"] ["_law_state_here","_law_many"] (Zc Za0):=⟨rfl,rfl,rfl,by decide +kernel,rfl,by decide +kernel,by decide +kernel⟩
theorem Zgi {f:Addr} {fd:FuncData} (F:Fun K "_law_order" "_law_order" Za0 f fd) (T:Bt mg) (C__law_choice:a54_ P w K mg base):FnOk P w K mg base CX0 2 f fd ["_law_state_here","_law_many"] Zlf:=by
 refine F.ok Zb6 (fun vs H Q E h=>by obtain ⟨l,n,rfl,_⟩:=h;rfl) fun cdv A outer s H vs Q E hr h=>?_;obtain ⟨l,n,rfl,hl,h60,q⟩:=h;have nd:=Zb6.nd;have hu:=Zs7 hr;have hu1:=Nat.lt_of_succ_lt hu;refine' ⟨_,?term,?read⟩
 case term=>refine' @Zd _ _ _ _ _ ?g1 ?g2;(case g1=>refine' @Zhp _ _ (2) (3) _ _ _ _ _ _ _ _ _ _ _ rfl nd rfl rfl (by decide) rfl rfl ?g3 rfl (by rfl);case g3=>refine' @Za _ _ _ _ _ ?g4 ?g5 rfl;(case g4=>refine' @Yd _ _ _ _ _ _ _ _ _ (Zlx rfl) rfl T.b_list Zsp ?g6 (by decide) (by decide) (by rfl) (by rfl);case g6=>refine' @Za _ _ _ _ _ ?g7 Zb rfl;case g7=>refine' @Ztv _ _ _ _ _ rfl T.b_range (Za (pv 1) Zb rfl) (by rfl));case g5=>refine' @Za _ _ _ _ _ ?g8 Zb rfl;case g8=>refine' @Xl _ _ _ _ Zb);case g2=>refine' @Zd _ _ _ _ _ ?g9 (Zi (Zl (pv 3)));case g9=>refine' @Zds _ _ _ _ _ _ PassesOwn.never ?ga ?gb;(case ga=>refine' @Ye _ _ _ _ _ _ _ _ (Zud hu1) (pv 2) ?gc (Yb _);case gc=>refine' @Xl _ _ _ _ Zb);case gb=>refine' @Zi _ _ _ ?gd;case gd=>refine' @Xe _ _ _ _ ?ge (by rfl);case ge=>refine' @Znc _ _ _ _ _ _ _ _ _ _ _ _ PySem.F.plainAttrs_list PySem.F.slot_list_append PySem.F.type_list_append X4 (pv 3) ?gf (by rfl) (by rfl) (by rfl) (by rfl) (by rfl);case gf=>refine' @Za _ _ _ _ _ ?gg Zb rfl;case gg=>refine' @Znc _ _ _ _ _ _ _ _ _ _ _ _ PySem.F.plainAttrs_list PySem.F.slot_list_pop PySem.F.type_list_pop Zqk (pv 2) ?gh (by rfl) (by rfl) (by rfl) (by rfl) (by rfl);case gh=>refine' @Za _ _ _ _ _ ?gi Zb rfl;case gi=>refine' @Zh _ _ _ _ _ _ _ _ _ _ _ C__law_choice hr (by decide) rfl ?gj (by decide) (by rfl) (by rfl);case gj=>refine' @Za _ _ _ _ _ (pv 0) ?gk rfl;case gk=>refine' @Za _ _ _ _ _ (Zk Zp rfl T.b_len Yv (Za (pv 2) Zb rfl)) Zb rfl
 refine ⟨_,rfl,n,rfl,fun R nR=>?_⟩;refine ⟨R,n,rfl,Zj,by omega,fun L nL=>?_⟩;have s1:Same H (upd H R (.rng 0 n)):=Same.new nR;generalize upd H R (.rng 0 n)=H1 at s1 nL ⊢
 have nL0:H L=none:=by
  cases e:H L with
  | none=>rfl
  | some o=>rw [s1 _ _ e] at nL;cases nL
 generalize gG:upd H1 L (.lst ((List.range n).map fun i:Nat=>V.int i))=H2;obtain ⟨s2,e2⟩:=gen_upd gG nL;refine ⟨z0_,fun F nF=>?_⟩;have s3:Same H2 (upd H2 F (.lst [])):=Same.new nF;have e3:upd H2 F (.lst []) F=some (.lst []):=Zj;have nLF:L≠F:=Zo e2 nF;generalize upd H2 F (.lst [])=H3 at s3 e3 ⊢;have s03:=s1.trans (s2.trans s3)
 have nF0:H F=none:=by
  cases e:H F with
  | none=>rfl
  | some o=>rw [s2 _ _ (s1 _ _ e)] at nF;cases nF
 have nLl:L≠l:=hl.neN nL0;have nFl:F≠l:=hl.neN nF0;refine ⟨_,_,rfl,?_⟩;refine Zdt (fun σ H2=>σ=[some (.ref l),some (.int n),some (.ref L),some (.ref F)]∧Keep l H H2∧StAt H2 l∧∃ xs ys:List Int,H2 L=some (.lst (xs.map V.int))∧H2 F=some (.lst (ys.map V.int))∧(ys++xs).Perm ((List.range n).map fun i:Nat=>(i:Int))) (fun σ H2=>match H2 L with|some (.lst xs)=>xs.length|_=>0) ⟨rfl,s03.keep,hl.same s03,(List.range n).map fun i:Nat=>(i:Int),[],?_,e3,.refl _⟩ ?_ ?_
 · rw [List.map_map];exact s3 _ _ e2
 · rintro σ H4 ⟨rfl,k4,l4,xs,ys,eL,eF,pm⟩
   refine ⟨_,rfl,z0_,fun E nE=>?_⟩;generalize gG:upd H4 E (.lst [])=H5;obtain ⟨s5,e5⟩:=gen_upd gG nE;refine ⟨L,E,_,rfl,rfl,SqL.of (s5 _ _ eL),SqL.of e5,_,rfl,?_⟩;cases xs with
   | nil =>
     refine iteF ?_;refine ⟨_,rfl,q H5 F ys (k4.trans s5.keep) (l4.same s5) nF0 (s5 _ _ eF) ?_⟩
     simpa using pm
   | cons x xs =>
     refine iteT ?_
     have len:ys.length+(x :: xs).length=n:=by
      have:=pm.length_eq
      simpa using this
     have l5:=l4.same s5;refine ⟨_,rfl,.inl ⟨rfl,_,SqL.of (s5 _ _ eF)⟩,_,rfl,.inl ⟨rfl,_,SqL.of (s5 _ _ eL)⟩,_,rfl,_,rfl,L,_,rfl,.inl (SqL.of (s5 _ _ eL)),l,_,rfl,l5,?_,?_,fun r H6 r0 r1 k6 l6=>?_⟩
     · simp
     · rw [List.length_map];refine Y5 ?_;show _<18446744073709551616
       simp at len ⊢;omega
     · rw [List.length_map] at r1;have hr:r.toNat<(x :: xs).length:=by omega
       have eL6:=k6 _ _ nLl (s5 _ _ eL);have eF6:=k6 _ _ nFl (s5 _ _ eF);refine ⟨L,_,r,r.toNat,.int ((x :: xs)[r.toNat]),rfl,rfl,eL6,by omega,?_,seqI r0 (by rw [List.length_map];exact r1),by rw [List.getElem?_map,List.getElem?_eq_getElem hr];rfl,?_⟩
       · have:(n:Int)≤60:=by omega
         have:((x :: xs).length:Int)≤n:=by omega
         omega
       · refine ⟨F,_,_,rfl,rfl,by rw [Zr nLF.symm];exact eF6,?_,?_⟩
         · rw [List.length_map,sizeLine_eq];omega
         · have eL7:∀ o,upd (upd H6 L (.lst (((x :: xs).map V.int).eraseIdx r.toNat))) F o L=some (.lst (((x :: xs).map V.int).eraseIdx r.toNat)):=fun o=>by rw [Zr nLF,Zj]
           refine ⟨⟨rfl,?_,?_,(x :: xs).eraseIdx r.toNat,ys++[(x :: xs)[r.toNat]],?_,?_,?_⟩,?_⟩
           · intro b o nb e;rw [Zr (Zo e nF0),Zr (Zo e nL0)];exact k6 _ _ nb (s5 _ _ (k4 _ _ nb e))
           · obtain ⟨a,b,c,e,r⟩:=l6;exact ⟨a,b,c,by rw [Zr nFl.symm,Zr nLl.symm];exact e,r⟩
           · rw [eL7,Zif]
           · rw [Zj,List.map_append];rfl
           · refine List.Perm.trans ?_ pm;rw [List.append_assoc];refine List.Perm.append_left ys ?_;exact Zf1 _ _ hr
           · rw [eL7,eL];dsimp only;rw [List.length_eraseIdx_of_lt (by rw [List.length_map];exact hr)]
             simp
 · rintro σ H' Q1 Q2 hq ⟨v,e,z,f⟩
   refine ⟨v,e,z,fun p np=>?_⟩;obtain ⟨a,b,xs,e1,e2,h1,h2,k,t,q'⟩:=f p np;exact ⟨a,b,xs,e1,e2,h1,h2,k,t,hq _ _ q'⟩
abbrev Zcw:Stmt:=top 81
theorem Zd8:FnScope ["_law_top","_law_bottom","_law_one","_law_other"] ["_law_top","_law_bottom"] (Zc Zcw):=⟨rfl,rfl,rfl,by decide +kernel,rfl,by decide +kernel,by decide +kernel⟩
theorem Zjo {f:Addr} {fd:FuncData} (F:Fun K "_law_low" "_law_low" Zcw f fd) (T:Bt mg):FnOk P w K mg base CX0 1 f fd ["_law_top","_law_bottom"] Zri:=by
 refine F.ok Zd8 (fun vs H Q E h=>by obtain ⟨t,b,rfl,_⟩:=h;rfl) fun cdv A outer s H vs Q E hr h=>?_;obtain ⟨t,b,rfl,hb,hz,q⟩:=h;have nd:=Zd8.nd;refine' ⟨_,?term,?read⟩
 case term=>refine' @Zd _ _ _ _ _ ?g1 ?g2;(case g1=>refine' @Zhp _ _ (2) (3) _ _ _ _ _ _ _ _ _ _ _ rfl nd rfl rfl (by decide) rfl rfl ?g3 rfl (by rfl);case g3=>refine' @Za _ _ _ _ _ (Zk Zbb rfl T.b_abs Zfx (Za (pv 0) Zb rfl)) ?g4 rfl;case g4=>refine' @Za _ _ _ _ _ (Zk Zbb rfl T.b_abs Zfx (Za (pv 1) Zb rfl)) Zb rfl);case g2=>refine' @Zd _ _ _ _ _ ?g5 ?g6;(case g5=>refine' @Zds _ _ _ _ _ _ PassesOwn.never (Ye Zny (pv 3) Zf (Yb _)) ?g7;case g7=>refine' @Zi _ _ _ ?g8;case g8=>refine' @Zhp _ _ (2) (3) _ _ _ _ _ _ _ _ _ _ _ rfl nd rfl rfl (by decide) rfl rfl ?g9 rfl (by rfl);case g9=>refine' @Za _ _ _ _ _ (pv 3) ?ga rfl;case ga=>refine' @Za _ _ _ _ _ (Zm Za4 (pv 2) (pv 3)) Zb rfl);case g6=>refine' @Zi _ _ _ ?gb;case gb=>refine' @Zl _ _ _ _ ?gc;case gc=>refine' @Z5 _ _ _ _ _ ?gd;case gd=>refine' @Za _ _ _ _ _ ?ge ?gf rfl;(case ge=>refine' @Zkv _ _ _ _ _ _ _ _ (Ye Zny (pv 1) Zf (Yb _)) (Zm Xk (pv 0) (pv 2)) ?gg;case gg=>refine' @Zm _ _ _ _ _ _ _ _ Y1 Zf (Zm Xk (pv 0) (pv 2)));case gf=>refine' @Za _ _ _ _ _ ?gh Zb rfl;case gh=>refine' @Zm _ _ _ _ _ _ _ _ Xk (Zk Zbb rfl T.b_abs Zfx (Za (pv 1) Zb rfl)) (pv 2)
 have hg:=FM.gcd_ne (t:=t) hb;have hgz:(Int.gcd t b)<2^8999:=Nat.lt_of_le_of_lt (Nat.gcd_le_right _ (Int.natAbs_pos.mpr hb)) (Zrl hz);have ab:∀ x:Int,(if x<0 then -x else x)=(x.natAbs:Int):=fun x=>by split<;>omega
 refine ⟨_,rfl,t,rfl,_,rfl,b,rfl,_,_,rfl,?_⟩
 refine Zdt (fun σ H'=>∃ x y:Int,σ=[some (.int t),some (.int b),some (.int x),some (.int y)]∧H'=H∧0≤x∧0≤y∧Int.gcd x y=Int.gcd t b) (fun σ _=>match σ with|[_,_,_,some (.int y)]=>y.natAbs|_=>0)
  ⟨_,_,rfl,rfl,by rw [ab];omega,by rw [ab];omega,by rw [ab,ab];simp [Int.gcd]⟩ ?_ ?_
 · rintro σ H' ⟨x,y,rfl,rfl,hx,hy,e⟩
   refine ⟨_,rfl,_,_,rfl,rfl,_,rfl,?_⟩;refine ite2 (fun hlt=>?_) (fun hlt=>?_)
   · have hy':0<y:=of_decide_eq_true hlt;have hy0:y≠0:=by omega
     refine ⟨_,rfl,_,rfl,_,rfl,x,y,rfl,rfl,hy0,_,_,rfl,⟨y,x.fmod y,rfl,rfl,hy,Int.fmod_nonneg_of_pos _ hy',by rw [FM.gcd_fmod hy0];exact e⟩,FM.fmod_abs_lt hy0⟩
   · have hy':¬ 0<y:=fun z=>hlt (decide_eq_true z);have y0:y=0:=by omega
     subst y0;have x0:x=(Int.gcd t b:Int):=by rw [← e,Int.gcd_zero_right];omega
     subst x0;refine ⟨_,rfl,_,_,rfl,rfl,_,rfl,?_⟩
     have fin:∀ n:Int,n=(if 0<b then t.fdiv (Int.gcd t b:Int) else 0-t.fdiv (Int.gcd t b:Int))→∀ p,H' p=none→Q (.ref p) (upd H' p (.tup [.int n,.int (Int.fdiv (if b<0 then -b else b) (Int.gcd t b:Int))])):=by
      rintro n rfl p hp
      rw [ab,FM.low_num hb,FM.low_den hb];exact q p _ (Same.new hp) Zj
     refine ite2 (fun hlt=>?_) (fun hlt=>?_)
     · have hb':0<b:=of_decide_eq_true hlt;refine ⟨_,rfl,_,rfl,_,_,rfl,rfl,⟨hg,hgz⟩,_,rfl,b,rfl,_,rfl,_,_,rfl,rfl,⟨hg,hgz⟩,z2_,?_⟩;exact fin _ (by rw [if_pos hb'])
     · have hb':¬ 0<b:=fun z=>hlt (decide_eq_true z);refine ⟨_,rfl,_,rfl,_,_,rfl,rfl,⟨hg,hgz⟩,_,_,rfl,rfl,_,rfl,b,rfl,_,rfl,_,_,rfl,rfl,⟨hg,hgz⟩,z2_,?_⟩;exact fin _ (by rw [if_neg hb'])
 · rintro σ H' Q1 Q2 hq ⟨v,e,i,j,e1,e2,k,e3,q'⟩
   exact ⟨v,e,i,j,e1,e2,k,e3,hq _ _ q'⟩
abbrev Zcx:Stmt:=top 82
theorem Zj1:FnScope ["_law_one","_law_other"] ["_law_one","_law_other"] (Zc Zcx):=⟨rfl,rfl,rfl,by decide +kernel,rfl,by decide +kernel,by decide +kernel⟩
theorem Zjj {f:Addr} {fd:FuncData} (F:Fun K "_law_add" "_law_add" Zcx f fd) (T:Bt mg) (C__law_low:a55_ P w K mg base):FnOk P w K mg base CX0 2 f fd ["_law_one","_law_other"] (Zqj (·+·)):=by
 refine F.ok Zj1 (fun vs H Q E h=>by obtain ⟨p,r,x,y,rfl,_⟩:=h;rfl) fun cdv A outer s H vs Q E hr h=>?_;obtain ⟨p,r,x,y,rfl,h1,h2,hx,hy,q⟩:=h;refine' ⟨_,?term,?read⟩
 case term=>refine' @Zi _ _ _ ?g1;case g1=>refine' @Zl _ _ _ _ ?g2;case g2=>refine' @Zh _ _ _ _ _ _ _ _ _ _ _ C__law_low hr (by decide) rfl ?g3 (by decide) (by rfl) (by rfl);case g3=>refine' @Za _ _ _ _ _ ?g4 ?g5 rfl;(case g4=>refine' @Zm _ _ _ _ _ _ _ _ Yw ?g6 ?g7;(case g6=>refine' @Zm _ _ _ _ _ _ _ _ Zs ?g8 ?g9;(case g8=>refine' @Zt _ _ _ _ _ _ _ Zu (pv 0) Zf (fun _ _=>rfl));case g9=>refine' @Zt _ _ _ _ _ _ _ Zu (pv 1) Zf (fun _ _=>rfl));case g7=>refine' @Zm _ _ _ _ _ _ _ _ Zs ?ga ?gb;(case ga=>refine' @Zt _ _ _ _ _ _ _ Zu (pv 1) Zf (fun _ _=>rfl));case gb=>refine' @Zt _ _ _ _ _ _ _ Zu (pv 0) Zf (fun _ _=>rfl));case g5=>refine' @Za _ _ _ _ _ ?gc Zb rfl;case gc=>refine' @Zm _ _ _ _ _ _ _ _ Zs ?gd ?ge;(case gd=>refine' @Zt _ _ _ _ _ _ _ Zu (pv 0) Zf (fun _ _=>rfl));case ge=>refine' @Zt _ _ _ _ _ _ _ Zu (pv 1) Zf (fun _ _=>rfl)
 refine ⟨_,rfl,p,_,0,_,rfl,rfl,SqT.of h1,rfl,_,rfl,r,_,1,_,rfl,rfl,SqT.of h2,rfl,_,_,rfl,rfl,mND hx hy,_,rfl,r,_,0,_,rfl,rfl,SqT.of h2,rfl,_,rfl,p,_,1,_,rfl,rfl,SqT.of h1,rfl,_,_,rfl,rfl,mND hy hx,_,_,rfl,rfl,_,rfl,p,_,1,_,rfl,rfl,SqT.of h1,rfl,_,rfl,r,_,1,_,rfl,rfl,SqT.of h2,rfl,_,_,rfl,rfl,mDD hx hy,_,_,rfl,FM.mul_ne,Zub hx hy,?_⟩;rw [FM.add_eq];exact q
abbrev Zcr:Stmt:=top 83
theorem Zj6:FnScope ["_law_one","_law_other"] ["_law_one","_law_other"] (Zc Zcr):=⟨rfl,rfl,rfl,by decide +kernel,rfl,by decide +kernel,by decide +kernel⟩
theorem Zjd {f:Addr} {fd:FuncData} (F:Fun K "_law_mul" "_law_mul" Zcr f fd) (T:Bt mg) (C__law_low:a55_ P w K mg base):FnOk P w K mg base CX0 2 f fd ["_law_one","_law_other"] (Zqj (·*·)):=by
 refine F.ok Zj6 (fun vs H Q E h=>by obtain ⟨p,r,x,y,rfl,_⟩:=h;rfl) fun cdv A outer s H vs Q E hr h=>?_;obtain ⟨p,r,x,y,rfl,h1,h2,hx,hy,q⟩:=h;refine' ⟨_,?term,?read⟩
 case term=>refine' @Zi _ _ _ ?g1;case g1=>refine' @Zl _ _ _ _ ?g2;case g2=>refine' @Zh _ _ _ _ _ _ _ _ _ _ _ C__law_low hr (by decide) rfl ?g3 (by decide) (by rfl) (by rfl);case g3=>refine' @Za _ _ _ _ _ ?g4 ?g5 rfl;(case g4=>refine' @Zm _ _ _ _ _ _ _ _ Zs ?g6 ?g7;(case g6=>refine' @Zt _ _ _ _ _ _ _ Zu (pv 0) Zf (fun _ _=>rfl));case g7=>refine' @Zt _ _ _ _ _ _ _ Zu (pv 1) Zf (fun _ _=>rfl));case g5=>refine' @Za _ _ _ _ _ ?g8 Zb rfl;case g8=>refine' @Zm _ _ _ _ _ _ _ _ Zs ?g9 ?ga;(case g9=>refine' @Zt _ _ _ _ _ _ _ Zu (pv 0) Zf (fun _ _=>rfl));case ga=>refine' @Zt _ _ _ _ _ _ _ Zu (pv 1) Zf (fun _ _=>rfl)
 refine ⟨_,rfl,p,_,0,_,rfl,rfl,SqT.of h1,rfl,_,rfl,r,_,0,_,rfl,rfl,SqT.of h2,rfl,_,_,rfl,rfl,mNN hx hy,_,rfl,p,_,1,_,rfl,rfl,SqT.of h1,rfl,_,rfl,r,_,1,_,rfl,rfl,SqT.of h2,rfl,_,_,rfl,rfl,mDD hx hy,_,_,rfl,FM.mul_ne,Zub hx hy,?_⟩;rw [FM.mul_eq];exact q
abbrev Zaw:Stmt:=top 84
theorem Zcg:FnScope ["_law_some","_law_found","_law_one"] ["_law_some"] (Zc Zaw):=⟨rfl,rfl,rfl,by decide +kernel,rfl,by decide +kernel,by decide +kernel⟩
theorem Zg3 {f:Addr} {fd:FuncData} (F:Fun K "_law_total" "_law_total" Zaw f fd) (T:Bt mg) (C__law_add:a56_ P w K mg base):FnOk P w K mg base CX0 3 f fd ["_law_some"] Zm1:=by
 refine F.ok Zcg (fun vs H Q E h=>by obtain ⟨a,us,qs,M,j,rfl,_⟩:=h;rfl) fun cdv A outer s H vs Q E hr h=>?_;obtain ⟨a,us,qs,M,j,rfl,ha,al,m0,m1,hF,hj,q⟩:=h;have nd:=Zcg.nd;refine' ⟨_,?term,?read⟩
 case term=>refine' @Zd _ _ _ _ _ ?g1 ?g2;(case g1=>refine' @Zz _ _ (1) _ _ _ _ nd rfl (Or.inl rfl) ?g3 (by rfl) (by first|exact Or.inl rfl|exact Or.inr rfl|assumption);case g3=>refine' @Z5 _ _ _ _ _ ?g4;case g4=>refine' @Za _ _ _ _ _ Zf (Za Zf Zb rfl) rfl);case g2=>refine' @Zd _ _ _ _ _ ?g5 (Zi (Zl (pv 1)));case g5=>refine' @Zbf _ _ _ _ _ _ _ _ PassesOwn.never rfl (Y8 (pv 0)) (Ze (i:=2) nd rfl (Or.inl rfl)) ?g6 (by intro _ ;rfl);case g6=>refine' @Zi _ _ _ ?g7;case g7=>refine' @Zz _ _ (1) _ _ _ _ nd rfl (Or.inl rfl) ?g8 (by rfl) (by first|exact Or.inl rfl|exact Or.inr rfl|assumption);case g8=>refine' @Zh _ _ _ _ _ _ _ _ _ _ _ C__law_add hr (by decide) rfl ?g9 (by decide) (by rfl) (by rfl);case g9=>refine' @Za _ _ _ _ _ (pv 1) (Za (pv 2) Zb rfl) rfl
 have hl:=al.1;refine ⟨z2_,fun z nz=>?_⟩;have s1:Same H (upd H z (.tup [.int 0,.int 1])):=Same.new nz;have e1:upd H z (.tup [.int 0,.int 1]) z=some (.tup (rt 0)):=Zj;generalize upd H z (.tup [.int 0,.int 1])=H1 at s1 e1 ⊢;refine ⟨_,rfl,a,rfl,⟨_,SqL.of (s1 _ _ ha)⟩,?_⟩;refine Zab (n:=qs.length) (fun i σ H2=>Same H H2∧∃ v x,σ=[some (.ref a),some v,x]∧IsQ H2 v (qs.take i).sum) ⟨s1,_,_,rfl,z,rfl,e1⟩ (fun i σ H2 hi p=>⟨us,us[i]'(by omega),SqL.of (p.1 _ _ ha),List.getElem?_eq_getElem (by omega)⟩) (fun σ H2 p=>⟨us,SqL.of (p.1 _ _ ha),by omega⟩) (fun i x σ H2 H3 hi y p=>?_) (fun σ H2 p=>?_)
 · obtain ⟨s2,v,x',rfl,p,rfl,hp⟩:=p;obtain ⟨rfl,y2⟩:=y;obtain ⟨g,eg,r,rfl,hr'⟩:=al.get (y2 us (SqL.of (s2 _ _ ha)));have hg:=(hF g (List.mem_of_getElem? eg)).B (k:=1900) m0 m1 (by omega);have ht:=(Fz.sum (qs.take i) fun x hx=>hF x (List.mem_of_mem_take hx)).B (k:=1900) m0 m1 (by rw [List.length_take];omega);refine ⟨_,rfl,_,rfl,p,r,_,g,rfl,hp,s2 _ _ hr',ht.mono (by decide),hg.mono (by decide),fun w H4 s4 hw=>?_⟩;refine ⟨s2.trans s4,_,_,rfl,w,rfl,?_⟩;rw [hw,Zpn eg]
 · obtain ⟨s2,v,x',rfl,hv⟩:=p;rw [List.take_of_length_le (Nat.le_refl _)] at hv;exact ⟨_,rfl,q _ _ s2 hv⟩
abbrev Zco:Stmt:=top 85
theorem Zki:FnScope ["_law_row_here","_law_other"] ["_law_row_here","_law_other"] (Zc Zco):=⟨rfl,rfl,rfl,by decide +kernel,rfl,by decide +kernel,by decide +kernel⟩
theorem Zjc {f:Addr} {fd:FuncData} (F:Fun K "_law_dot" "_law_dot" Zco f fd) (T:Bt mg) (C__law_mul:a57_ P w K mg base) (C__law_total:a58_ P w K mg base):FnOk P w K mg base CX0 4 f fd ["_law_row_here","_law_other"] Zov:=by
 refine F.ok Zki (fun vs H Q E h=>by obtain ⟨v,w,xs,ys,M,N,j,k,rfl,_⟩:=h;rfl) fun cdv A outer s H vs Q E hr h=>?_;obtain ⟨v,w,xs,ys,M,N,j,k,rfl,⟨a,us,rfl,ha,al⟩,⟨b,ws,rfl,hb,bl⟩,x100,m0,n0,m1,n1,hx,hy,j8,k8,q⟩:=h;refine' ⟨_,?term,?read⟩
 case term=>refine' @Zi _ _ _ ?g1;case g1=>refine' @Zl _ _ _ _ ?g2;case g2=>refine' @Zh _ _ _ _ _ _ _ _ _ _ _ C__law_total hr (by decide) rfl ?g3 (by decide) (by rfl) (by rfl);case g3=>refine' @Za _ _ _ _ _ ?g4 Zb rfl;case g4=>refine' @Yp _ _ _ _ _ _ _ (["_law_one","_law_its"]) ([none,none]) _ _ ((gTup K 2 (Yi (Z8 0) (Yi (Z8 1) gNil)))) _ _ rfl (Z0 (by decide) rfl (by decide) rfl rfl) ?g5 (fun _ _ _ _=>(Zy (n:=2) rfl (Zg (Ze (i:=0) (show List.Nodup [("_law_one" : Str),("_law_its" : Str)] by decide) rfl (Or.inl rfl) (Or.inr rfl)) (Zg (Ze (i:=1) (show List.Nodup [("_law_one" : Str),("_law_its" : Str)] by decide) rfl (Or.inl rfl) (Or.inr rfl)) Zq)))) (fun _ _ _ _=>Zn) (fun _ _ _ _=>(Zh C__law_mul hr (by decide) rfl (Za (pv 0) (Za (pv 1) Zb rfl) rfl))) (by intro _ ;rfl);case g5=>refine' @Zb1 _ _ _ _ .t .t _ _ _ _ _ rfl T.b_zip ?g6 (by rfl) (by rfl);case g6=>refine' @Za _ _ _ _ _ (pv 0) (Za (pv 1) Zb rfl) rfl
 have hl:=al.1;have hl':=bl.1;refine ⟨_,rfl,_,rfl,a,b,rfl,⟨_,SqT.of ha⟩,⟨_,SqT.of hb⟩,fun D nD=>?_⟩;refine lc_Z (k:=.t) (l:=.t) (vs:=us) (ws:=ws) IsQ hRQ (List.zipWith (·*·) xs ys) (by simp [hl,hl']) (by omega) nD ha hb (fun i v w H2 C hv hw s2 c=>?_) (fun H2 us' s2 e2 a2=>?_)
 · obtain ⟨x,ex,px,rfl,h1⟩:=al.get hv;obtain ⟨y,ey,py,rfl,h2⟩:=bl.get hw;exact ⟨_,rfl,_,rfl,px,py,x,y,rfl,s2 _ _ h1,s2 _ _ h2,((hx x (List.mem_of_getElem? ex)).B m0 (up 1990 m1) (by omega)),((hy y (List.mem_of_getElem? ey)).B n0 (up 1990 n1) (by omega)),fun z H3 s3 hz=>c _ _ _ s3 (by rw [List.getElem?_zipWith,ex,ey]) ⟨z,rfl,hz⟩⟩
 · refine ⟨D,us',_,M*N,j+k,rfl,e2,a2,Int.mul_ne_zero m0 n0,up 1900 (FM.natAbs_mul_lt m1 n1),fun x hx'=>?_,?_,fun H3 v s3 hv=>q _ _ (s2.trans s3) hv⟩
   · obtain ⟨i,hi,e⟩:=List.getElem_of_mem hx';rw [List.getElem_zipWith] at e;rw [← e];exact (hx _ (List.getElem_mem _)).mul2 (hy _ (List.getElem_mem _))
   · rw [List.length_zipWith];omega
abbrev Xu:Stmt:=top 86
theorem Zap:FnScope ["_law_state_here","_law_top","_law_way"] ["_law_state_here"] (Zc Xu):=⟨rfl,rfl,rfl,by decide +kernel,rfl,by decide +kernel,by decide +kernel⟩
theorem Zdn {f:Addr} {fd:FuncData} (F:Fun K "_law_fraction" "_law_fraction" Xu f fd) (T:Bt mg) (C__law_choice:a54_ P w K mg base) (C__law_low:a55_ P w K mg base):FnOk P w K mg base CX0 2 f fd ["_law_state_here"] (Zhv 60):=by
 refine F.ok Zap (fun vs H Q E h=>by obtain ⟨l,rfl,_⟩:=h;rfl) fun cdv A outer s H vs Q E hr h=>?_;obtain ⟨l,rfl,hl,q⟩:=h;have nd:=Zap.nd;refine' ⟨_,?term,?read⟩
 case term=>refine' @Zd _ _ _ _ _ ?g1 ?g2;(case g1=>refine' @Zz _ _ (1) _ _ _ _ nd rfl (Or.inl rfl) ?g3 (by rfl) (by first|exact Or.inl rfl|exact Or.inr rfl|assumption);case g3=>refine' @Zm _ _ _ _ _ _ _ _ Y1 ?g4 Zf;case g4=>refine' @Zh _ _ _ _ _ _ _ _ _ _ _ C__law_choice hr (by decide) rfl ?g5 (by decide) (by rfl) (by rfl);case g5=>refine' @Za _ _ _ _ _ (pv 0) (Za Zf Zb rfl) rfl);case g2=>refine' @Zd _ _ _ _ _ ?g6 ?g7;(case g6=>refine' @Zz _ _ (2) _ _ _ _ nd rfl (Or.inl rfl) ?g8 (by rfl) (by first|exact Or.inl rfl|exact Or.inr rfl|assumption);case g8=>refine' @Zh _ _ _ _ _ _ _ _ _ _ _ C__law_choice hr (by decide) rfl ?g9 (by decide) (by rfl) (by rfl);case g9=>refine' @Za _ _ _ _ _ (pv 0) (Za Zf Zb rfl) rfl);case g7=>refine' @Zd _ _ _ _ _ ?ga ?gb;(case ga=>refine' @Xc _ _ _ _ _ _ _ _ (Ye Zmi (pv 2) Zf (Yb _)) ?gc Z2;case gc=>refine' @Zi _ _ _ ?gd;case gd=>refine' @Zl _ _ _ _ ?ge;case ge=>refine' @Zt _ _ _ _ _ _ _ Yl ?gf (pv 2) (fun _ _=>rfl);case gf=>refine' @Xl _ _ _ _ ?gg;case gg=>refine' @Za _ _ _ _ _ ?gh ?gi rfl;(case gh=>refine' @Z5 _ _ _ _ _ ?gj;case gj=>refine' @Za _ _ _ _ _ Zf (Za Zf Zb rfl) rfl);case gi=>refine' @Za _ _ _ _ _ ?gk ?gl rfl;(case gk=>refine' @Z5 _ _ _ _ _ ?gm;case gm=>refine' @Za _ _ _ _ _ Zf (Za Zf Zb rfl) rfl);case gl=>refine' @Za _ _ _ _ _ ?gn Zb rfl;case gn=>refine' @Z5 _ _ _ _ _ ?go;case go=>refine' @Za _ _ _ _ _ (pv 1) (Za Zf Zb rfl) rfl);case gb=>refine' @Zi _ _ _ ?gp;case gp=>refine' @Zl _ _ _ _ ?gq;case gq=>refine' @Zh _ _ _ _ _ _ _ _ _ _ _ C__law_low hr (by decide) rfl ?gr (by decide) (by rfl) (by rfl);case gr=>refine' @Za _ _ _ _ _ ?gs ?gt rfl;(case gs=>refine' @Zm _ _ _ _ _ _ _ _ Zs (pv 1) ?gu;case gu=>refine' @Zt _ _ _ _ _ _ _ Yl ?gv ?gw (fun _ _=>rfl);(case gv=>refine' @Xl _ _ _ _ ?gx;case gx=>refine' @Za _ _ _ _ _ Zf ?gy rfl;case gy=>refine' @Za _ _ _ _ _ ?gz Zb rfl;case gz=>refine' @Zm _ _ _ _ _ _ _ _ Yw (Zm Zoy Zf Zf) Zf);case gw=>refine' @Yd _ _ _ _ _ _ _ _ _ Zo8 rfl T.b_int Zqw ?g10 (by decide) (by decide) (by rfl) (by rfl);case g10=>refine' @Za _ _ _ _ _ ?g11 Zb rfl;case g11=>refine' @Zam _ _ _ _ _ _ _ _ Zm4 ?g12 Zf (Yb _);case g12=>refine' @Zh _ _ _ _ _ _ _ _ _ _ _ C__law_choice hr (by decide) rfl ?g13 (by decide) (by rfl) (by rfl);case g13=>refine' @Za _ _ _ _ _ (pv 0) (Za Zf Zb rfl) rfl);case gt=>refine' @Za _ _ _ _ _ ?g14 Zb rfl;case g14=>refine' @Zm _ _ _ _ _ _ _ _ Yw Zf ?g15;case g15=>refine' @Zh _ _ _ _ _ _ _ _ _ _ _ C__law_choice hr (by decide) rfl ?g16 (by decide) (by rfl) (by rfl);case g16=>refine' @Za _ _ _ _ _ (pv 0) (Za Zf Zb rfl) rfl
 refine ⟨_,rfl,l,19,rfl,hl,by decide,Y5 (by decide),fun r1 H1 a1 b1 k1 l1=>?_⟩;refine ⟨_,_,rfl,rfl,?_⟩;refine ⟨_,rfl,l,5,rfl,l1,by decide,Y5 (by decide),fun r2 H2 a2 b2 k2 l2=>?_⟩;refine ⟨_,rfl,_,_,rfl,rfl,_,rfl,?_⟩;have k12:=k1.trans k2;refine ite2 (fun hlt=>?_) (fun hlt=>?_)
 · have hlt':r2<3:=of_decide_eq_true hlt;refine ⟨z2_,?_⟩;intro p3 n3;generalize hH3:upd H2 p3 _=H3;have S3:Same H2 H3:=by (rw [← hH3];exact Same.new n3)
   have A3:=(congrFun hH3 p3).symm;rw [Zj] at A3;refine ⟨z2_,?_⟩;intro p4 n4;generalize hH4:upd H3 p4 _=H4;have S4:Same H3 H4:=by (rw [← hH4];exact Same.new n4)
   have A4:=(congrFun hH4 p4).symm;rw [Zj] at A4;refine ⟨_,rfl,z2_,?_⟩;intro p5 n5;generalize hH5:upd H4 p5 _=H5;have S5:Same H4 H5:=by (rw [← hH5];exact Same.new n5)
   have A5:=(congrFun hH5 p5).symm;rw [Zj] at A5;refine ⟨z3_,?_⟩;intro p6 n6;generalize hH6:upd H5 p6 _=H6;have S6:Same H5 H6:=by (rw [← hH6];exact Same.new n6)
   have A6:=(congrFun hH6 p6).symm;rw [Zj] at A6;refine ⟨_,rfl,?_⟩;have hk:Keep l H H6:=k12.trans (((S3.trans S4).trans (S5.trans S6)).keep);have l6:StAt H6 l:=l2.same ((S3.trans S4).trans (S5.trans S6));have B3:=S6 _ _ (S5 _ _ (S4 _ _ A3));have B4:=S6 _ _ (S5 _ _ A4);have B5:=S6 _ _ A5;have hr2:r2=0∨r2=1∨r2=2:=by omega
   have w1:=FM.whole (r1-9)
   rcases hr2 with rfl|rfl|rfl
   · exact ⟨p6,_,0,_,rfl,rfl,SqL.of A6,rfl,q _ p3 0 hk l6 B3 ⟨⟨by decide,by decide⟩,by decide⟩⟩
   · exact ⟨p6,_,1,_,rfl,rfl,SqL.of A6,rfl,q _ p4 1 hk l6 B4 ⟨⟨by decide,by decide⟩,by decide⟩⟩
   · refine ⟨p6,_,2,_,rfl,rfl,SqL.of A6,rfl,q _ p5 (Rat.divInt (r1-9) 1) hk l6 (by rw [rt,w1.1,w1.2];exact B5) ⟨⟨?_,?_⟩,Zti _ (by decide) (by decide)⟩⟩
     · rw [w1.1];show _<1152921504606846976;omega
     · have:=w1.2;show _<1152921504606846976;omega
 · refine ⟨_,rfl,?_⟩;refine ⟨_,_,rfl,rfl,⟨by decide,by decide,by decide⟩,_,_,rfl,rfl,z2_,?_⟩;intro p3 n3;generalize hH3:upd H2 p3 _=H3;have S3:Same H2 H3:=by (rw [← hH3];exact Same.new n3)
   have A3:=(congrFun hH3 p3).symm;rw [Zj] at A3;refine ⟨_,rfl,l,9,rfl,l2.same S3,by decide,Y5 (by decide),fun r4 H4 a4 b4 k4 l4=>?_⟩;refine ⟨rfl,.inr ⟨_,rfl,?_⟩⟩;have B3:=k4 _ _ (fun z=>l2.ne n3 z.symm) A3;have hk4:Keep l H H4:=k12.trans (S3.keep.trans k4)
   by_cases h0:V.int r4=V.int 0
   · rw [decide_eq_true h0];refine ⟨p3,_,_,_,rfl,rfl,SqL.of B3,rfl,?_⟩;have hz:(10^Int.toNat 12+7:Int).natAbs≤1000000000007:=by decide
     refine ⟨_,_,rfl,rfl,mulS (by rw [p64];omega) (by decide),?_⟩;refine ⟨_,rfl,l,6,rfl,l4,by decide,Y5 (by decide),fun r5 H5 a5 b5 k5 l5=>⟨_,_,rfl,rfl,_,_,rfl,by omega,Y5 (by rw [p64];omega),fun p H6 s6 at6=>?_⟩⟩;refine q _ p _ (hk4.trans (k5.trans s6.keep)) (l5.same s6) at6 ⟨FM.B_divInt (by omega) ?_ ?_,Zti _ (by omega) (by omega)⟩
     · rw [Int.natAbs_mul];have h9:(r1-9).natAbs≤9:=by omega
       have:=Nat.mul_le_mul h9 hz
       show _<1152921504606846976
       omega
     · show _<1152921504606846976
       omega
   · rw [decide_eq_false h0];refine ⟨p3,_,_,_,rfl,rfl,SqL.of B3,rfl,?_⟩;have hz:(1:Int).natAbs≤1000000000007:=by decide
     refine ⟨_,_,rfl,rfl,mulS (by rw [p64];omega) (by decide),?_⟩;refine ⟨_,rfl,l,6,rfl,l4,by decide,Y5 (by decide),fun r5 H5 a5 b5 k5 l5=>⟨_,_,rfl,rfl,_,_,rfl,by omega,Y5 (by rw [p64];omega),fun p H6 s6 at6=>?_⟩⟩;refine q _ p _ (hk4.trans (k5.trans s6.keep)) (l5.same s6) at6 ⟨FM.B_divInt (by omega) ?_ ?_,Zti _ (by omega) (by omega)⟩
     · rw [Int.natAbs_mul];have h9:(r1-9).natAbs≤9:=by omega
       have:=Nat.mul_le_mul h9 hz
       show _<1152921504606846976
       omega
     · show _<1152921504606846976
       omega
abbrev Zaf:Stmt:=top 87
theorem Zbl:FnScope ["_law_one","_law_two","_law_hub","_law_hinge","_law_apart","_law_strip","_law_cross","_law_chain"] [] (Zc Zaf):=⟨rfl,rfl,rfl,by decide +kernel,rfl,by decide +kernel,by decide +kernel⟩
theorem Ze6 {f:Addr} {fd:FuncData} (F:Fun K "_law_shapes" "_law_shapes" Zaf f fd) (T:Bt mg):FnOk P w K mg base CX0 1 f fd [] Zh7:=by
 refine F.ok Zbl (fun vs H Q E h=>by obtain ⟨rfl,_⟩:=h;rfl) fun cdv A outer s H vs Q E hr h=>?_;obtain ⟨rfl,q⟩:=h;have nd:=Zbl.nd;refine' ⟨_,?term,?read⟩
 case term=>refine' @Zd _ _ _ _ _ ?g1 ?g2;(case g1=>refine' @Zz _ _ (0) _ _ _ _ nd rfl (Or.inl rfl) ?g3 (by rfl) (by first|exact Or.inl rfl|exact Or.inr rfl|assumption);case g3=>refine' @X0 _ _ (([(0,0),(2,0),(0,3)],[[0,1,2]])) rfl);case g2=>refine' @Zd _ _ _ _ _ ?g4 ?g5;(case g4=>refine' @Zz _ _ (1) _ _ _ _ nd rfl (Or.inl rfl) ?g6 (by rfl) (by first|exact Or.inl rfl|exact Or.inr rfl|assumption);case g6=>refine' @X0 _ _ (([(0,0),(3,0),(3,2),(0,2)],[[0,1,2],[0,2,3]])) rfl);case g5=>refine' @Zd _ _ _ _ _ ?g7 ?g8;(case g7=>refine' @Zz _ _ (2) _ _ _ _ nd rfl (Or.inl rfl) ?g9 (by rfl) (by first|exact Or.inl rfl|exact Or.inr rfl|assumption);case g9=>refine' @X0 _ _ (([(0,0),(6,0),(0,6),(2,1)],[[0,1,3],[0,2,3],[1,2,3]])) rfl);case g8=>refine' @Zd _ _ _ _ _ ?ga ?gb;(case ga=>refine' @Zz _ _ (3) _ _ _ _ nd rfl (Or.inl rfl) ?gc (by rfl) (by first|exact Or.inl rfl|exact Or.inr rfl|assumption);case gc=>refine' @X0 _ _ (([(0,0),(2,1),(2,-1),(-2,1),(-3,-1)],[[0,1,2],[0,3,4]])) rfl);case gb=>refine' @Zd _ _ _ _ _ ?gd ?ge;(case gd=>refine' @Zz _ _ (4) _ _ _ _ nd rfl (Or.inl rfl) ?gf (by rfl) (by first|exact Or.inl rfl|exact Or.inr rfl|assumption);case gf=>refine' @X0 _ _ (([(0,0),(2,0),(0,2),(4,0),(6,1),(4,3)],[[0,1,2],[3,4,5]])) rfl);case ge=>refine' @Zd _ _ _ _ _ ?gg ?gh;(case gg=>refine' @Zz _ _ (5) _ _ _ _ nd rfl (Or.inl rfl) ?gi (by rfl) (by first|exact Or.inl rfl|exact Or.inr rfl|assumption);case gi=>refine' @X0 _ _ (([(0,0),(0,2),(2,0),(3,2),(5,0)],[[0,1,2],[1,2,3],[2,3,4]])) rfl);case gh=>refine' @Zd _ _ _ _ _ ?gj ?gk;(case gj=>refine' @Zz _ _ (6) _ _ _ _ nd rfl (Or.inl rfl) ?gl (by rfl) (by first|exact Or.inl rfl|exact Or.inr rfl|assumption);case gl=>refine' @X0 _ _ (([(0,0),(2,0),(0,3),(-2,0),(0,-1)],[[0,1,2],[0,2,3],[0,3,4],[0,1,4]])) rfl);case gk=>refine' @Zd _ _ _ _ _ ?gm ?gn;(case gm=>refine' @Zz _ _ (7) _ _ _ _ nd rfl (Or.inl rfl) ?go (by rfl) (by first|exact Or.inl rfl|exact Or.inr rfl|assumption);case go=>refine' @X0 _ _ (([(0,0),(1,2),(2,0),(3,2),(4,0),(5,3)],[[0,1,2],[2,3,4],[3,4,5]])) rfl);case gn=>refine' @Zi _ _ _ ?gp;case gp=>refine' @Zl _ _ _ _ ?gq;case gq=>refine' @Xl _ _ _ _ ?gr;case gr=>refine' @Za _ _ _ _ _ (pv 0) ?gs rfl;case gs=>refine' @Za _ _ _ _ _ (pv 1) ?gt rfl;case gt=>refine' @Za _ _ _ _ _ (pv 3) ?gu rfl;case gu=>refine' @Za _ _ _ _ _ (pv 4) ?gv rfl;case gv=>refine' @Za _ _ _ _ _ (pv 2) ?gw rfl;case gw=>refine' @Za _ _ _ _ _ (pv 5) ?gx rfl;case gx=>refine' @Za _ _ _ _ _ (pv 7) (Za (pv 6) Zb rfl) rfl
 intro H1 v_one s1 h_one;intro H2 v_two s2 h_two;intro H3 v_hub s3 h_hub;intro H4 v_hinge s4 h_hinge;intro H5 v_apart s5 h_apart;intro H6 v_strip s6 h_strip;intro H7 v_cross s7 h_cross;intro H8 v_chain s8 h_chain;replace h_one:=h_one.tk s2.tk;replace h_one:=h_one.tk s3.tk;replace h_one:=h_one.tk s4.tk;replace h_one:=h_one.tk s5.tk;replace h_one:=h_one.tk s6.tk;replace h_one:=h_one.tk s7.tk;replace h_one:=h_one.tk s8.tk;replace h_two:=h_two.tk s3.tk;replace h_two:=h_two.tk s4.tk;replace h_two:=h_two.tk s5.tk;replace h_two:=h_two.tk s6.tk;replace h_two:=h_two.tk s7.tk;replace h_two:=h_two.tk s8.tk;replace h_hub:=h_hub.tk s4.tk;replace h_hub:=h_hub.tk s5.tk;replace h_hub:=h_hub.tk s6.tk;replace h_hub:=h_hub.tk s7.tk;replace h_hub:=h_hub.tk s8.tk;replace h_hinge:=h_hinge.tk s5.tk;replace h_hinge:=h_hinge.tk s6.tk;replace h_hinge:=h_hinge.tk s7.tk;replace h_hinge:=h_hinge.tk s8.tk;replace h_apart:=h_apart.tk s6.tk;replace h_apart:=h_apart.tk s7.tk;replace h_apart:=h_apart.tk s8.tk;replace h_strip:=h_strip.tk s7.tk;replace h_strip:=h_strip.tk s8.tk;replace h_cross:=h_cross.tk s8.tk;refine ⟨_,rfl,_,rfl,_,rfl,_,rfl,_,rfl,_,rfl,_,rfl,_,rfl,by show 8≤sizeLine;decide,fun r nr=>?_⟩;have s9:Same H8 (upd H8 r (.lst [v_one,v_two,v_hinge,v_apart,v_hub,v_strip,v_chain,v_cross])):=Same.new nr;have s08:=(((((((s1.trans s2).trans s3).trans s4).trans s5).trans s6).trans s7).trans s8);refine q _ r _ (s08.trans s9) ?_ Zj ?_
 · cases e:H r with
   | none=>rfl
   | some o=>rw [s08 _ _ e] at nr;cases nr
 · exact (.cons (h_one.tk s9.tk) (.cons (h_two.tk s9.tk) (.cons (h_hinge.tk s9.tk) (.cons (h_apart.tk s9.tk) (.cons (h_hub.tk s9.tk) (.cons (h_strip.tk s9.tk) (.cons (h_chain.tk s9.tk) (.cons (h_cross.tk s9.tk) .nil))))))))
abbrev Y6:Stmt:=top 88
theorem Zce:FnScope ["_law_state_here","_law_most","_law_points","_law_pieces","_law_a","_law_b","_law_c","_law_d","_law_s","_law_t","_law_order_here","_law_corners","_law_at","_law_x","_law_y","_law_rows","_law_thicks"] ["_law_state_here","_law_most"] (Zc Y6):=⟨rfl,rfl,rfl,by decide +kernel,rfl,by decide +kernel,by decide +kernel⟩
theorem Zgp {f:Addr} {fd:FuncData} (F:Fun K "_law_plate" "_law_plate" Y6 f fd) (T:Bt mg) (C__law_choice:a54_ P w K mg base) (C__law_order:a59_ P w K mg base) (C__law_shapes:a60_ P w K mg base):FnOk P w K mg base CX0 3 f fd ["_law_state_here","_law_most"] Zld:=by
 refine F.ok Zce (fun vs H Q E h=>by obtain ⟨l,rfl,_⟩:=h;rfl) fun cdv A outer s H vs Q E hr h=>?_;obtain ⟨l,rfl,hl,q'⟩:=h;have nd:=Zce.nd;refine' ⟨_,?term,?read⟩
 case term=>refine' @Zd _ _ _ _ _ ?g1 ?g2;(case g1=>refine' @Yt _ _ _ _ _ _ ?g3 ?g4 (by rfl) (by rfl) (by rfl);(case g3=>refine' @Zt _ _ _ _ _ _ _ Yl ?g5 ?g6 (fun _ _=>rfl);(case g5=>refine' @Zsf _ _ _ _ _ _ _ C__law_shapes hr (by decide) rfl (by decide));case g6=>refine' @Zh _ _ _ _ _ _ _ _ _ _ _ C__law_choice hr (by decide) rfl ?g7 (by decide) (by rfl) (by rfl);case g7=>refine' @Za _ _ _ _ _ (pv 0) (Za (pv 1) Zb rfl) rfl);case g4=>refine' @Zy _ _ _ _ _ (2) rfl ?g8 (by rfl) (by rfl);case g8=>refine' @Zg _ _ _ _ _ (Ze (i:=2) nd rfl (Or.inl rfl)) (Zg (Ze (i:=3) nd rfl (Or.inl rfl)) Zq) (by rfl));case g2=>refine' @Zd _ _ _ _ _ ?g9 ?ga;(case g9=>refine' @Zjk _ _ (4) (5) (6) _ _ _ _ _ _ _ _ _ _ _ _ _ _ rfl nd rfl rfl rfl (by decide) (by decide) (by decide) rfl rfl rfl ?gb rfl (by rfl);case gb=>refine' @Za _ _ _ _ _ ?gc ?gd rfl;(case gc=>refine' @Zm _ _ _ _ _ _ _ _ Yw Zf ?ge;case ge=>refine' @Zh _ _ _ _ _ _ _ _ _ _ _ C__law_choice hr (by decide) rfl ?gf (by decide) (by rfl) (by rfl);case gf=>refine' @Za _ _ _ _ _ (pv 0) (Za Zf Zb rfl) rfl);case gd=>refine' @Za _ _ _ _ _ ?gg ?gh rfl;(case gg=>refine' @Zm _ _ _ _ _ _ _ _ Y1 ?gi Zf;case gi=>refine' @Zh _ _ _ _ _ _ _ _ _ _ _ C__law_choice hr (by decide) rfl ?gj (by decide) (by rfl) (by rfl);case gj=>refine' @Za _ _ _ _ _ (pv 0) (Za Zf Zb rfl) rfl);case gh=>refine' @Za _ _ _ _ _ ?gk Zb rfl;case gk=>refine' @Zm _ _ _ _ _ _ _ _ Y1 ?gl Zf;case gl=>refine' @Zh _ _ _ _ _ _ _ _ _ _ _ C__law_choice hr (by decide) rfl ?gm (by decide) (by rfl) (by rfl);case gm=>refine' @Za _ _ _ _ _ (pv 0) (Za Zf Zb rfl) rfl);case ga=>refine' @Zd _ _ _ _ _ ?gn ?go;(case gn=>refine' @Zjk _ _ (7) (8) (9) _ _ _ _ _ _ _ _ _ _ _ _ _ _ rfl nd rfl rfl rfl (by decide) (by decide) (by decide) rfl rfl rfl ?gp rfl (by rfl);case gp=>refine' @Za _ _ _ _ _ ?gq ?gr rfl;(case gq=>refine' @Zm _ _ _ _ _ _ _ _ Y1 ?gs Zf;case gs=>refine' @Zh _ _ _ _ _ _ _ _ _ _ _ C__law_choice hr (by decide) rfl ?gt (by decide) (by rfl) (by rfl);case gt=>refine' @Za _ _ _ _ _ (pv 0) (Za Zf Zb rfl) rfl);case gr=>refine' @Za _ _ _ _ _ ?gu ?gv rfl;(case gu=>refine' @Zm _ _ _ _ _ _ _ _ Y1 ?gw Zf;case gw=>refine' @Zh _ _ _ _ _ _ _ _ _ _ _ C__law_choice hr (by decide) rfl ?gx (by decide) (by rfl) (by rfl);case gx=>refine' @Za _ _ _ _ _ (pv 0) (Za Zf Zb rfl) rfl);case gv=>refine' @Za _ _ _ _ _ ?gy Zb rfl;case gy=>refine' @Zm _ _ _ _ _ _ _ _ Y1 ?gz Zf;case gz=>refine' @Zh _ _ _ _ _ _ _ _ _ _ _ C__law_choice hr (by decide) rfl ?g10 (by decide) (by rfl) (by rfl);case g10=>refine' @Za _ _ _ _ _ (pv 0) (Za Zf Zb rfl) rfl);case go=>refine' @Zd _ _ _ _ _ ?g11 ?g12;(case g11=>refine' @Xc _ _ _ _ _ _ _ _ ?g13 ?g14 Z2;(case g13=>refine' @Ye _ _ _ _ _ _ _ _ Zm4 (Zm Zs (pv 4) (pv 7)) (Zm Zs (pv 5) (pv 6)) (Yb _));case g14=>refine' @Zi _ _ _ ?g15;case g15=>refine' @Yt _ _ _ _ _ _ ?g16 ?g17 (by rfl) (by rfl) (by rfl);(case g16=>refine' @Z5 _ _ _ _ _ ?g18;case g18=>refine' @Za _ _ _ _ _ Zf ?g19 rfl;case g19=>refine' @Za _ _ _ _ _ (pv 5) ?g1a rfl;case g1a=>refine' @Za _ _ _ _ _ Zf (Za Zf Zb rfl) rfl);case g17=>refine' @Zy _ _ _ _ _ (4) rfl ?g1b (by rfl) (by rfl);case g1b=>refine' @Zg _ _ _ _ _ (Ze (i:=4) nd rfl (Or.inl rfl)) ?g1c (by rfl);case g1c=>refine' @Zg _ _ _ _ _ (Ze (i:=5) nd rfl (Or.inl rfl)) ?g1d (by rfl);case g1d=>refine' @Zg _ _ _ _ _ (Ze (i:=6) nd rfl (Or.inl rfl)) (Zg (Ze (i:=7) nd rfl (Or.inl rfl)) Zq) (by rfl));case g12=>refine' @Zd _ _ _ _ _ ?g1e ?g1f;(case g1e=>refine' @Zz _ _ (10) _ _ _ _ nd rfl (Or.inr rfl) ?g1g (by rfl) (by first|exact Or.inl rfl|exact Or.inr rfl|assumption);case g1g=>refine' @Zh _ _ _ _ _ _ _ _ _ _ _ C__law_order hr (by decide) rfl ?g1h (by decide) (by rfl) (by rfl);case g1h=>refine' @Za _ _ _ _ _ (pv 0) ?g1i rfl;case g1i=>refine' @Za _ _ _ _ _ (Zk Zp rfl T.b_len Yv (Za (pv 2) Zb rfl)) Zb rfl);case g1f=>refine' @Zd _ _ _ _ _ ?g1j ?g1k;(case g1j=>refine' @Zz _ _ (11) _ _ _ _ nd rfl (Or.inl rfl) ?g1l (by rfl) (by first|exact Or.inl rfl|exact Or.inr rfl|assumption);case g1l=>refine' @Zm _ _ _ _ _ _ _ _ Zna ?g1m (Zk Zp rfl T.b_len Yv (Za (pv 2) Zb rfl));case g1m=>refine' @Xl _ _ _ _ ?g1n;case g1n=>refine' @Za _ _ _ _ _ ?g1o Zb rfl;case g1o=>refine' @Z5 _ _ _ _ _ ?g1p;case g1p=>refine' @Za _ _ _ _ _ Zf (Za Zf Zb rfl) rfl);case g1k=>refine' @Zd _ _ _ _ _ ?g1q ?g1r;(case g1q=>refine' @Zbf _ _ _ _ _ _ _ _ PassesOwn.never rfl ?g1s ?g1t ?g1u (by intro _ ;rfl);(case g1s=>refine' @Zer _ _ _ _ .t _ _ _ _ rfl T.b_enumerate (Za (pv 2) Zb rfl) (by rfl));(case g1t=>refine' @Zy _ _ _ _ _ (2) rfl ?g1v (by rfl) (by rfl);case g1v=>refine' @Zg _ _ _ _ _ (Ze (i:=12) nd rfl (Or.inl rfl)) ?g1w (by rfl);case g1w=>refine' @Zg _ _ _ _ _ ?g1x Zq (by rfl);case g1x=>refine' @Zy _ _ _ _ _ (2) rfl ?g1y (by rfl) (by rfl);case g1y=>refine' @Zg _ _ _ _ _ (Ze (i:=13) nd rfl (Or.inl rfl)) (Zg (Ze (i:=14) nd rfl (Or.inl rfl)) Zq) (by rfl));case g1u=>refine' @Zi _ _ _ ?g1z;case g1z=>refine' @Yt _ _ _ _ _ _ ?g20 ?g21 (by rfl) (by rfl) (by rfl);(case g20=>refine' @Z5 _ _ _ _ _ ?g22;case g22=>refine' @Za _ _ _ _ _ ?g23 ?g24 rfl;(case g23=>refine' @Zm _ _ _ _ _ _ _ _ Yw ?g25 (pv 8);case g25=>refine' @Zm _ _ _ _ _ _ _ _ Yw (Zm Zs (pv 4) (pv 13)) (Zm Zs (pv 5) (pv 14)));case g24=>refine' @Za _ _ _ _ _ ?g26 Zb rfl;case g26=>refine' @Zm _ _ _ _ _ _ _ _ Yw ?g27 (pv 9);case g27=>refine' @Zm _ _ _ _ _ _ _ _ Yw (Zm Zs (pv 6) (pv 13)) (Zm Zs (pv 7) (pv 14)));case g21=>refine' @Zk4 _ _ _ _ _ _ _ (pv 11) ?g28 Zdx (by intro _ ;rfl);case g28=>refine' @Zt _ _ _ _ _ _ _ Yl (pv 10) (pv 12) (fun _ _=>rfl));case g1r=>refine' @Zd _ _ _ _ _ ?g29 ?g2a;(case g29=>refine' @Zz _ _ (15) _ _ _ _ nd rfl (Or.inl rfl) ?g2b (by rfl) (by first|exact Or.inl rfl|exact Or.inr rfl|assumption);case g2b=>refine' @Zk _ _ _ _ _ _ _ _ _ Zh6 rfl T.b_sorted Zit ?g2c (by decide) (by decide) (by rfl) (by rfl);case g2c=>refine' @Za _ _ _ _ _ ?g2d Zb rfl;case g2d=>refine' @Yp _ _ _ _ _ _ _ (["_law_piece","_law_order_here"]) ([none,some 10]) _ _ _ _ _ rfl (Z3 (XN:=[("_law_state_here" : Str),("_law_most" : Str),("_law_points" : Str),("_law_pieces" : Str),("_law_a" : Str),("_law_b" : Str),("_law_c" : Str),("_law_d" : Str),("_law_s" : Str),("_law_t" : Str),("_law_order_here" : Str),("_law_corners" : Str),("_law_at" : Str),("_law_x" : Str),("_law_y" : Str),("_law_rows" : Str),("_law_thicks" : Str)]) (Scope.names (Zc Y6)) rfl rfl rfl (fun _ h=>Zv h) (by decide +kernel) rfl) (Yu (pv 3)) (fun _ _ _ _=>(Ze (i:=0) (show List.Nodup [("_law_piece" : Str),("_law_order_here" : Str)] by decide) rfl (Or.inl rfl) (Or.inr rfl))) (fun _ _ _ _=>Zn) (fun _ _ _ _=>(Yd (Zfe K rfl) rfl T.b_tuple Yk (Za (Zk (Zg0 K rfl) rfl T.b_sorted Zit (Za (Yp (N:=["_law_at","_law_order_here"]) (fr:=[none,some 1]) rfl (Z3 (XN:=[("_law_piece" : Str),("_law_order_here" : Str)]) (relN _ (Scope.names (Zc Y6))) rfl rfl rfl (fun _ h=>Znb (by decide +kernel) h) (by decide +kernel) rfl) (Znx K rfl (pv 0)) (fun _ _ _ _=>(Ze (i:=0) (show List.Nodup [("_law_at" : Str),("_law_order_here" : Str)] by decide) rfl (Or.inl rfl) (Or.inr rfl))) (fun _ _ _ _=>Zn) (fun _ _ _ _=>(Zt (Zf6 K rfl) (pv 1) (pv 0) (fun _ _=>rfl)))) Zb rfl)) Zb rfl))) (by intro _ ;rfl));case g2a=>refine' @Zd _ _ _ _ _ ?g2e ?g2f;(case g2e=>refine' @Zz _ _ (16) _ _ _ _ nd rfl (Or.inl rfl) ?g2g (by rfl) (by first|exact Or.inl rfl|exact Or.inr rfl|assumption);case g2g=>refine' @Yd _ _ _ _ _ _ _ _ _ Z1 rfl T.b_tuple Yk ?g2h (by decide) (by decide) (by rfl) (by rfl);case g2h=>refine' @Za _ _ _ _ _ ?g2i Zb rfl;case g2i=>refine' @Yp _ _ _ _ _ _ _ (["_law_row_here","_law_state_here"]) ([none,some 0]) _ _ _ _ _ rfl (Z3 (XN:=[("_law_state_here" : Str),("_law_most" : Str),("_law_points" : Str),("_law_pieces" : Str),("_law_a" : Str),("_law_b" : Str),("_law_c" : Str),("_law_d" : Str),("_law_s" : Str),("_law_t" : Str),("_law_order_here" : Str),("_law_corners" : Str),("_law_at" : Str),("_law_x" : Str),("_law_y" : Str),("_law_rows" : Str),("_law_thicks" : Str)]) (Scope.names (Zc Y6)) rfl rfl rfl (fun _ h=>Zv h) (by decide +kernel) rfl) (Y8 (pv 15)) (fun _ _ _ _=>(Ze (i:=0) (show List.Nodup [("_law_row_here" : Str),("_law_state_here" : Str)] by decide) rfl (Or.inl rfl) (Or.inr rfl))) (fun _ _ _ _=>Zn) (fun _ _ _ _=>(Zm Yw Zf (Zh C__law_choice hr (by decide) rfl (Za (pv 1) (Za (Zt (Zf6 K rfl) (Xl (Za Zf (Za Zf Zb rfl) rfl)) (Zh C__law_choice hr (by decide) rfl (Za (pv 1) (Za Zf Zb rfl) rfl)) (fun _ _=>rfl)) Zb rfl) rfl)))) (by intro _ ;rfl));case g2f=>refine' @Zi _ _ _ ?g2j;case g2j=>refine' @Zl _ _ _ _ ?g2k;case g2k=>refine' @Z5 _ _ _ _ _ ?g2l;case g2l=>refine' @Za _ _ _ _ _ (Yd Z1 rfl T.b_tuple Yk (Za (pv 11) Zb rfl)) ?g2m rfl;case g2m=>refine' @Za _ _ _ _ _ (Yd Z1 rfl T.b_tuple Yk (Za (pv 15) Zb rfl)) ?g2n rfl;case g2n=>refine' @Za _ _ _ _ _ (pv 16) ?g2o rfl;case g2o=>refine' @Za _ _ _ _ _ ?g2p Zb rfl;case g2p=>refine' @Z5 _ _ _ _ _ ?g2q;case g2q=>refine' @Za _ _ _ _ _ ?g2r ?g2s rfl;(case g2r=>refine' @Zh _ _ _ _ _ _ _ _ _ _ _ C__law_choice hr (by decide) rfl ?g2t (by decide) (by rfl) (by rfl);case g2t=>refine' @Za _ _ _ _ _ (pv 0) (Za Zf Zb rfl) rfl);case g2s=>refine' @Za _ _ _ _ _ ?g2u Zb rfl;case g2u=>refine' @Zm _ _ _ _ _ _ _ _ Yw Zf ?g2v;case g2v=>refine' @Zh _ _ _ _ _ _ _ _ _ _ _ C__law_choice hr (by decide) rfl ?g2w (by decide) (by rfl) (by rfl);case g2w=>refine' @Za _ _ _ _ _ (pv 0) (Za Zf Zb rfl) rfl
 refine ⟨rfl,fun H0 R us0 s0 nR eR al0=>?_⟩;have nRl:R≠l:=hl.neN nR;refine ⟨_,rfl,_,rfl,l,8,rfl,hl.same s0,by decide,Y5 (by decide),fun r0 H1 r00 r01 k1 l1=>?_⟩;have al1:Al (IsSh H1) us0 Zd6:=al0.imp fun v x r=>r.tk (tkS k1 (hl.same s0));obtain ⟨u,sh,eu,hsh,msh⟩:=Zp4 al1 r00 r01;have B:=Zmg msh;obtain ⟨pts,pcs⟩:=sh;obtain ⟨a0,c,p,rfl,ha0,hc0,hp0⟩:=hsh;obtain ⟨c,cvs,rfl,hc7,cal⟩:=hc0;obtain ⟨p,pvs,rfl,hp7,pal⟩:=hp0;replace cal:Al (IsP H1) cvs pts:=cal;replace pal:Al (IsI H1) pvs pcs:=pal;replace B:Base pts pcs:=B;have n6:pts.length≤6:=B.n6;have clen:=cal.1;refine ⟨R,us0,_,_,rfl,rfl,SqL.of (k1 _ _ nRl eR),eu,?_⟩;refine ⟨a0,_,rfl,SqT.of ha0,rfl,_,_,rfl,_,_,rfl,rfl,?_⟩;refine ⟨_,rfl,l,3,rfl,l1,by decide,Y5 (by decide),fun r1 H2 r10 r11 k2 l2=>⟨_,_,rfl,rfl,?_⟩⟩;refine ⟨_,rfl,l,5,rfl,l2,by decide,Y5 (by decide),fun r2 H3 r20 r21 k3 l3=>⟨_,_,rfl,rfl,?_⟩⟩;refine ⟨_,rfl,l,5,rfl,l3,by decide,Y5 (by decide),fun r3 H4 r30 r31 k4 l4=>⟨_,_,rfl,rfl,?_⟩⟩;refine ⟨_,_,_,rfl,?_⟩;refine ⟨_,rfl,l,7,rfl,l4,by decide,Y5 (by decide),fun r4 H5 r40 r41 k5 l5=>⟨_,_,rfl,rfl,?_⟩⟩;refine ⟨_,rfl,l,41,rfl,l5,by decide,Y5 (by decide),fun r5 H6 r50 r51 k6 l6=>⟨_,_,rfl,rfl,?_⟩⟩;refine ⟨_,rfl,l,9,rfl,l6,by decide,Y5 (by decide),fun r6 H7 r60 r61 k7 l7=>⟨_,_,rfl,rfl,?_⟩⟩;refine ⟨_,_,_,rfl,?_⟩;have k17:=k2.trans (k3.trans (k4.trans (k5.trans (k6.trans k7))));have t7:Tk H1 H7:=tkS k17 l1;have kk:Keep l H H7:=s0.keep.trans (k1.trans k17);dsimp only;refine Zvr (R:=fun σ Hn=>∃ A:Aff,σ=[some (.ref l),some (.int 8),some (.ref c),some (.ref p),some (.int A.a),some (.int A.b),some (.int A.c),some (.int A.d),some (.int A.s),some (.int A.t),none,none,none,none,none,none,none]∧A.det≠0∧Small A∧Same H7 Hn) ?_ ?_ ?_ ?_ ?_
 · refine ⟨_,rfl,_,rfl,_,_,rfl,rfl,mul4 (by omega) (by omega),_,rfl,_,rfl,_,_,rfl,rfl,mul4 (by omega) (by omega),rfl,_,rfl,?_⟩;refine ite2 (fun hd=>?_) (fun hd=>?_)
   · refine ⟨_,rfl,z4_,fun Z nZ=>?_⟩;exact ⟨Z,_,rfl,SqT.of Zj,rfl,_,_,rfl,_,_,rfl,_,_,rfl,_,_,rfl,rfl,Aff.mk 1 (r2-2) 0 1 (r5-20) (r6-4),rfl,by show (1:Int)*1-(r2-2)*0≠0;omega,⟨by show (1:Int).natAbs≤3;decide,by show (r2-2).natAbs≤3;omega,by show (0:Int).natAbs≤3;decide,by show (1:Int).natAbs≤3;decide,by show (r5-20).natAbs≤20;omega,by show (r6-4).natAbs≤20;omega⟩,Same.new nZ⟩
   · refine ⟨Aff.mk (1+r1) (r2-2) (r3-2) (r4-3) (r5-20) (r6-4),rfl,fun z=>?_,⟨by show (1+r1).natAbs≤3;omega,by show (r2-2).natAbs≤3;omega,by show (r3-2).natAbs≤3;omega,by show (r4-3).natAbs≤3;omega,by show (r5-20).natAbs≤20;omega,by show (r6-4).natAbs≤20;omega⟩,Same.refl _⟩;refine hd (decide_eq_true (congrArg V.int ?_));have z':(1+r1)*(r4-3)-(r2-2)*(r3-2)=0:=z;omega
 · rintro Q1 Q2 hq ⟨v1,e1,v2,e2,i1,j1,f1,f2,m1,v3,e3,v4,e4,i2,j2,f3,f4,m2,f5,k,f6,q6⟩
   exact ⟨v1,e1,v2,e2,i1,j1,f1,f2,m1,v3,e3,v4,e4,i2,j2,f3,f4,m2,f5,k,f6,hq _ _ q6⟩
 · rintro key H1' ⟨v1,e1,z1,f1⟩
   refine ⟨v1,e1,z1,fun Z nZ=>?_⟩;obtain ⟨b1,xs1,g1,g2,g3,x1,y1,g4,x2,y2,g5,x3,y3,g6,x4,y4,g7,g8,q8⟩:=f1 Z nZ;exact ⟨b1,xs1,g1,g2,g3,x1,y1,g4,x2,y2,g5,x3,y3,g6,x4,y4,g7,g8,key _ _ q8⟩
 · exact fun key H1' r=>key _ _ r
 rintro σ H7n ⟨A,rfl,hdet,W,s7n⟩
 replace t7:=t7.trans s7n.tk;replace kk:=kk.trans s7n.keep;replace l7:=l7.same s7n;clear k1 k2 k3 k4 k5 k6 k7 k17;have Wa:=W.a;have Wb:=W.b;have Wc:=W.c;have Wd:=W.d;obtain ⟨Aa,Ab,Ac,Ad,As,At⟩:=A;replace Wa:Aa.natAbs≤1000:=Nat.le_trans Wa (by decide);replace Wb:Ab.natAbs≤1000:=Nat.le_trans Wb (by decide);replace Wc:Ac.natAbs≤1000:=Nat.le_trans Wc (by decide);replace Wd:Ad.natAbs≤1000:=Nat.le_trans Wd (by decide);refine ⟨_,rfl,_,rfl,c,cvs,rfl,.inr (SqT.of (t7 _ _ hc7)),l,cvs.length,rfl,l7,by omega,fun H8 O o k8 l8 nO eO pm=>?_⟩;rw [cal.1] at pm;have CO:=Zt6 pm;have t8:Tk H1 H8:=t7.trans (tkS k8 l7);refine ⟨z2_,fun z nz=>?_⟩;generalize gG:upd H8 z (.tup [.int 0,.int 0])=H9;obtain ⟨s9,e9⟩:=gen_upd gG nz;refine ⟨z1_,fun y ny=>?_⟩;generalize gG:upd H9 y (.lst [.ref z])=H10;obtain ⟨s10,e10⟩:=gen_upd gG ny;have t10:Tk H1 H10:=t8.trans (s9.trans s10).tk;refine ⟨_,rfl,c,cvs,rfl,.inr (SqT.of (t10 _ _ hc7)),y,cvs.length,_,rfl,rfl,e10,by omega,by omega,by simp;rw [sizeLine_eq];omega,fun C nC=>?_⟩;rw [Int.toNat_natCast,Zdw];have s11:Same H10 (upd H10 C (.lst (List.replicate cvs.length (.ref z)))):=Same.new nC;have e11:upd H10 C (.lst (List.replicate cvs.length (.ref z))) C=some (.lst (List.replicate cvs.length (.ref z))):=Zj;have nCl:C≠l:=(l8.same (s9.trans s10)).neN nC;generalize upd H10 C (.lst (List.replicate cvs.length (.ref z)))=H11 at s11 e11 ⊢;have s811:=s9.trans (s10.trans s11);have t11:Tk H1 H11:=t8.trans s811.tk;have l11:=l8.same s811;have k11:Keep l H H11:=(kk.trans k8).trans s811.keep;have eO11:=s811 _ _ eO;have nOC:O≠C:=Zo (s9.trans s10 _ _ eO) nC
 have nC0:H C=none:=by
  cases e:H C with
  | none=>rfl
  | some ob =>
    have:=(kk.trans k8).trans (s9.trans s10).keep _ _ nCl e
    rw [this] at nC;cases nC
 refine ⟨_,rfl,c,rfl,⟨_,SqT.of (t11 _ _ hc7)⟩,?_⟩;refine Zab (n:=pts.length) (fun i σ H2=>Keep C H11 H2∧(∃ x1 x2 x3,σ=[some (.ref l),some (.int 8),some (.ref c),some (.ref p),some (.int Aa),some (.int Ab),some (.int Ac),some (.int Ad),some (.int As),some (.int At),some (.ref O),some (.ref C),x1,x2,x3,none,none])∧∃ us cs,H2 C=some (.lst us)∧Al (IsP H2) us cs∧cs.length=pts.length∧∀ j:Nat,j<i→cs[(o.getD j 0).toNat]? = some ((Aff.mk Aa Ab Ac Ad As At).at (pts.getD j (0,0)))) ⟨Keep.refl _ _,⟨_,_,_,rfl⟩,_,List.replicate cvs.length (0,0),e11,Zrq ⟨z,rfl,s11 _ _ (s10 _ _ e9)⟩ _,by simp [cal.1],fun j hj=>absurd hj (Nat.not_lt_zero _)⟩ (fun i σ H2 hi p=>?_) (fun σ H2 p=>?_) (fun i x σ H2 H3 hi y p=>?_) (fun σ H2 p=>?_)
 · have t2:Tk H11 H2:=Tk.of_keep p.1 e11;exact ⟨cvs,cvs[i]'(by rw [cal.1];exact hi),SqT.of (t2 _ _ (t11 _ _ hc7)),List.getElem?_eq_getElem _⟩
 · have t2:Tk H11 H2:=Tk.of_keep p.1 e11;exact ⟨cvs,SqT.of (t2 _ _ (t11 _ _ hc7)),cal.1⟩
 · obtain ⟨k2,⟨x1,x2,x3,rfl⟩,us,cs,eC,alc,lc,hc⟩:=p;obtain ⟨g,x,rfl,ng,rfl,y1⟩:=y;have t2:Tk H11 H2:=Tk.of_keep k2 e11;have ex:=y1 cvs (SqT.of (t2 _ _ (t11 _ _ hc7)));obtain ⟨pt,ept,b,rfl,hb⟩:=cal.get ex;have hpt:=Zp6 (B.bd pt (List.mem_of_getElem? ept));generalize gG:upd H2 g (.tup [.int i,.ref b])=H3;obtain ⟨sg,eg⟩:=gen_upd gG ng;have hb3:=sg _ _ (t2 _ _ (t11 _ _ hb));refine ⟨g,_,rfl,SqT.of eg,rfl,_,_,rfl,_,_,rfl,⟨b,_,rfl,SqT.of hb3,rfl,_,_,rfl,_,_,rfl,rfl,rfl,?_⟩⟩;refine ⟨_,rfl,_,rfl,_,_,rfl,rfl,mul4 Wa hpt.1,_,rfl,_,rfl,_,_,rfl,rfl,mul4 Wb hpt.2,_,_,rfl,rfl,_,rfl,_,_,rfl,rfl,?_⟩;refine ⟨_,rfl,_,rfl,_,_,rfl,rfl,mul4 Wc hpt.1,_,rfl,_,rfl,_,_,rfl,rfl,mul4 Wd hpt.2,_,_,rfl,rfl,_,rfl,_,_,rfl,rfl,?_⟩;refine ⟨z2_,fun w nw=>?_⟩;generalize hH4:upd H3 w _=H4;have sw:Same H3 H4:=by (rw [← hH4];exact Same.new nw)
   have ew0:=(congrFun hH4 w).symm;rw [Zj] at ew0;have ew:H4 w=some (.tup [.int (Aa*pt.1+Ab*pt.2+As),.int (Ac*pt.1+Ad*pt.2+At)]):=ew0;clear ew0 hH4;have s24:=sg.trans sw;have eO4:H4 O=some (.lst (o.map V.int)):=s24 _ _ (k2 _ _ nOC eO11);have bo:=CO.bd i hi;have eC4:=s24 _ _ eC;refine ⟨_,rfl,_,rfl,_,rfl,O,_,(i:Int),_,rfl,rfl,SqL.of eO4,o_at CO (Int.natCast_nonneg i) (Int.ofNat_lt.mpr hi),?_⟩;have ulen:us.length=pts.length:=by rw [alc.1,lc]
   refine ⟨C,us,_,(o.getD i 0).toNat,rfl,rfl,eC4,Zrf bo.1 (by rw [ulen];exact bo.2),?_⟩;have tC:Tk H4 (upd H4 C (.lst (us.set (o.getD i 0).toNat (.ref w)))):=Tk.upd_lst eC4;refine ⟨fun b' o' nb e=>?_,⟨_,_,_,rfl⟩,_,cs.set (o.getD i 0).toNat ((Aff.mk Aa Ab Ac Ad As At).at pt),Zj,?_,by simp [lc],fun j hj=>?_⟩
   · rw [Zr nb];exact s24 _ _ (k2 _ _ nb e)
   · exact Zvx (alc.imp fun v x r=>r.tk (s24.tk.trans tC)) _ ⟨w,rfl,tC _ _ ew⟩
   · rw [List.getElem?_set]
     by_cases hji:j=i
     · subst hji;rw [if_pos rfl,if_pos (by rw [lc];omega),List.getD_eq_getElem?_getD (l:=pts),ept];rfl
     · rw [if_neg (fun z=>hji (CO.inj j i (by omega) hi (by have b2:=CO.bd j (by omega);omega)))];exact hc j (by omega)
 · obtain ⟨k2,⟨x1,x2,x3,rfl⟩,us,cs,eC,alc,lc,hc⟩:=p;have t2:Tk H11 H2:=Tk.of_keep k2 e11;have t12:=t11.trans t2;have eO2:=k2 _ _ nOC eO11
   have l2:StAt H2 l:=by
    obtain ⟨a',b',c',e,r⟩:=l11;exact ⟨a',b',c',k2 _ _ nCl.symm e,r⟩
   have k02:Keep l H H2:=fun b' o' nb e=>k2 _ _ (Zo e nC0) (k11 _ _ nb e);have hp2:=t12 _ _ hp7;refine ⟨_,rfl,p,rfl,⟨_,SqT.of hp2⟩,fun D nD=>?_⟩;refine lc_T (k:=.t) (vs:=pvs) (fun H v pc=>∃ r,IsI H v r∧(r.Perm (pc.map (oAt o))∧r.Pairwise (·≤·))) (fun H1 H2 v x t r=>let ⟨r',i,j⟩:=r;⟨r',i.tk t,j⟩) pcs (by rw [pal.1]) (by rw [pal.1];have:=B.p4;omega) nD hp2 (fun i w H4 C' hw s4 c'=>?_) (fun H4 vs s4 e4 a4=>?_)
   · obtain ⟨pc,epc,b,rfl,hb⟩:=pal.get hw;have hb4:=s4 _ _ (t12 _ _ hb);obtain ⟨i1,j1,k1,rfl,bi,bj,bk,_⟩:=Zrc (B.pc _ (List.mem_of_getElem? epc));refine ⟨_,rfl,b,rfl,⟨_,SqT.of hb4⟩,fun E nE=>?_⟩;refine lc_T (k:=.t) (vs:=[i1,j1,k1].map V.int) RI hRI ([i1,j1,k1].map (oAt o)) (by simp) (by simp) nE hb4 (fun n x H6 C6 hx s6 c6=>?_) (fun H6 us6 s6 e6 a6=>?_)
     · rw [List.getElem?_map] at hx;obtain ⟨y,ey,rfl⟩:=Option.map_eq_some_iff.mp hx
       have by':0≤y∧y<(pts.length:Int):=by
        have:=List.mem_of_getElem? ey
        simp only [List.mem_cons,List.not_mem_nil,or_false] at this
        rcases this with rfl|rfl|rfl<;>assumption
       exact ⟨_,rfl,_,rfl,O,_,y,_,rfl,rfl,SqL.of (s6 _ _ (s4 _ _ eO2)),o_at CO by'.1 by'.2,c6 _ _ _ (Same.refl _) (by rw [List.getElem?_map,ey];rfl) rfl⟩
     · rw [a6.ints] at e6;refine ⟨E,_,rfl,SqL.of e6,by simp,fun L ns' nL pm' so'=>?_⟩;have s7:Same H6 (upd H6 L (.lst (ns'.map V.int))):=Same.new nL;have e7:upd H6 L (.lst (ns'.map V.int)) L=some (.lst (ns'.map V.int)):=Zj;generalize upd H6 L (.lst (ns'.map V.int))=H7' at s7 e7 ⊢;refine ⟨L,_,rfl,.inl ⟨SqL.of e7,fun T' nT=>?_⟩⟩;exact c' _ _ [i1,j1,k1] (s6.trans (s7.trans (Same.new nT))) epc ⟨ns',⟨T',rfl,Zj⟩,pm',so'⟩
   · obtain ⟨kl,klen,kal,kT⟩:=Zo2 a4;have DR:∀ q:List Nat,q.Perm (List.range pcs.length)→Drawn pts pcs (Aff.mk Aa Ab Ac Ad As At) o cs kl q:=fun q hq=>⟨B,hdet,W,CO,lc,hc,klen,fun i hi=>kT i hi,hq⟩;have D0:=DR _ (List.Perm.refl _);have p4:=B.p4;refine ⟨D,vs,kl,3,rfl,SqL.of e4,kal.1,fun i v hv=>?_,D0.knd,by rw [klen];exact p4,fun k hk=>?_,by decide,fun L q nL qp rise=>?_⟩
     · obtain ⟨k,ek,b,rfl,hb⟩:=kal.get hv;exact ⟨b,k,rfl,ek,SqT.of hb⟩
     · obtain ⟨n,hn,rfl⟩:=List.getElem_of_mem hk;rw [klen] at hn;obtain ⟨_,_,_,x,y,z,_,e,_⟩:=D0.piece hn
       have:kl[n]=[x,y,z]:=by rw [← e,List.getD_eq_getElem?_getD,List.getElem?_eq_getElem (by rw [klen];exact hn)];rfl
       rw [this];rfl
     · rw [klen] at qp;have D1:=DR q qp;have s5:Same H4 (upd H4 L (.lst (q.map fun i=>vs.getD i .non))):=Same.new nL;have e5:upd H4 L (.lst (q.map fun i=>vs.getD i .non)) L=some (.lst (q.map fun i=>vs.getD i .non)):=Zj;have nLl:L≠l:=(l2.same s4).neN nL;generalize upd H4 L (.lst (q.map fun i=>vs.getD i .non))=H5 at s5 e5 ⊢;have s25:=s4.trans s5;have l5:=l2.same s25;have k05:=k02.trans s25.keep;have qlen:q.length=pcs.length:=by rw [qp.length_eq,List.length_range]
       refine ⟨_,rfl,L,rfl,⟨_,SqL.of e5⟩,fun E nE=>?_⟩;refine Zj0 (n:=pcs.length) (l:=l) (fun H v (x:Int)=>v=.int x∧1≤x∧x≤9) (fun _ _ _ _ _ r=>r) (by omega) (fun σ=>∃ u,σ=[u,some (.ref l)]) ⟨_,rfl⟩ nE l5 (fun i H6 k6 hi=>⟨_,_,SqL.of (k6 _ _ nLl e5),List.getElem?_eq_getElem (by simp [qlen];exact hi)⟩) (fun H6 k6=>⟨_,SqL.of (k6 _ _ nLl e5),by simp [qlen]⟩) (fun i x σ2 H6 H7' C' hi k6 l6 y o' c'=>?_) (fun H6 ts ys k6 l6 e6 hy a6=>?_)
       · obtain ⟨u,rfl⟩:=o';obtain ⟨rfl,y2⟩:=y;refine ⟨_,rfl,z2_,fun W' nW=>?_⟩;have s8':Same H7' (upd H7' W' (.lst [.int 9,.int 2])):=Same.new nW;have e8':upd H7' W' (.lst [.int 9,.int 2]) W'=some (.lst [.int 9,.int 2]):=Zj;have nWl:W'≠l:=l6.neN nW;generalize upd H7' W' (.lst [.int 9,.int 2])=H8' at s8' e8' ⊢;refine ⟨_,rfl,l,2,rfl,l6.same s8',by decide,Y5 (by decide),fun r9 H9' r90 r91 k9 l9=>?_⟩;have hr9:r9=0∨r9=1:=by omega
         have fin:∀ m:Int,0<m→m≤9→Zet [.ref l,.int m] H9' (fun v H=>∃ i j,V.int 1=.int i∧v=.int j∧C' [some x,some (.ref l)] (.int (i+j)) H) E0:=fun m m0 m9=>⟨l,m,rfl,l9,m0,Y5 (by show _<18446744073709551616;omega),fun r10 H10' ra rb k10 l10=>⟨_,_,rfl,rfl,c' _ _ _ _ ⟨_,rfl⟩ (s8'.keep.trans (k9.trans k10)) l10 ⟨rfl,by omega,by omega⟩⟩⟩
         rcases hr9 with rfl|rfl
         · exact ⟨W',_,_,_,rfl,rfl,SqL.of (k9 _ _ nWl e8'),rfl,fin 9 (by decide) (by decide)⟩
         · exact ⟨W',_,_,_,rfl,rfl,SqL.of (k9 _ _ nWl e8'),rfl,fin 2 (by decide) (by decide)⟩
       · have ets:ts=ys.map V.int:=by
          refine (Al.ints (ns:=ys) ?_);exact a6.imp fun v x r=>r.1
         refine ⟨E,ts,rfl,.inl ⟨SqL.of e6,fun T' nT=>?_⟩⟩;have s7:Same H6 (upd H6 T' (.tup ts)):=Same.new nT;have e7:upd H6 T' (.tup ts) T'=some (.tup (ys.map V.int)):=by rw [Zj,ets]
         generalize upd H6 T' (.tup ts)=H7' at s7 e7 ⊢;have t57:Tk H5 H7':=(tkS k6 l5).trans s7.tk;have t27:Tk H2 H7':=s25.tk.trans t57;have k07:=k05.trans (k6.trans s7.keep);have l7':=l6.same s7;have nDl:C≠l:=nCl;have eC7:H7' C=some (.lst us):=s7 _ _ (k6 _ _ nCl (s25 _ _ eC));have eL7:H7' L=some (.lst (q.map fun i=>vs.getD i .non)):=s7 _ _ (k6 _ _ nLl e5);refine ⟨_,rfl,C,us,rfl,.inl ⟨SqL.of eC7,fun T1 n1=>?_⟩⟩;generalize gG:upd H7' T1 (.tup us)=G1;obtain ⟨u1,f1⟩:=gen_upd gG n1;refine ⟨_,rfl,L,_,rfl,.inl ⟨SqL.of (u1 _ _ eL7),fun T2 n2=>?_⟩⟩;generalize gG:upd G1 T2 (.tup (q.map fun i=>vs.getD i .non))=G2;obtain ⟨u2,f2⟩:=gen_upd gG n2;have u02:=u1.trans u2;refine ⟨_,rfl,_,rfl,l,10,rfl,l7'.same u02,by decide,Y5 (by decide),fun rl G3 rl0 rl1 k3' l3'=>?_⟩;refine ⟨_,rfl,l,9,rfl,l3',by decide,Y5 (by decide),fun rm G4 rm0 rm1 k4' l4'=>⟨_,_,rfl,rfl,z2_,fun T4 n4=>?_⟩⟩;generalize gG:upd G4 T4 (.tup [.int rl,.int (1+rm)])=G5;obtain ⟨u5,f5⟩:=gen_upd gG n4;refine ⟨z4_,fun T5 n5=>?_⟩;have u6:Same G5 (upd G5 T5 (.tup [.ref T1,.ref T2,.ref T',.ref T4])):=Same.new n5;have w24:Tk G2 G4:=(tkS k3' (l7'.same u02)).trans (tkS k4' l3');have w26:Tk G2 (upd G5 T5 (.tup [.ref T1,.ref T2,.ref T',.ref T4])):=w24.trans (u5.trans u6).tk;have w76:=u02.tk.trans w26;refine q' _ _ ⟨cs,q.map fun i=>kl.getD i [],ys,rl,1+rm⟩ (k07.trans (u02.keep.trans (k3'.trans (k4'.trans (u5.trans u6).keep)))) (l4'.same (u5.trans u6)) ⟨T5,_,_,_,_,rfl,Zj,⟨T1,us,rfl,w26 _ _ (u2 _ _ f1),alc.imp fun v x r=>r.tk (t27.trans w76)⟩,⟨T2,_,rfl,w26 _ _ f2,?_⟩,⟨T',rfl,w76 _ _ e7⟩,⟨T4,rfl,u6 _ _ f5⟩⟩ (D1.ok rise (by rw [hy]) (fun t ht=>?_) ⟨rl0,by omega⟩ ⟨by omega,by omega⟩) (show (q.map fun i=>kl.getD i []).length≤4 by rw [List.length_map,qlen];exact p4) (show cs.length≤6 by rw [lc];exact n6)
         · refine (Zwb kal (q:=q) fun i hi=>?_).imp fun v x r=>r.tk (s5.tk.trans (t57.trans w76));rw [klen];exact List.mem_range.mp (qp.mem_iff.mp hi)
         · obtain ⟨i,hi,e⟩:=List.getElem_of_mem ht;obtain ⟨v,_,r⟩:=a6.got (show ys[i]? = some t by rw [List.getElem?_eq_getElem hi,e]);exact r.2
abbrev Za5:Stmt:=top 89
theorem Zjt:FnScope ["_law_state_here","_law_many"] ["_law_state_here","_law_many"] (Zc Za5):=⟨rfl,rfl,rfl,by decide +kernel,rfl,by decide +kernel,by decide +kernel⟩
theorem Zjb {f:Addr} {fd:FuncData} (F:Fun K "_law_row" "_law_row" Za5 f fd) (T:Bt mg) (C__law_fraction:a61_ P w K mg base):FnOk P w K mg base CX0 3 f fd ["_law_state_here","_law_many"] Zoh:=by
 refine F.ok Zjt (fun vs H Q E h=>by obtain ⟨l,n,rfl,_⟩:=h;rfl) fun cdv A outer s H vs Q E hr h=>?_;obtain ⟨l,n,rfl,hl,h1000,q⟩:=h;refine' ⟨_,?term,?read⟩
 case term=>refine' @Zi _ _ _ ?g1;case g1=>refine' @Zl _ _ _ _ ?g2;case g2=>refine' @Yd _ _ _ _ _ _ _ _ _ Z1 rfl T.b_tuple Yk ?g3 (by decide) (by decide) (by rfl) (by rfl);case g3=>refine' @Za _ _ _ _ _ ?g4 Zb rfl;case g4=>refine' @Yp _ _ _ _ _ _ _ (["_law_turn","_law_state_here"]) ([none,some 0]) _ _ _ _ _ rfl (Z3 (XN:=[("_law_state_here" : Str),("_law_many" : Str)]) (Scope.names (Zc Za5)) rfl rfl rfl (fun _ h=>Zv h) (by decide +kernel) rfl) ?g5 (fun _ _ _ _=>(Ze (i:=0) (show List.Nodup [("_law_turn" : Str),("_law_state_here" : Str)] by decide) rfl (Or.inl rfl) (Or.inr rfl))) (fun _ _ _ _=>Zn) (fun _ _ _ _=>(Zh C__law_fraction hr (by decide) rfl (Za (pv 1) Zb rfl))) (by intro _ ;rfl);case g5=>refine' @Zch _ _ _ _ _ _ rfl T.b_range (Za (pv 1) Zb rfl) (by rfl)
 refine ⟨_,rfl,n,rfl,by omega,by omega,fun D nD=>?_⟩;refine Zj0 (n:=n) (l:=l) (fun H v (x:Rat)=>IsQ H v x∧FM.B 60 x∧x.den∣60) (fun H1 H2 v x t r=>⟨r.1.tk t,r.2⟩) h1000 (fun σ=>∃ u,σ=[u,some (.ref l)]) ⟨_,rfl⟩ nD hl (fun i H2 k hi=>hi) (fun H2 k=>Nat.le_refl _) (fun i x σ2 H2 H3 C hi k2 l2 y o c=>?_) (fun H2 vs ys k2 l2 e2 hy a2=>?_)
 · obtain ⟨u,rfl⟩:=o;obtain ⟨rfl,rfl⟩:=y;exact ⟨_,rfl,l,rfl,l2,fun H5 p x k5 l5 hp hB=>c _ _ _ x ⟨_,rfl⟩ k5 l5 ⟨⟨p,rfl,hp⟩,hB⟩⟩
 · refine ⟨D,vs,rfl,.inl ⟨SqL.of e2,fun t nt=>?_⟩⟩;have s3:Same H2 (upd H2 t (.tup vs)):=Same.new nt;refine q _ _ ys (k2.trans s3.keep) (l2.same s3) ⟨t,vs,rfl,Zj,a2.imp fun v x r=>r.1.tk s3.tk⟩ hy (fun x hx=>?_) (fun x hx=>?_)
   · obtain ⟨i,hi,e⟩:=List.getElem_of_mem hx;obtain ⟨v,_,r⟩:=a2.got (show ys[i]? = some x by rw [List.getElem?_eq_getElem hi,e]);exact r.2.1
   · obtain ⟨i,hi,e⟩:=List.getElem_of_mem hx;obtain ⟨v,_,r⟩:=a2.got (show ys[i]? = some x by rw [List.getElem?_eq_getElem hi,e]);exact r.2.2
abbrev Zav:Stmt:=top 90
theorem Zgm:FnScope ["_law_plate_here","_law_motions","_law_other"] ["_law_plate_here","_law_motions","_law_other"] (Zc Zav):=⟨rfl,rfl,rfl,by decide +kernel,rfl,by decide +kernel,by decide +kernel⟩
theorem Zgw {f:Addr} {fd:FuncData} (F:Fun K "_law_works" "_law_works" Zav f fd) (T:Bt mg) (C__law_dot:a62_ P w K mg base) (C_pushes:a63_ P w K mg base) (C_stresses:a64_ P w K mg base):FnOk P w K mg base CX0 9 f fd ["_law_plate_here","_law_motions","_law_other"] Zk0:=by
 refine F.ok Zgm (fun vs H Q E h=>by obtain ⟨v,w,u,P',xs,ys,rfl,_⟩:=h;rfl) fun cdv A outer s H vs Q E hr h=>?_;obtain ⟨v,w,u,P',xs,ys,rfl,hv,ok,p4,hw,hu',lx,ly,dx,dy,q⟩:=h;refine' ⟨_,?term,?read⟩
 case term=>refine' @Zi _ _ _ ?g1;case g1=>refine' @Zl _ _ _ _ ?g2;case g2=>refine' @Zh _ _ _ _ _ _ _ _ _ _ _ C__law_dot hr (by decide) rfl ?g3 (by decide) (by rfl) (by rfl);case g3=>refine' @Za _ _ _ _ _ ?g4 (Za (pv 2) Zb rfl) rfl;case g4=>refine' @Zh _ _ _ _ _ _ _ _ _ _ _ C_pushes hr (by decide) rfl ?g5 (by decide) (by rfl) (by rfl);case g5=>refine' @Za _ _ _ _ _ (pv 0) ?g6 rfl;case g6=>refine' @Za _ _ _ _ _ ?g7 Zb rfl;case g7=>refine' @Zh _ _ _ _ _ _ _ _ _ _ _ C_stresses hr (by decide) rfl ?g8 (by decide) (by rfl) (by rfl);case g8=>refine' @Za _ _ _ _ _ (pv 0) (Za (pv 1) Zb rfl) rfl
 have c30:=ok.c30;have sok:=Zpa ok fun q hq=>d140 (dx q hq);obtain ⟨M,m0,m1,hF⟩:=Zn3 ok p4 sok;have pl:(Y0 P' (Ym P' xs)).length=2*P'.cs.length:=by unfold Y0;simp
 refine ⟨_,rfl,_,rfl,_,rfl,v,w,P',xs,rfl,hv,ok,hw,lx,fun q hq=>(d140 (dx q hq)).1,fun H1 r1 s1 h1=>?_⟩;refine ⟨v,r1,P',Ym P' xs,rfl,hv.tk s1.tk,ok,p4,h1,sok,fun H2 r2 s2 h2=>?_⟩;have s12:=s1.trans s2;refine ⟨_,rfl,r2,u,_,ys,M,60,350,66,rfl,h2,Zw s12.tk hu',by omega,m0,by decide,up 400 m1,by decide,hF,fun q hq=>F60 (dy q hq),by decide,by decide,fun H3 r3 s3 h3=>?_⟩;have e:=Zkr ok (Zaj P' xs) ly;have B:=Zwj m0 m1 hF c30 dy;rw [e] at h3 B;exact q _ _ (s12.trans s3) h3 B
abbrev Xz:Stmt:=top 91
theorem Zg2:FnScope ["_law_one","_law_other","_law_by"] ["_law_one","_law_other","_law_by"] (Zc Xz):=⟨rfl,rfl,rfl,by decide +kernel,rfl,by decide +kernel,by decide +kernel⟩
theorem Zf7 {f:Addr} {fd:FuncData} (F:Fun K "_law_mixed" "_law_mixed" Xz f fd) (T:Bt mg) (C__law_add:a56_ P w K mg base) (C__law_mul:a57_ P w K mg base):FnOk P w K mg base CX0 3 f fd ["_law_one","_law_other","_law_by"] Zil:=by
 refine F.ok Zg2 (fun vs H Q E h=>by obtain ⟨v,w,xs,ys,p,b,rfl,_⟩:=h;rfl) fun cdv A outer s H vs Q E hr h=>?_;obtain ⟨v,w,xs,ys,p,b,rfl,⟨a,us,rfl,ha,al⟩,⟨c',ws,rfl,hc,bl⟩,hp,x100,hx,hy,hb,q⟩:=h;refine' ⟨_,?term,?read⟩
 case term=>refine' @Zi _ _ _ ?g1;case g1=>refine' @Zl _ _ _ _ ?g2;case g2=>refine' @Yd _ _ _ _ _ _ _ _ _ Z1 rfl T.b_tuple Yk ?g3 (by decide) (by decide) (by rfl) (by rfl);case g3=>refine' @Za _ _ _ _ _ ?g4 Zb rfl;case g4=>refine' @Yp _ _ _ _ _ _ _ (["_law_mine","_law_its","_law_by"]) ([none,none,some 2]) _ _ ((gTup K 2 (Yi (Z8 0) (Yi (Z8 1) gNil)))) _ _ rfl (Z3 (XN:=[("_law_one" : Str),("_law_other" : Str),("_law_by" : Str)]) (Scope.names (Zc Xz)) rfl rfl rfl (fun _ h=>Zv h) (by decide +kernel) rfl) ?g5 (fun _ _ _ _=>(Zy (n:=2) rfl (Zg (Ze (i:=0) (show List.Nodup [("_law_mine" : Str),("_law_its" : Str),("_law_by" : Str)] by decide) rfl (Or.inl rfl) (Or.inr rfl)) (Zg (Ze (i:=1) (show List.Nodup [("_law_mine" : Str),("_law_its" : Str),("_law_by" : Str)] by decide) rfl (Or.inl rfl) (Or.inr rfl)) Zq)))) (fun _ _ _ _=>Zn) (fun _ _ _ _=>(Zh C__law_add hr (by decide) rfl (Za (pv 0) (Za (Zh C__law_mul hr (by decide) rfl (Za (pv 2) (Za (pv 1) Zb rfl) rfl)) Zb rfl) rfl))) (by intro _ ;rfl);case g5=>refine' @Zb1 _ _ _ _ .t .t _ _ _ _ _ rfl T.b_zip ?g6 (by rfl) (by rfl);case g6=>refine' @Za _ _ _ _ _ (pv 0) (Za (pv 1) Zb rfl) rfl
 have hl:=al.1;have hl':=bl.1;refine ⟨_,rfl,_,rfl,a,c',rfl,⟨_,SqT.of ha⟩,⟨_,SqT.of hc⟩,fun D nD=>?_⟩;refine lc_Z (k:=.t) (l:=.t) (vs:=us) (ws:=ws) IsQ hRQ (lin b xs ys) (by simp [lin,hl,hl']) (by omega) nD ha hc (fun i v w H2 C hv hw s2 c=>?_) (fun H2 us' s2 e2 a2=>?_)
 · obtain ⟨x,ex,px,rfl,h1⟩:=al.get hv;obtain ⟨y,ey,py,rfl,h2⟩:=bl.get hw;have bx:=hx x (List.mem_of_getElem? ex);have by':=hy y (List.mem_of_getElem? ey)
   refine ⟨_,rfl,_,rfl,_,rfl,p,py,b,y,rfl,s2 _ _ hp,s2 _ _ h2,hb.mono (by decide),by'.mono (by decide),fun z H3 s3 hz=>?_⟩;exact ⟨px,z,x,_,rfl,(s2.trans s3) _ _ h1,hz,bx.mono (by decide),(FM.B_mul hb by').mono (by decide),fun z' H4 s4 hz'=>c _ _ _ (s3.trans s4) (by unfold lin;rw [List.getElem?_zipWith,ex,ey]) ⟨z',rfl,hz'⟩⟩
 · refine ⟨D,us',rfl,.inl ⟨SqL.of e2,fun r nr=>?_⟩⟩;have s3:Same H2 (upd H2 r (.tup us')):=Same.new nr;exact q _ _ (s2.trans s3) ⟨r,us',rfl,Zj,a2.imp fun v x r=>r.tk s3.tk⟩
abbrev Y7:Stmt:=top 92
theorem Zaq:FnScope ["_law_plate_here","_law_some","_law_motions","_law_found","_law_piece","_law_row_here","_law_points","_law_xa","_law_ya","_law_xb","_law_yb","_law_xc","_law_yc","_law_area","_law_by"] ["_law_plate_here","_law_some","_law_motions"] (Zc Y7):=⟨rfl,rfl,rfl,by decide +kernel,rfl,by decide +kernel,by decide +kernel⟩
theorem Zdr {f:Addr} {fd:FuncData} (F:Fun K "_law_strained" "_law_strained" Y7 f fd) (T:Bt mg) (C__law_dot:a62_ P w K mg base) (C__law_low:a55_ P w K mg base) (C__law_mul:a57_ P w K mg base) (C__law_total:a58_ P w K mg base) (C_strain:a65_ P w K mg base):FnOk P w K mg base CX0 9 f fd ["_law_plate_here","_law_some","_law_motions"] Zc7:=by
 refine F.ok Zaq (fun vs H Q E h=>by obtain ⟨v,w,u,P',ss,ms,rfl,_⟩:=h;rfl) fun cdv A outer s H vs Q E hr h=>?_;obtain ⟨v,w,u,P',ss,ms,rfl,hv,ok,p4,⟨gv,us,rfl,hg,al⟩,sl,sB,hM,hm,hD,q⟩:=h;have nd:=Zaq.nd;refine' ⟨_,?term,?read⟩
 case term=>refine' @Zd _ _ _ _ _ ?g1 ?g2;(case g1=>refine' @Zz _ _ (3) _ _ _ _ nd rfl (Or.inl rfl) ?g3 (by rfl) (by first|exact Or.inl rfl|exact Or.inr rfl|assumption);case g3=>refine' @Xl _ _ _ _ Zb);case g2=>refine' @Zd _ _ _ _ _ ?g4 ?g5;(case g4=>refine' @Zbf _ _ _ _ _ _ _ _ PassesOwn.never rfl ?g6 ?g7 ?g8 (by intro _ ;rfl);(case g6=>refine' @Zer _ _ _ _ .t _ _ _ _ rfl T.b_enumerate (Za (pv 1) Zb rfl) (by rfl));(case g7=>refine' @Zy _ _ _ _ _ (2) rfl ?g9 (by rfl) (by rfl);case g9=>refine' @Zg _ _ _ _ _ (Ze (i:=4) nd rfl (Or.inl rfl)) (Zg (Ze (i:=5) nd rfl (Or.inl rfl)) Zq) (by rfl));case g8=>refine' @Zd _ _ _ _ _ ?ga ?gb;(case ga=>refine' @Zdf _ _ _ _ _ _ _ _ _ _ (["_law_at","_law_plate_here"]) ([none,some 0]) _ _ _ _ _ _ rfl rfl (Ze (i:=6) nd rfl (Or.inl rfl)) (Z3 (XN:=[("_law_plate_here" : Str),("_law_some" : Str),("_law_motions" : Str),("_law_found" : Str),("_law_piece" : Str),("_law_row_here" : Str),("_law_points" : Str),("_law_xa" : Str),("_law_ya" : Str),("_law_xb" : Str),("_law_yb" : Str),("_law_xc" : Str),("_law_yc" : Str),("_law_area" : Str),("_law_by" : Str)]) (Scope.names (Zc Y7)) rfl rfl rfl (fun _ h=>Zv h) (by decide +kernel) rfl) ?gc (fun _ _ _ _=>(Ze (i:=0) (show List.Nodup [("_law_at" : Str),("_law_plate_here" : Str)] by decide) rfl (Or.inl rfl) (Or.inr rfl))) (fun _ _ _ _=>Zn) (fun _ _ _ _=>(Zt (Zan K rfl) (Zt (Zan K rfl) (pv 1) Zf (fun _ _=>rfl)) (pv 0) (fun _ _=>rfl))) (by intro _ ;rfl);case gc=>refine' @Yu _ _ _ _ ?gd;case gd=>refine' @Zt _ _ _ _ _ _ _ Zu ?ge (pv 4) (fun _ _=>rfl);case ge=>refine' @Zt _ _ _ _ _ _ _ Zu (pv 0) Zf (fun _ _=>rfl));case gb=>refine' @Zd _ _ _ _ _ ?gf ?gg;(case gf=>refine' @Yt _ _ _ _ _ _ (pv 6) ?gh (by rfl) (by rfl) (by rfl);case gh=>refine' @Zhb _ _ _ _ _ (3) rfl ?gi (by rfl) (by rfl);case gi=>refine' @Zg _ _ _ _ _ ?gj ?gk (by rfl);(case gj=>refine' @Zy _ _ _ _ _ (2) rfl ?gl (by rfl) (by rfl);case gl=>refine' @Zg _ _ _ _ _ (Ze (i:=7) nd rfl (Or.inl rfl)) (Zg (Ze (i:=8) nd rfl (Or.inl rfl)) Zq) (by rfl));case gk=>refine' @Zg _ _ _ _ _ ?gm ?gn (by rfl);(case gm=>refine' @Zy _ _ _ _ _ (2) rfl ?go (by rfl) (by rfl);case go=>refine' @Zg _ _ _ _ _ (Ze (i:=9) nd rfl (Or.inl rfl)) (Zg (Ze (i:=10) nd rfl (Or.inl rfl)) Zq) (by rfl));case gn=>refine' @Zg _ _ _ _ _ ?gp Zq (by rfl);case gp=>refine' @Zy _ _ _ _ _ (2) rfl ?gq (by rfl) (by rfl);case gq=>refine' @Zg _ _ _ _ _ (Ze (i:=11) nd rfl (Or.inl rfl)) (Zg (Ze (i:=12) nd rfl (Or.inl rfl)) Zq) (by rfl));case gg=>refine' @Zd _ _ _ _ _ ?gr ?gs;(case gr=>refine' @Zz _ _ (13) _ _ _ _ nd rfl (Or.inl rfl) ?gt (by rfl) (by first|exact Or.inl rfl|exact Or.inr rfl|assumption);case gt=>refine' @Zk _ _ _ _ _ _ _ _ _ Zbb rfl T.b_abs Zfx ?gu (by decide) (by decide) (by rfl) (by rfl);case gu=>refine' @Za _ _ _ _ _ ?gv Zb rfl;case gv=>refine' @Zm _ _ _ _ _ _ _ _ Y1 ?gw ?gx;(case gw=>refine' @Zm _ _ _ _ _ _ _ _ Zs (Zm Y1 (pv 9) (pv 7)) (Zm Y1 (pv 12) (pv 8)));case gx=>refine' @Zm _ _ _ _ _ _ _ _ Zs (Zm Y1 (pv 11) (pv 7)) (Zm Y1 (pv 10) (pv 8)));case gs=>refine' @Zd _ _ _ _ _ ?gy ?gz;(case gy=>refine' @Zz _ _ (14) _ _ _ _ nd rfl (Or.inl rfl) ?g10 (by rfl) (by first|exact Or.inl rfl|exact Or.inr rfl|assumption);case g10=>refine' @Zh _ _ _ _ _ _ _ _ _ _ _ C__law_low hr (by decide) rfl ?g11 (by decide) (by rfl) (by rfl);case g11=>refine' @Za _ _ _ _ _ ?g12 (Za Zf Zb rfl) rfl;case g12=>refine' @Zm _ _ _ _ _ _ _ _ Zs ?g13 (pv 13);case g13=>refine' @Zt _ _ _ _ _ _ _ Zu ?g14 (pv 4) (fun _ _=>rfl);case g14=>refine' @Zt _ _ _ _ _ _ _ Zu (pv 0) Zf (fun _ _=>rfl));case gz=>refine' @Zi _ _ _ ?g15;case g15=>refine' @Xe _ _ _ _ ?g16 (by rfl);case g16=>refine' @Znc _ _ _ _ _ _ _ _ _ _ _ _ PySem.F.plainAttrs_list PySem.F.slot_list_append PySem.F.type_list_append X4 (pv 3) ?g17 (by rfl) (by rfl) (by rfl) (by rfl) (by rfl);case g17=>refine' @Za _ _ _ _ _ ?g18 Zb rfl;case g18=>refine' @Zh _ _ _ _ _ _ _ _ _ _ _ C__law_mul hr (by decide) rfl ?g19 (by decide) (by rfl) (by rfl);case g19=>refine' @Za _ _ _ _ _ (pv 14) ?g1a rfl;case g1a=>refine' @Za _ _ _ _ _ ?g1b Zb rfl;case g1b=>refine' @Zh _ _ _ _ _ _ _ _ _ _ _ C__law_dot hr (by decide) rfl ?g1c (by decide) (by rfl) (by rfl);case g1c=>refine' @Za _ _ _ _ _ (pv 5) ?g1d rfl;case g1d=>refine' @Za _ _ _ _ _ ?g1e Zb rfl;case g1e=>refine' @Zh _ _ _ _ _ _ _ _ _ _ _ C_strain hr (by decide) rfl ?g1f (by decide) (by rfl) (by rfl);case g1f=>refine' @Za _ _ _ _ _ (pv 0) ?g1g rfl;case g1g=>refine' @Za _ _ _ _ _ (pv 2) (Za (pv 4) Zb rfl) rfl);case g5=>refine' @Zi _ _ _ ?g1h;case g1h=>refine' @Zl _ _ _ _ (Zh C__law_total hr (by decide) rfl (Za (pv 3) Zb rfl))
 have hv0:=hv;obtain ⟨pa,pc0,pp',ptk,pst,rfl,hpa,⟨ca,cvs,rfl,hca,cal⟩,⟨qa,ws,rfl,hqa,bl⟩,⟨ta,rfl,hta⟩,hps⟩:=hv0;have hl2:=al.1;have vF:∀ n,n<P'.ps.length→∀ s,ss.getD n []=s→s∈ss→(∀ q∈strQ P' n ms,Fz (dOf P'.cs (pcOf P' n)*60) 77 q)∧FM.B 400 (dotL s (strQ P' n ms))∧∃ D:Int,D≠0∧D.natAbs<2^31∧Fz D 170 (vW P' ss ms n):=fun n hn s gs hs=>Zv1 ok hn hD gs (sB s hs).1 (sB s hs).2;refine ⟨z0_,fun F nF=>?_⟩;generalize gG:upd H F (.lst [])=H1;obtain ⟨s1,e1⟩:=gen_upd gG nF;refine ⟨_,rfl,gv,rfl,⟨_,SqT.of (s1 _ _ hg)⟩,?_⟩;refine Zab (n:=ss.length) (fun i σ H2=>Keep F H1 H2∧(∃ y1 y2 y3 y4 y5 y6 y7 y8 y9 y10 y11,σ=[some (.ref pa),some (.ref gv),some u,some (.ref F),y1,y2,y3,y4,y5,y6,y7,y8,y9,y10,y11])∧∃ fs,H2 F=some (.lst fs)∧Al (IsQ H2) fs ((List.range i).map (vW P' ss ms))) ⟨Keep.refl _ _,⟨_,_,_,_,_,_,_,_,_,_,_,rfl⟩,[],e1,.nil⟩ (fun i σ H2 hi p=>⟨us,us[i]'(by omega),SqT.of (Tk.of_keep p.1 e1 _ _ (s1 _ _ hg)),List.getElem?_eq_getElem _⟩) (fun σ H2 p=>⟨us,SqT.of (Tk.of_keep p.1 e1 _ _ (s1 _ _ hg)),hl2⟩) (fun i x σ H2 H3 hi y p=>?_) (fun σ H2 p=>?_)
 · obtain ⟨k2,⟨y1,y2,y3,y4,y5,y6,y7,y8,y9,y10,y11,rfl⟩,fs,eF,alF⟩:=p;obtain ⟨g,x,rfl,ng,rfl,yx⟩:=y;have t2:Tk H1 H2:=Tk.of_keep k2 e1;obtain ⟨s,es,rs⟩:=al.get (yx us (SqT.of (t2 _ _ (s1 _ _ hg))));have sm:=List.mem_of_getElem? es;have gs:ss.getD i []=s:=by rw [List.getD_eq_getElem?_getD,es];rfl
   have n0:(0:Int)≤(i:Int):=by omega
   have n1:(i:Int)<P'.ps.length:=by omega
   have pk:=ok.pc _ (Z4 n0 n1);obtain ⟨c1,c2,c3⟩:=Zcs ok.nr pk.len pk.bd;obtain ⟨tt1,tl,tu⟩:=Zl4 ok (show i<P'.ps.length by omega);have att:atI (P'.ts.map V.int) (i:Int)=some (.int (P'.ts.getD i 0)):=X2 (by rw [List.getElem?_map,tt1];rfl);obtain ⟨strF,dotB,_⟩:=vF i (by omega) s gs sm;generalize gG:upd H2 g (.tup [.int i,x])=H3;obtain ⟨s3,e3⟩:=gen_upd gG ng;have t03:Tk H H3:=s1.tk.trans (t2.trans s3.tk);refine ⟨g,_,rfl,SqT.of e3,rfl,_,_,rfl,_,_,rfl,rfl,?_⟩;obtain ⟨pv',ev,b,rfl,hb⟩:=Zth bl n0 n1;have hl:=pk.len;have bd:=pk.bd;generalize hp:pcOf P' i=p at *;refine ⟨_,rfl,pa,_,1,_,rfl,rfl,SqT.of (t03 _ _ hpa),rfl,_,rfl,qa,ws,(i:Int),_,rfl,rfl,SqT.of (t03 _ _ hqa),ev,b,rfl,⟨_,SqT.of (t03 _ _ hb)⟩,fun D nD=>?_⟩;refine lc_T (k:=.t) (vs:=p.map V.int) IsP hRP (p.map (cAt P'.cs)) (by simp) (by simp [hl]) nD (t03 _ _ hb) (fun i w H4 C hw s4 c=>?_) (fun H4 us' s4 eD a4=>?_)
   · rw [List.getElem?_map] at hw;obtain ⟨x,ex,rfl⟩:=Option.map_eq_some_iff.mp hw;obtain ⟨b1,b2⟩:=bd x (List.mem_of_getElem? ex);obtain ⟨v,ev',rv⟩:=Zmn cal b1 b2;have t04:=t03.trans s4.tk;exact ⟨_,rfl,pa,_,0,_,rfl,rfl,SqT.of (t04 _ _ hpa),rfl,_,rfl,ca,cvs,x,v,rfl,rfl,SqT.of (t04 _ _ hca),ev',c _ _ _ (Same.refl _) (by rw [List.getElem?_map,ex];rfl) (rv.tk t04)⟩
   have t04:=t03.trans s4.tk;obtain ⟨x',y',z',rfl,⟨qa',rfl,hx⟩,⟨qb',rfl,hy⟩,⟨qc',rfl,hz⟩⟩:=cs3 (cal.imp fun v x r=>r.tk t04) hl bd a4
   have nr3:∀ c,c<3→near (cAt P'.cs (p.getD c 0)):=fun c hc=>by
    have hm:p.getD c 0∈p:=by rw [List.getD_eq_getElem?_getD,List.getElem?_eq_getElem (by omega)];exact List.getElem_mem _
    exact ok.nr _ (Xg (bd _ hm).1 (bd _ hm).2)
   obtain ⟨⟨x1,x2⟩,x3,x4⟩:=nr3 0 (by decide);obtain ⟨⟨w1,w2⟩,w3,w4⟩:=nr3 1 (by decide);obtain ⟨⟨z1,z2⟩,z3,z4⟩:=nr3 2 (by decide);refine ⟨_,rfl,D,_,rfl,SqL.of eD,rfl,_,_,rfl,qa',_,rfl,SqT.of hx,rfl,_,_,rfl,_,_,rfl,rfl,_,_,rfl,qb',_,rfl,SqT.of hy,rfl,_,_,rfl,_,_,rfl,rfl,_,_,rfl,qc',_,rfl,SqT.of hz,rfl,_,_,rfl,_,_,rfl,rfl,rfl,?_⟩;refine ⟨_,rfl,_,rfl,_,_,rfl,rfl,_,rfl,_,rfl,_,_,rfl,rfl,_,_,rfl,rfl,mul3 (by omega) (by omega),_,rfl,_,rfl,_,_,rfl,rfl,_,rfl,_,rfl,_,_,rfl,rfl,_,_,rfl,rfl,mul3 (by omega) (by omega),_,_,rfl,rfl,dOf P'.cs p,rfl,?_⟩;have zA:(if dOf P'.cs p<0 then -dOf P'.cs p else dOf P'.cs p).natAbs≤80000:=by split<;>omega
   refine ⟨_,rfl,pa,_,2,_,rfl,rfl,SqT.of (t04 _ _ hpa),rfl,_,rfl,ta,_,(i:Int),_,rfl,rfl,SqT.of (t04 _ _ hta),att,_,rfl,_,_,rfl,rfl,Y2 (n:=20) (Nat.lt_of_le_of_lt (show _≤9 by omega) (by decide)) (Nat.lt_of_le_of_lt zA (by decide)),_,_,rfl,by decide,by decide,fun bz H5 s5 hbz=>?_⟩;have s35:=s4.trans s5;have s25:=s3.trans s35;have t05:=t03.trans s35.tk;refine ⟨_,rfl,.inl ⟨rfl,_,SqL.of (s25 _ _ eF)⟩,_,rfl,_,rfl,_,rfl,_,rfl,_,rfl,.ref pa,u,P',(i:Int),ms,rfl,hv.tk t05,ok,n0,n1,Zw t05 hM,hm,fun q hq=>(hD q hq).1.mono (by decide),fun H6 r6 s6 h6=>?_⟩;refine ⟨x,r6,s,strQ P' i ms,60,dOf P'.cs p*60,66,77,rfl,Zw (t2.trans (s25.trans s6).tk) (Zw s1.tk rs),h6,by rw [(sB s sm).1];decide,by decide,Int.mul_ne_zero pk.d (by decide),by decide,up 400 (show (dOf P'.cs p*60).natAbs<2^30 by omega),fun q hq=>F60 ((sB s sm).2 q hq),strF,by decide,by decide,fun H7 r7 s7 h7=>?_⟩;obtain ⟨a7,rfl,h7⟩:=h7
   have byB:FM.B 22 (Rat.divInt (P'.ts.getD i 0*(if dOf P'.cs p<0 then -dOf P'.cs p else dOf P'.cs p)) 2) :=
    FM.B_divInt (by decide) (Nat.lt_of_le_of_lt (Nat.le_trans (Nat.le_of_eq (Int.natAbs_mul _ _)) (Nat.mul_le_mul (show _≤9 by omega) zA)) (by decide)) (by decide)
   refine ⟨bz,a7,_,_,rfl,(s6.trans s7) _ _ hbz,h7,byB.mono (by decide),dotB.mono (by decide),fun z8 H8 s8 hz8=>?_⟩;have s28:=s25.trans (s6.trans (s7.trans s8));refine ⟨F,fs,_,rfl,rfl,s28 _ _ eF,by rw [alF.1,sizeLine_eq,List.length_map,List.length_range];omega,?_⟩;have tA':Tk H8 (upd H8 F (.lst (fs++[.ref z8]))):=Tk.upd_lst (s28 _ _ eF);refine ⟨fun b o nb e=>by rw [Zr nb];exact s28 _ _ (k2 _ _ nb e),⟨_,_,_,_,_,_,_,_,_,_,_,rfl⟩,_,Zj,?_⟩;rw [List.range_succ,List.map_append];refine (alF.imp fun v x r=>r.tk (s28.tk.trans tA')).snoc ⟨z8,rfl,?_⟩;rw [tA' _ _ hz8,← Zwc (P:=P') (ms:=ms) gs (sB s sm).1,hp]
 · obtain ⟨k2,⟨y1,y2,y3,y4,y5,y6,y7,y8,y9,y10,y11,rfl⟩,fs,eF,alF⟩:=p;have s02:Same H H2:=fun b o e=>k2 _ _ (Zo e nF) (s1 _ _ e)
   obtain ⟨M,m0,m1,hc⟩:=Zo0 (f:=vW P' ss ms) ss.length fun n hn=>by
    have es:ss.getD n []=ss[n]:=by rw [List.getD_eq_getElem?_getD,List.getElem?_eq_getElem hn];rfl
    exact (vF n (by omega) _ es (List.getElem_mem hn)).2.2
   refine ⟨_,rfl,F,fs,_,M,300,rfl,eF,alF,m0,up 1900 m1 (by omega),fun x hx=>?_,by rw [List.length_map,List.length_range];omega,fun H3 v s3 hv=>q _ _ (s02.trans s3) hv⟩;obtain ⟨n,hn,rfl⟩:=List.mem_map.mp hx;exact (hc n (List.mem_range.mp hn)).mono (by omega)
abbrev Zec:Stmt:=top 93
theorem Zqy:FnScope ["_law_script","_law_k","_law_state_here","_law_plate_here","_law_many","_law_one","_law_other","_law_by","_law_cross","_law_own","_law_both","_law_due","_law_rows","_law_some"] ["_law_script"] (Zc Zec):=⟨rfl,rfl,rfl,by decide +kernel,rfl,by decide +kernel,by decide +kernel⟩
theorem Zup {f:Addr} {fd:FuncData} (F:Fun K "law" "law" Zec f fd) (T:Bt mg) (C__law_add:a56_ P w K mg base) (C__law_dot:a62_ P w K mg base) (C__law_fraction:a61_ P w K mg base) (C__law_mixed:a66_ P w K mg base) (C__law_mul:a57_ P w K mg base) (C__law_plate:a67_ P w K mg base) (C__law_row:a68_ P w K mg base) (C__law_state:a69_ P w K mg base) (C__law_strained:a70_ P w K mg base) (C__law_works:a71_ P w K mg base) (C_pushes:a63_ P w K mg base) (C_stresses:a64_ P w K mg base) (C_worth_of:a72_ P w K mg base):FnOk P w K mg base CX0 10 f fd ["_law_script"] (Zkl K):=by
 refine F.ok Zqy (fun vs H Q E h=>by obtain ⟨a,ns,rfl,_⟩:=h;rfl) fun cdv A outer s H vs Q E hr h=>?_;obtain ⟨a,ns,rfl,hS,hlen,q⟩:=h;have nd:=Zqy.nd;have hu:=Zs7 hr;refine' ⟨_,?term,?read⟩
 case term=>refine' @Zd _ _ _ _ _ ?g1 (Zi (Zl Xw));case g1=>refine' @Zbf _ _ _ _ _ _ _ _ PassesOwn.never rfl ?g2 (Ze (i:=1) nd rfl (Or.inl rfl)) ?g3 (by intro _ ;rfl);(case g2=>refine' @Zch _ _ _ _ _ _ rfl T.b_range ?g4 (by rfl);case g4=>refine' @Za _ _ _ _ _ ?g5 Zb rfl;case g5=>refine' @Zk _ _ _ _ _ _ _ _ _ (Zh8 rfl) rfl T.b_max Zq9 ?g6 (by decide) (by decide) (by rfl) (by rfl);case g6=>refine' @Za _ _ _ _ _ Zf ?g7 rfl;case g7=>refine' @Za _ _ _ _ _ ?g8 Zb rfl;case g8=>refine' @Zk _ _ _ _ _ _ _ _ _ (Zhf rfl) rfl T.b_min Zq6 ?g9 (by decide) (by decide) (by rfl) (by rfl);case g9=>refine' @Za _ _ _ _ _ (Zk Zp rfl T.b_len Yv (Za (pv 0) Zb rfl)) (Za Zf Zb rfl) rfl);case g3=>refine' @Zd _ _ _ _ _ ?ga ?gb;(case ga=>refine' @Zz _ _ (2) _ _ _ _ nd rfl (Or.inr rfl) ?gc (by rfl) (by first|exact Or.inl rfl|exact Or.inr rfl|assumption);case gc=>refine' @Zh _ _ _ _ _ _ _ _ _ _ _ C__law_state hr (by decide) rfl ?gd (by decide) (by rfl) (by rfl);case gd=>refine' @Za _ _ _ _ _ (pv 0) (Za (pv 1) Zb rfl) rfl);case gb=>refine' @Zd _ _ _ _ _ ?ge ?gf;(case ge=>refine' @Zz _ _ (3) _ _ _ _ nd rfl (Or.inr rfl) ?gg (by rfl) (by first|exact Or.inl rfl|exact Or.inr rfl|assumption);case gg=>refine' @Zh _ _ _ _ _ _ _ _ _ _ _ C__law_plate hr (by decide) rfl ?gh (by decide) (by rfl) (by rfl);case gh=>refine' @Za _ _ _ _ _ (pv 2) (Za Zf Zb rfl) rfl);case gf=>refine' @Zd _ _ _ _ _ ?gi ?gj;(case gi=>refine' @Zz _ _ (4) _ _ _ _ nd rfl (Or.inl rfl) ?gk (by rfl) (by first|exact Or.inl rfl|exact Or.inr rfl|assumption);case gk=>refine' @Zm _ _ _ _ _ _ _ _ Zs Zf ?gl;case gl=>refine' @Zk _ _ _ _ _ _ _ _ _ Zp rfl T.b_len Yv ?gm (by decide) (by decide) (by rfl) (by rfl);case gm=>refine' @Za _ _ _ _ _ ?gn Zb rfl;case gn=>refine' @Zt _ _ _ _ _ _ _ Zu (pv 3) Zf (fun _ _=>rfl));case gj=>refine' @Zd _ _ _ _ _ ?go ?gp;(case go=>refine' @Zjk _ _ (5) (6) (7) _ _ _ _ _ _ _ _ _ _ _ _ _ _ rfl nd rfl rfl rfl (by decide) (by decide) (by decide) rfl rfl rfl ?gq rfl (by rfl);case gq=>refine' @Za _ _ _ _ _ ?gr ?gs rfl;(case gr=>refine' @Zh _ _ _ _ _ _ _ _ _ _ _ C__law_row hr (by decide) rfl ?gt (by decide) (by rfl) (by rfl);case gt=>refine' @Za _ _ _ _ _ (pv 2) (Za (pv 4) Zb rfl) rfl);case gs=>refine' @Za _ _ _ _ _ ?gu ?gv rfl;(case gu=>refine' @Zh _ _ _ _ _ _ _ _ _ _ _ C__law_row hr (by decide) rfl ?gw (by decide) (by rfl) (by rfl);case gw=>refine' @Za _ _ _ _ _ (pv 2) (Za (pv 4) Zb rfl) rfl);case gv=>refine' @Za _ _ _ _ _ (Zh C__law_fraction hr (by decide) rfl (Za (pv 2) Zb rfl)) Zb rfl);case gp=>refine' @Zd _ _ _ _ _ ?gx ?gy;(case gx=>refine' @Zhp _ _ (8) (9) _ _ _ _ _ _ _ _ _ _ _ rfl nd rfl rfl (by decide) rfl rfl ?gz rfl (by rfl);case gz=>refine' @Za _ _ _ _ _ ?g10 ?g11 rfl;(case g10=>refine' @Zh _ _ _ _ _ _ _ _ _ _ _ C__law_works hr (by decide) rfl ?g12 (by decide) (by rfl) (by rfl);case g12=>refine' @Za _ _ _ _ _ (pv 3) ?g13 rfl;case g13=>refine' @Za _ _ _ _ _ (pv 5) (Za (pv 6) Zb rfl) rfl);case g11=>refine' @Za _ _ _ _ _ ?g14 Zb rfl;case g14=>refine' @Zh _ _ _ _ _ _ _ _ _ _ _ C_worth_of hr (by decide) rfl ?g15 (by decide) (by rfl) (by rfl);case g15=>refine' @Za _ _ _ _ _ (pv 3) (Za (pv 5) Zb rfl) rfl);case gy=>refine' @Zd _ _ _ _ _ ?g16 ?g17;(case g16=>refine' @Xc _ _ _ _ _ _ _ _ ?g18 (Zi (Zl Xw)) Z2;case g18=>refine' @PW.pt _ _ _ ?g19;case g19=>refine' @Zei _ _ _ _ _ _ _ ?g1a ?g1b;(case g1a=>refine' @Ye _ _ _ _ _ _ _ _ (Zla hu) ?g1c (pv 8) (Yb _);case g1c=>refine' @Zh _ _ _ _ _ _ _ _ _ _ _ C__law_works hr (by decide) rfl ?g1d (by decide) (by rfl) (by rfl);case g1d=>refine' @Za _ _ _ _ _ (pv 3) ?g1e rfl;case g1e=>refine' @Za _ _ _ _ _ (pv 6) (Za (pv 5) Zb rfl) rfl);case g1b=>refine' @Zbg _ _ _ _ ?g1f;case g1f=>refine' @Ye _ _ _ _ _ _ _ _ (Zla hu) ?g1g ?g1h (Yb _);(case g1g=>refine' @Zh _ _ _ _ _ _ _ _ _ _ _ C__law_works hr (by decide) rfl ?g1i (by decide) (by rfl) (by rfl);case g1i=>refine' @Za _ _ _ _ _ (pv 3) ?g1j rfl;case g1j=>refine' @Za _ _ _ _ _ (pv 5) (Za (pv 5) Zb rfl) rfl);case g1h=>refine' @Zh _ _ _ _ _ _ _ _ _ _ _ C__law_mul hr (by decide) rfl ?g1k (by decide) (by rfl) (by rfl);case g1k=>refine' @Za _ _ _ _ _ ?g1l (Za (pv 9) Zb rfl) rfl;case g1l=>refine' @Z5 _ _ _ _ _ ?g1m;case g1m=>refine' @Za _ _ _ _ _ Zf (Za Zf Zb rfl) rfl);case g17=>refine' @Zd _ _ _ _ _ ?g1n ?g1o;(case g1n=>refine' @Zz _ _ (10) _ _ _ _ nd rfl (Or.inl rfl) ?g1p (by rfl) (by first|exact Or.inl rfl|exact Or.inr rfl|assumption);case g1p=>refine' @Zh _ _ _ _ _ _ _ _ _ _ _ C__law_mixed hr (by decide) rfl ?g1q (by decide) (by rfl) (by rfl);case g1q=>refine' @Za _ _ _ _ _ (pv 5) ?g1r rfl;case g1r=>refine' @Za _ _ _ _ _ (pv 6) (Za (pv 7) Zb rfl) rfl);case g1o=>refine' @Zd _ _ _ _ _ ?g1s ?g1t;(case g1s=>refine' @Zz _ _ (11) _ _ _ _ nd rfl (Or.inl rfl) ?g1u (by rfl) (by first|exact Or.inl rfl|exact Or.inr rfl|assumption);case g1u=>refine' @Zh _ _ _ _ _ _ _ _ _ _ _ C__law_add hr (by decide) rfl ?g1v (by decide) (by rfl) (by rfl);case g1v=>refine' @Za _ _ _ _ _ (pv 9) ?g1w rfl;case g1w=>refine' @Za _ _ _ _ _ ?g1x Zb rfl;case g1x=>refine' @Zh _ _ _ _ _ _ _ _ _ _ _ C__law_add hr (by decide) rfl ?g1y (by decide) (by rfl) (by rfl);case g1y=>refine' @Za _ _ _ _ _ ?g1z ?g20 rfl;(case g1z=>refine' @Zh _ _ _ _ _ _ _ _ _ _ _ C__law_mul hr (by decide) rfl ?g21 (by decide) (by rfl) (by rfl);case g21=>refine' @Za _ _ _ _ _ (pv 7) (Za (pv 8) Zb rfl) rfl);case g20=>refine' @Za _ _ _ _ _ ?g22 Zb rfl;case g22=>refine' @Zh _ _ _ _ _ _ _ _ _ _ _ C__law_mul hr (by decide) rfl ?g23 (by decide) (by rfl) (by rfl);case g23=>refine' @Za _ _ _ _ _ ?g24 ?g25 rfl;(case g24=>refine' @Zh _ _ _ _ _ _ _ _ _ _ _ C__law_mul hr (by decide) rfl ?g26 (by decide) (by rfl) (by rfl);case g26=>refine' @Za _ _ _ _ _ (pv 7) (Za (pv 7) Zb rfl) rfl);case g25=>refine' @Za _ _ _ _ _ ?g27 Zb rfl;case g27=>refine' @Zh _ _ _ _ _ _ _ _ _ _ _ C_worth_of hr (by decide) rfl ?g28 (by decide) (by rfl) (by rfl);case g28=>refine' @Za _ _ _ _ _ (pv 3) (Za (pv 6) Zb rfl) rfl);case g1t=>refine' @Zd _ _ _ _ _ ?g29 ?g2a;(case g29=>refine' @Xc _ _ _ _ _ _ _ _ ?g2b (Zi (Zl Xw)) Z2;case g2b=>refine' @Ye _ _ _ _ _ _ _ _ (Zla hu) ?g2c (pv 11) (Yb _);case g2c=>refine' @Zh _ _ _ _ _ _ _ _ _ _ _ C_worth_of hr (by decide) rfl ?g2d (by decide) (by rfl) (by rfl);case g2d=>refine' @Za _ _ _ _ _ (pv 3) (Za (pv 10) Zb rfl) rfl);case g2a=>refine' @Zd _ _ _ _ _ ?g2e ?g2f;(case g2e=>refine' @Zdf _ _ _ _ _ _ _ _ _ _ (["_law_row_here","_law_plate_here"]) ([none,some 3]) _ _ _ _ _ _ rfl rfl (Ze (i:=12) nd rfl (Or.inl rfl)) (Z3 (XN:=[("_law_script" : Str),("_law_k" : Str),("_law_state_here" : Str),("_law_plate_here" : Str),("_law_many" : Str),("_law_one" : Str),("_law_other" : Str),("_law_by" : Str),("_law_cross" : Str),("_law_own" : Str),("_law_both" : Str),("_law_due" : Str),("_law_rows" : Str),("_law_some" : Str)]) (Scope.names (Zc Zec)) rfl rfl rfl (fun _ h=>Zv h) (by decide +kernel) rfl) ?g2g (fun _ _ _ _=>(Ze (i:=0) (show List.Nodup [("_law_row_here" : Str),("_law_plate_here" : Str)] by decide) rfl (Or.inl rfl) (Or.inr rfl))) (fun _ _ _ _=>Zn) (fun _ _ _ _=>(Zh C_pushes hr (by decide) rfl (Za (pv 1) (Za (Zh C_stresses hr (by decide) rfl (Za (pv 1) (Za (pv 0) Zb rfl) rfl)) Zb rfl) rfl))) (by intro _ ;rfl);case g2g=>refine' @Yu _ _ _ _ ?g2h;case g2h=>refine' @Z5 _ _ _ _ _ ?g2i;case g2i=>refine' @Za _ _ _ _ _ (pv 5) ?g2j rfl;case g2j=>refine' @Za _ _ _ _ _ (pv 6) (Za (pv 10) Zb rfl) rfl);case g2f=>refine' @Zd _ _ _ _ _ ?g2k ?g2l;(case g2k=>refine' @Xc _ _ _ _ _ _ _ _ ?g2m (Zi (Zl Xw)) Z2;case g2m=>refine' @Ye _ _ _ _ _ _ _ _ (Zu5 Zwa (Zu0 hr)) ?g2n ?g2o (Yb _);(case g2n=>refine' @Zt _ _ _ _ _ _ _ Yl (pv 12) Zf (fun _ _=>rfl));case g2o=>refine' @Zh _ _ _ _ _ _ _ _ _ _ _ C__law_mixed hr (by decide) rfl ?g2p (by decide) (by rfl) (by rfl);case g2p=>refine' @Za _ _ _ _ _ ?g2q ?g2r rfl;(case g2q=>refine' @Zt _ _ _ _ _ _ _ Yl (pv 12) Zf (fun _ _=>rfl));case g2r=>refine' @Za _ _ _ _ _ ?g2s (Za (pv 7) Zb rfl) rfl;case g2s=>refine' @Zt _ _ _ _ _ _ _ Yl (pv 12) Zf (fun _ _=>rfl));case g2l=>refine' @Zd _ _ _ _ _ ?g2t ?g2u;(case g2t=>refine' @Zz _ _ (13) _ _ _ _ nd rfl (Or.inl rfl) ?g2v (by rfl) (by first|exact Or.inl rfl|exact Or.inr rfl|assumption);case g2v=>refine' @Yd _ _ _ _ _ _ _ _ _ Z1 rfl T.b_tuple Yk ?g2w (by decide) (by decide) (by rfl) (by rfl);case g2w=>refine' @Za _ _ _ _ _ ?g2x Zb rfl;case g2x=>refine' @Yp _ _ _ _ _ _ _ (["_law_piece","_law_state_here"]) ([none,some 2]) _ _ _ _ _ rfl (Z3 (XN:=[("_law_script" : Str),("_law_k" : Str),("_law_state_here" : Str),("_law_plate_here" : Str),("_law_many" : Str),("_law_one" : Str),("_law_other" : Str),("_law_by" : Str),("_law_cross" : Str),("_law_own" : Str),("_law_both" : Str),("_law_due" : Str),("_law_rows" : Str),("_law_some" : Str)]) (Scope.names (Zc Zec)) rfl rfl rfl (fun _ h=>Zv h) (by decide +kernel) rfl) ?g2y (fun _ _ _ _=>(Ze (i:=0) (show List.Nodup [("_law_piece" : Str),("_law_state_here" : Str)] by decide) rfl (Or.inl rfl) (Or.inr rfl))) (fun _ _ _ _=>Zn) (fun _ _ _ _=>(Zh C__law_row hr (by decide) rfl (Za (pv 1) (Za Zf Zb rfl) rfl))) (by intro _ ;rfl);case g2y=>refine' @Yu _ _ _ _ ?g2z;case g2z=>refine' @Zt _ _ _ _ _ _ _ Zu (pv 3) Zf (fun _ _=>rfl));case g2u=>refine' @Zi _ _ _ ?g30;case g30=>refine' @Xc _ _ _ _ _ _ _ _ ?g31 (Zi (Zl Xw)) Z2;case g31=>refine' @Ye _ _ _ _ _ _ _ _ (Zla hu) ?g32 ?g33 (Yb _);(case g32=>refine' @Zh _ _ _ _ _ _ _ _ _ _ _ C__law_dot hr (by decide) rfl ?g34 (by decide) (by rfl) (by rfl);case g34=>refine' @Za _ _ _ _ _ ?g35 (Za (pv 5) Zb rfl) rfl;case g35=>refine' @Zh _ _ _ _ _ _ _ _ _ _ _ C_pushes hr (by decide) rfl ?g36 (by decide) (by rfl) (by rfl);case g36=>refine' @Za _ _ _ _ _ (pv 3) (Za (pv 13) Zb rfl) rfl);case g33=>refine' @Zh _ _ _ _ _ _ _ _ _ _ _ C__law_strained hr (by decide) rfl ?g37 (by decide) (by rfl) (by rfl);case g37=>refine' @Za _ _ _ _ _ (pv 3) ?g38 rfl;case g38=>refine' @Za _ _ _ _ _ (pv 13) (Za (pv 5) Zb rfl) rfl
 refine ⟨_,rfl,a,_,rfl,.inl hS,_,_,rfl,_,_,rfl,_,rfl,?_,?_,?_⟩
 · split<;>(try split)<;>omega
 · rw [List.length_map];split<;>(try split)<;>omega
 refine Zm2 (fun i σ H2=>∃ v0 v1 v2 v3 v4 v5 v6 v7 v8 v9 v10 v11 v12:Option V,σ=[some (.ref a),v0,v1,v2,v3,v4,v5,v6,v7,v8,v9,v10,v11,v12]∧Same H H2) ⟨_,_,_,_,_,_,_,_,_,_,_,_,_,rfl,Same.refl H⟩ ?_ ?_
 rotate_left
 · rintro σ H2 ⟨v0,v1,v2,v3,v4,v5,v6,v7,v8,v9,v10,v11,v12,rfl,s2⟩
   exact q H2
 · rintro j σ H2 _ ⟨v0,v1,v2,v3,v4,v5,v6,v7,v8,v9,v10,v11,v12,rfl,s2⟩
   refine ⟨_,rfl,_,rfl,a,ns,j,by rw [Int.zero_add],s2.seq hS,fun l H4 nl s3 st4=>?_⟩;refine ⟨_,rfl,l,rfl,st4,fun H5 pv P' k5 st5 hP ok p4 c6=>?_⟩;have hP0:=hP;obtain ⟨pa,pc,pp,pt,ps,rfl,hpa,⟨ca,cv,rfl,hca,cal⟩,⟨qa,qv,rfl,hqa,qal⟩,_,_⟩:=hP0;have clen:=cal.1;have qlen:=qal.1;have c30:=ok.c30;refine ⟨_,rfl,pa,_,0,_,rfl,rfl,SqT.of hpa,rfl,ca,cv,rfl,.inr (SqT.of hca),_,_,rfl,rfl,mul3 (by decide) (by omega),?_⟩;refine ⟨_,rfl,_,rfl,l,2*P'.cs.length,by rw [clen];rfl,st5,by omega,fun H6 xv xs k6 st6 hX xlen xB x60=>?_⟩;refine ⟨_,rfl,_,rfl,l,2*P'.cs.length,by rw [clen];rfl,st6,by omega,fun H7 yv ys k7 st7 hY ylen yB y60=>?_⟩;refine ⟨_,rfl,l,rfl,st7,fun H8 bp b k8 st8 hb bD=>?_⟩;refine ⟨_,_,_,rfl,?_⟩;have k58:=k6.trans (k7.trans k8);have t58:Tk H5 H8:=tkS k58 st5;have t68:Tk H6 H8:=tkS (k7.trans k8) st6;replace hP:=hP.tk t58;replace hpa:=t58 _ _ hpa;replace hqa:=t58 _ _ hqa;replace hX:=Zw t68 hX;replace hY:=Zw (tkS k8 st7) hY;have k48:Keep l H4 H8:=k5.trans k58;have xD:∀ q∈xs,D60 q:=fun q hq=>⟨xB q hq,x60 q hq⟩;have yD:∀ q∈ys,D60 q:=fun q hq=>⟨yB q hq,y60 q hq⟩;have lxy:xs.length=ys.length:=by omega
   clear xB x60 yB y60 k58 t58 t68 k5 k6 k7 k8 st5 st6 st7;have xW:=wr_B ok p4 xD;have yW:=wr_B ok p4 yD;refine ⟨_,rfl,_,rfl,_,rfl,.ref pa,xv,yv,P',xs,ys,rfl,hP,ok,p4,hX,hY,xlen,ylen,xD,yD,fun H9 r9 s9 h9 cB=>?_⟩;obtain ⟨cr,rfl,hcr⟩:=h9;refine ⟨_,rfl,_,rfl,.ref pa,xv,P',xs,rfl,hP.tk s9.tk,ok,c6,Zw s9.tk hX,xlen,fun q hq=>d140 (xD q hq),fun H10 r10 s10 h10=>?_⟩;obtain ⟨ow,rfl,how⟩:=h10;refine ⟨_,_,rfl,?_⟩;have s810:=s9.trans s10;replace hcr:=s10 _ _ hcr;refine ⟨_,rfl,_,rfl,_,rfl,.ref pa,yv,xv,P',ys,xs,rfl,hP.tk s810.tk,ok,p4,Zw s810.tk hY,Zw s810.tk hX,ylen,xlen,yD,xD,fun H11 r11 s11 h11 _=>?_⟩;obtain ⟨a11,rfl,h11⟩:=h11;refine ⟨_,rfl,a11,cr,_,_,rfl,rfl,h11,s11 _ _ hcr,_,rfl,?_⟩;rw [decide_eq_true (Zvd P' ys xs)];refine iteF ?_;have s811:=s810.trans s11;refine ⟨_,rfl,_,rfl,_,rfl,.ref pa,xv,xv,P',xs,xs,rfl,hP.tk s811.tk,ok,p4,Zw s811.tk hX,Zw s811.tk hX,xlen,xlen,xD,xD,fun H12 r12 s12 h12 _=>?_⟩;obtain ⟨a12,rfl,h12⟩:=h12;refine ⟨z2_,fun z1 n1=>?_⟩;have s13:Same H12 (upd H12 z1 (.tup [.int 2,.int 1])):=Same.new n1;have e13:upd H12 z1 (.tup [.int 2,.int 1]) z1=some (.tup (rt ((2:Int):Rat))):=by rw [Zj,Zvu]
   generalize upd H12 z1 (.tup [.int 2,.int 1])=H13 at s13 e13 ⊢;have b2:FM.B 5 ((2:Int):Rat):=Zwe (by decide);refine ⟨_,rfl,z1,ow,_,_,rfl,e13,(s11.trans (s12.trans s13)) _ _ how,b2.mono (by decide),xW.mono (by decide),fun z2 H14 s14 hz2=>?_⟩;refine ⟨a12,z2,_,_,rfl,rfl,(s13.trans s14) _ _ h12,hz2,_,rfl,?_⟩;rw [decide_eq_true (Zt9 P' xs)];refine iteF ?_;have s1014:=s11.trans (s12.trans (s13.trans s14));have s814:=s810.trans s1014;have x4:∀ q∈xs,FM.B 400 q:=fun q hq=>(xD q hq).1.mono (by decide);have y4:∀ q∈ys,FM.B 400 q:=fun q hq=>(yD q hq).1.mono (by decide);refine ⟨_,rfl,_,rfl,_,rfl,xv,yv,xs,ys,bp,b,rfl,Zw s814.tk hX,Zw s814.tk hY,s814 _ _ hb,by omega,x4,y4,bD.1,fun H15 bv s15 hB=>?_⟩;have blen:(lin b xs ys).length=2*P'.cs.length:=by unfold lin;rw [List.length_zipWith];omega
   have dBo:=Zwi bD xD yD;have s1015:=s1014.trans s15;have s815:=s814.trans s15;refine ⟨_,rfl,_,rfl,_,rfl,bp,cr,_,_,rfl,s815 _ _ hb,s1015 _ _ hcr,bD.1.mono (by decide),cB.mono (by decide),fun z3 H16 s16 hz3=>?_⟩;have b3:=FM.B_mul bD.1 cB;have s816:=s815.trans s16;refine ⟨_,rfl,_,rfl,bp,bp,_,_,rfl,s816 _ _ hb,s816 _ _ hb,bD.1.mono (by decide),bD.1.mono (by decide),fun z4 H17 s17 hz4=>?_⟩;have b4:=FM.B_mul bD.1 bD.1;have s817:=s816.trans s17;refine ⟨_,rfl,_,rfl,.ref pa,yv,P',ys,rfl,hP.tk s817.tk,ok,c6,Zw s817.tk hY,ylen,fun q hq=>d140 (yD q hq),fun H18 r18 s18 h18=>?_⟩;obtain ⟨a18,rfl,h18⟩:=h18;refine ⟨z4,a18,_,_,rfl,s18 _ _ hz4,h18,b4.mono (by decide),yW.mono (by decide),fun z5 H19 s19 hz5=>?_⟩;have b5:=FM.B_mul b4 yW;refine ⟨z3,z5,_,_,rfl,(s17.trans (s18.trans s19)) _ _ hz3,hz5,b3.mono (by decide),b5.mono (by decide),fun z6 H20 s20 hz6=>?_⟩;have b6:=FM.B_add b3 b5;have s1620:=s17.trans (s18.trans (s19.trans s20));have s1520:=s16.trans s1620;refine ⟨ow,z6,_,_,rfl,(s1015.trans s1520) _ _ how,hz6,xW.mono (by decide),b6.mono (by decide),fun z7 H21 s21 hz7=>?_⟩;have s1521:=s1520.trans s21;have s821:=s815.trans s1521;replace hB:=Zw s1521.tk hB;refine ⟨_,rfl,_,rfl,.ref pa,bv,P',lin b xs ys,rfl,hP.tk s821.tk,ok,c6,hB,blen,dBo,fun H22 r22 s22 h22=>?_⟩;obtain ⟨a22,rfl,h22⟩:=h22;refine ⟨_,rfl,a22,z7,_,_,rfl,rfl,h22,s22 _ _ hz7,_,rfl,?_⟩;rw [decide_eq_true (Zvo ok lxy)];refine iteF ?_;have s822:=s821.trans s22;replace hP:=hP.tk s822.tk;replace hX:=Zw s822.tk hX;replace hY:=Zw s822.tk hY;replace hB:=Zw s22.tk hB;replace hb:=s822 _ _ hb;replace hpa:=s822 _ _ hpa;replace hqa:=s822 _ _ hqa;have st22:=st8.same s822;have k422:=k48.trans s822.keep;clear s9 s10 s11 s12 s13 s14 s15 s16 s17 s18 s19 s20 s21 s22 s810 s811 s814 s815 s816 s817 s821 s822 s1014 s1015 s1520 s1521 s1620 hcr how h11 h12 hz2 hz3 hz4 hz5 hz6 hz7 h18 h22 e13;refine ⟨_,rfl,_,rfl,_,rfl,z3_,fun W nW=>?_⟩;generalize gG:upd H22 W (.tup [xv,yv,bv])=H23;obtain ⟨s23,e23⟩:=gen_upd gG nW;refine ⟨W,rfl,⟨_,SqT.of e23⟩,fun D nD=>?_⟩;refine lc_T (k:=.t) (vs:=[xv,yv,bv]) IsQs hRQs [Y0 P' (Ym P' xs),Y0 P' (Ym P' ys),Y0 P' (Ym P' (lin b xs ys))] rfl (by show 3≤1000;decide) nD e23 (fun i w H24 C hw s24 c=>?_) (fun H24 us24 s24 e24 a24=>?_)
   · have key:∃ zs,IsQs H22 w zs∧zs.length=2*P'.cs.length∧(∀ q∈zs,FM.B 140 q∧(q.den:Int)∣3600)∧[Y0 P' (Ym P' xs),Y0 P' (Ym P' ys),Y0 P' (Ym P' (lin b xs ys))][i]? = some (Y0 P' (Ym P' zs)):=by
      have hi:=Yn hw;have hi3:i=0∨i=1∨i=2:=by simp at hi;omega
      rcases hi3 with rfl|rfl|rfl
      · cases hw;exact ⟨xs,hX,xlen,fun q hq=>d140 (xD q hq),rfl⟩
      · cases hw;exact ⟨ys,hY,ylen,fun q hq=>d140 (yD q hq),rfl⟩
      · cases hw;exact ⟨_,hB,blen,dBo,rfl⟩
     obtain ⟨zs,hz,zl,zd,ez⟩:=key;have t24:=(s23.trans s24).tk;refine ⟨_,rfl,_,rfl,_,rfl,.ref pa,w,P',zs,rfl,hP.tk t24,ok,Zw t24 hz,zl,fun q hq=>(zd q hq).1,fun H25 r25 s25 h25=>?_⟩;exact ⟨.ref pa,r25,P',Ym P' zs,rfl,hP.tk (t24.trans s25.tk),ok,p4,h25,Zpa ok zd,fun H26 r26 s26 h26=>c _ _ _ (s25.trans s26) ez h26⟩
   have s2224:=s23.trans s24;obtain ⟨u0,u1,u2,rfl⟩:=len3 (show us24.length=3 from a24.1);have h0:=a24.2 0 u0 _ rfl rfl;have h1:=a24.2 1 u1 _ rfl rfl;have h2:=a24.2 2 u2 _ rfl rfl
   have pB:∀ zs,(∀ q∈zs,D60 q)→∀ q∈Y0 P' (Ym P' zs),FM.B 400 q:=fun zs zd q hq=>by
    obtain ⟨M,m0,m1,hF⟩:=Zn3 ok p4 (Zpa ok fun q hq=>d140 (zd q hq));exact (hF q hq).B m0 (up 400 m1) (by decide)
   refine ⟨_,rfl,D,_,2,_,rfl,rfl,SqL.of e24,rfl,?_⟩;refine ⟨_,rfl,D,_,0,_,rfl,rfl,SqL.of e24,rfl,_,rfl,D,_,1,_,rfl,rfl,SqL.of e24,rfl,_,rfl,u0,u1,_,_,bp,b,rfl,h0,h1,s2224 _ _ hb,by unfold Y0;simp;omega,pB xs xD,pB ys yD,bD.1,fun H25 r25 s25 h25=>?_⟩;refine ⟨_,_,Zw s25.tk h2,h25,_,rfl,?_⟩;rw [decide_eq_true (Zsd ok lxy)];refine iteF ?_;have s2225:=s2224.trans s25;have st25:=st22.same s2225;replace hP:=hP.tk s2225.tk;replace hX:=Zw s2225.tk hX;replace hpa:=s2225 _ _ hpa;replace hqa:=s2225 _ _ hqa;have nql:qa≠l:=st25.neT hqa;refine ⟨_,rfl,pa,_,1,_,rfl,rfl,SqT.of hpa,rfl,qa,rfl,⟨_,SqT.of hqa⟩,fun D2 nD2=>?_⟩;refine Zj0 (n:=qv.length) (l:=l) (fun H v (s:List Rat)=>IsQs H v s∧s.length=3∧(∀ q∈s,FM.B 60 q)∧∀ q∈s,q.den∣60) (fun H1 H2 v x t r=>⟨Zw t r.1,r.2⟩) (by omega) (fun σ=>∃ u,σ=[u,some (.ref l)]) ⟨_,rfl⟩ nD2 st25 (fun i H8 k8 hi=>⟨qv,qv[i],SqT.of (k8 _ _ nql hqa),List.getElem?_eq_getElem hi⟩) (fun H8 k8=>⟨qv,SqT.of (k8 _ _ nql hqa),Nat.le_refl _⟩) (fun i x σ2 H8 H9 C hi k8 l8 y o c=>?_) (fun H26 vs8 ss k26 st26 e26 hy a26=>?_)
   · obtain ⟨u,rfl⟩:=o;obtain ⟨rfl,_⟩:=y;exact ⟨_,rfl,l,3,rfl,l8,by decide,fun H10 v10 ms10 k10 l10 h10 len10 B10 d10=>c _ _ _ ms10 ⟨_,rfl⟩ k10 l10 ⟨h10,len10,B10,d10⟩⟩
   have t26:Tk H25 H26:=tkS k26 st25;refine ⟨D2,vs8,rfl,.inl ⟨SqL.of e26,fun S nS=>?_⟩⟩;generalize gG:upd H26 S (.tup vs8)=H27;obtain ⟨s27,e27⟩:=gen_upd gG nS;have sl:ss.length=P'.ps.length:=by rw [hy,qlen]
   obtain ⟨sok,sB⟩:=Zsx sl a26;have hS27:Zib H27 (.ref S) ss:=⟨S,vs8,rfl,e27,a26.imp fun v x r=>Zw s27.tk r.1⟩;have t2527:=t26.trans s27.tk;replace hP:=hP.tk t2527;replace hX:=Zw t2527 hX;obtain ⟨M,m0,m1,hF⟩:=Zn3 ok p4 sok;have pl:(Y0 P' ss).length=2*P'.cs.length:=by unfold Y0;simp
   refine ⟨_,rfl,_,rfl,.ref pa,.ref S,P',ss,rfl,hP,ok,p4,hS27,sok,fun H28 r28 s28 h28=>?_⟩;refine ⟨_,rfl,r28,xv,_,xs,M,60,350,66,rfl,h28,Zw s28.tk hX,by omega,m0,by decide,up 400 m1,by decide,hF,fun q hq=>F60 (xD q hq),by decide,by decide,fun H29 r29 s29 h29=>?_⟩;rw [Zkr ok sl xlen] at h29;obtain ⟨a29,rfl,h29⟩:=h29;have s2729:=s28.trans s29;refine ⟨_,rfl,_,rfl,_,rfl,.ref pa,.ref S,xv,P',ss,xs,rfl,hP.tk s2729.tk,ok,p4,Zgk s2729.tk hS27,sl,fun s hs=>⟨(sB s hs).1,fun q hq=>⟨(sB s hs).2.1 q hq,(sB s hs).2.2 q hq⟩⟩,Zw s2729.tk hX,xlen,xD,fun H30 r30 s30 h30=>?_⟩;obtain ⟨a30,rfl,h30⟩:=h30;refine ⟨a29,a30,_,_,rfl,rfl,s30 _ _ h29,h30,_,rfl,?_⟩;rw [decide_eq_true rfl];refine iteF ?_;refine ⟨_,_,_,_,_,_,_,_,_,_,_,_,_,rfl,fun b' o e=>?_⟩;have nb:b'≠l:=Zo (s2 _ _ e) nl;exact (s2729.trans s30) _ _ (s27 _ _ (k26 _ _ nb (s2225 _ _ (k422 _ _ nb (s3 _ _ (s2 _ _ e))))))
end
structure Lk (K:PySem.W.Frag) (b:Str) (st:Stmt) (f:Addr):Prop where
 fn:∃ fd,Fun K b b st f fd
 a:PySem.W.nsIn K mainGlobals b=some (some (.ref f))
 k:PySem.W.keepIn K (.ref f)=true
theorem Zwn {K:PySem.W.Frag} {b:Str} {st:Stmt} {f:Addr} {od an:Option Addr} {sl:Array (Option Value)} {oc kV dc pm cd ct:Value} (a:PySem.W.nsIn K mainGlobals b=some (some (.ref f))) (l:K.lookup f=some ⟨oc,od,.func (PySem.W.fnOf b b (Xj st) (Y4 st) (Zc st) .none kV dc pm an cd ct),sl⟩) (c:PySem.W.codeIn K cd b=true) (k:PySem.W.keepIn K (.ref f)=true):Lk K b st f:=⟨⟨_,Zq8 (st:=st) l c k⟩,a,k⟩
theorem ln1 {us:List Value} (h:us.length=1):∃ x0,us=[x0]:=match us,h with|[x0],_=>⟨x0,rfl⟩
theorem ln2 {us:List Value} (h:us.length=2):∃ x0 x1,us=[x0,x1]:=match us,h with|[x0,x1],_=>⟨x0,x1,rfl⟩
theorem ln3 {us:List Value} (h:us.length=3):∃ x0 x1 x2,us=[x0,x1,x2]:=match us,h with|[x0,x1,x2],_=>⟨x0,x1,x2,rfl⟩
theorem Zu3 {l:PySem.W.OpenLaw} {w:World} {K:PySem.W.Frag} {h:Heap} {mg:Str→Option Value} {fa:Addr} (X:K.In h) (G:h.Ns mainGlobals mg) (hfa:mg "law" = some (.ref fa))
 {f_0:Addr} (h_0:Lk K "plain_divisor" Xr f_0)
 {f_1:Addr} (h_1:Lk K "divisor" Zes f_1)
 {f_2:Addr} (h_2:Lk K "is_whole" Zcz f_2)
 {f_3:Addr} (h_3:Lk K "reduced" Zd2 f_3)
 {f_4:Addr} (h_4:Lk K "is_fraction" X8 f_4)
 {f_5:Addr} (h_5:Lk K "is_between" Zaz f_5)
 {f_6:Addr} (h_6:Lk K "is_row" Zgq f_6)
 {f_7:Addr} (h_7:Lk K "are_rising" X5 f_7)
 {f_8:Addr} (h_8:Lk K "is_corner" Zbp f_8)
 {f_9:Addr} (h_9:Lk K "are_corners" Zag f_9)
 {f_10:Addr} (h_10:Lk K "turn" Zns f_10)
 {f_11:Addr} (h_11:Lk K "turn_of" Zen f_11)
 {f_12:Addr} (h_12:Lk K "is_piece" Za8 f_12)
 {f_13:Addr} (h_13:Lk K "are_pieces" Xx f_13)
 {f_14:Addr} (h_14:Lk K "are_thicks" Za1 f_14)
 {f_15:Addr} (h_15:Lk K "is_stuff" Zcq f_15)
 {f_16:Addr} (h_16:Lk K "triangle" Zbc f_16)
 {f_17:Addr} (h_17:Lk K "edges" Zkk f_17)
 {f_18:Addr} (h_18:Lk K "lies_in" Zca f_18)
 {f_19:Addr} (h_19:Lk K "parts_from" Xy f_19)
 {f_20:Addr} (h_20:Lk K "are_apart" Zbw f_20)
 {f_21:Addr} (h_21:Lk K "every_corner_is_used" Yr f_21)
 {f_22:Addr} (h_22:Lk K "no_strange_corner" Z6 f_22)
 {f_23:Addr} (h_23:Lk K "fit_together" Y3 f_23)
 {f_24:Addr} (h_24:Lk K "is_plate" Zcu f_24)
 {f_25:Addr} (h_25:Lk K "look_at_plate" Xs f_25)
 {f_26:Addr} (h_26:Lk K "look_at_piece" Xv f_26)
 {f_27:Addr} (h_27:Lk K "ways_of" Zd1 f_27)
 {f_28:Addr} (h_28:Lk K "multiple" Zcy f_28)
 {f_29:Addr} (h_29:Lk K "are_fractions" Xq f_29)
 {f_30:Addr} (h_30:Lk K "levelled" Zai f_30)
 {f_31:Addr} {od_31 an_31:Option Addr} {sl_31:Array (Option Value)} {oc_31 kV_31 dc_31 pm_31 cd_31 ct_31:Value}
 {dT_31:Addr} {dt_31:Tok} {dn_31:Nat} {oo_31:Option Addr} {os_31:Array (Option Value)} {occ_31:Value}
 (a_31:PySem.W.nsIn K mainGlobals "mixed" = some (some (.ref f_31)))
 (l_31:K.lookup f_31=some ⟨oc_31,od_31,.func (PySem.W.fnOf "mixed" "mixed" (Xj Zcv) (Y4 Zcv) (Zc Zcv) (.ref dT_31) kV_31 dc_31 pm_31 an_31 cd_31 ct_31),sl_31⟩)
 (c_31:PySem.W.codeIn K cd_31 "mixed" = true) (k_31:PySem.W.keepIn K (.ref f_31)=true)
 (t_31:K.lookup dT_31=some ⟨occ_31,oo_31,.seq #[.int 1 dt_31] dn_31,os_31⟩)
 {f_32:Addr} (h_32:Lk K "look_at_motions" Xi f_32)
 {f_33:Addr} (h_33:Lk K "dot" Zs8 f_33)
 {f_34:Addr} (h_34:Lk K "added" Zkj f_34)
 {f_35:Addr} (h_35:Lk K "slopes" Zdu f_35)
 {f_36:Addr} (h_36:Lk K "piece_ways" Zau f_36)
 {f_37:Addr} (h_37:Lk K "at_piece" Zba f_37)
 {f_38:Addr} (h_38:Lk K "strained" Zcm f_38)
 {f_39:Addr} (h_39:Lk K "stressed" Zcl f_39)
 {f_40:Addr} (h_40:Lk K "pushed" Zcc f_40)
 {f_41:Addr} (h_41:Lk K "strain_by" Zby f_41)
 {f_42:Addr} (h_42:Lk K "stress_by" Zah f_42)
 {f_43:Addr} (h_43:Lk K "stresses_by" Xo f_43)
 {f_44:Addr} (h_44:Lk K "worth_by" Zcj f_44)
 {f_45:Addr} (h_45:Lk K "are_stresses_of" Xh f_45)
 {f_46:Addr} (h_46:Lk K "look_at_moved" Xp f_46)
 {f_47:Addr} (h_47:Lk K "look_at_stresses" Y9 f_47)
 {f_48:Addr} (h_48:Lk K "look_at_stressed" Xd f_48)
 {f_49:Addr} (h_49:Lk K "strain" Zdz f_49)
 {f_50:Addr} (h_50:Lk K "stresses" Zcp f_50)
 {f_51:Addr} (h_51:Lk K "worth_of" Zcn f_51)
 {f_52:Addr} (h_52:Lk K "pushes_of" Zbz f_52)
 {f_53:Addr} (h_53:Lk K "pushes" Zf9 f_53)
 {f_54:Addr} (h_54:Lk K "_law_cell_at" X3 f_54)
 {f_55:Addr} (h_55:Lk K "_law_state" Zay f_55)
 {f_56:Addr} (h_56:Lk K "_law_choice" Zae f_56)
 {f_57:Addr} (h_57:Lk K "_law_order" Za0 f_57)
 {f_58:Addr} (h_58:Lk K "_law_low" Zcw f_58)
 {f_59:Addr} (h_59:Lk K "_law_add" Zcx f_59)
 {f_60:Addr} (h_60:Lk K "_law_mul" Zcr f_60)
 {f_61:Addr} (h_61:Lk K "_law_total" Zaw f_61)
 {f_62:Addr} (h_62:Lk K "_law_dot" Zco f_62)
 {f_63:Addr} (h_63:Lk K "_law_fraction" Xu f_63)
 {f_64:Addr} (h_64:Lk K "_law_shapes" Zaf f_64)
 {f_65:Addr} (h_65:Lk K "_law_plate" Y6 f_65)
 {f_66:Addr} (h_66:Lk K "_law_row" Za5 f_66)
 {f_67:Addr} (h_67:Lk K "_law_works" Zav f_67)
 {f_68:Addr} (h_68:Lk K "_law_mixed" Xz f_68)
 {f_69:Addr} (h_69:Lk K "_law_strained" Y7 f_69)
 {f_law:Addr} {od_law an_law:Option Addr} {sl_law:Array (Option Value)} {oc_law kV_law dc_law pm_law cd_law ct_law:Value}
 (a_law:PySem.W.nsIn K mainGlobals "law" = some (some (.ref f_law)))
 (l_law:K.lookup f_law=some ⟨oc_law,od_law,.func (PySem.W.fnOf "law" "law" (Xj Zec) (Y4 Zec) (Zc Zec) .none kV_law dc_law pm_law an_law cd_law ct_law),sl_law⟩)
 (c_law:PySem.W.codeIn K cd_law "law" = true) (k_law:PySem.W.keepIn K (.ref f_law)=true)
 (z_abs:PySem.W.nsIn K mainGlobals "abs" = some none)
 (z_all:PySem.W.nsIn K mainGlobals "all" = some none)
 (z_any:PySem.W.nsIn K mainGlobals "any" = some none)
 (z_bool:PySem.W.nsIn K mainGlobals "bool" = some none)
 (z_enumerate:PySem.W.nsIn K mainGlobals "enumerate" = some none)
 (z_int:PySem.W.nsIn K mainGlobals "int" = some none)
 (z_isinstance:PySem.W.nsIn K mainGlobals "isinstance" = some none)
 (z_len:PySem.W.nsIn K mainGlobals "len" = some none)
 (z_list:PySem.W.nsIn K mainGlobals "list" = some none)
 (z_max:PySem.W.nsIn K mainGlobals "max" = some none)
 (z_min:PySem.W.nsIn K mainGlobals "min" = some none)
 (z_range:PySem.W.nsIn K mainGlobals "range" = some none)
 (z_set:PySem.W.nsIn K mainGlobals "set" = some none)
 (z_sorted:PySem.W.nsIn K mainGlobals "sorted" = some none)
 (z_sum:PySem.W.nsIn K mainGlobals "sum" = some none)
 (z_tuple:PySem.W.nsIn K mainGlobals "tuple" = some none)
 (z_zip:PySem.W.nsIn K mainGlobals "zip" = some none)
 {tn_FARTHEST:Tok} (n_FARTHEST:PySem.W.nsIn K mainGlobals "FARTHEST" = some (some (.int 100 tn_FARTHEST)))
 {tn_FEWEST_CORNERS:Tok} (n_FEWEST_CORNERS:PySem.W.nsIn K mainGlobals "FEWEST_CORNERS" = some (some (.int 3 tn_FEWEST_CORNERS)))
 {tn_GREAT_BITS:Tok} (n_GREAT_BITS:PySem.W.nsIn K mainGlobals "GREAT_BITS" = some (some (.int 4000 tn_GREAT_BITS)))
 {tn_MOST_CORNERS:Tok} (n_MOST_CORNERS:PySem.W.nsIn K mainGlobals "MOST_CORNERS" = some (some (.int 30 tn_MOST_CORNERS)))
 {tn_MOST_PIECES:Tok} (n_MOST_PIECES:PySem.W.nsIn K mainGlobals "MOST_PIECES" = some (some (.int 40 tn_MOST_PIECES)))
 {tn_MOST_STUFF:Tok} (n_MOST_STUFF:PySem.W.nsIn K mainGlobals "MOST_STUFF" = some (some (.int 9 tn_MOST_STUFF)))
 {tn_THICKEST:Tok} (n_THICKEST:PySem.W.nsIn K mainGlobals "THICKEST" = some (some (.int 9 tn_THICKEST)))
 : ∃ fd:FuncData,(∀ (s:Shared) (v:Value),BindsTo s fd ⟨[v],[]⟩ [("_law_script",v)])∧∀ base:Heap,K.In base→base.Ns mainGlobals mg→FnOk l.prog w K mg base CX0 10 fa fd ["_law_script"] (Zkl K):=by
 have e:=hfa.symm.trans (PySem.W.mg_of X G a_law);cases e
 have T:Bt mg:=⟨PySem.W.mg_none_of X G z_abs,PySem.W.mg_none_of X G z_all,PySem.W.mg_none_of X G z_any,PySem.W.mg_none_of X G z_bool,PySem.W.mg_none_of X G z_enumerate,PySem.W.mg_none_of X G z_int,PySem.W.mg_none_of X G z_isinstance,PySem.W.mg_none_of X G z_len,PySem.W.mg_none_of X G z_list,PySem.W.mg_none_of X G z_max,PySem.W.mg_none_of X G z_min,PySem.W.mg_none_of X G z_range,PySem.W.mg_none_of X G z_set,PySem.W.mg_none_of X G z_sorted,PySem.W.mg_none_of X G z_sum,PySem.W.mg_none_of X G z_tuple,PySem.W.mg_none_of X G z_zip,⟨_,PySem.W.mg_of X G n_FARTHEST⟩,⟨_,PySem.W.mg_of X G n_FEWEST_CORNERS⟩,⟨_,PySem.W.mg_of X G n_GREAT_BITS⟩,⟨_,PySem.W.mg_of X G n_MOST_CORNERS⟩,⟨_,PySem.W.mg_of X G n_MOST_PIECES⟩,⟨_,PySem.W.mg_of X G n_MOST_STUFF⟩,⟨_,PySem.W.mg_of X G n_THICKEST⟩⟩;obtain ⟨_,F_0⟩:=h_0.fn;have b_0:=F_0.binds (ps:=["one","other"]) fun _ _ _ _ _ _ us hl=>by obtain ⟨_,_,rfl⟩:=ln2 hl;rfl
 obtain ⟨_,F_1⟩:=h_1.fn;have b_1:=F_1.binds (ps:=["one","other"]) fun _ _ _ _ _ _ us hl=>by obtain ⟨_,_,rfl⟩:=ln2 hl;rfl
 obtain ⟨_,F_2⟩:=h_2.fn;have b_2:=F_2.binds (ps:=["thing"]) fun _ _ _ _ _ _ us hl=>by obtain ⟨_,rfl⟩:=ln1 hl;rfl
 obtain ⟨_,F_3⟩:=h_3.fn;have b_3:=F_3.binds (ps:=["top","bottom"]) fun _ _ _ _ _ _ us hl=>by obtain ⟨_,_,rfl⟩:=ln2 hl;rfl
 obtain ⟨_,F_4⟩:=h_4.fn;have b_4:=F_4.binds (ps:=["thing"]) fun _ _ _ _ _ _ us hl=>by obtain ⟨_,rfl⟩:=ln1 hl;rfl
 obtain ⟨_,F_5⟩:=h_5.fn;have b_5:=F_5.binds (ps:=["thing","least","most"]) fun _ _ _ _ _ _ us hl=>by obtain ⟨_,_,_,rfl⟩:=ln3 hl;rfl
 obtain ⟨_,F_6⟩:=h_6.fn;have b_6:=F_6.binds (ps:=["thing","fewest","most"]) fun _ _ _ _ _ _ us hl=>by obtain ⟨_,_,_,rfl⟩:=ln3 hl;rfl
 obtain ⟨_,F_7⟩:=h_7.fn;have b_7:=F_7.binds (ps:=["things"]) fun _ _ _ _ _ _ us hl=>by obtain ⟨_,rfl⟩:=ln1 hl;rfl
 obtain ⟨_,F_8⟩:=h_8.fn;have b_8:=F_8.binds (ps:=["thing"]) fun _ _ _ _ _ _ us hl=>by obtain ⟨_,rfl⟩:=ln1 hl;rfl
 obtain ⟨_,F_9⟩:=h_9.fn;have b_9:=F_9.binds (ps:=["thing"]) fun _ _ _ _ _ _ us hl=>by obtain ⟨_,rfl⟩:=ln1 hl;rfl
 obtain ⟨_,F_10⟩:=h_10.fn;have b_10:=F_10.binds (ps:=["first","second","third"]) fun _ _ _ _ _ _ us hl=>by obtain ⟨_,_,_,rfl⟩:=ln3 hl;rfl
 obtain ⟨_,F_11⟩:=h_11.fn;have b_11:=F_11.binds (ps:=["corners","piece"]) fun _ _ _ _ _ _ us hl=>by obtain ⟨_,_,rfl⟩:=ln2 hl;rfl
 obtain ⟨_,F_12⟩:=h_12.fn;have b_12:=F_12.binds (ps:=["corners","thing"]) fun _ _ _ _ _ _ us hl=>by obtain ⟨_,_,rfl⟩:=ln2 hl;rfl
 obtain ⟨_,F_13⟩:=h_13.fn;have b_13:=F_13.binds (ps:=["corners","thing"]) fun _ _ _ _ _ _ us hl=>by obtain ⟨_,_,rfl⟩:=ln2 hl;rfl
 obtain ⟨_,F_14⟩:=h_14.fn;have b_14:=F_14.binds (ps:=["pieces","thing"]) fun _ _ _ _ _ _ us hl=>by obtain ⟨_,_,rfl⟩:=ln2 hl;rfl
 obtain ⟨_,F_15⟩:=h_15.fn;have b_15:=F_15.binds (ps:=["thing"]) fun _ _ _ _ _ _ us hl=>by obtain ⟨_,rfl⟩:=ln1 hl;rfl
 obtain ⟨_,F_16⟩:=h_16.fn;have b_16:=F_16.binds (ps:=["corners","piece"]) fun _ _ _ _ _ _ us hl=>by obtain ⟨_,_,rfl⟩:=ln2 hl;rfl
 obtain ⟨_,F_17⟩:=h_17.fn;have b_17:=F_17.binds (ps:=["points"]) fun _ _ _ _ _ _ us hl=>by obtain ⟨_,rfl⟩:=ln1 hl;rfl
 obtain ⟨_,F_18⟩:=h_18.fn;have b_18:=F_18.binds (ps:=["point","points"]) fun _ _ _ _ _ _ us hl=>by obtain ⟨_,_,rfl⟩:=ln2 hl;rfl
 obtain ⟨_,F_19⟩:=h_19.fn;have b_19:=F_19.binds (ps:=["points","others"]) fun _ _ _ _ _ _ us hl=>by obtain ⟨_,_,rfl⟩:=ln2 hl;rfl
 obtain ⟨_,F_20⟩:=h_20.fn;have b_20:=F_20.binds (ps:=["points","others"]) fun _ _ _ _ _ _ us hl=>by obtain ⟨_,_,rfl⟩:=ln2 hl;rfl
 obtain ⟨_,F_21⟩:=h_21.fn;have b_21:=F_21.binds (ps:=["corners","pieces"]) fun _ _ _ _ _ _ us hl=>by obtain ⟨_,_,rfl⟩:=ln2 hl;rfl
 obtain ⟨_,F_22⟩:=h_22.fn;have b_22:=F_22.binds (ps:=["corners","piece","points"]) fun _ _ _ _ _ _ us hl=>by obtain ⟨_,_,_,rfl⟩:=ln3 hl;rfl
 obtain ⟨_,F_23⟩:=h_23.fn;have b_23:=F_23.binds (ps:=["corners","pieces"]) fun _ _ _ _ _ _ us hl=>by obtain ⟨_,_,rfl⟩:=ln2 hl;rfl
 obtain ⟨_,F_24⟩:=h_24.fn;have b_24:=F_24.binds (ps:=["thing"]) fun _ _ _ _ _ _ us hl=>by obtain ⟨_,rfl⟩:=ln1 hl;rfl
 obtain ⟨_,F_25⟩:=h_25.fn;have b_25:=F_25.binds (ps:=["plate"]) fun _ _ _ _ _ _ us hl=>by obtain ⟨_,rfl⟩:=ln1 hl;rfl
 obtain ⟨_,F_26⟩:=h_26.fn;have b_26:=F_26.binds (ps:=["plate","piece"]) fun _ _ _ _ _ _ us hl=>by obtain ⟨_,_,rfl⟩:=ln2 hl;rfl
 obtain ⟨_,F_27⟩:=h_27.fn;have b_27:=F_27.binds (ps:=["plate"]) fun _ _ _ _ _ _ us hl=>by obtain ⟨_,rfl⟩:=ln1 hl;rfl
 obtain ⟨_,F_28⟩:=h_28.fn;have b_28:=F_28.binds (ps:=["bottoms"]) fun _ _ _ _ _ _ us hl=>by obtain ⟨_,rfl⟩:=ln1 hl;rfl
 obtain ⟨_,F_29⟩:=h_29.fn;have b_29:=F_29.binds (ps:=["thing","many"]) fun _ _ _ _ _ _ us hl=>by obtain ⟨_,_,rfl⟩:=ln2 hl;rfl
 obtain ⟨_,F_30⟩:=h_30.fn;have b_30:=F_30.binds (ps:=["parts"]) fun _ _ _ _ _ _ us hl=>by obtain ⟨_,rfl⟩:=ln1 hl;rfl
 have F_31:=Zsw (st:=Zcv) l_31 c_31 k_31;obtain ⟨_,F_32⟩:=h_32.fn;have b_32:=F_32.binds (ps:=["plate","motions"]) fun _ _ _ _ _ _ us hl=>by obtain ⟨_,_,rfl⟩:=ln2 hl;rfl
 obtain ⟨_,F_33⟩:=h_33.fn;have b_33:=F_33.binds (ps:=["ones","others"]) fun _ _ _ _ _ _ us hl=>by obtain ⟨_,_,rfl⟩:=ln2 hl;rfl
 obtain ⟨_,F_34⟩:=h_34.fn;have b_34:=F_34.binds (ps:=["terms"]) fun _ _ _ _ _ _ us hl=>by obtain ⟨_,rfl⟩:=ln1 hl;rfl
 obtain ⟨_,F_35⟩:=h_35.fn;have b_35:=F_35.binds (ps:=["plate","number"]) fun _ _ _ _ _ _ us hl=>by obtain ⟨_,_,rfl⟩:=ln2 hl;rfl
 obtain ⟨_,F_36⟩:=h_36.fn;have b_36:=F_36.binds (ps:=["plate","number"]) fun _ _ _ _ _ _ us hl=>by obtain ⟨_,_,rfl⟩:=ln2 hl;rfl
 obtain ⟨_,F_37⟩:=h_37.fn;have b_37:=F_37.binds (ps:=["plate","number","things"]) fun _ _ _ _ _ _ us hl=>by obtain ⟨_,_,_,rfl⟩:=ln3 hl;rfl
 obtain ⟨_,F_38⟩:=h_38.fn;have b_38:=F_38.binds (ps:=["bees","cees","six"]) fun _ _ _ _ _ _ us hl=>by obtain ⟨_,_,_,rfl⟩:=ln3 hl;rfl
 obtain ⟨_,F_39⟩:=h_39.fn;have b_39:=F_39.binds (ps:=["stuff","three"]) fun _ _ _ _ _ _ us hl=>by obtain ⟨_,_,rfl⟩:=ln2 hl;rfl
 obtain ⟨_,F_40⟩:=h_40.fn;have b_40:=F_40.binds (ps:=["bees","cees","three"]) fun _ _ _ _ _ _ us hl=>by obtain ⟨_,_,_,rfl⟩:=ln3 hl;rfl
 obtain ⟨_,F_41⟩:=h_41.fn;have b_41:=F_41.binds (ps:=["plate","motions","number"]) fun _ _ _ _ _ _ us hl=>by obtain ⟨_,_,_,rfl⟩:=ln3 hl;rfl
 obtain ⟨_,F_42⟩:=h_42.fn;have b_42:=F_42.binds (ps:=["plate","motions","number"]) fun _ _ _ _ _ _ us hl=>by obtain ⟨_,_,_,rfl⟩:=ln3 hl;rfl
 obtain ⟨_,F_43⟩:=h_43.fn;have b_43:=F_43.binds (ps:=["plate","motions"]) fun _ _ _ _ _ _ us hl=>by obtain ⟨_,_,rfl⟩:=ln2 hl;rfl
 obtain ⟨_,F_44⟩:=h_44.fn;have b_44:=F_44.binds (ps:=["plate","motions"]) fun _ _ _ _ _ _ us hl=>by obtain ⟨_,_,rfl⟩:=ln2 hl;rfl
 obtain ⟨_,F_45⟩:=h_45.fn;have b_45:=F_45.binds (ps:=["plate","thing"]) fun _ _ _ _ _ _ us hl=>by obtain ⟨_,_,rfl⟩:=ln2 hl;rfl
 obtain ⟨_,F_46⟩:=h_46.fn;have b_46:=F_46.binds (ps:=["plate","motions"]) fun _ _ _ _ _ _ us hl=>by obtain ⟨_,_,rfl⟩:=ln2 hl;rfl
 obtain ⟨_,F_47⟩:=h_47.fn;have b_47:=F_47.binds (ps:=["plate","given"]) fun _ _ _ _ _ _ us hl=>by obtain ⟨_,_,rfl⟩:=ln2 hl;rfl
 obtain ⟨_,F_48⟩:=h_48.fn;have b_48:=F_48.binds (ps:=["plate","given"]) fun _ _ _ _ _ _ us hl=>by obtain ⟨_,_,rfl⟩:=ln2 hl;rfl
 obtain ⟨_,F_49⟩:=h_49.fn;have b_49:=F_49.binds (ps:=["plate","motions","piece"]) fun _ _ _ _ _ _ us hl=>by obtain ⟨_,_,_,rfl⟩:=ln3 hl;rfl
 obtain ⟨_,F_50⟩:=h_50.fn;have b_50:=F_50.binds (ps:=["plate","motions"]) fun _ _ _ _ _ _ us hl=>by obtain ⟨_,_,rfl⟩:=ln2 hl;rfl
 obtain ⟨_,F_51⟩:=h_51.fn;have b_51:=F_51.binds (ps:=["plate","motions"]) fun _ _ _ _ _ _ us hl=>by obtain ⟨_,_,rfl⟩:=ln2 hl;rfl
 obtain ⟨_,F_52⟩:=h_52.fn;have b_52:=F_52.binds (ps:=["plate","given"]) fun _ _ _ _ _ _ us hl=>by obtain ⟨_,_,rfl⟩:=ln2 hl;rfl
 obtain ⟨_,F_53⟩:=h_53.fn;have b_53:=F_53.binds (ps:=["plate","stresses"]) fun _ _ _ _ _ _ us hl=>by obtain ⟨_,_,rfl⟩:=ln2 hl;rfl
 obtain ⟨_,F_54⟩:=h_54.fn;have b_54:=F_54.binds (ps:=["_law_script","_law_k"]) fun _ _ _ _ _ _ us hl=>by obtain ⟨_,_,rfl⟩:=ln2 hl;rfl
 obtain ⟨_,F_55⟩:=h_55.fn;have b_55:=F_55.binds (ps:=["_law_script","_law_k"]) fun _ _ _ _ _ _ us hl=>by obtain ⟨_,_,rfl⟩:=ln2 hl;rfl
 obtain ⟨_,F_56⟩:=h_56.fn;have b_56:=F_56.binds (ps:=["_law_state_here","_law_many"]) fun _ _ _ _ _ _ us hl=>by obtain ⟨_,_,rfl⟩:=ln2 hl;rfl
 obtain ⟨_,F_57⟩:=h_57.fn;have b_57:=F_57.binds (ps:=["_law_state_here","_law_many"]) fun _ _ _ _ _ _ us hl=>by obtain ⟨_,_,rfl⟩:=ln2 hl;rfl
 obtain ⟨_,F_58⟩:=h_58.fn;have b_58:=F_58.binds (ps:=["_law_top","_law_bottom"]) fun _ _ _ _ _ _ us hl=>by obtain ⟨_,_,rfl⟩:=ln2 hl;rfl
 obtain ⟨_,F_59⟩:=h_59.fn;have b_59:=F_59.binds (ps:=["_law_one","_law_other"]) fun _ _ _ _ _ _ us hl=>by obtain ⟨_,_,rfl⟩:=ln2 hl;rfl
 obtain ⟨_,F_60⟩:=h_60.fn;have b_60:=F_60.binds (ps:=["_law_one","_law_other"]) fun _ _ _ _ _ _ us hl=>by obtain ⟨_,_,rfl⟩:=ln2 hl;rfl
 obtain ⟨_,F_61⟩:=h_61.fn;have b_61:=F_61.binds (ps:=["_law_some"]) fun _ _ _ _ _ _ us hl=>by obtain ⟨_,rfl⟩:=ln1 hl;rfl
 obtain ⟨_,F_62⟩:=h_62.fn;have b_62:=F_62.binds (ps:=["_law_row_here","_law_other"]) fun _ _ _ _ _ _ us hl=>by obtain ⟨_,_,rfl⟩:=ln2 hl;rfl
 obtain ⟨_,F_63⟩:=h_63.fn;have b_63:=F_63.binds (ps:=["_law_state_here"]) fun _ _ _ _ _ _ us hl=>by obtain ⟨_,rfl⟩:=ln1 hl;rfl
 obtain ⟨_,F_64⟩:=h_64.fn;have b_64:=F_64.binds (ps:=[]) fun _ _ _ _ _ _ us hl=>match us,hl with|[],_=>rfl
 obtain ⟨_,F_65⟩:=h_65.fn;have b_65:=F_65.binds (ps:=["_law_state_here","_law_most"]) fun _ _ _ _ _ _ us hl=>by obtain ⟨_,_,rfl⟩:=ln2 hl;rfl
 obtain ⟨_,F_66⟩:=h_66.fn;have b_66:=F_66.binds (ps:=["_law_state_here","_law_many"]) fun _ _ _ _ _ _ us hl=>by obtain ⟨_,_,rfl⟩:=ln2 hl;rfl
 obtain ⟨_,F_67⟩:=h_67.fn;have b_67:=F_67.binds (ps:=["_law_plate_here","_law_motions","_law_other"]) fun _ _ _ _ _ _ us hl=>by obtain ⟨_,_,_,rfl⟩:=ln3 hl;rfl
 obtain ⟨_,F_68⟩:=h_68.fn;have b_68:=F_68.binds (ps:=["_law_one","_law_other","_law_by"]) fun _ _ _ _ _ _ us hl=>by obtain ⟨_,_,_,rfl⟩:=ln3 hl;rfl
 obtain ⟨_,F_69⟩:=h_69.fn;have b_69:=F_69.binds (ps:=["_law_plate_here","_law_some","_law_motions"]) fun _ _ _ _ _ _ us hl=>by obtain ⟨_,_,_,rfl⟩:=ln3 hl;rfl
 have F_law:=Zq8 (st:=Zec) l_law c_law k_law;refine ⟨PySem.W.fnOf "law" "law" (Xj Zec) (Y4 Zec) (Zc Zec) .none kV_law dc_law pm_law an_law cd_law ct_law,fun s v=>.of_eq rfl,fun base _ _=>?_⟩;have C_0:a0_ l.prog w K mg base:=⟨f_0,_,Zdo F_0 T,PySem.W.mg_of X G h_0.a,h_0.k,b_0⟩;have C_1:a1_ l.prog w K mg base:=⟨f_1,_,Zl5 F_1 T C_0,PySem.W.mg_of X G h_1.a,h_1.k,b_1⟩;have C_2:a2_ l.prog w K mg base:=⟨f_2,_,Zkg F_2 T,PySem.W.mg_of X G h_2.a,h_2.k,b_2⟩;have C_3:a27_ l.prog w K mg base:=⟨f_3,_,Zmd F_3 T C_1,PySem.W.mg_of X G h_3.a,h_3.k,b_3⟩;have C_4:a24_ l.prog w K mg base:=⟨f_4,_,Zfc F_4 T C_1 C_2,PySem.W.mg_of X G h_4.a,h_4.k,b_4⟩;have C_5:a3_ l.prog w K mg base:=⟨f_5,_,Zgo F_5 T C_2,PySem.W.mg_of X G h_5.a,h_5.k,b_5⟩;have C_6:a4_ l.prog w K mg base:=⟨f_6,_,Zo3 F_6 T,PySem.W.mg_of X G h_6.a,h_6.k,b_6⟩;have C_x7:a7_ l.prog w K mg base:=⟨f_7,_,Ze9 F_7 T,PySem.W.mg_of X G h_7.a,h_7.k,b_7⟩;have C_x8:a9_ l.prog w K mg base:=⟨f_7,_,Zfg F_7 T,PySem.W.mg_of X G h_7.a,h_7.k,b_7⟩;have C_8:a5_ l.prog w K mg base:=⟨f_8,_,Zhe F_8 T C_5 C_6,PySem.W.mg_of X G h_8.a,h_8.k,b_8⟩;have C_9:a17_ l.prog w K mg base:=⟨f_9,_,Zfh F_9 T C_8 C_6,PySem.W.mg_of X G h_9.a,h_9.k,b_9⟩;have C_10:a6_ l.prog w K mg base:=⟨f_10,_,Zst F_10 T,PySem.W.mg_of X G h_10.a,h_10.k,b_10⟩;have C_11:a8_ l.prog w K mg base:=⟨f_11,_,Zl9 F_11 T C_10,PySem.W.mg_of X G h_11.a,h_11.k,b_11⟩;have C_12:a10_ l.prog w K mg base:=⟨f_12,_,Zkh F_12 T C_x7 C_5 C_6 C_11,PySem.W.mg_of X G h_12.a,h_12.k,b_12⟩;have C_13:a18_ l.prog w K mg base:=⟨f_13,_,Zgf F_13 T C_x8 C_12 C_6,PySem.W.mg_of X G h_13.a,h_13.k,b_13⟩;have C_14:a19_ l.prog w K mg base:=⟨f_14,_,Zg5 F_14 T C_5 C_6,PySem.W.mg_of X G h_14.a,h_14.k,b_14⟩;have C_15:a22_ l.prog w K mg base:=⟨f_15,_,Zjv F_15 T C_5 C_6,PySem.W.mg_of X G h_15.a,h_15.k,b_15⟩;have C_16:a16_ l.prog w K mg base:=⟨f_16,_,Zjh F_16 T C_10,PySem.W.mg_of X G h_16.a,h_16.k,b_16⟩;have C_17:a11_ l.prog w K mg base:=⟨f_17,_,Zpt F_17 T,PySem.W.mg_of X G h_17.a,h_17.k,b_17⟩;have C_18:a13_ l.prog w K mg base:=⟨f_18,_,Zma F_18 T C_17 C_10,PySem.W.mg_of X G h_18.a,h_18.k,b_18⟩
 have C_19:a12_ l.prog w K mg base:=⟨f_19,_,Zgl F_19 T C_17 C_10,PySem.W.mg_of X G h_19.a,h_19.k,b_19⟩;have C_20:a14_ l.prog w K mg base:=⟨f_20,_,Ziz F_20 T C_19,PySem.W.mg_of X G h_20.a,h_20.k,b_20⟩;have C_21:a20_ l.prog w K mg base:=⟨f_21,_,Zad F_21 T,PySem.W.mg_of X G h_21.a,h_21.k,b_21⟩;have C_22:a15_ l.prog w K mg base:=⟨f_22,_,Zbe F_22 T C_18,PySem.W.mg_of X G h_22.a,h_22.k,b_22⟩;have C_23:a21_ l.prog w K mg base:=⟨f_23,_,Zd0 F_23 T C_20 C_22 C_16,PySem.W.mg_of X G h_23.a,h_23.k,b_23⟩;have C_24:a23_ l.prog w K mg base:=⟨f_24,_,Zje F_24 T C_9 C_13 C_14 C_21 C_23 C_6 C_15,PySem.W.mg_of X G h_24.a,h_24.k,b_24⟩;have C_25:a42_ l.prog w K mg base:=⟨f_25,_,Zdh F_25 T C_24,PySem.W.mg_of X G h_25.a,h_25.k,b_25⟩;have C_26:a46_ l.prog w K mg base:=⟨f_26,_,Zdi F_26 T C_5,PySem.W.mg_of X G h_26.a,h_26.k,b_26⟩;have C_27:a29_ l.prog w K mg base:=⟨f_27,_,Zmf F_27 T,PySem.W.mg_of X G h_27.a,h_27.k,b_27⟩;have C_28:a25_ l.prog w K mg base:=⟨f_28,_,Zi5 F_28 T C_1,PySem.W.mg_of X G h_28.a,h_28.k,b_28⟩;have C_29:a28_ l.prog w K mg base:=⟨f_29,_,Zdm F_29 T C_4,PySem.W.mg_of X G h_29.a,h_29.k,b_29⟩;have C_x31:a26_ l.prog w K mg base:=⟨f_30,_,Zhm F_30 T C_28,PySem.W.mg_of X G h_30.a,h_30.k,b_30⟩;have C_x32:a39_ l.prog w K mg base:=⟨f_30,_,Ziv F_30 T C_28,PySem.W.mg_of X G h_30.a,h_30.k,b_30⟩
 have D_31:CalD l.prog w K mg base "mixed" 5 ["weights","parts","bottom"] [.int 1] Zdv:=⟨f_31,_,[.int 1 dt_31],Zk6 F_31 T C_x31 C_3,PySem.W.mg_of X G a_31,k_31,fun s us KX hl=>(by
  have h1:us.length=2:=by simpa using hl
  match us,h1 with
  | [u0,u1],_=>exact BindsTo.of_defaults (T:=dT_31) (items:=#[.int 1 dt_31]) rfl (KX _ _ t_31) rfl rfl rfl),.cons ⟨_,rfl⟩ .nil⟩
 have C_31:a40_ l.prog w K mg base:=⟨f_31,_,Zk6 F_31 T C_x31 C_3,PySem.W.mg_of X G a_31,k_31,fun s us KX hl=>(by
  have h1:us.length=3:=by simpa using hl
  match us,h1 with
  | [u0,u1,u2],_=>first|exact .of_eq rfl|exact BindsTo.of_defaults (T:=dT_31) (items:=#[.int 1 dt_31]) rfl (KX _ _ t_31) rfl rfl rfl)⟩
 have C_32:a41_ l.prog w K mg base:=⟨f_32,_,Zb8 F_32 T C_29 C_27,PySem.W.mg_of X G h_32.a,h_32.k,b_32⟩;have C_33:a31_ l.prog w K mg base:=⟨f_33,_,Zut F_33 T,PySem.W.mg_of X G h_33.a,h_33.k,b_33⟩;have C_34:a49_ l.prog w K mg base:=⟨f_34,_,Zp1 F_34 T D_31,PySem.W.mg_of X G h_34.a,h_34.k,b_34⟩;have C_35:a33_ l.prog w K mg base:=⟨f_35,_,Zn2 F_35 T C_11,PySem.W.mg_of X G h_35.a,h_35.k,b_35⟩;have C_36:a30_ l.prog w K mg base:=⟨f_36,_,Zgn F_36 T,PySem.W.mg_of X G h_36.a,h_36.k,b_36⟩;have C_37:a32_ l.prog w K mg base:=⟨f_37,_,Zj7 F_37 T C_36,PySem.W.mg_of X G h_37.a,h_37.k,b_37⟩;have C_x40:a38_ l.prog w K mg base:=⟨f_37,_,Zic F_37 T C_36,PySem.W.mg_of X G h_37.a,h_37.k,b_37⟩;have C_38:a34_ l.prog w K mg base:=⟨f_38,_,Zj9 F_38 T C_33,PySem.W.mg_of X G h_38.a,h_38.k,b_38⟩;have C_39:a36_ l.prog w K mg base:=⟨f_39,_,Zjg F_39 T,PySem.W.mg_of X G h_39.a,h_39.k,b_39⟩;have C_40:a50_ l.prog w K mg base:=⟨f_40,_,Zow F_40 T,PySem.W.mg_of X G h_40.a,h_40.k,b_40⟩;have C_41:a35_ l.prog w K mg base:=⟨f_41,_,Zim F_41 T C_37 C_x31 C_35 C_38,PySem.W.mg_of X G h_41.a,h_41.k,b_41⟩;have C_42:a37_ l.prog w K mg base:=⟨f_42,_,Zis F_42 T C_3 C_41 C_39,PySem.W.mg_of X G h_42.a,h_42.k,b_42⟩;have C_43:a47_ l.prog w K mg base:=⟨f_43,_,Zfb F_43 T C_42,PySem.W.mg_of X G h_43.a,h_43.k,b_43⟩;have C_44:a48_ l.prog w K mg base:=⟨f_44,_,Zi3 F_44 T C_x40 C_33 C_x32 C_31 C_35 C_38 C_39,PySem.W.mg_of X G h_44.a,h_44.k,b_44⟩;have C_45:a43_ l.prog w K mg base:=⟨f_45,_,Zcb F_45 T C_29,PySem.W.mg_of X G h_45.a,h_45.k,b_45⟩;have C_46:a45_ l.prog w K mg base:=⟨f_46,_,Zdk F_46 T C_32 C_25,PySem.W.mg_of X G h_46.a,h_46.k,b_46⟩;have C_47:a44_ l.prog w K mg base:=⟨f_47,_,Zbv F_47 T C_45,PySem.W.mg_of X G h_47.a,h_47.k,b_47⟩;have C_48:a51_ l.prog w K mg base:=⟨f_48,_,Zbs F_48 T C_25 C_47,PySem.W.mg_of X G h_48.a,h_48.k,b_48⟩;have C_49:a65_ l.prog w K mg base:=⟨f_49,_,Zpb F_49 T C_46 C_26 C_3 C_41,PySem.W.mg_of X G h_49.a,h_49.k,b_49⟩;have C_50:a64_ l.prog w K mg base:=⟨f_50,_,Zjn F_50 T C_46 C_43,PySem.W.mg_of X G h_50.a,h_50.k,b_50⟩
 have C_51:a72_ l.prog w K mg base:=⟨f_51,_,Zja F_51 T C_46 C_44,PySem.W.mg_of X G h_51.a,h_51.k,b_51⟩;have C_52:a52_ l.prog w K mg base:=⟨f_52,_,Zhn F_52 T C_34 C_x32 C_36 C_40 C_35 C_27,PySem.W.mg_of X G h_52.a,h_52.k,b_52⟩;have C_53:a63_ l.prog w K mg base:=⟨f_53,_,Zm6 F_53 T C_48 C_52,PySem.W.mg_of X G h_53.a,h_53.k,b_53⟩;have C_54:a53_ l.prog w K mg base:=⟨f_54,_,Zev F_54 T,PySem.W.mg_of X G h_54.a,h_54.k,b_54⟩;have C_55:a69_ l.prog w K mg base:=⟨f_55,_,Zg1 F_55 T C_54,PySem.W.mg_of X G h_55.a,h_55.k,b_55⟩;have C_56:a54_ l.prog w K mg base:=⟨f_56,_,Zff F_56 T,PySem.W.mg_of X G h_56.a,h_56.k,b_56⟩;have C_57:a59_ l.prog w K mg base:=⟨f_57,_,Zgi F_57 T C_56,PySem.W.mg_of X G h_57.a,h_57.k,b_57⟩;have C_58:a55_ l.prog w K mg base:=⟨f_58,_,Zjo F_58 T,PySem.W.mg_of X G h_58.a,h_58.k,b_58⟩;have C_59:a56_ l.prog w K mg base:=⟨f_59,_,Zjj F_59 T C_58,PySem.W.mg_of X G h_59.a,h_59.k,b_59⟩;have C_60:a57_ l.prog w K mg base:=⟨f_60,_,Zjd F_60 T C_58,PySem.W.mg_of X G h_60.a,h_60.k,b_60⟩;have C_61:a58_ l.prog w K mg base:=⟨f_61,_,Zg3 F_61 T C_59,PySem.W.mg_of X G h_61.a,h_61.k,b_61⟩;have C_62:a62_ l.prog w K mg base:=⟨f_62,_,Zjc F_62 T C_60 C_61,PySem.W.mg_of X G h_62.a,h_62.k,b_62⟩;have C_63:a61_ l.prog w K mg base:=⟨f_63,_,Zdn F_63 T C_56 C_58,PySem.W.mg_of X G h_63.a,h_63.k,b_63⟩;have C_64:a60_ l.prog w K mg base:=⟨f_64,_,Ze6 F_64 T,PySem.W.mg_of X G h_64.a,h_64.k,b_64⟩;have C_65:a67_ l.prog w K mg base:=⟨f_65,_,Zgp F_65 T C_56 C_57 C_64,PySem.W.mg_of X G h_65.a,h_65.k,b_65⟩;have C_66:a68_ l.prog w K mg base:=⟨f_66,_,Zjb F_66 T C_63,PySem.W.mg_of X G h_66.a,h_66.k,b_66⟩;have C_67:a71_ l.prog w K mg base:=⟨f_67,_,Zgw F_67 T C_62 C_53 C_50,PySem.W.mg_of X G h_67.a,h_67.k,b_67⟩;have C_68:a66_ l.prog w K mg base:=⟨f_68,_,Zf7 F_68 T C_59 C_60,PySem.W.mg_of X G h_68.a,h_68.k,b_68⟩;have C_69:a70_ l.prog w K mg base:=⟨f_69,_,Zdr F_69 T C_62 C_58 C_60 C_61 C_49,PySem.W.mg_of X G h_69.a,h_69.k,b_69⟩
 exact Zup F_law T C_59 C_62 C_63 C_68 C_60 C_65 C_66 C_55 C_69 C_67 C_53 C_50 C_51
theorem walk {l:PySem.W.OpenLaw} {q:Program} {loose:List Str} {XP:(Str→Option Value)→Heap→Prop} {YP:World→Heap→Prop} {d:DefRec} {K:Params→PySem.W.Frag} (hn:l.most=some 63) (hdf:d.params.defaults=[])
 (hY:∀ (w:World) (h:Heap),YP w h→(K w.params).In h)
 (F:∀ (w:World) (mg:Str→Option Value) (fa:Addr) (h:Heap),(K w.params).In h→h.Ns mainGlobals mg→mg d.name=some (.ref fa) →
   ∃ fd:FuncData,(∀ (s:Shared) (u:Value),BindsTo s fd ⟨[u],[]⟩ [("_law_script",u)])∧∀ base:Heap,(K w.params).In base→base.Ns mainGlobals mg→FnOk l.prog w (K w.params) mg base CX0 10 fa fd ["_law_script"] (Zkl (K w.params))) :
 PySem.W.WalkO q loose XP YP l.row.toRowW d [] (fun f vs=>PySem.call f vs) :=
 L2.Zta (n:=63) (k:=10) (x := "_law_script") (CX:=fun _=>CX0) (sp:=fun w=>Zkl (K w.params)) hn (by decide) hdf ⟨rfl,by decide,by decide,rfl⟩ hY F (fun _ _ a ns hl _ hS=>⟨a,ns,rfl,hS,hl,fun _=>rfl⟩) fun _ _ _ _ _ z=>z
end My

namespace My
open PySem PySem.W PyProof.Rows L2
set_option maxRecDepth 1000000
set_option maxHeartbeats 0
def gE (P:Params) (n:Str) (t:Tok) (v:Value):DictEntry:=⟨PySem.PyData.keyHash P n,.str n t,v⟩
def gR (P:Params) (n:Str) (t:Tok) (a:Addr):DictEntry:=gE P n t (.ref a)
def fO (n:Str) (i:Nat) (m:Str) (mt:Tok) (c:Addr) (dv:Value):Obj:={ cls:=.type "function",data:=.func (PySem.W.fnOf n n (Xj (top i)) (Y4 (top i)) (Zc (top i)) dv .none .none (.str m mt) none (.ref c) .none) }
def cO (n:Str) (a:Tok) (l k:Int) (r s:Addr) (u v:Value) (t:Nat):Obj:={ cls:=.type "code",data:=.fields (Array.mk [.str n a,.str n (a+1),.str "/claim/cut.py" (a+2),.int l 0,.int k 0,.int 0 0,.int 0 0,.int 3 0,.ref r,.bool true,.int 181 0,.ref (r+1),.none,u,v,.ref s,.int t 0,.int l 0,.str "/claim/cut.py" (t+1)]) }
def dR (n:Str) (i:Nat) (m:Str) (mt a:Tok) (l k:Int) (r:Addr) (t:Nat):Frag:=[(r+6,fO n i m mt (r+5) .none),(r+5,cO n a l k r (r+4) (.ref (r+2)) (.ref (r+3)) t)]
def dN (n:Str) (i:Nat) (m:Str) (mt a:Tok) (l k:Int) (r:Addr) (t:Nat):Frag:=[(r+4,fO n i m mt (r+3) .none),(r+3,cO n a l k r (r+2) .none .none t)]
def Zvc (s:Stmt):Pos:=match s with|.FunctionDef _ _ _ _ _ _ _ _ _ p=>p|_=>⟨0,0,0,0⟩
def m0:Str := "platerest.divisors"
def m1:Str := "platerest.quotients"
def m2:Str := "platerest.plates"
def m3:Str := "platerest.ways"
def m4:Str := "platerest.strains"
def m5:Str := "law_platerest_k25_whole_two_motions_work_ali"
noncomputable def kK (P:Params):Frag:=(3,{ cls:=.type "dict",data:=(.dict #[gE P "__name__" 165 (.str "law_platerest_k25_whole_two_motions_work_ali" 757),
gE P "__doc__" 166 (.none),
gE P "__package__" 167 (.none),
gE P "__loader__" 168 (.builtin "__main__.__loader__#opaque"),
gE P "__spec__" 169 (.none),
gR P "__annotations__" 170 6,
gR P "__builtins__" 171 4,
gE P "__file__" 173 (.str "/claim/cut.py" 172),
gE P "__cached__" 174 (.none),
gR P "PlateError" 206 24,
gR P "NoPlate" 222 37,
gR P "NoMotions" 238 49,
gR P "NoPiece" 254 61,
gR P "NoStresses" 270 73,
gE P "GREAT_BITS" 274 (.int 4000 273),
gE P "FEW_BITS" 276 (.int 200 275),
gR P "plain_divisor" 284 82,
gR P "few_steps" 299 89,
gR P "mixed_by" 314 96,
gR P "shrinking" 334 103,
gR P "divisor" 343 110,
gR P "is_whole" 352 117,
gR P "multiple" 361 124,
gR P "reduced" 370 131,
gR P "is_fraction" 379 138,
gR P "are_fractions" 385 143,
gR P "levelled" 391 148,
gR P "mixed" 398 154,
gE P "FEWEST_CORNERS" 402 (.int 3 401),
gE P "MOST_CORNERS" 404 (.int 30 403),
gE P "FARTHEST" 406 (.int 100 405),
gE P "MOST_PIECES" 408 (.int 40 407),
gE P "THICKEST" 410 (.int 9 409),
gE P "MOST_STUFF" 412 (.int 9 411),
gR P "is_between" 421 161,
gR P "is_row" 430 168,
gR P "are_rising" 436 173,
gR P "is_corner" 442 178,
gR P "are_corners" 448 183,
gR P "turn" 458 190,
gR P "turn_of" 466 197,
gR P "is_piece" 472 202,
gR P "are_pieces" 478 207,
gR P "are_thicks" 484 212,
gR P "is_stuff" 491 219,
gR P "triangle" 497 224,
gR P "edges" 504 231,
gR P "lies_in" 510 236,
gR P "parts_from" 516 241,
gR P "are_apart" 524 248,
gR P "every_corner_is_used" 530 253,
gR P "no_strange_corner" 536 258,
gR P "fit_together" 542 263,
gR P "is_plate" 553 270,
gR P "look_at_plate" 560 277,
gR P "look_at_piece" 568 284,
gR P "ways_of" 577 291,
gR P "look_at_motions" 585 298,
gR P "dot" 593 303,
gR P "added" 600 310,
gR P "slopes" 606 315,
gR P "piece_ways" 612 320,
gR P "at_piece" 618 325,
gR P "strained" 627 332,
gR P "stressed" 641 339,
gR P "pushed" 647 344,
gR P "strain_by" 661 351,
gR P "stress_by" 667 356,
gR P "stresses_by" 673 361,
gR P "pushes_of" 679 366,
gR P "worth_by" 696 373,
gR P "are_stresses_of" 702 378,
gR P "look_at_moved" 710 385,
gR P "look_at_stresses" 718 392,
gR P "look_at_stressed" 726 399,
gR P "strain" 732 404,
gR P "stresses" 740 411,
gR P "pushes" 748 418,
gR P "worth_of" 756 425,
gR P "_law_cell_at" 766 432,
gR P "_law_state" 775 439,
gR P "_law_choice" 785 446,
gR P "_law_order" 795 453,
gR P "_law_low" 805 460,
gR P "_law_add" 813 467,
gR P "_law_mul" 821 474,
gR P "_law_total" 830 481,
gR P "_law_dot" 836 486,
gR P "_law_fraction" 845 493,
gR P "_law_shapes" 859 500,
gR P "_law_plate" 865 505,
gR P "_law_row" 871 510,
gR P "_law_works" 880 517,
gR P "_law_mixed" 886 522,
gR P "_law_strained" 892 527,
gR P "law" 898 532] 96) }) :: (dR "plain_divisor" 9 m0 271 277 15 2 76 282 ++
dR "divisor" 13 m0 271 335 46 2 104 341 ++
dR "is_whole" 15 m1 344 346 53 1 111 350 ++
dR "reduced" 17 m1 344 362 60 2 125 368 ++
dR "is_fraction" 18 m1 344 371 65 1 132 377 ++
dR "is_between" 29 m2 399 413 89 3 155 419 ++
dR "is_row" 30 m2 399 422 91 3 162 428 ++
dN "are_rising" 31 m2 399 431 93 1 169 434 ++
dN "is_corner" 32 m2 399 437 95 1 174 440 ++
dN "are_corners" 33 m2 399 443 97 1 179 446 ++
dR "turn" 34 m2 399 449 101 3 184 456 ++
dR "turn_of" 35 m2 399 459 104 2 191 464 ++
dN "is_piece" 36 m2 399 467 106 2 198 470 ++
dN "are_pieces" 37 m2 399 473 110 2 203 476 ++
dN "are_thicks" 38 m2 399 479 114 2 208 482 ++
dR "is_stuff" 39 m2 399 485 118 1 213 489 ++
dN "triangle" 40 m2 399 492 122 2 220 495 ++
dR "edges" 41 m2 399 498 127 1 225 502 ++
dN "lies_in" 42 m2 399 505 129 2 232 508 ++
dN "parts_from" 43 m2 399 511 131 2 237 514 ++
dR "are_apart" 44 m2 399 517 136 2 242 522 ++
dN "every_corner_is_used" 45 m2 399 525 138 2 249 528 ++
dN "no_strange_corner" 46 m2 399 531 140 3 254 534 ++
dN "fit_together" 47 m2 399 537 143 2 259 540 ++
dR "is_plate" 48 m2 399 543 151 1 264 551 ++
dR "look_at_plate" 49 m2 399 554 160 1 271 558 ++
dR "look_at_piece" 50 m2 399 561 163 2 278 566 ++
dR "ways_of" 52 m3 569 571 167 1 285 575 ++
dR "multiple" 16 m1 344 353 55 1 118 359 ++
dN "are_fractions" 19 m1 344 380 72 2 139 383 ++
dN "levelled" 20 m1 344 386 76 1 144 389 ++
[(154,fO "mixed" 21 m1 344 153 (.ref 149)),(153,cO "mixed" 393 79 3 150 152 (.none) (.none) 396),(149,{ cls:=.type "tuple",data:=.seq #[.int 1 392] 0 })] ++
dR "look_at_motions" 53 m3 569 578 169 2 292 583 ++
dN "dot" 55 m4 586 588 173 2 299 591 ++
dR "added" 56 m4 586 594 175 1 304 598 ++
dN "slopes" 57 m4 586 601 177 2 311 604 ++
dN "piece_ways" 58 m4 586 607 184 2 316 610 ++
dN "at_piece" 59 m4 586 613 187 3 321 616 ++
dR "strained" 60 m4 586 619 189 3 326 625 ++
dR "stressed" 61 m4 586 628 191 2 333 639 ++
dN "pushed" 62 m4 586 642 196 3 340 645 ++
dR "strain_by" 63 m4 586 648 200 3 345 659 ++
dN "stress_by" 64 m4 586 662 204 3 352 665 ++
dN "stresses_by" 65 m4 586 668 207 2 357 671 ++
dR "worth_by" 67 m4 586 680 218 2 367 694 ++
dN "are_stresses_of" 68 m4 586 697 226 2 374 700 ++
dR "look_at_moved" 69 m4 586 703 230 2 379 708 ++
dR "look_at_stresses" 70 m4 586 711 233 2 386 716 ++
dR "look_at_stressed" 71 m4 586 719 236 2 393 724 ++
dN "strain" 72 m4 586 727 239 3 400 730 ++
dR "stresses" 73 m4 586 733 244 2 405 738 ++
dR "worth_of" 75 m4 586 749 250 2 419 754 ++
dN "pushes_of" 66 m4 586 674 209 2 362 677 ++
dR "pushes" 74 m4 586 741 247 2 412 746 ++
dR "_law_cell_at" 77 m5 757 759 254 2 426 764 ++
dR "_law_state" 78 m5 757 767 258 2 433 773 ++
dR "_law_choice" 79 m5 757 776 261 2 440 783 ++
dR "_law_order" 80 m5 757 786 271 2 447 793 ++
dR "_law_low" 81 m5 757 796 276 2 454 803 ++
dR "_law_add" 82 m5 757 806 281 2 461 811 ++
dR "_law_mul" 83 m5 757 814 283 2 468 819 ++
dR "_law_total" 84 m5 757 822 285 1 475 828 ++
dN "_law_dot" 85 m5 757 831 290 2 482 834 ++
dR "_law_fraction" 86 m5 757 837 292 1 487 843 ++
dR "_law_shapes" 87 m5 757 846 298 0 494 857 ++
dN "_law_plate" 88 m5 757 860 308 2 501 863 ++
dN "_law_row" 89 m5 757 866 321 2 506 869 ++
dR "_law_works" 90 m5 757 872 323 3 511 878 ++
dN "_law_mixed" 91 m5 757 881 325 3 518 884 ++
dN "_law_strained" 92 m5 757 887 327 3 523 890 ++
dN "law" 93 m5 757 893 336 1 528 896)
def kA:List Addr:=[3,82,81,110,109,117,116,131,130,138,137,161,160,168,167,173,172,178,177,183,182,190,189,197,196,202,201,207,206,212,211,219,218,224,223,231,230,236,235,241,240,248,247,253,252,258,257,263,262,270,269,277,276,284,283,291,290,124,123,143,142,148,147,154,153,149,298,297,303,302,310,309,315,314,320,319,325,324,332,331,339,338,344,343,351,350,356,355,361,360,373,372,378,377,385,384,392,391,399,398,404,403,411,410,425,424,366,365,418,417,432,431,439,438,446,445,453,452,460,459,467,466,474,473,481,480,486,485,493,492,500,499,505,504,510,509,517,516,522,521,527,526,532,531]
theorem kAs:∀ P,kA=(kK P).map (·.1):=fun _=>by kernel_rfl
theorem h3:∀ w os,(topK pw 6806 w os).map (fun s=>kA.map s.abs.heap.get?)=some ((kK w.params).map fun p=>some p.2):=fun w os=>by
  unfold topK topStub;rw [PySem.W.Fast.te4652649595001227023,PySem.W.Fast.te14364793385576792824,PySem.W.Fast.te17154629097778926822,PySem.W.Fast.te12822647523644345616]
  kernel_rfl
theorem left:LeftO pw qq ll (fun s=>xlAt qq [] s&&recOk (RowW.records (OpenRow.toRowW rr)) s) (Hook.obs (kHook kK kA kAs)) (Hook.val (kHook kK kA kAs)) 6806 :=
  Zjp (T0:=bootT) (life:={}) (by kernel_rfl) (by kernel_rfl) (fun s=>by kernel_rfl) Zp0 Zn1 (Zid (R:=topK pw 6806) h1 h2 h3)
theorem lk4 {P:Params} {b:Str} {i:Nat} {f:Addr} (c:Addr) (m:Str) (mt:Tok) (h:((kK P).lookup f,PySem.W.nsIn (kK P) mainGlobals b,PySem.W.codeIn (kK P) (.ref c) b,PySem.W.keepIn (kK P) (.ref f))=(some (fO b i m mt c .none),some (some (.ref f)),true,true)):Lk (kK P) b (top i) f:=Zwn (Prod.mk.inj (Prod.mk.inj h).2).1 (Prod.mk.inj h).1 (Prod.mk.inj (Prod.mk.inj (Prod.mk.inj h).2).2).1 (Prod.mk.inj (Prod.mk.inj (Prod.mk.inj h).2).2).2
theorem j0 (P:Params):Lk (kK P) "plain_divisor" (top 9) 82:=lk4 81 m0 271 (by kernel_rfl)
theorem j1 (P:Params):Lk (kK P) "divisor" (top 13) 110:=lk4 109 m0 271 (by kernel_rfl)
theorem j2 (P:Params):Lk (kK P) "is_whole" (top 15) 117:=lk4 116 m1 344 (by kernel_rfl)
theorem j3 (P:Params):Lk (kK P) "reduced" (top 17) 131:=lk4 130 m1 344 (by kernel_rfl)
theorem j4 (P:Params):Lk (kK P) "is_fraction" (top 18) 138:=lk4 137 m1 344 (by kernel_rfl)
theorem j5 (P:Params):Lk (kK P) "is_between" (top 29) 161:=lk4 160 m2 399 (by kernel_rfl)
theorem j6 (P:Params):Lk (kK P) "is_row" (top 30) 168:=lk4 167 m2 399 (by kernel_rfl)
theorem j7 (P:Params):Lk (kK P) "are_rising" (top 31) 173:=lk4 172 m2 399 (by kernel_rfl)
theorem j8 (P:Params):Lk (kK P) "is_corner" (top 32) 178:=lk4 177 m2 399 (by kernel_rfl)
theorem j9 (P:Params):Lk (kK P) "are_corners" (top 33) 183:=lk4 182 m2 399 (by kernel_rfl)
theorem j10 (P:Params):Lk (kK P) "turn" (top 34) 190:=lk4 189 m2 399 (by kernel_rfl)
theorem j11 (P:Params):Lk (kK P) "turn_of" (top 35) 197:=lk4 196 m2 399 (by kernel_rfl)
theorem j12 (P:Params):Lk (kK P) "is_piece" (top 36) 202:=lk4 201 m2 399 (by kernel_rfl)
theorem j13 (P:Params):Lk (kK P) "are_pieces" (top 37) 207:=lk4 206 m2 399 (by kernel_rfl)
theorem j14 (P:Params):Lk (kK P) "are_thicks" (top 38) 212:=lk4 211 m2 399 (by kernel_rfl)
theorem j15 (P:Params):Lk (kK P) "is_stuff" (top 39) 219:=lk4 218 m2 399 (by kernel_rfl)
theorem j16 (P:Params):Lk (kK P) "triangle" (top 40) 224:=lk4 223 m2 399 (by kernel_rfl)
theorem j17 (P:Params):Lk (kK P) "edges" (top 41) 231:=lk4 230 m2 399 (by kernel_rfl)
theorem j18 (P:Params):Lk (kK P) "lies_in" (top 42) 236:=lk4 235 m2 399 (by kernel_rfl)
theorem j19 (P:Params):Lk (kK P) "parts_from" (top 43) 241:=lk4 240 m2 399 (by kernel_rfl)
theorem j20 (P:Params):Lk (kK P) "are_apart" (top 44) 248:=lk4 247 m2 399 (by kernel_rfl)
theorem j21 (P:Params):Lk (kK P) "every_corner_is_used" (top 45) 253:=lk4 252 m2 399 (by kernel_rfl)
theorem j22 (P:Params):Lk (kK P) "no_strange_corner" (top 46) 258:=lk4 257 m2 399 (by kernel_rfl)
theorem j23 (P:Params):Lk (kK P) "fit_together" (top 47) 263:=lk4 262 m2 399 (by kernel_rfl)
theorem j24 (P:Params):Lk (kK P) "is_plate" (top 48) 270:=lk4 269 m2 399 (by kernel_rfl)
theorem j25 (P:Params):Lk (kK P) "look_at_plate" (top 49) 277:=lk4 276 m2 399 (by kernel_rfl)
theorem j26 (P:Params):Lk (kK P) "look_at_piece" (top 50) 284:=lk4 283 m2 399 (by kernel_rfl)
theorem j27 (P:Params):Lk (kK P) "ways_of" (top 52) 291:=lk4 290 m3 569 (by kernel_rfl)
theorem j28 (P:Params):Lk (kK P) "multiple" (top 16) 124:=lk4 123 m1 344 (by kernel_rfl)
theorem j29 (P:Params):Lk (kK P) "are_fractions" (top 19) 143:=lk4 142 m1 344 (by kernel_rfl)
theorem j30 (P:Params):Lk (kK P) "levelled" (top 20) 148:=lk4 147 m1 344 (by kernel_rfl)
theorem Zpu (P:Params):(kK P).lookup 154=some (fO "mixed" 21 m1 344 153 (.ref 149)):=by kernel_rfl
theorem Zqt (P:Params):PySem.W.nsIn (kK P) mainGlobals "mixed" = some (some (.ref 154)):=by kernel_rfl
theorem Zpm (P:Params):PySem.W.codeIn (kK P) (.ref 153) "mixed" = true:=by kernel_rfl
theorem Zqm (P:Params):PySem.W.keepIn (kK P) (.ref 154)=true:=by kernel_rfl
theorem Zps (P:Params):(kK P).lookup 149=some ⟨.type "tuple",none,.seq #[.int 1 392] 0,#[]⟩:=by kernel_rfl
theorem j36 (P:Params):Lk (kK P) "look_at_motions" (top 53) 298:=lk4 297 m3 569 (by kernel_rfl)
theorem j37 (P:Params):Lk (kK P) "dot" (top 55) 303:=lk4 302 m4 586 (by kernel_rfl)
theorem j38 (P:Params):Lk (kK P) "added" (top 56) 310:=lk4 309 m4 586 (by kernel_rfl)
theorem j39 (P:Params):Lk (kK P) "slopes" (top 57) 315:=lk4 314 m4 586 (by kernel_rfl)
theorem j40 (P:Params):Lk (kK P) "piece_ways" (top 58) 320:=lk4 319 m4 586 (by kernel_rfl)
theorem j41 (P:Params):Lk (kK P) "at_piece" (top 59) 325:=lk4 324 m4 586 (by kernel_rfl)
theorem j42 (P:Params):Lk (kK P) "strained" (top 60) 332:=lk4 331 m4 586 (by kernel_rfl)
theorem j43 (P:Params):Lk (kK P) "stressed" (top 61) 339:=lk4 338 m4 586 (by kernel_rfl)
theorem j44 (P:Params):Lk (kK P) "pushed" (top 62) 344:=lk4 343 m4 586 (by kernel_rfl)
theorem j45 (P:Params):Lk (kK P) "strain_by" (top 63) 351:=lk4 350 m4 586 (by kernel_rfl)
theorem j46 (P:Params):Lk (kK P) "stress_by" (top 64) 356:=lk4 355 m4 586 (by kernel_rfl)
theorem j47 (P:Params):Lk (kK P) "stresses_by" (top 65) 361:=lk4 360 m4 586 (by kernel_rfl)
theorem j48 (P:Params):Lk (kK P) "worth_by" (top 67) 373:=lk4 372 m4 586 (by kernel_rfl)
theorem j49 (P:Params):Lk (kK P) "are_stresses_of" (top 68) 378:=lk4 377 m4 586 (by kernel_rfl)
theorem j50 (P:Params):Lk (kK P) "look_at_moved" (top 69) 385:=lk4 384 m4 586 (by kernel_rfl)
theorem j51 (P:Params):Lk (kK P) "look_at_stresses" (top 70) 392:=lk4 391 m4 586 (by kernel_rfl)
theorem j52 (P:Params):Lk (kK P) "look_at_stressed" (top 71) 399:=lk4 398 m4 586 (by kernel_rfl)
theorem j53 (P:Params):Lk (kK P) "strain" (top 72) 404:=lk4 403 m4 586 (by kernel_rfl)
theorem j54 (P:Params):Lk (kK P) "stresses" (top 73) 411:=lk4 410 m4 586 (by kernel_rfl)
theorem j55 (P:Params):Lk (kK P) "worth_of" (top 75) 425:=lk4 424 m4 586 (by kernel_rfl)
theorem j56 (P:Params):Lk (kK P) "pushes_of" (top 66) 366:=lk4 365 m4 586 (by kernel_rfl)
theorem j57 (P:Params):Lk (kK P) "pushes" (top 74) 418:=lk4 417 m4 586 (by kernel_rfl)
theorem j58 (P:Params):Lk (kK P) "_law_cell_at" (top 77) 432:=lk4 431 m5 757 (by kernel_rfl)
theorem j59 (P:Params):Lk (kK P) "_law_state" (top 78) 439:=lk4 438 m5 757 (by kernel_rfl)
theorem j60 (P:Params):Lk (kK P) "_law_choice" (top 79) 446:=lk4 445 m5 757 (by kernel_rfl)
theorem j61 (P:Params):Lk (kK P) "_law_order" (top 80) 453:=lk4 452 m5 757 (by kernel_rfl)
theorem j62 (P:Params):Lk (kK P) "_law_low" (top 81) 460:=lk4 459 m5 757 (by kernel_rfl)
theorem j63 (P:Params):Lk (kK P) "_law_add" (top 82) 467:=lk4 466 m5 757 (by kernel_rfl)
theorem j64 (P:Params):Lk (kK P) "_law_mul" (top 83) 474:=lk4 473 m5 757 (by kernel_rfl)
theorem j65 (P:Params):Lk (kK P) "_law_total" (top 84) 481:=lk4 480 m5 757 (by kernel_rfl)
theorem j66 (P:Params):Lk (kK P) "_law_dot" (top 85) 486:=lk4 485 m5 757 (by kernel_rfl)
theorem j67 (P:Params):Lk (kK P) "_law_fraction" (top 86) 493:=lk4 492 m5 757 (by kernel_rfl)
theorem j68 (P:Params):Lk (kK P) "_law_shapes" (top 87) 500:=lk4 499 m5 757 (by kernel_rfl)
theorem j69 (P:Params):Lk (kK P) "_law_plate" (top 88) 505:=lk4 504 m5 757 (by kernel_rfl)
theorem j70 (P:Params):Lk (kK P) "_law_row" (top 89) 510:=lk4 509 m5 757 (by kernel_rfl)
theorem j71 (P:Params):Lk (kK P) "_law_works" (top 90) 517:=lk4 516 m5 757 (by kernel_rfl)
theorem j72 (P:Params):Lk (kK P) "_law_mixed" (top 91) 522:=lk4 521 m5 757 (by kernel_rfl)
theorem j73 (P:Params):Lk (kK P) "_law_strained" (top 92) 527:=lk4 526 m5 757 (by kernel_rfl)
theorem Zt4 (P:Params):(kK P).lookup 532=some (fO "law" 93 m5 757 531 .none):=by kernel_rfl
theorem Zuo (P:Params):PySem.W.nsIn (kK P) mainGlobals "law" = some (some (.ref 532)):=by kernel_rfl
theorem Zun (P:Params):PySem.W.codeIn (kK P) (.ref 531) "law" = true:=by kernel_rfl
theorem Zu8 (P:Params):PySem.W.keepIn (kK P) (.ref 532)=true:=by kernel_rfl
theorem Zvm (P:Params):PySem.W.nsIn (kK P) mainGlobals "abs" = some none:=by kernel_rfl
theorem Zt2 (P:Params):PySem.W.nsIn (kK P) mainGlobals "all" = some none:=by kernel_rfl
theorem Zvp (P:Params):PySem.W.nsIn (kK P) mainGlobals "any" = some none:=by kernel_rfl
theorem Ztg (P:Params):PySem.W.nsIn (kK P) mainGlobals "bool" = some none:=by kernel_rfl
theorem Zij (P:Params):PySem.W.nsIn (kK P) mainGlobals "enumerate" = some none:=by kernel_rfl
theorem Zt0 (P:Params):PySem.W.nsIn (kK P) mainGlobals "int" = some none:=by kernel_rfl
theorem Zha (P:Params):PySem.W.nsIn (kK P) mainGlobals "isinstance" = some none:=by kernel_rfl
theorem Ztx (P:Params):PySem.W.nsIn (kK P) mainGlobals "len" = some none:=by kernel_rfl
theorem Ztc (P:Params):PySem.W.nsIn (kK P) mainGlobals "list" = some none:=by kernel_rfl
theorem Zty (P:Params):PySem.W.nsIn (kK P) mainGlobals "max" = some none:=by kernel_rfl
theorem Zul (P:Params):PySem.W.nsIn (kK P) mainGlobals "min" = some none:=by kernel_rfl
theorem Zpz (P:Params):PySem.W.nsIn (kK P) mainGlobals "range" = some none:=by kernel_rfl
theorem Zuy (P:Params):PySem.W.nsIn (kK P) mainGlobals "set" = some none:=by kernel_rfl
theorem Zn5 (P:Params):PySem.W.nsIn (kK P) mainGlobals "sorted" = some none:=by kernel_rfl
theorem Zug (P:Params):PySem.W.nsIn (kK P) mainGlobals "sum" = some none:=by kernel_rfl
theorem Zpy (P:Params):PySem.W.nsIn (kK P) mainGlobals "tuple" = some none:=by kernel_rfl
theorem Zvj (P:Params):PySem.W.nsIn (kK P) mainGlobals "zip" = some none:=by kernel_rfl
theorem Zji (P:Params):PySem.W.nsIn (kK P) mainGlobals "FARTHEST" = some (some (.int 100 405)):=by kernel_rfl
theorem Zct (P:Params):PySem.W.nsIn (kK P) mainGlobals "FEWEST_CORNERS" = some (some (.int 3 401)):=by kernel_rfl
theorem Zgu (P:Params):PySem.W.nsIn (kK P) mainGlobals "GREAT_BITS" = some (some (.int 4000 273)):=by kernel_rfl
theorem Zeu (P:Params):PySem.W.nsIn (kK P) mainGlobals "MOST_CORNERS" = some (some (.int 30 403)):=by kernel_rfl
theorem Zfd (P:Params):PySem.W.nsIn (kK P) mainGlobals "MOST_PIECES" = some (some (.int 40 407)):=by kernel_rfl
theorem Zg4 (P:Params):PySem.W.nsIn (kK P) mainGlobals "MOST_STUFF" = some (some (.int 9 411)):=by kernel_rfl
theorem Zkd (P:Params):PySem.W.nsIn (kK P) mainGlobals "THICKEST" = some (some (.int 9 409)):=by kernel_rfl
def dL:DefRec:=⟨"law",Xj (top 93),Y4 (top 93),Zc (top 93),Zvc (top 93)⟩
theorem hdL:defOf qq (OpenRow.toRowW rr).name=some (dL,[]):=by kernel_rfl
theorem hpL:(OpenRow.toRowW rr).prog.theDef (OpenRow.toRowW rr).name=some (dL.params,dL.body,dL.scope):=by kernel_rfl
theorem hkL:kwWritten? dL.params.kwonlyargs dL.params.kw_defaults=some []:=by kernel_rfl
theorem okL:(chainsOk qq&&opensWell (OpenRow.toRowW rr).prog&&(frees (OpenRow.toRowW rr)&&(OpenRow.toRowW rr).within.isEmpty))=true:=by kernel_rfl
theorem dfL:dL.params.defaults=[]:=by kernel_rfl
theorem wkL:WalkO qq ll (XL qq []) (Hook.says (kHook kK kA kAs)) (OpenRow.toRowW rr) dL [] (fun f vs=>PySem.call f vs):=by
  refine My.walk (l:=PySem.Challenge.rw_platerest_k25_whole_two_motions_work_ali) rfl dfL (fun w h Y=>PySem.W.kIn_of Y) ?F;intro w mg fa h KX G hmg;exact Zu3 KX G hmg (j0 _) (j1 _) (j2 _) (j3 _) (j4 _) (j5 _) (j6 _) (j7 _) (j8 _) (j9 _) (j10 _) (j11 _) (j12 _) (j13 _) (j14 _) (j15 _) (j16 _) (j17 _) (j18 _) (j19 _) (j20 _) (j21 _) (j22 _) (j23 _) (j24 _) (j25 _) (j26 _) (j27 _) (j28 _) (j29 _) (j30 _) (Zqt _) (Zpu _) (Zpm _) (Zqm _) (Zps _) (j36 _) (j37 _) (j38 _) (j39 _) (j40 _) (j41 _) (j42 _) (j43 _) (j44 _) (j45 _) (j46 _) (j47 _) (j48 _) (j49 _) (j50 _) (j51 _) (j52 _) (j53 _) (j54 _) (j55 _) (j56 _) (j57 _) (j58 _) (j59 _) (j60 _) (j61 _) (j62 _) (j63 _) (j64 _) (j65 _) (j66 _) (j67 _) (j68 _) (j69 _) (j70 _) (j71 _) (j72 _) (j73 _) (Zuo _) (Zt4 _) (Zun _) (Zu8 _) (Zvm _) (Zt2 _) (Zvp _) (Ztg _) (Zij _) (Zt0 _) (Zha _) (Ztx _) (Ztc _) (Zty _) (Zul _) (Zpz _) (Zuy _) (Zn5 _) (Zug _) (Zpy _) (Zvj _) (Zji _) (Zct _) (Zgu _) (Zeu _) (Zfd _) (Zg4 _) (Zkd _)
end My
open PySem PySem.W PyProof.Rows
set_option maxRecDepth 1000000 in
set_option maxHeartbeats 0 in
theorem PySem.Challenge.cw_platerest_k25_whole_two_motions_work_ali_holds : PySem.Challenge.rw_platerest_k25_whole_two_motions_work_ali.Holds := by
  refine holds_law My.ws fun said=>?_;refine holds_open (q:=My.qq) (loose:=My.ll) (Xt:=fun s=>xlAt My.qq [] s&&recOk (RowW.records (OpenRow.toRowW My.rr)) s) (XP:=XL My.qq []) (Yf:=Hook.obs (kHook My.kK My.kA My.kAs)) (Ya:=Hook.val (kHook My.kK My.kA My.kAs)) (YP:=Hook.says (kHook My.kK My.kA My.kAs)) My.left (Hook.of (kHook My.kK My.kA My.kAs)) (Hook.keeps (kHook My.kK My.kA My.kAs)) (fun s e=>xl_of s (Bool.and_eq_true_iff.mp e).1) XL.keeps My.hdL My.hpL My.hkL (fun s e=>recFacts_of (Bool.and_eq_true_iff.mp e).2) rfl said My.okL ⟨rfl,rfl,rfl,rfl,rfl,by decide +kernel⟩ ?hw My.wkL
  case hw=>w_witness2
