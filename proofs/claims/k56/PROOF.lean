import PyProof.Rows.All
import Wide.All
import OpenK.AllK
import Wide.FinOn
import Lean
import PyProof.EqAt
import PyProof.EqKinds
import PyProof.TupleCall
import PyProof.NeKinds
import PyProof.ConsumeWalk
import PyProof.ReprRoads
import PyProof.ReprLen
import PyProof.ZipIter
import PyProof.Draws
import PyProof.EnumMake
import PySem.SetTable
import PyProof.TupleKey
import PyProof.Rows.SetFrom
import PyProof.InstEq
import PyProof.SumWalkG
import PyProof.Rows.SortWalk
import PyProof.ListRange
import KE.KSortTup
import PyProof.ListMulRoad
import PyProof.FactsAll.tuple_2
import PyProof.DictItems
import KE.KPairComp
import PyProof.DictCompW
import PyProof.AttrMissHeap
import PyProof.FactsAll.zip
import KE.KDictOf
import PyProof.CollectWalk
import PyProof.ListNew
import PyProof.DictWalks
import PyProof.Rows.DictUnroll
import PyProof.SetKind
import PyProof.DictKinds
import PyProof.SetRoads
import PyProof.Walks
import PyProof.Rows.SortShell
import PyProof.CollectIter
import PyProof.DictValues
import PyProof.DictTruth
import PyProof.WalkInts
import PyProof.MinMaxWalk
import PySem.Challenge.RW_platerest_k56_finer_plates
set_option Elab.async false
set_option linter.all false
set_option maxRecDepth 100000
abbrev PySem.Shared.z (s:PySem.Shared):Nat:=s.heap.objs.size
abbrev n0_:=@PySem.wpAny_bind
abbrev n1_:=@List.getElem?_eq_getElem
abbrev n2_:=@PySem.wpAny_pure
abbrev n3_:=@PySem.Heap.get?_push_of_some
abbrev n4_:=@List.getD_eq_getElem?_getD
abbrev n5_:=@List.length_map
abbrev n6_:=@List.mem_of_getElem?
abbrev n7_:=@List.getElem?_map
abbrev n8_:=@PySem.Heap.get?_push_size
abbrev n9_:=@List.mem_cons
abbrev n10_:=@List.not_mem_nil
abbrev n11_:=@Nat.le_refl
abbrev n12_:=@List.getElem?_eq_some_iff
abbrev n13_:=@PySem.Heap.lt_size
abbrev n14_:=@Option.map_eq_some_iff
abbrev n15_:=@List.size_toArray
abbrev n16_:=@List.mem_cons_of_mem
abbrev n17_:=@Bool.false_ne_true
abbrev n18_:=@List.length_cons
abbrev n19_:=@List.mem_cons_self
abbrev n20_:=@Bool.false_eq_true
abbrev n21_:=@List.length_append
abbrev n22_:=@PySem.Builtin.SmallTypes.nextOf
abbrev n23_:=@Nat.lt_of_lt_of_le
abbrev n24_:=@List.mem_map
abbrev n25_:=@List.mem_singleton
abbrev n26_:=@List.nodup_iff_pairwise_ne
abbrev n27_:=@Nat.ne_of_lt
abbrev n28_:=@List.mem_append
abbrev n29_:=@List.mem_append_right
abbrev n30_:=@PySem.wpAny_holding
abbrev n31_:=@List.map_cons
abbrev n32_:=@decide_eq_true
abbrev n33_:=@PySem.Builtin.SmallTypes.ownedTupleIsFree
abbrev n34_:=@List.getElem?_append_right
abbrev n35_:=@List.mem_range
abbrev n36_:=@decide_eq_false
abbrev n37_:=@PySem.W.mg_none_of
abbrev n38_:=@PySem.wpAny_mono
abbrev n39_:=@PySem.mem_of_lookup
abbrev n40_:=@Bool.and_eq_true
abbrev n41_:=@List.getElem?_append_left
abbrev n42_:=@Nat.zero_le
abbrev n43_:=@PySem.Heap.size_push
abbrev n44_:=@List.all_eq_true
abbrev n45_:=@List.take_of_length_le
abbrev n46_:=@List.map_append
abbrev n47_:=@List.mem_map_of_mem
abbrev n48_:=@List.getElem_of_mem
abbrev n49_:=@List.append_assoc
abbrev n50_:=@List.pairwise_map
abbrev n51_:=@List.getElem_mem
abbrev n52_:=@of_decide_eq_true
abbrev n53_:=@Nat.le_trans
abbrev n54_:=@Nat.lt_succ_of_lt
abbrev n55_:=@List.mem_flatMap
abbrev n56_:=@PySem.Heap.get?_update_self
abbrev n57_:=@List.ext_getElem
abbrev n58_:=@PyProof.Rows.callWith_type1
abbrev n59_:=@List.length_take
abbrev n60_:=@List.getElem_inj
abbrev n61_:=@List.take_succ
abbrev n62_:=@List.nodup_append
abbrev n63_:=@Int.toNat_natCast
abbrev n64_:=@List.map_map
abbrev n65_:=@List.pairwise_iff_getElem
abbrev n66_:=@List.Pairwise.imp_of_mem
abbrev n67_:=@Option.bind_eq_some_iff
abbrev n68_:=@PySem.W.kia_one
abbrev n69_:=@List.replicate_succ
abbrev n70_:=@Nat.ne_of_gt
abbrev n71_:=@List.nodup_cons
abbrev n72_:=@List.mem_filter
abbrev n73_:=@List.foldl_cons
abbrev n74_:=@List.mem_append_left
abbrev n75_:=@List.getElem?_cons_succ
abbrev n76_:=@List.length_range
abbrev n77_:=@Nat.lt_irrefl
abbrev n78_:=@List.map_congr_left
abbrev n79_:=@List.length_nil
set_option hygiene false in
local macro_rules
|`(?d)=>`(by omega)
|`(?e)=>`(List Int)
|`(?f)=>`((by decide))
|`(?g)=>`((by simp))
|`(?i)=>`(Shared→Prop)
|`(?j)=>`(by decide +kernel)
|`(?k)=>`(Inv X pins σ H s)
|`(?l)=>`(fun _ _=>rfl)
|`(?o)=>`(Hp→Prop)
|`(?p)=>`((model prog w))
|`(?q)=>`(List Value)
|`(?s)=>`((Or.inl rfl))
|`(?t)=>`((model X.prog X.w))
|`(?w)=>`((by kernel_rfl))
|`(?y)=>`(List (Addr×Obj))
|`(?z)=>`(fun cdv A outer s H vs Q E hr h=>?_)
|`(?A)=>`(⟨_,?term,?read⟩)
|`(?B)=>`((blk X scope cl C N s3 H3 fp))
|`(?C)=>`((gTup K 2 (Z2 (Zy 0) (Z2 (Zy 1) gNil))))
|`(?D)=>`((fun _ _ _ _=>Z8 (n:=2) rfl (Ze (pgB 0) (Ze (pgB 1) Zu))))
namespace L2
open PySem PySem.W PyProof.Rows
def topRunT (tb:String→Option Builtin) (p:Program) (w:World) (n0:Nat) (ann:Option Value):Nat→SharedT→Thread→Option SharedT
  | 0,_,_=>none
  | n+1,s,t=>match through t with
    | true=>some s
    | false=>match stepOk n0 ann t with
      | false=>none
      | true=>match stepT (denote tb) p w s t with
        | some (s',t')=>topRunT tb p w n0 ann n s' t'
        | none=>none
variable {α:Type} {w:World}
theorem Zgo {tb:String→Option Builtin} {p:Program} {n0:Nat} {ann:Option Value}:∀ {n:Nat} {s s':SharedT} {t:Thread},topRunT tb p w n0 ann n s t=some s'→topRun tb p w n0 ann n s.abs t=some s'.abs
  | 0,_,_,_,h=>by cases h
  | n+1,s,s',t,h=>by
    unfold topRunT at h;unfold topRun;cases he:through t with
    | true=>rw [he] at h;cases h;rfl
    | false =>
      rw [he] at h;cases hk:stepOk n0 ann t with
      | false=>rw [hk] at h;cases h
      | true =>
        rw [hk] at h;cases hs:stepT (denote tb) p w s t with
        | none=>rw [hs] at h;cases h
        | some r=>obtain ⟨s2,t2⟩:=r;rw [hs] at h;rw [stepT_spec hs];exact Zgo h
def btOf:List Obj→Nat→BT→BT
  | [],_,t=>t
  | o :: os,n,t=>btOf os (n+1) (t.ins n o)
theorem Zi9 {p q:Program} {loose:List Str} {Xt:Shared→Bool} {Yf:Shared→α} {Ya:World→α} {N:Nat} {g0:Bool} {T0:Params→BT} {n0:Nat} {life:Life} {ann:Option Value}
    (e:opening p=plainProg p.main.scope.names) (hN:Nat.ble 600 N=true) (f:∀ s,fenceModules? p s=some s)
    (h0:∀ P,absHeap (T0 P) n0 life=boot_heap P)
    (size:∀ P,((boot_heap P).isNs mainGlobals,(boot_heap P).objs.size,(boot_heap P).nsMap mainGlobals "__annotations__")=(true,n0,ann))
    (run:∀ (w:World) (os:OsState),(topRunT treeTable p w n0 ann N ⟨T0 w.params,n0,life,Array.mk [],boot_drawn,boot_toks,os⟩ (topStub p)).map (fun s=>((staticsOk (importedModules p.main.body) (boot_heap w.params) s.abs.heap&&namesBound p s.abs.heap&&gensDone s.abs&&laidKept (boot_heap w.params) s.abs.heap),openSeen q loose (importedModules p.main.body) Xt g0 s.abs,Yf s.abs))=some (true,openGood q loose,Ya w)):LeftO p q loose Xt Yf Ya N g0:=fun w=>by
  obtain ⟨⟨h,gs,d,k,os⟩,e1,e2⟩:=n14_.mp (boot_open e hN f w);obtain ⟨rfl,rfl,rfl,rfl⟩:h=boot_heap w.params∧gs=Array.mk []∧d=boot_drawn∧k=boot_toks:=by simpa using e2
  obtain ⟨z1,z2,z3⟩:_∧_∧_:=by simpa only [Prod.mk.injEq] using size w.params
  obtain ⟨s,r1,r2⟩:=n14_.mp (run w os);obtain ⟨l1,l2,l3⟩:_∧_∧_:=by simpa only [Prod.mk.injEq] using r2
  have r:=Zgo r1
  have ha:SharedT.abs ⟨T0 w.params,n0,life,Array.mk [],boot_drawn,boot_toks,os⟩=⟨boot_heap w.params,Array.mk [],boot_drawn,boot_toks,os⟩:=by
    unfold SharedT.abs;rw [h0]
  rw [ha] at r
  have t:topFrom treeTable p w N ⟨boot_heap w.params,Array.mk [],boot_drawn,boot_toks,os⟩=some s.abs:=by
    unfold topFrom;dsimp only;rw [z1,z2,z3,r];show (match staticsOk (importedModules p.main.body) (boot_heap w.params) s.abs.heap&&namesBound p s.abs.heap&&gensDone s.abs&&laidKept (boot_heap w.params) s.abs.heap with|true=>_|false=>_)=_
    rw [l1]
  unfold openEnds;rw [e1];show (topFrom treeTable p w N _).map _=_
  rw [t];exact congrArg some (Prod.ext l2 l3)
lay_quick L2.topRunT
end L2
namespace L2
open PySem PySem.W PyProof.Rows
variable {α:Type}
theorem Zgr {p q:Program} {loose:List Str} {Xt:Shared→Bool} {Yf:Shared→α} {Ya:World→α} {g0:Bool} {R:World→OsState→Option SharedT}
    (h1:∀ w os,(R w os).map (fun s=>(staticsOk (importedModules p.main.body) (boot_heap w.params) s.abs.heap&&namesBound p s.abs.heap&&gensDone s.abs&&laidKept (boot_heap w.params) s.abs.heap))=some true)
    (h2:∀ w os,(R w os).map (fun s=>openSeen q loose (importedModules p.main.body) Xt g0 s.abs)=some (openGood q loose))
    (h3:∀ w os,(R w os).map (fun s=>Yf s.abs)=some (Ya w)) (w:World) (os:OsState) :
    (R w os).map (fun s=>((staticsOk (importedModules p.main.body) (boot_heap w.params) s.abs.heap&&namesBound p s.abs.heap&&gensDone s.abs&&laidKept (boot_heap w.params) s.abs.heap),openSeen q loose (importedModules p.main.body) Xt g0 s.abs,Yf s.abs))=some (true,openGood q loose,Ya w):=by
  have a:=h1 w os;have b:=h2 w os;have c:=h3 w os;cases e:R w os with
  | none=>rw [e] at a;cases a
  | some s =>
    rw [e] at a b c;exact congrArg some (Prod.ext (Option.some.inj a) (Prod.ext (Option.some.inj b) (Option.some.inj c)))
noncomputable abbrev bootT (P:Params):BT:=btOf (boot_heap P).objs.toList 0 .nil
noncomputable def topK (p:Program) (N:Nat) (w:World) (os:OsState):Option SharedT:=topRunT treeTable p w 11 (some (.ref 6)) N ⟨bootT w.params,11,{},Array.mk [],boot_drawn,boot_toks,os⟩ (topStub p)
theorem Zo9:∀ P,absHeap (bootT P) 11 {}=boot_heap P:=fun P=>by kernel_rfl
theorem Zmp:∀ P,((boot_heap P).isNs mainGlobals,(boot_heap P).objs.size,(boot_heap P).nsMap mainGlobals "__annotations__")=(true,11,some (.ref 6)):=fun P=>by kernel_rfl
def Zsu (p:Program) (names:List Str):List Str:=((p.main.body.flatMap bindsAtTop).filter fun x=>!startupNames.contains x&&!names.contains x).eraseDups
end L2

namespace My
open PySem PySem.W PyProof.Rows L2
noncomputable abbrev pw:Program:=PySem.Challenge.pw_platerest_k56_finer_plates
noncomputable abbrev rr:OpenRow:=OpenLaw.row PySem.Challenge.rw_platerest_k56_finer_plates
noncomputable abbrev qq:Program:=view pw [54]
noncomputable abbrev ll:List Str:=Zsu pw ["law"]
set_option maxRecDepth 1000000
set_option maxHeartbeats 0
theorem ws:OpenLaw.wellSaid PySem.Challenge.rw_platerest_k56_finer_plates=true:=by kernel_rfl
theorem h1:∀ w os,(topK pw 3978 w os).map (fun s=>(staticsOk (importedModules pw.main.body) (boot_heap w.params) s.abs.heap&&namesBound pw s.abs.heap&&gensDone s.abs&&laidKept (boot_heap w.params) s.abs.heap))=some true:=fun w os=>by
  unfold topK topStub;rw [PySem.W.Fast.te4652649595001227023,PySem.W.Fast.te14364793385576792824,PySem.W.Fast.te17154629097778926822,PySem.W.Fast.te12822647523644345616]
  kernel_rfl
theorem h2:∀ w os,(topK pw 3978 w os).map (fun s=>openSeen qq ll (importedModules pw.main.body) (fun s=>xlAt qq [] s&&recOk (RowW.records (OpenRow.toRowW rr)) s) true s.abs)=some (openGood qq ll):=fun w os=>by
  unfold topK topStub;rw [PySem.W.Fast.te4652649595001227023,PySem.W.Fast.te14364793385576792824,PySem.W.Fast.te17154629097778926822,PySem.W.Fast.te12822647523644345616,PySem.W.Fast.te4187177175401517315]
  kernel_rfl
end My
noncomputable section
set_option Elab.async false
set_option linter.all false
set_option maxRecDepth 100000
namespace L2
open PySem PySem.Spec PyProof.Rows
theorem z0_:0≤sizeLine:=by decide
theorem z1_:1≤sizeLine:=by decide
theorem z2_:2≤sizeLine:=by decide
theorem z3_:3≤sizeLine:=by decide
theorem z4_:4≤sizeLine:=by decide
theorem z5_:5≤sizeLine:=by decide
abbrev Key:=Sum Int Str
def Zi6:Key→Value→Bool
 | .inl k,v=>Value.isInt k v
 | .inr x,v=>Value.isStrOf x v
def keyH (w:World):Key→Int
 | .inl k=>hashInt k
 | .inr x=>hashStr w x
theorem Yg:∀ {k:Key} {v:Value},Zi6 k v=true→(∃ i t,k=Sum.inl i∧v=Value.int i t)∨(∃ x t,k=Sum.inr x∧v=Value.str x t)
 | .inl i,v,h=>by
   obtain ⟨t,e⟩:=Value.isInt_shape (k:=i) (v:=v) h;exact .inl ⟨i,t,rfl,e⟩
 | .inr x,v,h=>by
   obtain ⟨t,e⟩:=Value.isStrOf_shape (x:=x) (v:=v) h;exact .inr ⟨x,t,rfl,e⟩
theorem Zmj (i:Int) (t:Tok):Zi6 (.inl i) (.int i t)=true:=by simp [Zi6,Value.isInt]
theorem Zmg (x:Str) (t:Tok):Zi6 (.inr x) (.str x t)=true:=by simp [Zi6,Value.isStrOf]
theorem Zub (a b:Int):decide ((Sum.inl a:Key)=Sum.inl b)=(a == b):=by
 by_cases e:a=b
 · subst e;simp
 · have h:¬ (Sum.inl a:Key)=Sum.inl b:=fun q=>e (Sum.inl.inj q);rw [n36_ h];exact (beq_eq_false_iff_ne.mpr e).symm
theorem Zvi (a b:Str):decide ((Sum.inr a:Key)=Sum.inr b)=decide (a=b):=by
 by_cases e:a=b
 · subst e;simp
 · have h:¬ (Sum.inr a:Key)=Sum.inr b:=fun q=>e (Sum.inr.inj q);rw [n36_ h,n36_ e]
theorem Zua (a:Int) (b:Str):decide ((Sum.inl a:Key)=Sum.inr b)=false:=n36_ (fun q=>nomatch q)
theorem Zvw (a:Str) (b:Int):decide ((Sum.inr a:Key)=Sum.inl b)=false:=n36_ (fun q=>nomatch q)
def Yi (prog:Program) (w:World):PySem.KeyKind prog w Key where
 is:=Zi6
 hash:=keyH w
 inj:=fun v a b ha hb=>by
  rcases Yg ha with ⟨i,t,rfl,rfl⟩|⟨x,t,rfl,rfl⟩
  · rcases Yg hb with ⟨j,u,rfl,e⟩|⟨y,u,rfl,e⟩
    · injection e with e1 _;rw [e1]
    · exact nomatch e
  · rcases Yg hb with ⟨j,u,rfl,e⟩|⟨y,u,rfl,e⟩
    · exact nomatch e
    · injection e with e1 _;rw [e1]
 byValue:=fun k v h=>by
  rcases Yg h with ⟨i,t,rfl,rfl⟩|⟨x,t,rfl,rfl⟩<;>rfl
 pyHash:=fun hv h=>by
  rcases Yg hv with ⟨i,t,rfl,rfl⟩|⟨x,t,rfl,rfl⟩
  · exact wpAny_pyHash_int h
  · exact wpAny_pyHash_str h
 eqBool:=fun hu hv h=>by
  rcases Yg hu with ⟨i,t,rfl,rfl⟩|⟨x,t,rfl,rfl⟩
  · rcases Yg hv with ⟨j,u,rfl,rfl⟩|⟨y,u,rfl,rfl⟩
    · rw [Zub] at h;exact wpAny_eqBool_int h
    · rw [Zua] at h;exact SeqAt.EqAt.int_str i t y u _ _ _ _ h
  · rcases Yg hv with ⟨j,u,rfl,rfl⟩|⟨y,u,rfl,rfl⟩
    · rw [Zvw] at h;exact SeqAt.EqAt.str_int x t j u _ _ _ _ h
    · rw [Zvi] at h;exact wpAny_eqBool_str h
 «strs»:=fun k x t v h=>by
  rcases Yg h with ⟨i,u,rfl,e⟩|⟨y,u,rfl,e⟩
  · exact nomatch e
  · injection e with e1 _
    subst e1;cases v<;>rfl
theorem Zjm (prog:Program) (w:World) (i:Int) (t:Tok):(Yi prog w).is (.inl i) (.int i t)=true:=Zmj i t
theorem Zje (prog:Program) (w:World) (x:Str) (t:Tok):(Yi prog w).is (.inr x) (.str x t)=true:=Zmg x t
inductive V where
 | non|bl (b:Bool)|int (i:Int)|str (x:Str)|byt (b:Array UInt8)|flt (b:UInt64)|ref (a:Addr)|ty (n:String)
 deriving DecidableEq
def RelV:V→Value→Prop
 | .non,u=>u=Value.none
 | .bl b,u=>u=Value.bool b
 | .int i,u=>∃ t,u=Value.int i t
 | .str x,u=>∃ t,u=Value.str x t
 | .byt b,u=>∃ t,u=Value.bytes b t
 | .flt b,u=>∃ t,u=Value.float b t
 | .ref a,u=>u=Value.ref a
 | .ty n,u=>u=Value.type n
abbrev Vals:List V→?q→Prop:=Paired RelV
variable {α β:Type} {C a b f it:Addr} {A:Around} {X:Cx} {e iter tg:Expr} {fd:FuncData} {h:Heap} {H H':Hp} {pins:?y} {ch fp:List Addr} {es:List Expr} {N:List Str} {vs xs:List V} {its us:?q} {M:Model} {i j k n t':Nat} {o:Obj} {pos:Pos} {P:Program} {scope:Scope} {s:Shared} {σ:St} {qual x:Str} {ta:TA} {te tl:TE} {g:TG} {wi:TI} {v y:V} {u:Value} {E Q:Value→?i} {w:World}
theorem Vals.length (r:Vals xs us):xs.length=us.length:=Paired.length r
theorem Vals.get:∀ {xs:List V} {us:?q} {i:Nat} {x:V},Vals xs us→xs[i]? = some x→∃ u,us[i]? = some u∧RelV x u
 | _,_,_,_,.nil,e=>by simp at e
 | _,_,0,_,.cons r _,e=>by simp at e;subst e;exact ⟨_,rfl,r⟩
 | _,_,i+1,x,.cons _ t,e=>by
   obtain ⟨u,h1,h2⟩:=Vals.get (i:=i) (x:=x) t (by simpa using e);exact ⟨u,by simpa using h1,h2⟩
theorem Vals.set {x:V} (r:RelV x u):∀ {xs:List V} {us:?q} (i:Nat),Vals xs us→Vals (xs.set i x) (us.set i u)
 | _,_,_,.nil=>.nil
 | _,_,0,.cons _ t=>.cons r t
 | _,_,i+1,.cons q t=>.cons q (Vals.set r i t)
theorem Vals.append {ys:List V} {ws:?q} (h:Vals xs us) (s:Vals ys ws):Vals (xs++ys) (us++ws):=by
 induction h with
 | nil=>exact s
 | cons r _ ih=>exact .cons r ih
theorem Vals.take (n:Nat) (h:Vals xs us):Vals (xs.take n) (us.take n):=by
 induction h generalizing n with
 | nil=>cases n<;>exact .nil
 | cons r _ ih =>
   cases n with
   | zero=>exact .nil
   | succ n=>exact .cons r (ih n)
theorem Vals.drop:∀ {xs:List V} {us:?q} (n:Nat),Vals xs us→Vals (xs.drop n) (us.drop n)
 | _,_,0,r=>r
 | _,_,_+1,.nil=>.nil
 | _,_,n+1,.cons _ t=>Vals.drop n t
def RelO:Option V→Option Value→Prop
 | some v,some u=>RelV v u
 | none,none=>True
 | _,_=>False
def KV {κ:Type}:List (κ×V)→List (κ×Value)→Prop:=Paired fun (p:κ×V) (q:κ×Value)=>p.1=q.1∧RelV p.2 q.2
def kV:Key→V
 | .inl i=>.int i
 | .inr x=>.str x
inductive HO where
 | lst (xs:List V)
 | tup (xs:List V)
 | dK (kvs:List (Key×V))|dT (kvs:List (List Key×V))
 | set (S:Int→Bool) (n:Nat)
 | ins (C dx:Addr) (fs:List (Str×V))
 | own (x:Addr)
 | xd (fs:List (Str×V))
 | met (f x:Addr)
 | rng (lo hi:Int)
 | frz (o:Obj) (u:HO)
 | tbl (ps:Array Value)
 | ext (φ:Heap→Prop)
abbrev Hp:=Addr→Option HO
def upd (H:Hp) (a:Addr) (o:HO):Hp:=fun b=>if b=a then some o else H b
theorem Zc {o:HO}:upd H a o a=some o:=by unfold upd;rw [if_pos rfl]
theorem Zh {o:HO} (h:b≠a):upd H a o b=H b:=by unfold upd;rw [if_neg h]
theorem Zty {o u:HO}:upd (upd H a o) a u=upd H a u:=by
 funext b;unfold upd;split<;>rfl
theorem Zim {o u:HO} (h:H a=some o) (h':H b=some u) (d:o≠u):a≠b:=by
 intro e;subst e;rw [h] at h';exact d (Option.some.inj h')
theorem Zi {o:HO} (h:H a=some o) (h':H b=none):a≠b:=by
 intro e;subst e;rw [h] at h';cases h'
def IsTupN (h:Heap) (a:Addr) (its:Array Value):Prop:=∃ o,h.get? a=some o∧(o.cls=.type "tuple" ∧ o.dict=none)∧∃ n,o.data=.seq its n
theorem IsTupN.is {its:Array Value} (x:IsTupN h a its):IsTup h a its:=let ⟨o,e,c,n,d⟩:=x;⟨o,e,c.1,n,d⟩
theorem IsTupN.new (h:Heap) (its:Array Value):IsTupN (h.push { cls:=.type "tuple",data:=.seq its }) h.objs.size its:=⟨_,n8_ _ rfl,⟨rfl,rfl⟩,_,rfl⟩
section
variable (P:Program) (w:World)
def ObjOk (H:Hp) (h:Heap) (a:Addr):HO→Prop
 | .lst xs=>xs.length≤sizeLine∧∃ (its:?q) (n:Nat),Vals xs its∧h.get? a=some { cls:=.type "list",data:=.seq its.toArray n }
 | .tup xs=>xs.length≤sizeLine∧∃ its:?q,Vals xs its∧IsTupN h a its.toArray
 | .dK kvs=>kvs.length≤sizeLine∧(a == sysModules)=false∧∃ vs,KV kvs vs∧h.DictOf (Yi P w) a vs
 | .dT kvs=>kvs.length≤sizeLine∧(a == sysModules)=false∧∃ xs:List (List Key×Addr×Value),
    Paired (fun (p:List Key×V) (q:List Key×Addr×Value)=>p.1=q.1∧H q.2.1=some (.tup (p.1.map kV))∧RelV p.2 q.2.2) kvs xs ∧
    ∃ o es ep,h.get? a=some o∧o.ExactDict∧o.data=.dict es ep∧es.toList=xs.map (entryOfKey (tupleKind (Yi P w)))∧(xs.map (·.1)).Nodup
 | .set S n=>h.SetOf (intKind P w) a S n
 | .ins C dx fs=>H dx=some (.own a)∧fs.length≤1000∧dx≠a∧h.get? a=some (PySem.W.instObj C dx) ∧
    ∃ mA,h.Ns1 dx mA∧(∀ f,RelO (fs.lookup f) (mA f))∧PySem.Within mA (fs.map (·.1))
 | .own _=>∃ o,h.get? a=some o
 | .xd fs=>∃ mA,h.Ns1 a mA∧∀ f,RelO (fs.lookup f) (mA f)
 | .rng lo hi=>∃ t u v,h.get? a=some { cls:=.type "range",data:=.fields #[.int lo t,.int hi u,.int 1 v] }
 | .frz o u=>h.get? a=some o∧ObjOk H h a u
 | .tbl ps=>h.get? a=some { cls:=.none,data:=.fields ps }
 | .met f x=>h.get? a=some (PySem.W.methodObj (.ref f) (.ref x))
 | .ext φ=>φ h∧(∃ o,h.get? a=some o)∧∀ h1 h2:Heap,φ h1→(∀ o,h1.get? a=some o→h2.get? a=some o)→φ h2
def HOk (H:Hp) (h:Heap):Prop:=∀ a o,H a=some o→ObjOk P w H h a o
end
section
variable {P:Program} {w:World} {H H':Hp} {h h':Heap} {a:Addr} {o:HO}
theorem ObjOk.lt (x:ObjOk P w H h a o):a<h.objs.size:=by
 cases o with
 | lst xs=>obtain ⟨_,_,_,_,e⟩:=x;exact n13_ e
 | tup xs=>obtain ⟨_,_,_,p⟩:=x;exact p.is.lt
 | dK kvs=>obtain ⟨_,_,_,_,o,_,_,e,_⟩:=x;exact n13_ e
 | dT kvs=>obtain ⟨_,_,_,_,o,_,_,e,_⟩:=x;exact n13_ e
 | set S n=>obtain ⟨o,_,_,_,e,_⟩:=x;exact n13_ e
 | ins C dx fs=>obtain ⟨_,_,_,e,_⟩:=x;exact n13_ e
 | own y=>obtain ⟨_,e⟩:=x;exact n13_ e
 | xd fs=>obtain ⟨_,⟨_,_,_,e,_⟩,_⟩:=x;exact n13_ e
 | rng lo hi=>obtain ⟨_,_,_,e⟩:=x;exact n13_ e
 | frz ob u=>obtain ⟨e,_⟩:=x;exact n13_ e
 | tbl ps=>exact n13_ (show h.get? a=some _ from x)
 | met f y=>exact n13_ (show h.get? a=some _ from x)
 | ext φ=>obtain ⟨_,⟨_,e⟩,_⟩:=x;exact n13_ e
theorem Paired.mapP {F G:α→β→Prop} {l₁:List α} {l₂:List β} (h:Paired F l₁ l₂) (f:∀ a b,F a b→G a b):Paired G l₁ l₂:=by
 induction h with
 | nil=>exact .nil
 | cons r _ ih=>exact .cons (f _ _ r) ih
theorem ObjOk.stay (x:ObjOk P w H h a o) (k:∀ b u,(b=a∨H b=some (.own a))→h.get? b=some u→h'.get? b=some u)
 (ho:∀ b,H b=some (.own a)→H' b=some (.own a)) (ht:∀ b xs,H b=some (.tup xs)→H' b=some (.tup xs)):ObjOk P w H' h' a o:=by
 induction o with
 | lst xs=>obtain ⟨z,its,n,r,e⟩:=x;exact ⟨z,its,n,r,k _ _ (.inl rfl) e⟩
 | tup xs=>obtain ⟨z,its,r,ob,e,c⟩:=x;exact ⟨z,its,r,ob,k _ _ (.inl rfl) e,c⟩
 | dK kvs=>obtain ⟨z,y,vs,r,ob,es,ep,e,c⟩:=x;exact ⟨z,y,vs,r,ob,es,ep,k _ _ (.inl rfl) e,c⟩
 | dT kvs =>
   obtain ⟨z,y,xs,r,ob,es,ep,e,c⟩:=x;exact ⟨z,y,xs,Paired.mapP r fun p q z=>⟨z.1,ht _ _ z.2.1,z.2.2⟩,ob,es,ep,k _ _ (.inl rfl) e,c⟩
 | set S n=>obtain ⟨ob,es,ep,t,e,c⟩:=x;exact ⟨ob,es,ep,t,k _ _ (.inl rfl) e,c⟩
 | ins C dx fs =>
   obtain ⟨d,z,ne,e,mA,⟨od,es,ep,e2,c⟩,r⟩:=x;exact ⟨ho _ d,z,ne,k _ _ (.inl rfl) e,mA,⟨od,es,ep,k _ _ (.inr d) e2,c⟩,r⟩
 | own y=>obtain ⟨ob,e⟩:=x;exact ⟨ob,k _ _ (.inl rfl) e⟩
 | xd fs=>obtain ⟨mA,⟨od,es,ep,e,c⟩,r⟩:=x;exact ⟨mA,⟨od,es,ep,k _ _ (.inl rfl) e,c⟩,r⟩
 | rng lo hi=>obtain ⟨t,u,v,e⟩:=x;exact ⟨t,u,v,k _ _ (.inl rfl) e⟩
 | frz ob u ih=>obtain ⟨e,q⟩:=x;exact ⟨k _ _ (.inl rfl) e,ih q⟩
 | tbl ps =>
   have e:h.get? a=some { cls:=.none,data:=.fields ps }:=x;show h'.get? a=some { cls:=.none,data:=.fields ps }
   exact k a _ (.inl rfl) e
 | met f y =>
   have e:h.get? a=some (PySem.W.methodObj (.ref f) (.ref y)):=x;show h'.get? a=some (PySem.W.methodObj (.ref f) (.ref y))
   exact k a _ (.inl rfl) e
 | ext φ=>obtain ⟨p,⟨o,e⟩,st⟩:=x;exact ⟨st _ _ p fun o q=>k _ _ (.inl rfl) q,⟨o,k _ _ (.inl rfl) e⟩,st⟩
theorem HOk.lt (x:HOk P w H h) (e:H a=some o):a<h.objs.size:=(x a o e).lt
theorem HOk.fresh (x:HOk P w H h) (e:h.objs.size≤a):H a=none:=by
 cases q:H a with
 | none=>rfl
 | some u=>exact absurd (n23_ (x.lt q) e) (n77_ _)
theorem HOk.kept (x:HOk P w H h) (k:∀ b u,h.get? b=some u→h'.get? b=some u):HOk P w H h':=fun a o e =>
 (x a o e).stay (fun b u _ q=>k b u q) (fun _ q=>q) fun _ _ q=>q
theorem HOk.laid (x:HOk P w H h) (k:∀ b u,h.get? b=some u→h'.get? b=some u) (hp:h.objs.size≤a) (new:ObjOk P w (upd H a o) h' a o):HOk P w (upd H a o) h':=fun b u e=>by
 have hn:=x.fresh hp
 by_cases hb:b=a
 · subst hb;rw [Zc] at e;cases e;exact new
 · rw [Zh hb] at e;exact (x b u e).stay (fun c v _ q=>k c v q) (fun c q=>by rw [Zh (Zi q hn)];exact q) fun c xs q=>by rw [Zh (Zi q hn)];exact q
end
def Rd (H:Hp) (a:Addr) (u:HO):Prop:=H a=some u∨∃ o,H a=some (.frz o u)
theorem Rd.ok {u:HO} (r:Rd H a u) (x:HOk P w H h):ObjOk P w H h a u:=by
 rcases r with r|⟨o,r⟩
 · exact x a u r
 · obtain ⟨_,q⟩:=x a _ r;exact q
def Mut:Option HO→Prop
 | some (.lst _)=>True
 | some (.dK _)=>True
 | some (.dT _)=>True
 | some (.set _ _)=>True
 | some (.ins _ _ _)=>True
 | some (.ext _)=>True
 | _=>False
section
variable {P:Program} {w:World} {H:Hp} {h h':Heap} {x e:Addr} {o':HO}
theorem HOk.write (ok:HOk P w H h) (mu:Mut (H x)) (he:e=x∨H e=some (.own x)) (k:∀ b u,b≠e→h.get? b=some u→h'.get? b=some u) (heo:∃ u,h'.get? e=some u)
 (new:ObjOk P w (upd H x o') h' x o'):HOk P w (upd H x o') h':=fun b u q=>by
 have nown:∀ c y,H c=some (.own y)→c≠x:=fun c y r z=>by subst z;rw [r] at mu;exact mu
 have ntup:∀ c xs,H c=some (.tup xs)→c≠x:=fun c xs r z=>by subst z;rw [r] at mu;exact mu
 by_cases hb:b=x
 · subst hb;rw [Zc] at q;cases q;exact new
 · rw [Zh hb] at q
   by_cases hbe:b=e
   · have q':H b=some (.own x):=by
      rcases he with z|z
      · exact absurd (hbe.trans z) hb
      · rw [hbe];exact z
     rw [q] at q';cases q';obtain ⟨v,hv⟩:=heo;exact ⟨v,by rw [hbe];exact hv⟩
   · refine (ok b u q).stay (fun c v hc r=>k c v ?_ r) (fun c r=>by rw [Zh (nown c b r)];exact r) fun c xs r=>by rw [Zh (ntup c xs r)];exact r
     rcases hc with rfl|hc
     · exact hbe
     · rintro rfl
       rcases he with z|z
       · exact nown c b hc z
       · rw [hc] at z;cases z;exact hb rfl
end
structure Un (fs ex:List Addr) (H H':Hp) (h h':Heap):Prop where
 keep:∀ b o,h.get? b=some o→H b=none→b∉fs→b∉ex→h'.get? b=some o
 slot:∀ b o,h.get? b=some o→H b=none→b∈fs→b∉ex→∃ sl,h'.get? b=some { o with slots:=sl }
 free:∀ b o,h.get? b=some o→H b=none→b∉ex→H' b=none
 there:∀ b o,h.get? b=some o→b∉ex→∃ o',h'.get? b=some o'
 tups:∀ b xs,H b=some (.tup xs)→H' b=some (.tup xs)
 frzs:∀ b o u,H b=some (.frz o u)→H' b=some (.frz o u)
 tbls:∀ b ps,H b=some (.tbl ps)→∃ more,H' b=some (.tbl (ps++more))
section
variable {fs fs' ex ex':List Addr} {H H1 H2:Hp} {h h1 h2 h':Heap} {a x e:Addr} {o:HO}
theorem Un.any (u:Un fs ex H H1 h h1) {ob:Obj} (q:h.get? b=some ob) (n:H b=none) (hx:b∉ex):∃ sl,h1.get? b=some { ob with slots:=sl }:=by
 by_cases hb:b∈fs
 · exact u.slot b ob q n hb hx
 · exact ⟨ob.slots,u.keep b ob q n hb hx⟩
theorem Un.kept (k:∀ b u,h.get? b=some u→h'.get? b=some u):Un fs ex H H h h' :=
 ⟨fun b ob q _ _ _=>k b ob q,fun b ob q _ _ _=>⟨ob.slots,k b ob q⟩,fun _ _ _ n _=>n,fun b ob q _=>⟨ob,k b ob q⟩,fun _ _ q=>q,fun _ _ _ q=>q,fun _ ps q=>⟨#[],by rw [q];simp⟩⟩
theorem Un.refl:Un fs ex H H h h:=Un.kept fun _ _ q=>q
theorem Un.laid (k:∀ b u,h.get? b=some u→h'.get? b=some u) (hp:h.objs.size≤a) (hn:H a=none):Un fs ex H (upd H a o) h h' where
 keep:=fun b u q _ _ _=>k b u q
 slot:=fun b u q _ _ _=>⟨u.slots,k b u q⟩
 free:=fun b u q n _=>by rw [Zh (n27_ (n23_ (n13_ q) hp))];exact n
 there:=fun b u q _=>⟨u,k b u q⟩
 tups:=fun b xs q=>by rw [Zh (Zi q hn)];exact q
 frzs:=fun b u xs q=>by rw [Zh (Zi q hn)];exact q
 tbls:=fun b ps q=>⟨#[],by rw [Zh (Zi q hn),q];simp⟩
theorem Un.write (mu:Mut (H x)) (he:e=x∨H e=some (.own x)) (k:∀ b u,b≠e→h.get? b=some u→h'.get? b=some u) (heo:∃ u,h'.get? e=some u):Un fs ex H (upd H x o) h h':=by
 have hx:∀ b,H b=none→b≠x:=fun b n z=>by subst z;rw [n] at mu;exact mu
 have hb:∀ b,H b=none→b≠e:=fun b n z=>by
  subst z
  rcases he with r|r
  · exact hx b n r
  · rw [n] at r;cases r
 have hm:∀ b u,H b=some u→¬ Mut (some u)→b≠x:=fun b u q nm z=>by subst z;rw [q] at mu;exact nm mu
 refine ⟨fun b u q n _ _=>k b u (hb b n) q,fun b u q n _ _=>⟨u.slots,k b u (hb b n) q⟩,fun b u q n _=>by rw [Zh (hx b n)];exact n,fun b u q _=>?_,
  fun b xs q=>by rw [Zh (hm b _ q fun z=>z)];exact q,fun b u xs q=>by rw [Zh (hm b _ q fun z=>z)];exact q,fun b ps q=>⟨#[],by rw [Zh (hm b _ q fun z=>z),q];simp⟩⟩
 by_cases hbe:b=e
 · subst hbe;exact heo
 · exact ⟨u,k b u hbe q⟩
end
def trk (h:Heap) (H:Hp):List Addr:=(List.range h.objs.size).filter fun a=>(H a).isSome
def hidT (h:Heap) (H:Hp):Heap:=PySem.W.hideAll h (trk h H)
theorem Zl7 (h:Heap) (H:Hp):(hidT h H).objs.size=h.objs.size:=PySem.W.hideAll_size _ _
theorem Zqh (e:h.get? b=some o) (n:H b=none):(hidT h H).get? b=some o :=
 PySem.W.hideAll_get _ e fun hm=>by
  have q:(H b).isSome=true:=(n72_.mp hm).2;rw [n] at q;simp at q
theorem Zss (e:(hidT h H).get? b=some o):h.get? b=some o∧H b=none:=by
 have e':h.get? b=some o:=PySem.W.of_hideAll (trk h H) e;refine ⟨e',?_⟩;cases q:H b with
 | none=>rfl
 | some x =>
   have hm:b∈trk h H:=n72_.mpr ⟨n35_.mpr (n13_ e'),by simp [q]⟩;have z:(hidT h H).get? b=none:=PySem.W.hideAll_none (trk h H) hm;rw [z] at e;cases e
structure Mod (K:PySem.W.Frag) (mg:Str→Option Value) (base:Heap):Prop where
 kin:K.In base
 glob:base.Ns mainGlobals mg
 blt:∃ mb,base.Ns builtinsNs mb∧∀ x:Str,x ≠ "__name__" → mb x=bootBuiltins x
 nolimit:base.NoLimit
 seer:base.NoSeer
 digits:base.NoDigits
structure Cx where
 prog:Program
 w:World
 K:PySem.W.Frag
 mg:Str→Option Value
 base:Heap
 A:Around
 N:List Str
 s₀:Shared
 H₀:Hp
 env:Env
 outer:List Env
 stack:List Env
 ex:List Addr
 fn:Str→Bool
 calm:Bool
 pn:?y
 xe:Value→?i
def frs (l:List Env):List Addr:=l.filterMap (·.frame)
abbrev Cx.fs (X:Cx):List Addr:=frs X.outer
def Vis (sc:Scope) (x:Str):Prop:=sc.names.lookup x=some .local∨sc.names.lookup x=some .cell∨sc.names.lookup x=some .free
def Loc (sc:Scope) (x:Str):Prop:=sc.names.lookup x=some .local∨sc.names.lookup x=some .cell
def Look (env:Env) (h:Heap) (m:Str→Option Value) (x:Str) (u:Value):Prop :=
 (env.kindOf x=some .local∧m x=some u)∨((env.kindOf x=some .cell∨env.kindOf x=some .free)∧∃ c,env.cells.lookup x=some c∧h.IsCell c (some u))
structure Cx.Ok (X:Cx):Prop where
 mod:Mod X.K X.mg X.base
 kind:X.env.scope.kind=.function
 glob:X.env.globals=mainGlobals
 blt:X.env.builtins=builtinsNs
 above:X.s₀.z≤X.env.locals
 inj:∀ x y c,X.env.cells.lookup x=some c→X.env.cells.lookup y=some c→x=y
 has:∀ x,(X.env.kindOf x=some .cell∨X.env.kindOf x=some .free)→∃ c,X.env.cells.lookup x=some c
 cab:∀ x c,X.fn x=true→X.env.cells.lookup x=some c→X.s₀.z≤c
 hd:X.calm=true→X.A.handled=none
 frames:X.A.frames=some X.stack
 stk:X.stack=X.outer∨(X.stack=X.env :: X.outer∧X.env.frame=some X.env.locals)
 exf:∀ b∈X.ex,b≠X.env.locals∧∀ x c,X.env.cells.lookup x=some c→c≠b
 bs:∀ b o,X.base.get? b=some o→X.s₀.heap.get? b=some o∧X.H₀ b=none
 bsz:X.base.objs.size≤X.s₀.z
 noex:∀ b o,X.base.get? b=some o→b∉X.ex
 exfs:∀ b∈X.ex,b∉X.fs
 funs:X.s₀.heap.FunFrames X.base X.outer
 frf:∀ b∈X.fs,X.H₀ b=none
structure Inv (X:Cx) (pins:?y) (σ:List (Option V)) (H:Hp) (s:Shared):Prop where
 ok:X.Ok
 os:s.os=X.s₀.os
 bare:AllBare s.gens
 base:Un X.fs X.ex X.H₀ H X.s₀.heap s.heap
 loc:∃ m,s.heap.Ns X.env.locals m∧∀ (i:Nat) (x:Str) (v:V),X.N[i]? = some x→σ[i]? = some (some v)→Vis X.env.scope x→∃ u,RelV v u∧Look X.env s.heap m x u
 cell:∀ x c,X.env.cells.lookup x=some c→∃ v,s.heap.IsCell c v
 free:H X.env.locals=none
 freeC:∀ x c,X.env.cells.lookup x=some c→H c=none∨(X.fn x=false∧∃ o u,H c=some (.frz o u))
 pin:∀ p∈X.pn++pins,s.heap.get? p.1=some p.2∧H p.1=none∧p.1≠X.env.locals∧p.1∉X.fs∧∀ v,p.2.data≠.cell v
 hok:HOk X.prog X.w H s.heap
 len:σ.length=X.N.length
section
variable {X:Cx} {pins:?y} {σ:List (Option V)} {H H':Hp} {s:Shared} {h':Heap}
theorem Cx.Ok.nofr (ok:X.Ok) (e:X.base.get? b=some o):b∉X.fs:=fun hb=>by
 have:=(ok.funs.mem hb).1
 rw [e] at this;cases this
theorem Inv.bs (I:?k):∀ b o,X.base.get? b=some o→s.heap.get? b=some o∧H b=none:=fun b o e =>
 ⟨I.base.keep b o (I.ok.bs b o e).1 (I.ok.bs b o e).2 (I.ok.nofr e) (I.ok.noex b o e),I.base.free b o (I.ok.bs b o e).1 (I.ok.bs b o e).2 (I.ok.noex b o e)⟩
theorem Inv.bk (I:?k):∀ b o,X.base.get? b=some o→s.heap.get? b=some o:=fun b o e=>(I.bs b o e).1
theorem Inv.mod (I:?k):Mod X.K X.mg X.base:=I.ok.mod
theorem Inv.kIn (I:?k):X.K.In s.heap:=I.ok.mod.kin.keeps I.bk
theorem Inv.lt (I:?k):X.env.locals<s.z:=let ⟨_,hn,_⟩:=I.loc;hn.lt
theorem Inv.sz (I:?k):X.s₀.z≤s.z:=n53_ I.ok.above (Nat.le_of_lt I.lt)
theorem Inv.nofs (I:?k) (h:s.z≤a):a∉X.fs:=fun hb=>by
 obtain ⟨_,o,ho,_⟩:=I.ok.funs.mem hb;exact absurd (n23_ (n13_ ho) (n53_ I.sz h)) (n77_ _)
theorem Inv.cne (I:?k):∀ x c,X.env.cells.lookup x=some c→c≠X.env.locals:=fun x c e z=>by
 obtain ⟨v,o,ho,hd⟩:=I.cell x c e;obtain ⟨m,⟨o',es,ep,ho',hd',_⟩,_⟩:=I.loc;rw [z,ho'] at ho;cases ho;rw [hd'] at hd;cases hd
theorem Inv.funs (I:?k):s.heap.FunFrames X.base X.outer:=by
 have all:∀ (l:List Env),(∀ b∈frs l,b∈X.fs)→X.s₀.heap.FunFrames X.base l→s.heap.FunFrames X.base l:=by
  intro l
  induction l with
  | nil=>intro _ _;trivial
  | cons env r ih =>
    intro hs hl;obtain ⟨hk,⟨L,o,hf,hn,ho,hd⟩,hr⟩:=hl;have hL:L∈X.fs:=hs L (by unfold frs;rw [List.filterMap_cons,hf];exact n19_);obtain ⟨sl,e⟩:=I.base.slot L o ho (I.ok.frf L hL) hL fun z=>I.ok.exfs L z hL;exact ⟨hk,⟨L,_,hf,hn,e,hd⟩,ih (fun b hb=>hs b (by unfold frs;rw [List.filterMap_cons,hf];exact n16_ _ hb)) hr⟩
 exact all X.outer (fun _ hb=>hb) I.ok.funs
theorem Inv.stack (I:?k):s.heap.FunFrames X.base X.stack:=by
 rcases I.ok.stk with e|⟨e,hf⟩
 · rw [e];exact I.funs
 · rw [e];obtain ⟨m,hn,_⟩:=I.loc;refine .cons (by rw [I.ok.kind];decide) hf hn ?_ I.funs;exact Heap.get?_none_of_le (n53_ I.ok.bsz I.ok.above)
theorem Inv.stkSub (I:?k):∀ b∈frs X.stack,b∈X.env.locals :: X.fs:=fun b hb=>by
 rcases I.ok.stk with e|⟨e,hf⟩
 · rw [e] at hb;exact n16_ _ hb
 · rw [e] at hb;unfold frs at hb;rw [List.filterMap_cons,hf] at hb;exact hb
theorem Inv.stkFree (I:?k):∀ b∈frs X.stack,H b=none:=fun b hb=>by
 rcases n9_.mp (I.stkSub b hb) with e|hb
 · rw [e];exact I.free
 · obtain ⟨_,o,ho,_⟩:=I.ok.funs.mem hb;exact I.base.free b o ho (I.ok.frf b hb) fun z=>I.ok.exfs b z hb
theorem Inv.step {g':Array GenState} {d':Drawn} (I:?k)
 (hch:∀ b∈ch,(b∈X.ex∨X.s₀.z≤b)∧b≠X.env.locals∧(∀ x c,X.env.cells.lookup x=some c→c≠b)∧∀ p∈X.pn++pins,p.1≠b)
 (keep:∀ b o,b≠X.env.locals→b∉X.fs→b∉ch→s.heap.get? b=some o→H b=none→h'.get? b=some o)
 (slot:∀ b o,b≠X.env.locals→b∈X.fs→b∉ch→s.heap.get? b=some o→H b=none→∃ sl,h'.get? b=some { o with slots:=sl }) (free:∀ b o,b∉ch→s.heap.get? b=some o→H b=none→H' b=none)
 (there:∀ b o,b∉ch→s.heap.get? b=some o→∃ o',h'.get? b=some o')
 (tups:∀ b xs,H b=some (.tup xs)→H' b=some (.tup xs)) (frzs:∀ b o u,H b=some (.frz o u)→H' b=some (.frz o u)) (tbls:∀ b ps,H b=some (.tbl ps)→∃ more,H' b=some (.tbl (ps++more)))
 (ns:∀ m,s.heap.Ns X.env.locals m→h'.Ns X.env.locals m) (hok:HOk X.prog X.w H' h') (hg:AllBare g') :
 Inv X pins σ H' { s with heap:=h',gens:=g',drawn:=d',toks:=t' }:=by
 have neL:∀ b o,X.s₀.heap.get? b=some o→b≠X.env.locals:=fun b o e=>n27_ (n23_ (n13_ e) I.ok.above)
 have neC:∀ b o,X.s₀.heap.get? b=some o→b∉X.ex→b∉ch:=fun b o e hx hb=>by
  rcases (hch b hb).1 with z|z
  · exact hx z
  · exact absurd (n23_ (n13_ e) z) (n77_ _)
 have cellK:∀ x c,X.env.cells.lookup x=some c→∀ v,s.heap.IsCell c v→h'.IsCell c v:=fun x c e v ⟨o,ho,hd⟩=>by
  have nch:c∉ch:=fun z=>(hch c z).2.2.1 x c e rfl
  rcases I.freeC x c e with fz|⟨_,o',u',fz⟩
  · by_cases hc:c∈X.fs
    · obtain ⟨sl,q⟩:=slot c o (I.cne x c e) hc nch ho fz;exact ⟨_,q,hd⟩
    · exact ⟨o,keep c o (I.cne x c e) hc nch ho fz,hd⟩
  · have h1:=(I.hok c _ fz).1;rw [ho] at h1;cases h1;exact ⟨o,(hok c _ (frzs c o u' fz)).1,hd⟩
 refine ⟨I.ok,I.os,hg,⟨fun b o e n hb hx=>?_,fun b o e n hb hx=>?_,fun b o e n hx=>?_,fun b o e hx=>?_,fun b xs e=>tups b xs (I.base.tups b xs e),fun b o xs e=>frzs b o xs (I.base.frzs b o xs e),fun b ps e=>?_⟩,?_,fun x c e=>?_,?_,fun x c e=>?_,fun p hp=>?_,hok,I.len⟩
 · exact keep b o (neL b o e) hb (neC b o e hx) (I.base.keep b o e n hb hx) (I.base.free b o e n hx)
 · obtain ⟨sl,e1⟩:=I.base.slot b o e n hb hx;obtain ⟨sl',e2⟩:=slot b _ (neL b o e) hb (neC b o e hx) e1 (I.base.free b o e n hx);exact ⟨sl',e2⟩
 · obtain ⟨o',e1⟩:=I.base.there b o e hx;exact free b o' (neC b o e hx) e1 (I.base.free b o e n hx)
 · obtain ⟨o',e1⟩:=I.base.there b o e hx;exact there b o' (neC b o e hx) e1
 · obtain ⟨m1,e1⟩:=I.base.tbls b ps e;obtain ⟨m2,e2⟩:=tbls b _ e1;exact ⟨m1++m2,by rw [e2,Array.append_assoc]⟩
 · obtain ⟨m,hn,hl⟩:=I.loc;refine ⟨m,ns m hn,fun i x v e1 e2 e3=>?_⟩;obtain ⟨u,r,l⟩:=hl i x v e1 e2 e3;refine ⟨u,r,?_⟩
   rcases l with l|⟨k,c,e,z⟩
   · exact .inl l
   · exact .inr ⟨k,c,e,cellK x c e _ z⟩
 · obtain ⟨v,z⟩:=I.cell x c e;exact ⟨v,cellK x c e v z⟩
 · obtain ⟨m,⟨o,_,_,ho,_⟩,_⟩:=I.loc;exact free _ o (fun z=>(hch _ z).2.1 rfl) ho I.free
 · obtain ⟨v,o,ho,hd⟩:=I.cell x c e;exact (I.freeC x c e).imp (fun fz=>free c o (fun z=>(hch c z).2.2.1 x c e rfl) ho fz) fun ⟨q,o',u',fz⟩=>⟨q,o',u',frzs c o' u' fz⟩
 · obtain ⟨e,n,ne,nf,d⟩:=I.pin p hp;have nch:p.1∉ch:=fun z=>(hch p.1 z).2.2.2 p hp rfl;exact ⟨keep p.1 p.2 ne nf nch e n,free p.1 p.2 nch e n,ne,nf,d⟩
theorem Inv.un (I:?k) (u:Un X.fs [] H H' s.heap h') (hok:HOk X.prog X.w H' h'):Inv X pins σ H' { s with heap:=h',toks:=t' }:=by
 obtain ⟨m,⟨o,es,ep,ho,r⟩,_⟩:=id I.loc;obtain ⟨sl,hL⟩:=u.any ho I.free ?g
 exact I.step (g':=s.gens) (d':=s.drawn) (ch:=[]) (fun _ z=>nomatch z) (fun b o _ hb _ e n=>u.keep b o e n hb ?g) (fun b o _ hb _ e n=>u.slot b o e n hb ?g) (fun b o _ e n=>u.free b o e n ?g) (fun b o _ e=>u.there b o e ?g) u.tups u.frzs u.tbls (fun m' hm=>by
  obtain ⟨o',es',ep',ho',r'⟩:=hm;rw [ho] at ho';cases ho';exact ⟨_,es',ep',hL,r'⟩) hok I.bare
theorem Inv.call {g':Array GenState} {d':Drawn} (I:?k) (u:Un (frs X.stack) ch H H' s.heap h') (hok:HOk X.prog X.w H' h') (hg:AllBare g')
 (hch:∀ b∈ch,(b∈X.ex∨X.s₀.z≤b)∧b≠X.env.locals∧(∀ x c,X.env.cells.lookup x=some c→c≠b)∧∀ p∈X.pn++pins,p.1≠b) :
 Inv X pins σ H' { s with heap:=h',gens:=g',drawn:=d',toks:=t' }:=by
 obtain ⟨m,⟨o,es,ep,ho,r⟩,_⟩:=id I.loc;obtain ⟨sl,hL⟩:=u.any ho I.free fun z=>(hch _ z).2.1 rfl
 exact I.step (ch:=ch) hch (fun b o hL hb hc e n=>u.keep b o e n (fun z=>(n9_.mp (I.stkSub b z)).elim hL hb) hc) (fun b o _ _ hc e n=>u.any e n hc) (fun b o hc e n=>u.free b o e n hc) (fun b o hc e=>u.there b o e hc) u.tups u.frzs u.tbls (fun m' hm=>by
  obtain ⟨o',es',ep',ho',r'⟩:=hm;rw [ho] at ho';cases ho';exact ⟨_,es',ep',hL,r'⟩) hok hg
theorem Inv.turned (I:?k) (k:∀ b o,b≠it→s.heap.get? b=some o→h'.get? b=some o) (hn:H it=none) (hL:it≠X.env.locals)
 (h1:it∈X.ex∨X.s₀.z≤it) (h2:∀ x c,X.env.cells.lookup x=some c→c≠it) (h3:∀ p∈X.pn++pins,p.1≠it):Inv X pins σ H { s with heap:=h',toks:=t' }:=by
 have nit:∀ b u,H b=some u→b≠it:=fun b u e z=>by rw [z,hn] at e;cases e
 refine I.step (g':=s.gens) (d':=s.drawn) (ch:=[it]) (fun b hb=>?_) (fun b o _ _ hc e _=>k b o (fun z=>hc (by simp [z])) e) (fun b o _ _ hc e _=>⟨o.slots,k b o (fun z=>hc (by simp [z])) e⟩) (fun _ _ _ _ n=>n)
  (fun b o hc e=>⟨o,k b o (fun z=>hc (by simp [z])) e⟩) (fun _ _ e=>e) (fun _ _ _ e=>e) (fun b ps e=>⟨#[],by rw [e];simp⟩) (fun m hm=>?_) (fun b u e=>?_) I.bare
 · have e:b=it:=by simpa using hb
   subst e;exact ⟨h1,hL,h2,h3⟩
 · obtain ⟨o,es,ep,ho,r⟩:=hm;exact ⟨o,es,ep,k _ o (Ne.symm hL) ho,r⟩
 · refine (I.hok b u e).stay (fun c v hc q=>k c v ?_ q) (fun _ q=>q) fun _ _ q=>q
   rcases hc with z|z
   · rw [z];exact nit b u e
   · exact nit c _ z
theorem Inv.tok (I:?k) (t:Nat):Inv X pins σ H { s with toks:=t }:=I.un (h':=s.heap) (t':=t) Un.refl I.hok
theorem Inv.kept (I:?k) (k:∀ b u,s.heap.get? b=some u→h'.get? b=some u):Inv X pins σ H { s with heap:=h',toks:=t' }:=I.un (Un.kept k) (I.hok.kept k)
theorem Inv.laid {o:HO} (I:?k) (k:∀ b u,s.heap.get? b=some u→h'.get? b=some u) (hp:s.z≤a) (new:ObjOk X.prog X.w (upd H a o) h' a o) :
 Inv X pins σ (upd H a o) { s with heap:=h',toks:=t' }:=I.un (Un.laid k hp (I.hok.fresh hp)) (I.hok.laid k hp new)
theorem Inv.write {x e:Addr} {o:HO} (I:?k) (mu:Mut (H x)) (he:e=x∨H e=some (.own x)) (k:∀ b u,b≠e→s.heap.get? b=some u→h'.get? b=some u) (heo:∃ u,h'.get? e=some u)
 (new:ObjOk X.prog X.w (upd H x o) h' x o):Inv X pins σ (upd H x o) { s with heap:=h',toks:=t' }:=I.un (Un.write mu he k heo) (I.hok.write mu he k heo new)
theorem Inv.pins_of {pins':?y} (I:?k) (h:∀ p∈pins',s.heap.get? p.1=some p.2∧H p.1=none∧p.1≠X.env.locals∧p.1∉X.fs∧∀ v,p.2.data≠.cell v):Inv X pins' σ H s :=
 ⟨I.ok,I.os,I.bare,I.base,I.loc,I.cell,I.free,I.freeC,fun p hp=>(n28_.mp hp).elim (fun z=>I.pin p (n74_ _ z)) (h p),I.hok,I.len⟩
theorem Zka (hN:N.Nodup) (a:N[i]? = some x) (b:N[j]? = some x):i=j:=by
 obtain ⟨h1,e1⟩:=n12_.mp a;obtain ⟨h2,e2⟩:=n12_.mp b;exact (n60_ hN).mp (e1.trans e2.symm)
theorem Znd {Q:Unit→?i} (I:?k) (hN:X.N.Nodup) (hi:X.N[i]? = some x) (hx:Loc X.env.scope x) (r:RelV v u)
 (h:∀ s',Inv X pins (σ.set i (some v)) H s'→(∃ a,Heap.SameBut a s.heap s'.heap∧(a=X.env.locals∨X.env.cells.lookup x=some a))→Q () s') (hf:X.fn x=true∨X.env.scope.names.lookup x=some .local:=by first|exact .inl rfl|exact .inr rfl|assumption):wpAny M A (storeName X.env x u) Q E s:=by
 obtain ⟨m,hn,hl⟩:=id I.loc;have hcls:(X.env.scope.kind == .class||(X.env.scope.kind == .module&&X.env.locals != X.env.globals))=false:=by rw [I.ok.kind];rfl
 have hiσ:i<σ.length:=by rw [I.len];exact (n12_.mp hi).1
 have cne:=I.cne
 have tracked:∀ {a:Addr} {h':Heap},(∃ o,s.heap.get? a=some o∧H a=none)→Heap.SameBut a s.heap h'→HOk X.prog X.w H h':=fun {a h'} ha hs b ob e=>by
  obtain ⟨_,_,hfree⟩:=ha;refine (I.hok b ob e).stay (fun c w' hc q=>(hs.2 c ?_).trans q) (fun _ q=>q) fun _ _ q=>q;rintro rfl
  rcases hc with rfl|hc
  · rw [hfree] at e;cases e
  · rw [hfree] at hc;cases hc
 rcases hx with hk|hk
 · refine wpAny_storeName_local hk hn (fun h' hn' hs=>?_) hcls;obtain ⟨oL,_,_,hoL,_⟩:=id hn;refine h _ ⟨I.ok,I.os,I.bare,⟨fun b o e n hb hx=>?_,fun b o e n hb hx=>?_,I.base.free,fun b o e hx=>?_,I.base.tups,I.base.frzs,I.base.tbls⟩,⟨_,hn',fun j y v' e1 e2 e3=>?_⟩,fun y c e=>?_,I.free,I.freeC,fun p hp=>?_,tracked ⟨oL,hoL,I.free⟩ hs,by simpa using I.len⟩ ⟨_,hs,.inl rfl⟩
   · exact (hs.2 b (n27_ (n23_ (n13_ e) I.ok.above))).trans (I.base.keep b o e n hb hx)
   · obtain ⟨sl,e1⟩:=I.base.slot b o e n hb hx;exact ⟨sl,(hs.2 b (n27_ (n23_ (n13_ e) I.ok.above))).trans e1⟩
   · obtain ⟨o',e1⟩:=I.base.there b o e hx;exact ⟨o',(hs.2 b (n27_ (n23_ (n13_ e) I.ok.above))).trans e1⟩
   · by_cases hj:j=i
     · subst hj;rw [hi] at e1;cases e1;rw [List.getElem?_set_self hiσ] at e2;cases e2
       exact ⟨u,r,.inl ⟨hk,by simp⟩⟩
     · rw [List.getElem?_set_ne (Ne.symm hj)] at e2;obtain ⟨u',r',q⟩:=hl j y v' e1 e2 e3;refine ⟨u',r',?_⟩
       rcases q with ⟨k,e⟩|⟨k,c,e,z⟩
       · refine .inl ⟨k,?_⟩
         have:y≠x:=fun e=>hj (Zka hN e1 (e ▸ hi))
         simp [this,e]
       · exact .inr ⟨k,c,e,z.sameBut hs (cne y c e)⟩
   · obtain ⟨w',z⟩:=I.cell y c e;exact ⟨w',z.sameBut hs (cne y c e)⟩
   · obtain ⟨e,n,ne,nf,d⟩:=I.pin p hp;exact ⟨(hs.2 p.1 ne).trans e,n,ne,nf,d⟩
 · have hfn:X.fn x=true:=by
    rcases hf with z|z
    · exact z
    · rw [z] at hk;cases hk
   obtain ⟨c,hc⟩:=I.ok.has x (.inl hk);obtain ⟨w',z⟩:=I.cell x c hc;refine wpAny_storeName_cell I.ok.kind hk hc z (fun h' hc' hs=>?_);obtain ⟨oc,hoc,hocd⟩:=id z;refine h { s with heap:=h' } ⟨I.ok,I.os,I.bare,⟨fun b o e n hb hx=>?_,fun b o e n hb hx=>?_,I.base.free,fun b o e hx=>?_,I.base.tups,I.base.frzs,I.base.tbls⟩,⟨m,hn.sameBut hs (Ne.symm (cne x c hc)),fun j y v' e1 e2 e3=>?_⟩,fun y c' e=>?_,I.free,I.freeC,fun p hp=>?_,tracked ⟨oc,hoc,(I.freeC x c hc).elim id fun z=>(by rw [hfn] at z;cases z.1)⟩ hs,by simpa using I.len⟩ ⟨c,hs,.inr hc⟩
   · exact (hs.2 b (n27_ (n23_ (n13_ e) (I.ok.cab x c hfn hc)))).trans (I.base.keep b o e n hb hx)
   · obtain ⟨sl,e1⟩:=I.base.slot b o e n hb hx;exact ⟨sl,(hs.2 b (n27_ (n23_ (n13_ e) (I.ok.cab x c hfn hc)))).trans e1⟩
   · obtain ⟨o',e1⟩:=I.base.there b o e hx;exact ⟨o',(hs.2 b (n27_ (n23_ (n13_ e) (I.ok.cab x c hfn hc)))).trans e1⟩
   · by_cases hj:j=i
     · subst hj;rw [hi] at e1;cases e1;rw [List.getElem?_set_self hiσ] at e2;cases e2
       exact ⟨u,r,.inr ⟨.inl hk,c,hc,hc'⟩⟩
     · rw [List.getElem?_set_ne (Ne.symm hj)] at e2;obtain ⟨u',r',q⟩:=hl j y v' e1 e2 e3;refine ⟨u',r',?_⟩
       rcases q with q|⟨k,c',e,z'⟩
       · exact .inl q
       · refine .inr ⟨k,c',e,z'.sameBut hs ?_⟩;rintro rfl
         exact hj (Zka hN e1 (I.ok.inj _ _ _ e hc ▸ hi))
   · by_cases hcc:c'=c
     · subst hcc;exact ⟨_,hc'⟩
     · obtain ⟨w2,z2⟩:=I.cell y c' e;exact ⟨w2,z2.sameBut hs hcc⟩
   · obtain ⟨e,n,ne,nf,d⟩:=I.pin p hp;refine ⟨(hs.2 p.1 ?_).trans e,n,ne,nf,d⟩;intro q;rw [q,hoc] at e;have q':oc=p.2:=Option.some.inj e;exact d w' (by rw [← q'];exact hocd)
theorem Xu {Q:Unit→?i} (I:?k) (hN:X.N.Nodup) (hi:X.N[i]? = some x) (hx:Loc X.env.scope x) (r:RelV v u)
 (h:∀ s',Inv X pins (σ.set i (some v)) H s'→Q () s') (hf:X.fn x=true∨X.env.scope.names.lookup x=some .local:=by first|exact .inl rfl|exact .inr rfl|assumption):wpAny M A (storeName X.env x u) Q E s :=
 Znd I hN hi hx r (fun s' I' _=>h s' I') hf
theorem Inv.call' {s':Shared} (I:?k) (ho:s'.os=s.os) (u:Un (frs X.stack) ch H H' s.heap s'.heap) (hok:HOk X.prog X.w H' s'.heap) (hg:AllBare s'.gens)
 (hch:∀ b∈ch,(b∈X.ex∨X.s₀.z≤b)∧b≠X.env.locals∧(∀ x c,X.env.cells.lookup x=some c→c≠b)∧∀ p∈X.pn++pins,p.1≠b):Inv X pins σ H' s':=by
 obtain ⟨h',g',d',t',o'⟩:=s';have e:o'=s.os:=ho;subst e;exact I.call (g':=g') (t':=t') (d':=d') u hok hg hch
end
abbrev XK:=Value→Option Addr→?o
abbrev St:=List (Option V)
abbrev VK:=V→?o
abbrev TE:=St→Hp→VK→Prop
abbrev TT:=St→Hp→(Bool→?o)→Prop
abbrev TA:=St→Hp→(List V→?o)→Prop
structure Ends where
 nx:St→?o
 rt:VK
 bk:St→?o:=fun _ _=>False
 ct:St→?o:=fun _ _=>False
abbrev TS:=Ends→St→?o
def EP (X:Cx) (pins:?y) (σ:St) (Q:VK) (u:Value) (s':Shared):Prop:=∃ v H',Inv X pins σ H' s'∧RelV v u∧Q v H'
def TP (X:Cx) (pins:?y) (σ:St) (Q:Bool→?o) (b:Bool) (s':Shared):Prop:=∃ H',Inv X pins σ H' s'∧Q b H'
def AP (X:Cx) (pins:?y) (σ:St) (Q:List V→?o) (us:?q) (s':Shared):Prop:=∃ vs H',Inv X pins σ H' s'∧Vals vs us∧Q vs H'
def SP (X:Cx) (pins:?y) (D:Ends) (f:Flow) (s':Shared):Prop :=
 match f with
 | .next=>∃ σ' H',Inv X pins σ' H' s'∧D.nx σ' H'
 | .brk=>∃ σ' H',Inv X pins σ' H' s'∧D.bk σ' H'
 | .cont=>∃ σ' H',Inv X pins σ' H' s'∧D.ct σ' H'
 | .ret u=>∃ v σ' H',Inv X pins σ' H' s'∧RelV v u∧D.rt v H'
def PE (X:Cx) (e:Expr) (t:TE):Prop :=
 ∀ (pins:?y) (s:Shared) (σ:St) (H:Hp) (Q:VK),?k→t σ H Q→wpAny ?t X.A (eval e X.env) (EP X pins σ Q) X.xe s
def PT (X:Cx) (e:Expr) (t:TT):Prop :=
 ∀ (pins:?y) (s:Shared) (σ:St) (H:Hp) (Q:Bool→?o),?k→t σ H Q→wpAny ?t X.A (isTrue e X.env (eval e X.env)) (TP X pins σ Q) X.xe s
def PW (X:Cx) (e:Expr) (t:TT):Prop :=
 ∀ (whole:Sem Value) (pins:?y) (s:Shared) (σ:St) (H:Hp) (Q:Bool→?o),?k→t σ H Q→wpAny ?t X.A (isTrue e X.env whole) (TP X pins σ Q) X.xe s
theorem PW.pt {t:TT} (h:PW X e t):PT X e t:=h _
def PA (X:Cx) (es:List Expr) (t:TA):Prop :=
 ∀ (pos:Pos) (pins:?y) (s:Shared) (σ:St) (H:Hp) (Q:List V→?o),?k→t σ H Q→wpAny ?t X.A (spliced (backTo pos (starEach es X.env))) (AP X pins σ Q) X.xe s
def PS (X:Cx) (st:Stmt) (t:TS):Prop :=
 ∀ (pins:?y) (s:Shared) (σ:St) (H:Hp) (D:Ends),?k→t D σ H→wpAny ?t X.A (exec st X.env) (SP X pins D) X.xe s
def PSs (X:Cx) (st:List Stmt) (t:TS):Prop :=
 ∀ (pins:?y) (s:Shared) (σ:St) (H:Hp) (D:Ends),?k→t D σ H→wpAny ?t X.A (execs st X.env) (SP X pins D) X.xe s
theorem thn {t:Sem α} {Q Q':α→?i} (h:wpAny M A t Q E s) (hQ:∀ a s,Q a s→Q' a s):wpAny M A t Q' E s:=n38_ h hQ fun _ _ x=>x
section
variable {X:Cx}
inductive BxTVar (i:Nat) (σ:St) (H:Hp) (Q:VK):Prop
 | mk (v:_) (q1:σ[i]? = some (some v)) (q2:Q v H):BxTVar i σ H Q
def tVar (i:Nat):TE:=fun σ H Q=>BxTVar i σ H Q
def tC (v:V):TE:=fun _ H Q=>Q v H
theorem Zv0 (hN:X.N[i]? = some x) (hv:Vis X.env.scope x) (hd:(x == ("__debug__" : Str))=false:=by decide) (hcd:(x == ("__classdict__" : Str))=false:=by decide):PE X (.Name x pos) (tVar i):=by
 intro pins s σ H Q I h;obtain ⟨v,e,h⟩:=h;obtain ⟨m,hn,hl⟩:=I.loc;obtain ⟨u,r,l⟩:=hl i x v hN e hv;have fin:EP X pins σ Q u s:=⟨v,H,I,r,h⟩
 rcases l with ⟨hk,hm⟩|⟨hk,c,hc,hcell⟩
 · exact wpAny_Name (wpAny_loadName_local I.ok.kind hk hn hm fin) hd
 · rcases hk with hk|hk
   · exact wpAny_Name (wpAny_loadName_cell I.ok.kind hk hc hcell fin) hd
   · exact wpAny_Name (wpAny_loadName_free I.ok.kind hk hc hcell fin hcd) hd
theorem Zg {i j pos}:PE X (.Constant (.int i) j pos) (tC (.int i)):=fun _ _ _ H _ I h=>wpAny_Constant_int ⟨.int i,H,I.tok _,⟨_,rfl⟩,h⟩
theorem X7 {b j pos}:PE X (.Constant (.bool b) j pos) (tC (.bl b)):=fun _ _ _ H _ I h=>Constant_bool ⟨.bl b,H,I,rfl,h⟩
def Gl (X:Cx) (x:Str):Prop:=X.env.kindOf x=some .globalImplicit
theorem Zjk (I:?k) (hg:Gl X x) (hm:X.mg x=some u) (h:Q u s)
 (hd:(x == ("__debug__" : Str))=false:=by decide):wpAny ?t X.A (eval (.Name x pos) X.env) Q E s :=
 Calls.Name_function_global I.ok.kind hg (Calls.loadGlobal_global (by rw [I.ok.glob];exact I.mod.glob.keeps I.bk) hm h) hd
theorem Zbr (I:?k) (hg:Gl X x) (hm:X.mg x=none) (hv:bootBuiltins x=some u) (h:Q u s)
 (hn:x ≠ "__name__" := by decide) (hd:(x == ("__debug__" : Str))=false:=by decide):wpAny ?t X.A (eval (.Name x pos) X.env) Q E s:=by
 obtain ⟨mb,h1,h2⟩:=I.mod.blt;exact Calls.Name_function_global I.ok.kind hg (Calls.loadGlobal_builtin (by rw [I.ok.glob];exact I.mod.glob.keeps I.bk) hm (by rw [I.ok.blt];exact h1.keeps I.bk) ((h2 x hn).trans hv) h) hd
theorem Zse (hg:Gl X x) (hm:X.mg x=some u) (r:RelV v u) (hd:(x == ("__debug__" : Str))=false:=by decide):PE X (.Name x pos) (tC v) :=
 fun _ _ _ H _ I h=>Zjk I hg hm ⟨v,H,I,r,h⟩ hd
theorem Zih (hg:Gl X x) (hm:X.mg x=none) (hv:bootBuiltins x=some u) (r:RelV v u) (hn:x ≠ "__name__" := by decide) (hd:(x == ("__debug__" : Str))=false:=by decide):PE X (.Name x pos) (tC v) :=
 fun _ _ _ H _ I h=>Zbr I hg hm hv ⟨v,H,I,r,h⟩ hn hd
variable {a b:Expr} {ta tb:TE} {pos:Pos}
def PC (X:Cx) (op:CmpOp) (a b:Expr) (t:TE):Prop :=
 ∀ (pins:?y) (s:Shared) (σ:St) (H:Hp) (Q:VK),?k→t σ H Q →
   wpAny ?t X.A (eval a X.env) (fun v s₁=>wpAny ?t X.A (eval b X.env) (fun u s₂=>wpAny ?t X.A (compareOp op v u) (EP X pins σ Q) X.xe s₂) X.xe s₁) X.xe s
inductive BxTB (Q:Bool→?o) (x:V) (H1:Hp):Prop
 | mk (c:_) (q1:x=.bl c) (q2:Q c H1):BxTB Q x H1
def tB (t:TE):TT:=fun σ H Q=>t σ H fun x H1=>BxTB Q x H1
theorem Zuz {op:CmpOp} {t:TE} (h:PC X op a b t) (h1:behindInMarks op b=false:=by first|exact nobehind _ ?f ?f|rfl):PT X (.Compare a [op] [b] pos) (tB t):=by
 intro pins s σ H Q I hw;refine wpAny_isTrue_Compare1 (thn (h pins s σ H _ I hw) fun v s1 h1=>thn h1 fun u s2 h2=>thn h2 fun c s3 ⟨x,H1,I1,r1,q1⟩=>?_) h1;obtain ⟨d,rfl,q⟩:=q1;cases r1
 exact wpAny_truthy_bool ⟨H1,I1,q⟩
variable {tA tB':TT} {rest:List Expr}
def tAnd (t u:TT):TT:=fun σ H Q=>t σ H fun c H1=>if c=true then u σ H1 Q else Q false H1
def tOr (t u:TT):TT:=fun σ H Q=>t σ H fun c H1=>if c=true then Q true H1 else u σ H1 Q
def tNot (t:TT):TT:=fun σ H Q=>t σ H fun c H1=>Q (!c) H1
theorem Zo1 (ha:PT X a tA):PW X (.BoolOp .And [a] pos) tA:=by
 intro wh pins s σ H Q I h;refine isTrue_and (thn (ha pins s σ H Q I h) fun c s1 e=>?_);cases c with
 | true=>exact isTrue_and_nil e
 | false=>exact e
theorem Zdx (ha:PT X a tA):PW X (.BoolOp .Or [a] pos) tA:=by
 intro wh pins s σ H Q I h;refine isTrue_or (thn (ha pins s σ H Q I h) fun c s1 e=>?_);cases c with
 | false=>exact isTrue_or_nil e
 | true=>exact e
theorem Zmr (ha:PT X a tA) (hb:PW X (.BoolOp .And (b :: rest) pos) tB'):PW X (.BoolOp .And (a :: b :: rest) pos) (tAnd tA tB'):=by
 intro wh pins s σ H Q I h;refine isTrue_and (thn (ha pins s σ H _ I h) fun c s1 ⟨H1,I1,q1⟩=>?_);cases c with
 | true=>exact hb wh pins s1 σ H1 Q I1 q1
 | false=>exact ⟨H1,I1,q1⟩
theorem Ziw (ha:PT X a tA) (hb:PW X (.BoolOp .Or (b :: rest) pos) tB'):PW X (.BoolOp .Or (a :: b :: rest) pos) (tOr tA tB'):=by
 intro wh pins s σ H Q I h;refine isTrue_or (thn (ha pins s σ H _ I h) fun c s1 ⟨H1,I1,q1⟩=>?_);cases c with
 | true=>exact ⟨H1,I1,q1⟩
 | false=>exact hb wh pins s1 σ H1 Q I1 q1
theorem Xc (ha:PT X a tA):PT X (.UnaryOp .Not a pos) (tNot tA):=by
 intro pins s σ H Q I h;exact isTrue_not (ha pins s σ H (fun c H1=>Q (!c) H1) I h)
inductive BxTAndV (tb:TE) (σ:St) (Q:VK) (x:V) (H1:Hp):Prop
 | mk (c:_) (q1:x=.bl c) (q2:if c=true then tb σ H1 Q else Q (.bl false) H1):BxTAndV tb σ Q x H1
def Zwc (ta tb:TE):TE:=fun σ H Q=>ta σ H fun x H1=>BxTAndV tb σ Q x H1
inductive BxTOrV (tb:TE) (σ:St) (Q:VK) (x:V) (H1:Hp):Prop
 | mk (c:_) (q1:x=.bl c) (q2:if c=true then Q (.bl true) H1 else tb σ H1 Q):BxTOrV tb σ Q x H1
def tOrV (ta tb:TE):TE:=fun σ H Q=>ta σ H fun x H1=>BxTOrV tb σ Q x H1
inductive BxTNotV (Q:VK) (x:V) (H1:Hp):Prop
 | mk (c:_) (q1:x=.bl c) (q2:Q (.bl (!c)) H1):BxTNotV Q x H1
def Zwo (ta:TE):TE:=fun σ H Q=>ta σ H fun x H1=>BxTNotV Q x H1
theorem Zcm {op} {t:TE} (h:PE X a t):PE X (.BoolOp op [a] pos) t:=fun pins s σ H Q I hw=>BoolOp_one (h pins s σ H Q I hw)
theorem Zdr (ha:PE X a ta) (hb:PE X (.BoolOp .And (b :: rest) pos) tb):PE X (.BoolOp .And (a :: b :: rest) pos) (Zwc ta tb):=by
 intro pins s σ H Q I h;refine BoolOp_and (thn (ha pins s σ H _ I h) fun v s1 ⟨x,H1,I1,r1,q1⟩=>?_);obtain ⟨c,rfl,q1⟩:=q1;cases r1
 refine wpAny_truthy_bool ?_;cases c with
 | true=>exact hb pins s1 σ H1 Q I1 q1
 | false=>exact ⟨.bl false,H1,I1,rfl,q1⟩
theorem Zwl (ha:PE X a ta) (hb:PE X (.BoolOp .Or (b :: rest) pos) tb):PE X (.BoolOp .Or (a :: b :: rest) pos) (tOrV ta tb):=by
 intro pins s σ H Q I h;refine BoolOp_or (thn (ha pins s σ H _ I h) fun v s1 ⟨x,H1,I1,r1,q1⟩=>?_);obtain ⟨c,rfl,q1⟩:=q1;cases r1
 refine wpAny_truthy_bool ?_;cases c with
 | false=>exact hb pins s1 σ H1 Q I1 q1
 | true=>exact ⟨.bl true,H1,I1,rfl,q1⟩
theorem Zq1 (ha:PE X a ta):PE X (.UnaryOp .Not a pos) (Zwo ta):=by
 intro pins s σ H Q I h;refine UnaryOp_ (thn (ha pins s σ H _ I h) fun v s1 ⟨x,H1,I1,r1,q1⟩=>?_);obtain ⟨c,rfl,q1⟩:=q1;cases r1
 exact not_of (wpAny_truthy_bool ⟨.bl (!c),H1,I1,rfl,q1⟩)
end
def SqL (K:PySem.W.Frag) (H:Hp) (a:Addr) (xs:List V):Prop :=
 Rd H a (.lst xs) ∨
  ∃ (o:Obj) (its:Array Value) (n:Nat),K.lookup a=some o∧o.cls=.type "list" ∧ o.dict=none∧o.data=.seq its n∧its.size≤sizeLine∧Vals xs its.toList
def SqT (K:PySem.W.Frag) (H:Hp) (a:Addr) (xs:List V):Prop :=
 Rd H a (.tup xs) ∨
  ∃ (o:Obj) (its:Array Value) (n:Nat),K.lookup a=some o∧o.cls=.type "tuple" ∧ o.data=.seq its n∧its.size≤sizeLine∧Vals xs its.toList
def absV:Value→Option V
 | .none=>some .non
 | .bool b=>some (.bl b)
 | .int i _=>some (.int i)
 | .str x _=>some (.str x)
 | .bytes b _=>some (.byt b)
 | .float b _=>some (.flt b)
 | .ref a=>some (.ref a)
 | .type n=>some (.ty n)
 | _=>none
theorem RelV.abs {x:V} (r:RelV x u):absV u=some x:=by
 cases x with
 | non=>cases r;rfl
 | bl _=>cases r;rfl
 | int _=>obtain ⟨t,rfl⟩:=r;rfl
 | str _=>obtain ⟨t,rfl⟩:=r;rfl
 | byt _=>obtain ⟨t,rfl⟩:=r;rfl
 | flt _=>obtain ⟨t,rfl⟩:=r;rfl
 | ref _=>cases r;rfl
 | ty _=>cases r;rfl
theorem RelV.inj {x:V} (r:RelV x u) (q:RelV y u):x=y:=Option.some.inj (r.abs.symm.trans q.abs)
theorem Vals.inj {ys:List V} (h:Vals xs us) (h':Vals ys us):xs=ys:=by
 induction h generalizing ys with
 | nil=>cases h';rfl
 | cons r _ ih =>
   cases h' with
   | cons r' t'=>rw [r.inj r',ih t']
section
variable {X:Cx} {pins:?y} {σ:St} {H:Hp} {s:Shared} {a:Addr} {xs ys:List V}
theorem SqL.of {K:PySem.W.Frag} (h:H a=some (.lst xs)):SqL K H a xs:=.inl (.inl h)
theorem SqT.of {K:PySem.W.Frag} (h:H a=some (.tup xs)):SqT K H a xs:=.inl (.inl h)
theorem Inv.list (I:?k) (h:SqL X.K H a xs):∃ its:?q,Vals xs its∧PlainL s.heap a its.toArray∧xs.length≤sizeLine:=by
 rcases h with h|⟨o,its,n,hk,hc,hd,hs,hz,r⟩
 · obtain ⟨z,its,n,r,e⟩:=h.ok I.hok;exact ⟨its,r,⟨_,n,e,rfl,rfl,rfl⟩,z⟩
 · refine ⟨its.toList,r,⟨o,n,I.kIn a o hk,hc,hd,by simpa using hs⟩,?_⟩;have e:=r.length;simp only [Array.length_toList] at e;omega
theorem Inv.tuple (I:?k) (h:SqT X.K H a xs):∃ its:?q,Vals xs its∧IsTup s.heap a its.toArray∧xs.length≤sizeLine:=by
 rcases h with h|⟨o,its,n,hk,hc,hs,hz,r⟩
 · obtain ⟨z,its,r,p⟩:=h.ok I.hok;exact ⟨its,r,p.is,z⟩
 · refine ⟨its.toList,r,⟨o,I.kIn a o hk,hc,n,by simpa using hs⟩,?_⟩;have e:=r.length;simp only [Array.length_toList] at e;omega
theorem Inv.list_inj (I:?k) (h:SqL X.K H a xs) (h':SqL X.K H a ys):xs=ys:=by
 obtain ⟨its,r,⟨o,n,e,_,_,d⟩,_⟩:=I.list h;obtain ⟨its',r',⟨o',n',e',_,_,d'⟩,_⟩:=I.list h';rw [e] at e';cases e';rw [d] at d';injection d' with d1 _
 have:its=its':=by simpa using congrArg Array.toList d1
 subst this;exact r.inj r'
theorem Inv.tuple_inj (I:?k) (h:SqT X.K H a xs) (h':SqT X.K H a ys):xs=ys:=by
 obtain ⟨its,r,⟨o,e,_,n,d⟩,_⟩:=I.tuple h;obtain ⟨its',r',⟨o',e',_,n',d'⟩,_⟩:=I.tuple h';rw [e] at e';cases e';rw [d] at d';injection d' with d1 _
 have:its=its':=by simpa using congrArg Array.toList d1
 subst this;exact r.inj r'
end
abbrev Cx.wish (X:Cx) (E:Value→?i):Cx:={ X with xe:=E }
abbrev Cx.nox (X:Cx):Cx:=X.wish fun _ _=>False
theorem Cx.Ok.wish (ok:X.Ok) (E:Value→?i):(X.wish E).Ok :=
 ⟨ok.mod,ok.kind,ok.glob,ok.blt,ok.above,ok.inj,ok.has,ok.cab,ok.hd,ok.frames,ok.stk,ok.exf,ok.bs,ok.bsz,ok.noex,ok.exfs,ok.funs,ok.frf⟩
theorem Cx.Ok.unwish (ok:(X.wish E).Ok):X.Ok :=
 ⟨ok.mod,ok.kind,ok.glob,ok.blt,ok.above,ok.inj,ok.has,ok.cab,ok.hd,ok.frames,ok.stk,ok.exf,ok.bs,ok.bsz,ok.noex,ok.exfs,ok.funs,ok.frf⟩
section
variable {X:Cx} {pins:?y} {σ:St} {H:Hp} {s:Shared} {E:Value→?i}
theorem Inv.wish (I:?k) (E:Value→?i):Inv (X.wish E) pins σ H s:=⟨I.ok.wish E,I.os,I.bare,I.base,I.loc,I.cell,I.free,I.freeC,I.pin,I.hok,I.len⟩
theorem Inv.unwish (I:Inv (X.wish E) pins σ H s):?k:=⟨I.ok.unwish,I.os,I.bare,I.base,I.loc,I.cell,I.free,I.freeC,I.pin,I.hok,I.len⟩
theorem SP.unwish {D:Ends} {f:Flow} {s':Shared} (h:SP (X.wish E) pins D f s'):SP X pins D f s':=by
 cases f with
 | next=>obtain ⟨σ',H',I,q⟩:=h;exact ⟨σ',H',I.unwish,q⟩
 | brk=>obtain ⟨σ',H',I,q⟩:=h;exact ⟨σ',H',I.unwish,q⟩
 | cont=>obtain ⟨σ',H',I,q⟩:=h;exact ⟨σ',H',I.unwish,q⟩
 | ret u=>obtain ⟨v,σ',H',I,r,q⟩:=h;exact ⟨v,σ',H',I.unwish,r,q⟩
theorem PSs.nox {st:List Stmt} {t:TS} (h:PSs X.nox st t):PSs X st t:=fun pins s σ H D I hw =>
 n38_ (h pins s σ H D (I.wish _) hw) (fun _ _ q=>q.unwish) fun _ _ z=>False.elim z
end
section
variable {X:Cx} {st:Stmt} {rest:List Stmt} {t u:TS} {e:Expr} {te:TE} {pos:Pos}
def Zwx:TS:=fun D σ H=>D.nx σ H
def tSeq (t u:TS):TS:=fun D σ H=>t { D with nx:=u D } σ H
theorem Z4:PSs X [] Zwx:=fun _ _ σ H _ I h=>wpAny_execs_nil ⟨σ,H,I,h⟩
theorem Zd (h1:PS X st t) (h2:PSs X rest u):PSs X (st :: rest) (tSeq t u):=by
 intro pins s σ H D I h;refine wpAny_execs_cons (thn (h1 pins s σ H { D with nx:=u D } I h) fun f s1 q=>?_);cases f with
 | next =>
   obtain ⟨σ',H',I',q⟩:=q;exact h2 pins s1 σ' H' D I' q
 | ret v=>exact q
 | brk=>exact q
 | cont=>exact q
theorem Zj (h1:PS X st t):PSs X [st] t:=by
 intro pins s σ H D I h;refine wpAny_execs_cons (thn (h1 pins s σ H D I h) fun f s1 q=>?_);cases f with
 | next=>exact wpAny_execs_nil q
 | ret v=>exact q
 | brk=>exact q
 | cont=>exact q
theorem Inv.quiet (I:?k):interactive X.env=false:=by simp [interactive,I.ok.kind]
def Zw1 (te:TE):TS:=fun D σ H=>te σ H fun _ H1=>D.nx σ H1
theorem Xy (he:PE X e te) (hs:swapsWith e none pos.line X.env=pure false:=by rfl):PS X (.Expr e pos) (Zw1 te):=by
 intro pins s σ H D I h;exact wpAny_Expr_any (thn (he pins s σ H _ I h) fun v s1 ⟨x,H1,I1,r1,q1⟩=>⟨σ,H1,I1,q1⟩) I.quiet hs
def tRet (te:TE):TS:=fun D σ H=>te σ H D.rt
theorem Zo (he:PE X e te):PS X (.Return (some e) pos) (tRet te):=by
 intro pins s σ H D I h;exact wpAny_Return_some (thn (he pins s σ H _ I h) fun v s1 ⟨x,H1,I1,r1,q1⟩=>⟨x,σ,H1,I1,r1,q1⟩)
def tIfS (c:TT) (t u:TS):TS:=fun D σ H=>c σ H fun b H1=>if b=true then t D σ H1 else u D σ H1
theorem Xo {c:Expr} {a b:List Stmt} {tc:TT} (hc:PT X c tc) (ha:PSs X a t) (hb:PSs X b u):PS X (.If c a b pos) (tIfS tc t u):=by
 intro pins s σ H D I h;refine wpAny_If (thn (hc pins s σ H _ I h) fun d s1 ⟨H1,I1,q1⟩=>?_);cases d with
 | true=>exact ha pins s1 σ H1 D I1 q1
 | false=>exact hb pins s1 σ H1 D I1 q1
def Zv8:TS:=fun _ _ _=>False
theorem Zb4 {sts:List Stmt}:PSs X sts Zv8:=fun _ _ _ _ _ _ h=>h.elim
end
abbrev TG:=V→St→Hp→(St→?o)→Prop
abbrev TGs:=List V→St→Hp→(St→?o)→Prop
def PG (X:Cx) (target:Expr) (t:TG):Prop :=
 ∀ (pins:?y) (s:Shared) (σ:St) (H:Hp) (v:V) (u:Value) (Q:St→?o),?k→RelV v u→t v σ H Q →
   wpAny ?t X.A (assign target X.env u) (fun _ s'=>∃ σ' H',Inv X pins σ' H' s'∧Q σ' H') X.xe s
def PGs (X:Cx) (ts:List Expr) (t:TGs):Prop :=
 ∀ (pins:?y) (s:Shared) (σ:St) (H:Hp) (vs:List V) (us:?q) (Q:St→?o),?k→Vals vs us→t vs σ H Q →
   wpAny ?t X.A (assignInOrder ((assignEach ts X.env).map (·.2)) us) (fun _ s'=>∃ σ' H',Inv X pins σ' H' s'∧Q σ' H') X.xe s
abbrev TSet:=V→V→V→Hp→(?o)→Prop
def PSet (X:Cx) (t:TSet):Prop :=
 ∀ (pins:?y) (s:Shared) (σ:St) (H:Hp) (o i v:V) (ov iv u:Value) (Q:?o),?k→RelV o ov→RelV i iv→RelV v u→t o i v H Q →
   wpAny ?t X.A (setItem ov iv u) (fun _ s'=>∃ H',Inv X pins σ H' s'∧Q H') X.xe s
abbrev TIp:=V→V→Hp→VK→Prop
def PIp (X:Cx) (op:Operator) (t:TIp):Prop :=
 ∀ (pins:?y) (s:Shared) (σ:St) (H:Hp) (x y:V) (v u:Value) (Q:VK),?k→RelV x v→RelV y u→t x y H Q →
   wpAny ?t X.A (inplaceOp op v u) (EP X pins σ Q) X.xe s
section
variable {X:Cx} {pos:Pos}
def Zy (i:Nat):TG:=fun v σ H Q=>Q (σ.set i (some v)) H
theorem Zl (hN:X.N.Nodup) (hi:X.N[i]? = some x) (hx:Loc X.env.scope x) (hf:X.fn x=true∨X.env.scope.names.lookup x=some .local:=by first|exact .inl rfl|exact .inr rfl|assumption):PG X (.Name x pos) (Zy i):=by
 intro pins s σ H v u Q I r h;exact wpAny_assign_Name (Xu I hN hi hx r (fun s' I'=>⟨_,H,I',h⟩) hf)
inductive BxGNil (vs:List V) (σ:St) (H:Hp) (Q:St→?o):Prop
 | mk  (q1:vs=[]) (q2:Q σ H):BxGNil vs σ H Q
def gNil:TGs:=fun vs σ H Q=>BxGNil vs σ H Q
inductive BxGCons (t:TG) (u:TGs) (vs:List V) (σ:St) (H:Hp) (Q:St→?o):Prop
 | mk (v:_) (r:_) (q1:vs=v :: r) (q2:t v σ H fun σ' H'=>u r σ' H' Q):BxGCons t u vs σ H Q
def Z2 (t:TG) (u:TGs):TGs:=fun vs σ H Q=>BxGCons t u vs σ H Q
theorem Zu:PGs X [] gNil:=by
 intro pins s σ H vs us Q I r h;obtain ⟨e,h⟩:=h;subst e;cases r
 exact assignInOrder_nil ⟨σ,H,I,h⟩
theorem Ze {t:TG} {u:TGs} (h1:PG X e t) (h2:PGs X es u)
 (hs:(assignEach (e :: es) X.env).map (·.2)=assign e X.env :: (assignEach es X.env).map (·.2):=by rfl):PGs X (e :: es) (Z2 t u):=by
 intro pins s σ H vs us Q I r h;obtain ⟨v,vr,e1,h⟩:=h;subst e1;cases r with
 | cons r rr =>
   rw [hs];refine assignInOrder_cons (thn (h1 pins s σ H _ _ _ I r h) fun _ s1 ⟨σ1,H1,I1,q1⟩=>?_);exact h2 pins s1 σ1 H1 _ _ Q I1 rr q1
inductive BxGTup (K:PySem.W.Frag) (n:Nat) (t:TGs) (v:V) (σ:St) (H:Hp) (Q:St→?o):Prop
 | mk (a:_) (xs:_) (q1:v=.ref a) (q2:SqT K H a xs) (q3:xs.length=n) (q4:t xs σ H Q):BxGTup K n t v σ H Q
def gTup (K:PySem.W.Frag) (n:Nat) (t:TGs):TG:=fun v σ H Q=>BxGTup K n t v σ H Q
theorem Z8 {t:TGs} (hc:X.calm=true) (h:PGs X es t)
 (hn:(assignEach es X.env).length=n:=by rfl) (hst:(assignEach es X.env).findIdx? (·.1)=none:=by rfl):PG X (.Tuple es k pos) (gTup X.K n t):=by
 intro pins s σ H v u Q I r hw;obtain ⟨a,xs,e1,hq,hl,hw⟩:=hw;subst e1;cases r
 obtain ⟨its,rv,ht,hz⟩:=I.tuple hq;refine assign_Tuple_tuple (I.ok.hd hc) ht (by simp [hn,← hl,rv.length]) hst fun h' hx=>?_;have I1:Inv X pins σ H { s with heap:=h' }:=I.kept (t':=s.toks) fun b o e=>hx b o (n27_ (n13_ e)) e;exact h pins _ σ H xs _ Q I1 (by simpa using rv) hw
def gSub (to ti:TE) (t:TSet):TG:=fun v σ H Q=>to σ H fun o H1=>ti σ H1 fun i H2=>t o i v H2 fun H3=>Q σ H3
theorem Zj4 {o i:Expr} {to ti:TE} {t:TSet} (ho:PE X o to) (hi:PE X i ti) (hs:PSet X t)
 (ha:∀ v,assign (.Subscript o i pos) X.env v=(do
   let ov ← holding [v] (eval o X.env)
   let iv ← holding [v,ov] (eval i X.env)
   standAt pos
   holding [v,ov,iv] (setItem ov iv v)
   release [v,ov,iv] []):=by intro _;rfl):PG X (.Subscript o i pos) (gSub to ti t):=by
 intro pins s σ H v u Q I r h;rw [ha];refine n0_ (n30_ (thn (ho pins s σ H _ I h) fun ov s1 ⟨x,H1,I1,r1,q1⟩=>?_));refine n0_ (n30_ (thn (hi pins s1 σ H1 _ I1 q1) fun iv s2 ⟨y,H2,I2,r2,q2⟩=>?_));refine n0_ (wpAny_standAt (n0_ (n30_ (thn (hs pins s2 σ H2 x y v ov iv u _ I2 r1 r2 r q2) fun _ s3 ⟨H3,I3,q3⟩=>?_))));exact wpAny_release ⟨σ,H3,I3,q3⟩
def tAsg (te:TE) (g:TG):TS:=fun D σ H=>te σ H fun x H1=>g x σ H1 D.nx
theorem Zaa (he:PE X e te) (hg:PG X tg g) (hs:swapsWithSole [tg] e pos.line X.env=pure false:=by rfl) (hw:swappedStores [tg] e X.env=pure none:=by rfl)
 (h1:(assignEach [tg] X.env).map (·.2)=[assign tg X.env]:=by rfl):PS X (.Assign [tg] e pos) (tAsg te g):=by
 intro pins s σ H D I h;refine wpAny_Assign_stores (thn (he pins s σ H _ I h) fun v s1 ⟨x,H1,I1,r1,q1⟩=>?_) hs hw;rw [h1];exact thn (hg pins s1 σ H1 x v _ I1 r1 q1) fun _ s2 q=>q
theorem Z1 {i:Nat} {x:Str} {e:Expr} {te:TE} {pos':Pos} (hN:X.N.Nodup) (hi:X.N[i]? = some x) (hx:Loc X.env.scope x) (he:PE X e te) (hs:swapsWith e (some (.Name x pos')) pos.line X.env=pure false:=by rfl) (hf:X.fn x=true∨X.env.scope.names.lookup x=some .local:=by first|exact .inl rfl|exact .inr rfl|assumption) :
 PS X (.Assign [.Name x pos'] e pos) (tAsg te (Zy i)):=by
 intro pins s σ H D I h;refine wpAny_Assign_Name (thn (he pins s σ H _ I h) fun v s1 ⟨y,H1,I1,r1,q1⟩=>?_) hs;exact Xu I1 hN hi hx r1 (fun s2 I2=>⟨_,H1,I2,q1⟩) hf
inductive BxTPar (i j:Nat) (D:Ends) (σ:St) (vs:List V) (H1:Hp):Prop
 | mk (v:_) (w:_) (q1:vs=[v,w]) (q2:D.nx ((σ.set i (some v)).set j (some w)) H1):BxTPar i j D σ vs H1
def tPar (i j:Nat) (ta:TA):TS:=fun D σ H=>ta σ H fun vs H1=>BxTPar i j D σ vs H1
theorem Zoh {y:Str} {a b:Expr} {px py pt:Pos} {kt k2 pt2} (hc:X.calm=true) (hN:X.N.Nodup) (hi:X.N[i]? = some x) (hj:X.N[j]? = some y) (hij:i≠j)
 (hx:X.env.scope.names.lookup x=some .local) (hy:X.env.scope.names.lookup y=some .local) (ha:PA X [a,b] ta)
 (hw:swappedStores [.Tuple [.Name x px,.Name y py] kt pt] (.Tuple [a,b] k2 pt2) X.env=pure (some [x,y]))
 (hs:swapsWithSole [.Tuple [.Name x px,.Name y py] kt pt] (.Tuple [a,b] k2 pt2) pos.line X.env=pure false:=by rfl) :
 PS X (.Assign [.Tuple [.Name x px,.Name y py] kt pt] (.Tuple [a,b] k2 pt2) pos) (tPar i j ta):=by
 intro pins s σ H D I h;rw [exec_Assign_arm];refine n0_ (wpAny_standAt ?_);rw [hs];refine n0_ (n2_ ?_);rw [if_neg ?f];refine n0_ (Tuple_ (thn (ha _ pins s σ H _ I h) fun us s1 ⟨vs,H1,I1,r1,q1⟩=>?_));obtain ⟨v,w,e1,q1⟩:=q1;subst e1
 obtain ⟨u1,u2,rfl,rv,rw'⟩:∃ u1 u2,us=[u1,u2]∧RelV v u1∧RelV w u2:=by
  cases r1 with
  | cons p q =>
    cases q with
    | cons p' q' =>
      cases q'
      exact ⟨_,_,rfl,p,p'⟩
 refine wpAny_newObj_type ?_ (z2_);have I2:Inv X pins σ H1 { s1 with heap:=s1.heap.push { cls:=.type "tuple",data:=.seq [u1,u2].toArray } }:=I1.kept (t':=s1.toks) fun b o e=>n3_ _ e;rw [hw];refine n0_ (n2_ ?_);show wpAny ?t X.A (do rule "assign.swapped-stores";let items ← unpackItems (.ref s1.z) 2 none;assignInOrder [fun v=>bindName X.env y v,fun v=>bindName X.env x v] items.reverse;pure Flow.next) _ _ _
 refine n0_ (wpAny_rule (n0_ (unpackItems_tuple (items:=#[u1,u2]) (I.ok.hd hc) (IsTup.new s1.heap _) fun h' hx'=>?_)));have I3:=I2.kept (h':=h') (t':=s1.toks) fun b o e=>hx' b o (n27_ (n13_ e)) e;show wpAny _ _ (assignInOrder [fun v=>bindName X.env y v,fun v=>bindName X.env x v] [u2,u1] >>= fun _=>pure Flow.next) _ _ _
 refine n0_ (assignInOrder_cons (wpAny_bindName (Xu I3 hN hj (.inl hy) rw' (fun s2 I4=>?_) (.inr hy))));refine assignInOrder_cons (wpAny_bindName (Xu I4 hN hi (.inl hx) rv (fun s3 I5=>assignInOrder_nil (n2_ ?_)) (.inr hx)));rw [List.set_comm _ _ (Ne.symm hij)] at I5;exact ⟨_,H1,I5,q1⟩
inductive BxTAug (i:Nat) (te:TE) (ti:TIp) (D:Ends) (σ:St) (H:Hp):Prop
 | mk (x:_) (q1:σ[i]? = some (some x)) (q2:te σ H fun y H1=>ti x y H1 fun z H2=>D.nx (σ.set i (some z)) H2):BxTAug i te ti D σ H
def tAug (i:Nat) (te:TE) (ti:TIp):TS:=fun D σ H=>BxTAug i te ti D σ H
theorem Zv2 {op:Operator} {ti:TIp} {pos':Pos} (hN:X.N.Nodup) (hi:X.N[i]? = some x) (hx:Loc X.env.scope x) (he:PE X e te) (ho:PIp X op ti) (hf:X.fn x=true∨X.env.scope.names.lookup x=some .local:=by first|exact .inl rfl|exact .inr rfl|assumption) :
 PS X (.AugAssign (.Name x pos') op e pos) (tAug i te ti):=by
 intro pins s σ H D I h;obtain ⟨v,e1,h⟩:=h;obtain ⟨m,hn,hl⟩:=I.loc;have vis:Vis X.env.scope x:=by rcases hx with k|k;exact .inl k;exact .inr (.inl k)
 obtain ⟨u,r,l⟩:=hl i x v hi e1 vis;refine wpAny_AugAssign_Name ?_
 have go:wpAny ?t X.A (eval e X.env) (fun w s₂=>wpAny ?t X.A (inplaceOp op u w) (fun r s₃=>wpAny ?t X.A (storeName X.env x r) (fun _=>SP X pins D .next) X.xe s₃) X.xe s₂) X.xe s:=by
  refine thn (he pins s σ H _ I h) fun w s1 ⟨y,H1,I1,r1,q1⟩=>?_;refine thn (ho pins s1 σ H1 v y u w _ I1 r r1 q1) fun z s2 ⟨zv,H2,I2,r2,q2⟩=>?_;exact Xu I2 hN hi hx r2 (fun s3 I3=>⟨_,H2,I3,q2⟩) hf
 rcases l with ⟨hk,hm⟩|⟨hk,c,hc,hcell⟩
 · exact wpAny_loadName_local I.ok.kind hk hn hm go
 · rcases hk with hk|hk
   · exact wpAny_loadName_cell I.ok.kind hk hc hcell go
   · rcases hx with k|k
     · have:X.env.scope.names.lookup x=some .free:=hk
       rw [k] at this;cases this
     · have:X.env.scope.names.lookup x=some .free:=hk
       rw [k] at this;cases this
end
section
variable {X:Cx} {pos:Pos}
def Zrm (c:TT) (tb:TS):TS:=fun D σ H=>∃ W:Nat→St→?o,(∃ m,W m σ H)∧∀ m σ H,W m σ H →
 c σ H fun b H1=>if b=true then ∃ N:St→?o,(∀ σ' H',N σ' H'→∃ m',m'<m∧W m' σ' H')∧tb { D with nx:=N,ct:=N,bk:=D.nx } σ H1 else D.nx σ H1
theorem Zky {c:Expr} {body:List Stmt} {tc:TT} {tb:TS} (hp:PassesOwn ?t X.A X.env X.xe) (hc:PT X c tc) (hb:PSs X body tb):PS X (.While c body [] pos) (Zrm tc tb):=by
 intro pins s σ H D I h;obtain ⟨W,⟨m0,w0⟩,turn⟩:=h;refine wpAny_While (codeAny_whileLoop (fun n s'=>∃ σ' H',Inv X pins σ' H' s'∧W n σ' H') ?_ m0 ⟨σ,H,I,w0⟩);rintro n s1 ⟨σ1,H1,I1,w1⟩
 refine wpAny_passesOwn hp (thn (hc pins s1 σ1 H1 _ I1 (turn n σ1 H1 w1)) fun b s2 ⟨H2,I2,q2⟩=>?_);cases b with
 | true =>
   obtain ⟨N,hN,q2⟩:=q2;rw [if_pos rfl];refine wpAny_passesOwn hp (thn (hb pins s2 σ1 H2 _ I2 q2) fun f s3 q3=>?_);cases f with
   | next =>
     obtain ⟨σ3,H3,I3,n3⟩:=q3;obtain ⟨m',hm,w3⟩:=hN σ3 H3 n3;exact ⟨m',hm,σ3,H3,I3,w3⟩
   | cont =>
     obtain ⟨σ3,H3,I3,n3⟩:=q3;obtain ⟨m',hm,w3⟩:=hN σ3 H3 n3;exact ⟨m',hm,σ3,H3,I3,w3⟩
   | brk=>exact q3
   | ret v=>exact q3
 | false =>
   rw [if_neg n17_];exact wpAny_execs_nil ⟨σ1,H2,I2,q2⟩
end
structure It where
 go:Nat→?o
 yld:Nat→Hp→V→?o
 stop:Nat→?o
def FpOk (X:Cx) (pins:?y) (H:Hp) (b:Addr):Prop :=
 H b=none∧b≠X.env.locals∧b∉X.fs∧(b∈X.ex∨X.s₀.z≤b)∧(∀ x c,X.env.cells.lookup x=some c→c≠b)∧∀ p∈X.pn++pins,p.1≠b
theorem Inv.fpOk (I:?k) (hb:s.z≤b) (hn:H' b=none):FpOk X pins H' b:=by
 refine ⟨hn,n70_ (n23_ I.lt hb),I.nofs hb,.inr (n53_ I.sz hb),fun x c e z=>?_,fun p hp z=>?_⟩
 · obtain ⟨v,q⟩:=I.cell x c e;exact absurd (n23_ q.lt (by rw [z];exact hb)) (n77_ _)
 · exact absurd (n23_ (n13_ (I.pin p hp).1) (by rw [z];exact hb)) (n77_ _)
structure Turn (P:Program) (w:World) (K:PySem.W.Frag) (tg:Expr) (J:It) (fp:List Addr) (it:Addr) (tn:Nat→Heap→Prop):Prop where
 mem:it∈fp
 obj:∀ i h,tn i h→∀ b∈fp,∃ o,h.get? b=some o∧∀ v,o.data≠.cell v
 keep:∀ i h h',tn i h→(∀ b∈fp,∀ o,h.get? b=some o→h'.get? b=some o)→tn i h'
 item:∀ (X:Cx),X.prog=P→X.w=w→X.K=K→X.calm=true→∀ (i:Nat) (pins:?y) (s:Shared) (σ:St) (H:Hp) (E:Value→?i),?k→(∀ b∈fp,FpOk X pins H b)→tn i s.heap→J.go i H →
  wpAny (model P w) X.A (pyNext (.ref it)) (fun r s1=>∃ u,r=some u ∧
   wpAny (model P w) X.A (letOwnedTupleGo tg (.ref it) u) (fun _ s2=>∃ x H',Inv X pins σ H' s2∧RelV x u∧J.yld i H x H'∧tn (i+1) s2.heap∧∀ b∈fp,H' b=none) E s1) E s
 done:∀ (X:Cx),X.prog=P→X.w=w→X.K=K→X.calm=true→∀ (i:Nat) (pins:?y) (s:Shared) (σ:St) (H:Hp) (E:Value→?i),?k→(∀ b∈fp,FpOk X pins H b)→tn i s.heap→J.stop i H →
  wpAny (model P w) X.A (pyNext (.ref it)) (fun r s1=>r=none∧Inv X pins σ H s1) E s
 self:∀ (A:Around) (i:Nat) (s:Shared) (Q:Value→?i) (E:Value→?i),tn i s.heap→Q (.ref it) s→wpAny (model P w) A (pyIter (.ref it)) Q E s
abbrev TI:=St→Hp→(It→?o)→Prop
def PIE (X:Cx) (pins:?y) (σ:St) (tg:Expr) (R:It→?o) (itv:Value) (s2:Shared):Prop :=
 ∃ (it:Addr) (fp:List Addr) (tn:Nat→Heap→Prop) (J:It) (H':Hp),itv=.ref it∧Inv X pins σ H' s2∧Turn X.prog X.w X.K tg J fp it tn∧tn 0 s2.heap∧(∀ b∈fp,FpOk X pins H' b)∧R J H'
def PI (X:Cx) (tg iter:Expr) (wi:TI):Prop :=
 ∀ (pins:?y) (s:Shared) (σ:St) (H:Hp) (R:It→?o),?k→wi σ H R →
   wpAny ?t X.A (eval iter X.env) (fun v s1=>wpAny ?t X.A (pyIter v) (PIE X pins σ tg R) X.xe s1) X.xe s
theorem Ztu {n:String} {vs:Array Value} {Q:Unit→?i} (ho:s.heap.get? it=some o) (hc:o.cls=.type n) (hd:o.data=.fields vs)
 (hn:["enumerate","zip","dict_itemiterator","dict_reverseitemiterator","odict_iterator","itertools.zip_longest","itertools.pairwise"].contains n=false) (hQ:Q () s):wpAny M A (letOwnedTupleGo tg (.ref it) u) Q E s:=by
 unfold letOwnedTupleGo
 cases tg<;>first
  | exact n2_ hQ
  | (cases u<;>first
      | exact n2_ hQ
      | (refine n0_ (wpAny_load ho ?_)
         rw [hc,hd];show wpAny M A (if (["enumerate","zip","dict_itemiterator","dict_reverseitemiterator","odict_iterator","itertools.zip_longest","itertools.pairwise"].contains n&&vs[0]? == some (rawInt _))=true then _ else _) Q E s
         rw [if_neg (by intro h;rw [hn,Bool.false_and] at h;cases h)];exact n2_ hQ))
def Itl (K:PySem.W.Frag) (a:Addr):It :=
 ⟨fun i H=>∃ xs x,SqL K H a xs∧xs[i]? = some x,fun i H x H'=>H'=H∧∀ xs,SqL K H a xs→xs[i]? = some x,fun i H=>∃ xs,SqL K H a xs∧xs.length≤i⟩
def Itt (K:PySem.W.Frag) (a:Addr):It :=
 ⟨fun i H=>∃ xs x,SqT K H a xs∧xs[i]? = some x,fun i H x H'=>H'=H∧∀ xs,SqT K H a xs→xs[i]? = some x,fun i H=>∃ xs,SqT K H a xs∧xs.length≤i⟩
def Itr (lo:Int) (n:Nat):It:=⟨fun i _=>i<n,fun i H x H'=>H'=H∧x=.int (lo+i),fun i _=>n≤i⟩
theorem Zoq {K:PySem.W.Frag} (a it:Addr):Turn P w K tg (Itl K a) [it] it (fun i h=>h.IsListIter it a i) where
 mem:=by simp
 obj:=fun i h st b hb=>by
  have e:b=it:=by simpa using hb
  subst e;obtain ⟨o,e,c,d⟩:=st;exact ⟨o,e,fun v z=>by rw [d] at z;cases z⟩
 keep:=fun i h h' st k=>st.at fun o e=>k it ?g o e
 item:=by
  intro X hP hw hK hc i pins s σ H E I hf st hg;subst hP hw hK;obtain ⟨xs,x,hq,hx⟩:=hg;obtain ⟨its,rv,p,hz⟩:=I.list hq;obtain ⟨u,hu,ru⟩:=rv.get hx;obtain ⟨f0,f1,f2,f3,f4,f5⟩:=hf it ?g;refine wpAny_pyNext_list_item st p.isList (x:=u) (by simpa using hu) fun h' st' sb=>?_;have I1:Inv X pins σ H { s with heap:=h' }:=I.turned (t':=s.toks) (fun b o hb e=>(sb.2 b hb).trans e) f0 f1 f3 f4 f5;obtain ⟨o,e,c,d⟩:=id st';exact ⟨u,rfl,Ztu (s:={ s with heap:=h' }) e c d ?f ⟨x,H,I1,ru,⟨rfl,fun ys hy=>by rw [I.list_inj hy hq];exact hx⟩,st',fun b hb=>(hf b hb).1⟩⟩
 done:=by
  intro X hP hw hK hc i pins s σ H E I hf st hg;subst hP hw hK;obtain ⟨xs,hq,hx⟩:=hg;obtain ⟨its,rv,p,hz⟩:=I.list hq;obtain ⟨f0,f1,f2,f3,f4,f5⟩:=hf it ?g;have hl:=rv.length;exact wpAny_pyNext_list_end (I.ok.hd hc) st p.isList (by simp;omega) fun h' eb=>⟨rfl,I.turned (t':=s.toks) (fun b o hb e=>eb b o hb e) f0 f1 f3 f4 f5⟩
 self:=fun _ _ _ _ _ st h=>wpAny_pyIter_listiter st h
theorem Zl4 {K:PySem.W.Frag} (a it:Addr):Turn P w K tg (Itt K a) [it] it (fun i h=>h.IsTupleIter it a i) where
 mem:=by simp
 obj:=fun i h st b hb=>by
  have e:b=it:=by simpa using hb
  subst e;obtain ⟨o,e,c,d⟩:=st;exact ⟨o,e,fun v z=>by rw [d] at z;cases z⟩
 keep:=fun i h h' st k=>st.at fun o e=>k it ?g o e
 item:=by
  intro X hP hw hK hc i pins s σ H E I hf st hg;subst hP hw hK;obtain ⟨xs,x,hq,hx⟩:=hg;obtain ⟨its,rv,p,hz⟩:=I.tuple hq;obtain ⟨u,hu,ru⟩:=rv.get hx;obtain ⟨f0,f1,f2,f3,f4,f5⟩:=hf it ?g;refine wpAny_pyNext_tuple_item st (show s.heap.IsTuple a its.toArray from p) (x:=u) (by simpa using hu) fun h' st' sb=>?_;have I1:Inv X pins σ H { s with heap:=h' }:=I.turned (t':=s.toks) (fun b o hb e=>(sb.2 b hb).trans e) f0 f1 f3 f4 f5;obtain ⟨o,e,c,d⟩:=id st';exact ⟨u,rfl,Ztu (s:={ s with heap:=h' }) e c d ?f ⟨x,H,I1,ru,⟨rfl,fun ys hy=>by rw [I.tuple_inj hy hq];exact hx⟩,st',fun b hb=>(hf b hb).1⟩⟩
 done:=by
  intro X hP hw hK hc i pins s σ H E I hf st hg;subst hP hw hK;obtain ⟨xs,hq,hx⟩:=hg;obtain ⟨its,rv,p,hz⟩:=I.tuple hq;obtain ⟨f0,f1,f2,f3,f4,f5⟩:=hf it ?g;have hl:=rv.length;exact wpAny_pyNext_tuple_end (I.ok.hd hc) st (show s.heap.IsTuple a its.toArray from p) (by simp;omega) fun h' eb=>⟨rfl,I.turned (t':=s.toks) (fun b o hb e=>eb b o hb e) f0 f1 f3 f4 f5⟩
 self:=fun _ _ _ _ _ st h=>wpAny_pyIter_tupleiter st h
theorem Zk6 {K:PySem.W.Frag} (it:Addr) (lo:Int) (n:Nat):Turn P w K tg (Itr lo n) [it] it (fun i h=>IsRangeIter h it (lo+(i:Nat)*1) ((n:Int)-(i:Nat)) 1) where
 mem:=by simp
 obj:=fun i h st b hb=>by
  have e:b=it:=by simpa using hb
  subst e
  exact ⟨_,st,fun v z=>by
   have z':Data.fields _=Data.cell v:=z;cases z'⟩
 keep:=fun i h h' st k=>k it ?g _ st
 item:=by
  intro X hP hw hK hc i pins s σ H E I hf st hg;subst hP hw hK;obtain ⟨f0,f1,f2,f3,f4,f5⟩:=hf it ?g;have W:=Walks.range (prog:=X.prog) (w:=X.w) (I.ok.hd hc) it lo 1 n;refine W.item i s _ _ hg st fun v h' tk hv st' kk=>?_;obtain ⟨t,rfl⟩:=hv;have I1:Inv X pins σ H { s with heap:=h',toks:=tk }:=I.turned (fun b o hb e=>kk b o (by simpa using hb) e) f0 f1 f3 f4 f5;refine ⟨_,rfl,Ztu (s:={ s with heap:=h',toks:=tk }) (n := "range_iterator") st' rfl rfl ?f ⟨.int (lo+i),H,I1,⟨t,?_⟩,⟨rfl,rfl⟩,st',fun b hb=>(hf b hb).1⟩⟩;rw [Int.mul_one]
 done:=by
  intro X hP hw hK hc i pins s σ H E I hf st hg;subst hP hw hK;obtain ⟨f0,f1,f2,f3,f4,f5⟩:=hf it ?g;exact wpAny_pyNext_range_end (I.ok.hd hc) st (by have:n≤i:=hg;omega) fun h' eb=>⟨rfl,I.turned (t':=s.toks) (fun b o hb e=>eb b o hb e) f0 f1 f3 f4 f5⟩
 self:=fun _ _ _ _ _ st h=>wpAny_pyIter_rangeiter st h
section
variable {X:Cx} {tg:Expr}
def Znj (K:PySem.W.Frag) (tl:TE):TI:=fun σ H R=>tl σ H fun x H1=>∃ a,x=.ref a∧(∃ xs,SqL K H1 a xs)∧R (Itl K a) H1
def iTup (K:PySem.W.Frag) (tl:TE):TI:=fun σ H R=>tl σ H fun x H1=>∃ a,x=.ref a∧(∃ xs,SqT K H1 a xs)∧R (Itt K a) H1
theorem Yo {l:Expr} (hl:PE X l tl):PI X tg l (Znj X.K tl):=by
 intro pins s σ H R I h;refine thn (hl pins s σ H _ I h) fun v s1 ⟨x,H1,I1,r1,q1⟩=>?_;obtain ⟨a,e,⟨xs,hq⟩,q⟩:=q1;subst e;cases r1
 obtain ⟨its,rv,p,hz⟩:=I1.list hq;refine wpAny_pyIter_list p.isList ?_;refine ⟨s1.z,[s1.z],_,_,H1,rfl,I1.kept (t':=s1.toks) fun b o e=>n3_ _ e,Zoq a _,⟨_,n8_ _ rfl,rfl,rfl⟩,fun b hb=>?_,q⟩;have e:b=s1.z:=by simpa using hb
 subst e;exact I1.fpOk (n11_ _) (I1.hok.fresh (n11_ _))
theorem Y0 {l:Expr} (hl:PE X l tl):PI X tg l (iTup X.K tl):=by
 intro pins s σ H R I h;refine thn (hl pins s σ H _ I h) fun v s1 ⟨x,H1,I1,r1,q1⟩=>?_;obtain ⟨a,e,⟨xs,hq⟩,q⟩:=q1;subst e;cases r1
 obtain ⟨its,rv,p,hz⟩:=I1.tuple hq;refine wpAny_pyIter_tuple (show s1.heap.IsTuple a its.toArray from p) ?_;refine ⟨s1.z,[s1.z],_,_,H1,rfl,I1.kept (t':=s1.toks) fun b o e=>n3_ _ e,Zl4 a _,⟨_,n8_ _ rfl,rfl,rfl⟩,fun b hb=>?_,q⟩;have e:b=s1.z:=by simpa using hb
 subst e;exact I1.fpOk (n11_ _) (I1.hok.fresh (n11_ _))
theorem Zqq {R:It→?o} {lo hi:Int} {t u v:Tok} {tk:Nat} (I:?k) (h1:-(2^62)≤lo) (h2:lo<2^62) (h3:-(2^62)≤hi) (h4:hi<2^62)
 (q:R (Itr lo (hi-lo).toNat) H):wpAny ?t X.A (pyIter (.ref s.z)) (PIE X pins σ tg R) E { s with heap:=s.heap.push { cls:=.type "range",data:=.fields #[.int lo t,.int hi u,.int 1 v] },toks:=tk }:=by
 refine wpAny_pyIter_range (IsRange.new ..) (small_one h1 h2 h3 h4) ?_;have I1:Inv X pins σ H { s with heap:=s.heap.push { cls:=.type "range",data:=.fields #[.int lo t,.int hi u,.int 1 v] },toks:=tk }:=I.kept fun b o e=>n3_ _ e
 refine ⟨(s.heap.push { cls:=.type "range",data:=.fields #[.int lo t,.int hi u,.int 1 v] }).objs.size,[(s.heap.push { cls:=.type "range",data:=.fields #[.int lo t,.int hi u,.int 1 v] }).objs.size],_,_,H,rfl,
  I1.kept (t':=tk) fun b o e=>n3_ _ e,Zk6 _ lo (hi-lo).toNat,?_,fun b hb=>?_,q⟩
 · have e1:lo+((0:Nat):Int)*1=lo:=by simp
   have e2:(((hi-lo).toNat:Nat):Int)-((0:Nat):Int)=Builtin.Range.rangeSize lo hi 1:=by rw [rangeSize_one];split<;>omega
   show IsRangeIter _ _ (lo+((0:Nat):Int)*1) ((((hi-lo).toNat:Nat):Int)-((0:Nat):Int)) 1
   rw [e1,e2];exact n8_ _ rfl
 · have e:b=(s.heap.push { cls:=.type "range",data:=.fields #[.int lo t,.int hi u,.int 1 v] }).objs.size:=by simpa using hb
   subst e;exact I1.fpOk (n11_ _) (I1.hok.fresh (n11_ _))
def Zwi (ta:TA):TI:=fun σ H R=>ta σ H fun vs H1=>∃ j:Int,vs=[.int j]∧-(2^62)≤j∧j<2^62∧R (Itr 0 j.toNat) H1
theorem Zhx {a:Expr} {p:Pos} (hg:Gl X "range") (hm:X.mg "range" = none) (ha:PA X [a] ta) (hs:starEach [a] X.env=[(false,eval a X.env)]:=by rfl):PI X tg (.Call (.Name "range" p) [a] [] pos) (Zwi ta):=by
 intro pins s σ H R I h;refine Call_ (Zbr I hg hm boot_range (n58_ (thn (ha pos pins s σ H _ I h) fun us s1 ⟨vs,H1,I1,r1,q1⟩=>?_) hs rfl));obtain ⟨j,e,q1,q2,q⟩:=q1;subst e;cases r1 with
 | cons r rr =>
   cases rr
   obtain ⟨t,rfl⟩:=r;exact call_range_1 (Zqq I1 (?d) (?d) q1 q2 (by simpa using q))
def tFor (wi:TI) (g:TG) (tb:TS):TS:=fun D σ H=>wi σ H fun J H1=>∃ W:Nat→Nat→St→?o,(∃ m,W 0 m σ H1)∧∀ i m σ H,W i m σ H →
 (J.stop i H∧D.nx σ H)∨(J.go i H∧∃ N:St→?o,(∀ σ' H',N σ' H'→∃ m',m'<m∧W (i+1) m' σ' H')∧∀ x H',J.yld i H x H'→g x σ H' fun σ2 H2=>tb { D with nx:=N,ct:=N,bk:=D.nx } σ2 H2)
def Zkd (fp:List Addr) (h:Heap):?y:=fp.filterMap fun b=>(h.get? b).map fun o=>(b,o)
theorem Y3 (hb:b∈fp) (e:h.get? b=some o):(b,o)∈Zkd fp h:=List.mem_filterMap.mpr ⟨b,hb,by rw [e];rfl⟩
theorem Zn7 {p:Addr×Obj} (hp:p∈Zkd fp h):p.1∈fp∧h.get? p.1=some p.2:=by
 obtain ⟨b,hb,e⟩:=List.mem_filterMap.mp hp;cases q:h.get? b with
 | none=>rw [q] at e;cases e
 | some o =>
   rw [q] at e;have e':(b,o)=p:=Option.some.inj e;subst e';exact ⟨hb,q⟩
theorem Inv.pinned (I:?k) (hf:∀ b∈fp,FpOk X pins H b) (ho:∀ b∈fp,∃ o,s.heap.get? b=some o∧∀ v,o.data≠.cell v):Inv X (pins++Zkd fp s.heap) σ H s :=
 I.pins_of fun p hp=>(n28_.mp hp).elim (fun z=>I.pin p (n29_ _ z)) fun z=>by
  obtain ⟨hb,e⟩:=Zn7 z;obtain ⟨f0,f1,f2,_⟩:=hf p.1 hb;obtain ⟨o,e',d⟩:=ho p.1 hb;rw [e] at e';cases e';exact ⟨e,f0,f1,f2,d⟩
theorem Inv.unpinned {pl:?y} (I:Inv X (pins++pl) σ H s):?k:=I.pins_of fun p hp=>I.pin p (n29_ _ (n74_ _ hp))
theorem Zac {body:List Stmt} {tb:TS} (hp:PassesOwn ?t X.A X.env X.xe) (hc:X.calm=true) (hi:PI X tg iter wi) (hg:PG X tg g) (hb:PSs X body tb)
 (hs:∀ x,foldedSetIterable iter X.env x=pure x:=by intro _;rfl):PS X (.For tg iter body [] pos) (tFor wi g tb):=by
 intro pins s σ H D I h;refine wpAny_For (thn (hi pins s σ H _ I h) fun v s1 h1=>thn h1 fun itv s2 h2=>?_) hs;obtain ⟨it,fp,tn,J,H2,e,I2,T,st2,f2,W,⟨m0,w0⟩,turn⟩:=h2;subst e;have stat:∀ {H':Hp},(∀ b∈fp,H' b=none)→∀ b∈fp,FpOk X pins H' b:=fun hn b hb=>⟨hn b hb,(f2 b hb).2⟩;refine codeAny_forLoop_any (fun n s'=>∃ i σ' H',Inv X pins σ' H' s'∧tn i s'.heap∧(∀ b∈fp,H' b=none)∧W i n σ' H') ?_ m0 ⟨0,σ,H2,I2,st2,fun b hb=>(f2 b hb).1,w0⟩;rintro n s3 ⟨i,σ3,H3,I3,st3,fr3,w3⟩
 rcases turn i n σ3 H3 w3 with ⟨stop,qn⟩|⟨go,N,hN,step⟩
 · refine wpAny_passesOwn hp (thn (T.done X rfl rfl rfl hc i pins s3 σ3 H3 X.xe I3 (stat fr3) st3 stop) fun r s4 ⟨hr,I4⟩=>?_);subst hr;exact wpAny_execs_nil ⟨σ3,H3,I4,qn⟩
 · refine wpAny_passesOwn hp (thn (T.item X rfl rfl rfl hc i pins s3 σ3 H3 X.xe I3 (stat fr3) st3 go) fun r s4 ⟨u,hr,h4⟩=>?_);subst hr;refine wpAny_passesOwn hp (thn h4 fun _ s5 ⟨x,H5,I5,r5,y5,st5,fr5⟩=>?_);have I5':=I5.pinned (stat fr5) (T.obj _ _ st5);refine wpAny_passesOwn hp (thn (hg _ s5 σ3 H5 x u _ I5' r5 (step x H5 y5)) fun _ s6 ⟨σ6,H6,I6,q6⟩=>?_);refine wpAny_passesOwn hp (thn (hb _ s6 σ6 H6 _ I6 q6) fun f s7 q7=>?_)
   have again:∀ {σ7:St} {H7:Hp},Inv X (pins++Zkd fp s5.heap) σ7 H7 s7→N σ7 H7→∃ m,m<n∧∃ i σ' H',Inv X pins σ' H' s7∧tn i s7.heap∧(∀ b∈fp,H' b=none)∧W i m σ' H':=fun {σ7 H7} I7 n7=>by
    obtain ⟨m',hm,w7⟩:=hN σ7 H7 n7;refine ⟨m',hm,i+1,σ7,H7,I7.unpinned,T.keep _ _ _ st5 fun b hb o e=>(I7.pin (b,o) (n29_ _ (n29_ _ (Y3 hb e)))).1,fun b hb=>?_,w7⟩;obtain ⟨o,e,d⟩:=T.obj _ _ st5 b hb;exact (I7.pin (b,o) (n29_ _ (n29_ _ (Y3 hb e)))).2.1
   cases f with
   | next=>obtain ⟨σ7,H7,I7,n7⟩:=q7;exact again I7 n7
   | cont=>obtain ⟨σ7,H7,I7,n7⟩:=q7;exact again I7 n7
   | brk=>obtain ⟨σ7,H7,I7,q7⟩:=q7;exact ⟨σ7,H7,I7.unpinned,q7⟩
   | ret v=>obtain ⟨x7,σ7,H7,I7,r7,q7⟩:=q7;exact ⟨x7,σ7,H7,I7.unpinned,r7,q7⟩
end
theorem Zc6 {K:PySem.W.Frag} {tb:TS} {D:Ends} (Pv:Nat→St→?o) (h0:Pv 0 σ H) (hl:∀ i σ H,i≤xs.length→Pv i σ H→SqL K H a xs)
 (hs:∀ i x σ H,xs[i]? = some x→Pv i σ H→g x σ H fun σ2 H2=>tb { D with nx:=Pv (i+1),ct:=Pv (i+1),bk:=D.nx } σ2 H2) (hd:∀ σ H,Pv xs.length σ H→D.nx σ H) :
 ∃ W:Nat→Nat→St→?o,(∃ m,W 0 m σ H)∧∀ i m σ H,W i m σ H →
   ((Itl K a).stop i H∧D.nx σ H)∨((Itl K a).go i H∧∃ N:St→?o,(∀ σ' H',N σ' H'→∃ m',m'<m∧W (i+1) m' σ' H')∧∀ x H',(Itl K a).yld i H x H'→g x σ H' fun σ2 H2=>tb { D with nx:=N,ct:=N,bk:=D.nx } σ2 H2):=by
 refine ⟨fun i m σ H=>m=xs.length-i∧i≤xs.length∧Pv i σ H,⟨xs.length,by simp,n42_ _,h0⟩,?_⟩;rintro i m σ H ⟨rfl,hi,p⟩
 have q:=hl i σ H hi p
 by_cases hlt:i<xs.length
 · refine .inr ⟨⟨xs,xs[i],q,by simp [hlt]⟩,Pv (i+1),fun σ' H' p'=>⟨xs.length-(i+1),?d,rfl,hlt,p'⟩,fun x H' y=>?_⟩;obtain ⟨e,y⟩:=y;subst e;exact hs i x σ _ (y xs q) p
 · have e:i=xs.length:=?d
   subst e;exact .inl ⟨⟨xs,q,n11_ _⟩,hd σ H p⟩
theorem Zo7 {K:PySem.W.Frag} {tb:TS} {D:Ends} (Pv:Nat→St→?o) (h0:Pv 0 σ H) (hl:∀ i σ H,i≤xs.length→Pv i σ H→SqT K H a xs)
 (hs:∀ i x σ H,xs[i]? = some x→Pv i σ H→g x σ H fun σ2 H2=>tb { D with nx:=Pv (i+1),ct:=Pv (i+1),bk:=D.nx } σ2 H2) (hd:∀ σ H,Pv xs.length σ H→D.nx σ H) :
 ∃ W:Nat→Nat→St→?o,(∃ m,W 0 m σ H)∧∀ i m σ H,W i m σ H →
   ((Itt K a).stop i H∧D.nx σ H)∨((Itt K a).go i H∧∃ N:St→?o,(∀ σ' H',N σ' H'→∃ m',m'<m∧W (i+1) m' σ' H')∧∀ x H',(Itt K a).yld i H x H'→g x σ H' fun σ2 H2=>tb { D with nx:=N,ct:=N,bk:=D.nx } σ2 H2):=by
 refine ⟨fun i m σ H=>m=xs.length-i∧i≤xs.length∧Pv i σ H,⟨xs.length,by simp,n42_ _,h0⟩,?_⟩;rintro i m σ H ⟨rfl,hi,p⟩
 have q:=hl i σ H hi p
 by_cases hlt:i<xs.length
 · refine .inr ⟨⟨xs,xs[i],q,by simp [hlt]⟩,Pv (i+1),fun σ' H' p'=>⟨xs.length-(i+1),?d,rfl,hlt,p'⟩,fun x H' y=>?_⟩;obtain ⟨e,y⟩:=y;subst e;exact hs i x σ _ (y xs q) p
 · have e:i=xs.length:=?d
   subst e;exact .inl ⟨⟨xs,q,n11_ _⟩,hd σ H p⟩
theorem Znv {lo:Int} {tb:TS} {D:Ends} (Pv:Nat→St→?o) (h0:Pv 0 σ H)
 (hs:∀ i σ H,i<n→Pv i σ H→g (.int (lo+i)) σ H fun σ2 H2=>tb { D with nx:=Pv (i+1),ct:=Pv (i+1),bk:=D.nx } σ2 H2) (hd:∀ σ H,Pv n σ H→D.nx σ H) :
 ∃ W:Nat→Nat→St→?o,(∃ m,W 0 m σ H)∧∀ i m σ H,W i m σ H →
   ((Itr lo n).stop i H∧D.nx σ H)∨((Itr lo n).go i H∧∃ N:St→?o,(∀ σ' H',N σ' H'→∃ m',m'<m∧W (i+1) m' σ' H')∧∀ x H',(Itr lo n).yld i H x H'→g x σ H' fun σ2 H2=>tb { D with nx:=N,ct:=N,bk:=D.nx } σ2 H2):=by
 refine ⟨fun i m σ H=>m=n-i∧i≤n∧Pv i σ H,⟨n,by simp,n42_ _,h0⟩,?_⟩;rintro i m σ H ⟨rfl,hi,p⟩
 by_cases hlt:i<n
 · refine .inr ⟨hlt,Pv (i+1),fun σ' H' p'=>⟨n-(i+1),?d,rfl,hlt,p'⟩,fun x H' y=>?_⟩;obtain ⟨e,y⟩:=y;subst e y;exact hs i σ _ hlt p
 · have e:i=n:=?d
   subst e;exact .inl ⟨n11_ _,hd σ H p⟩
theorem Zj1 {c:TT} {tb:TS} {D:Ends} (Pv:St→?o) (μ:St→Hp→Nat) (h0:Pv σ H)
 (hs:∀ σ H,Pv σ H→c σ H fun b H1=>if b=true then tb { D with nx:=fun σ' H'=>Pv σ' H'∧μ σ' H'<μ σ H,ct:=fun σ' H'=>Pv σ' H'∧μ σ' H'<μ σ H,bk:=D.nx } σ H1 else D.nx σ H1)
 (mono:∀ σ H Q Q',(∀ b H1,Q b H1→Q' b H1)→c σ H Q→c σ H Q'):Zrm c tb D σ H:=by
 refine ⟨fun m σ H=>m=μ σ H∧Pv σ H,⟨_,rfl,h0⟩,?_⟩;rintro m σ H ⟨rfl,p⟩
 refine mono σ H _ _ (fun b H1 q=>?_) (hs σ H p);cases b with
 | true=>exact ⟨_,fun σ' H' ⟨p',l⟩=>⟨_,l,rfl,p'⟩,q⟩
 | false=>exact q
abbrev R2:=V→V→Hp→VK→Prop
def OpR (X:Cx) (f:Value→Value→Sem Value) (r:R2):Prop :=
 ∀ (pins:?y) (s:Shared) (σ:St) (H:Hp) (x y:V) (v u:Value) (Q:VK),?k→RelV x v→RelV y u→r x y H Q →
   wpAny ?t X.A (f v u) (EP X pins σ Q) X.xe s
def UnR (X:Cx) (f:Value→Sem Value) (r:V→Hp→VK→Prop):Prop :=
 ∀ (pins:?y) (s:Shared) (σ:St) (H:Hp) (x:V) (v:Value) (Q:VK),?k→RelV x v→r x H Q →
   wpAny ?t X.A (f v) (EP X pins σ Q) X.xe s
def Yv (X:Cx) (f:Value) (r:List V→Hp→VK→Prop):Prop :=
 ∀ (pins:?y) (s:Shared) (σ:St) (H:Hp) (xs:List V) (us:?q) (Q:VK),?k→Vals xs us→r xs H Q →
   wpAny ?t X.A (call f us) (EP X pins σ Q) X.xe s
def TruR (X:Cx) (r:V→Hp→(Bool→?o)→Prop):Prop :=
 ∀ (pins:?y) (s:Shared) (σ:St) (H:Hp) (x:V) (v:Value) (Q:Bool→?o),?k→RelV x v→r x H Q →
   wpAny ?t X.A (truthy v) (TP X pins σ Q) X.xe s
def tOp (r:R2) (ta tb:TE):TE:=fun σ H Q=>ta σ H fun x H1=>tb σ H1 fun y H2=>r x y H2 Q
def tUn (r:V→Hp→VK→Prop) (ta:TE):TE:=fun σ H Q=>ta σ H fun x H1=>r x H1 Q
inductive BxRI (C:Int→Int→Prop) (g:Int→Int→V) (x y:V) (H:Hp) (Q:VK):Prop
 | mk (i:_) (j:_) (q1:x=.int i) (q2:y=.int j) (q3:C i j) (q4:Q (g i j) H):BxRI C g x y H Q
def rI (C:Int→Int→Prop) (g:Int→Int→V):R2:=fun x y H Q=>BxRI C g x y H Q
inductive BxRI0 (g:Int→Int→V) (x y:V) (H:Hp) (Q:VK):Prop
 | mk (i:_) (j:_) (q1:x=.int i) (q2:y=.int j) (q3:Q (g i j) H):BxRI0 g x y H Q
def rI0 (g:Int→Int→V):R2:=fun x y H Q=>BxRI0 g x y H Q
inductive BxRU (g:Int→V) (x:V) (H:Hp) (Q:VK):Prop
 | mk (i:_) (q1:x=.int i) (q2:Q (g i) H):BxRU g x H Q
def rU (g:Int→V):V→Hp→VK→Prop:=fun x H Q=>BxRU g x H Q
section
variable {X:Cx} {a b c:Expr} {ta tb tc:TE} {pos:Pos}
theorem binT (ha:PE X a ta) (hb:PE X b tb) {R:V→V→?o} (I:?k)
 (h:ta σ H fun x H1=>tb σ H1 fun y H2=>R x y H2) {f:Value→Value→Sem Value}
 (hf:∀ v u s2 x y H2,Inv X pins σ H2 s2→RelV x v→RelV y u→R x y H2→wpAny ?t X.A (f v u) Q X.xe s2) :
 wpAny ?t X.A (eval a X.env) (fun v s₁=>wpAny ?t X.A (eval b X.env) (fun u s₂=>wpAny ?t X.A (f v u) Q X.xe s₂) X.xe s₁) X.xe s:=by
 refine thn (ha pins s σ H _ I h) fun v s1 ⟨x,H1,I1,r1,q1⟩=>?_;refine thn (hb pins s1 σ H1 _ I1 q1) fun u s2 ⟨y,H2,I2,r2,q2⟩=>?_;exact hf v u s2 x y H2 I2 r1 r2 q2
theorem Zv {op:Operator} {r:R2} (ho:OpR X (binaryOp op) r) (ha:PE X a ta) (hb:PE X b tb):PE X (.BinOp a op b pos) (tOp r ta tb):=by
 intro pins s σ H Q I h;exact wpAny_BinOp (binT ha hb I h fun v u s2 x y H2 I2 rx ry q=>ho pins s2 σ H2 x y v u Q I2 rx ry q)
theorem Zux {op:UnaryOp} {r:V→Hp→VK→Prop} (ho:UnR X (unaryOp op) r) (ha:PE X a ta):PE X (.UnaryOp op a pos) (tUn r ta):=by
 intro pins s σ H Q I h;exact UnaryOp_ (thn (ha pins s σ H _ I h) fun v s1 ⟨x,H1,I1,r1,q1⟩=>ho pins s1 σ H1 x v Q I1 r1 q1)
theorem opI {f:Value→Value→Sem Value} {C:Int→Int→Prop} {g:Int→Int→Int}
 (rule:∀ (i j:Int) (t u:Tok) (s:Shared) (Q:Value→?i) (E:Value→?i),C i j→Q (.int (g i j) s.toks) { s with toks:=s.toks+1 }→wpAny ?t X.A (f (.int i t) (.int j u)) Q E s) :
 OpR X f (rI C fun i j=>.int (g i j)):=by
 intro pins s σ H x y v u Q I rx ry h;obtain ⟨i,j,rfl,rfl,hc,q⟩:=h;obtain ⟨t,rfl⟩:=rx;obtain ⟨t',rfl⟩:=ry;exact rule i j t t' s _ _ hc ⟨.int (g i j),H,I.tok _,⟨_,rfl⟩,q⟩
theorem opI0 {f:Value→Value→Sem Value} {g:Int→Int→Int}
 (rule:∀ (i j:Int) (t u:Tok) (s:Shared) (Q:Value→?i) (E:Value→?i),Q (.int (g i j) s.toks) { s with toks:=s.toks+1 }→wpAny ?t X.A (f (.int i t) (.int j u)) Q E s) :
 OpR X f (rI0 fun i j=>.int (g i j)):=by
 intro pins s σ H x y v u Q I rx ry h;obtain ⟨i,j,rfl,rfl,q⟩:=h;obtain ⟨t,rfl⟩:=rx;obtain ⟨t',rfl⟩:=ry;exact rule i j t t' s _ _ ⟨.int (g i j),H,I.tok _,⟨_,rfl⟩,q⟩
theorem opB0 {f:Value→Value→Sem Value} {g:Int→Int→Bool}
 (rule:∀ (i j:Int) (t u:Tok) (s:Shared) (Q:Value→?i) (E:Value→?i),Q (.bool (g i j)) s→wpAny ?t X.A (f (.int i t) (.int j u)) Q E s) :
 OpR X f (rI0 fun i j=>.bl (g i j)):=by
 intro pins s σ H x y v u Q I rx ry h;obtain ⟨i,j,rfl,rfl,q⟩:=h;obtain ⟨t,rfl⟩:=rx;obtain ⟨t',rfl⟩:=ry;exact rule i j t t' s _ _ ⟨.bl (g i j),H,I,rfl,q⟩
def CPow (i j:Int):Prop:=0≤j∧j≤1000000∧i.natAbs<2^64
theorem Ys:OpR X (binaryOp .Add) (rI0 fun i j=>.int (i+j)):=opI0 fun _ _ _ _ _ _ _ q=>add_int q
theorem Zaq:OpR X (binaryOp .Sub) (rI0 fun i j=>.int (i-j)):=opI0 fun _ _ _ _ _ _ _ q=>sub_int q
theorem Zb7:OpR X (binaryOp .Mod) (rI (fun _ j=>j≠0) fun i j=>.int (i.fmod j)):=opI fun _ _ _ _ _ _ _ hc q=>mod_int' hc q
theorem Zvo:OpR X (binaryOp .Pow) (rI CPow fun i j=>.int (i^j.toNat)):=opI fun _ _ _ _ _ _ _ hc q=>pow_int_small hc.1 hc.2.1 hc.2.2 q
theorem unI {f:Value→Sem Value} {g:Int→Int}
 (rule:∀ (i:Int) (t:Tok) (s:Shared) (Q:Value→?i) (E:Value→?i),Q (.int (g i) s.toks) { s with toks:=s.toks+1 }→wpAny ?t X.A (f (.int i t)) Q E s) :
 UnR X f (rU fun i=>.int (g i)):=by
 intro pins s σ H x v Q I rx h;obtain ⟨i,rfl,q⟩:=h;obtain ⟨t,rfl⟩:=rx;exact rule i t s _ _ ⟨.int (g i),H,I.tok _,⟨_,rfl⟩,q⟩
theorem Zrw:UnR X (unaryOp .USub) (rU fun i=>.int (-i)):=unI fun _ _ _ _ _ q=>neg_int q
end
def scal:V→V→Bool
 | .non,.non=>true|.non,.int _=>true|.int _,.non=>true|.non,.bl _=>true|.bl _,.non=>true|.non,.str _=>true|.str _,.non=>true
 | .int _,.int _=>true|.bl _,.bl _=>true|.str _,.str _=>true|.byt _,.byt _=>true
 | .int _,.str _=>true|.str _,.int _=>true|.bl _,.str _=>true|.str _,.bl _=>true
 | _,_=>false
inductive BxREq (x y:V) (H:Hp) (Q:VK):Prop
 | mk  (q1:scal x y=true) (q2:Q (.bl (decide (x=y))) H):BxREq x y H Q
def rEq:R2:=fun x y H Q=>BxREq x y H Q
inductive BxRNe (x y:V) (H:Hp) (Q:VK):Prop
 | mk  (q1:scal x y=true) (q2:Q (.bl (!decide (x=y))) H):BxRNe x y H Q
def rNe:R2:=fun x y H Q=>BxRNe x y H Q
theorem Zoy {i j:Int}:decide (V.int i=V.int j)=(i == j):=by
 rw [Bool.eq_iff_iff]
 simp
theorem Zrc {i j:Bool}:decide (V.bl i=V.bl j)=(i == j):=by
 rw [Bool.eq_iff_iff]
 simp
theorem Znm {i j:Str}:decide (V.str i=V.str j)=(i == j):=by
 rw [Bool.eq_iff_iff]
 simp
theorem Zmt {i j:Array UInt8}:decide (V.byt i=V.byt j)=(i.toList == j.toList):=by
 rw [Bool.eq_iff_iff];cases i
 cases j
 simp
section
variable {X:Cx} {a b c:Expr} {ta tb tc:TE} {pos:Pos}
theorem Z9 {Q:VK} {k k':Bool} (I:?k) (q:Q (.bl k) H) (e:k=k'):EP X pins σ Q (.bool k') s:=by
 subst e;exact ⟨.bl k,H,I,rfl,q⟩
theorem Zp5:OpR X (compareOp .Eq) rEq:=by
 intro pins s σ H x y v u Q I rx ry h;obtain ⟨hs,q⟩:=h;cases x with
 | non =>
   cases rx
   cases y with
   | non=>cases ry;exact PySem.EqNone.eq_none_none (Z9 I q ?g)
   | bl j=>cases ry;exact PySem.EqNone.eq_none_bool (Z9 I q ?g)
   | int j=>obtain ⟨t',rfl⟩:=ry;exact PySem.EqNone.eq_none_int (Z9 I q ?g)
   | str j=>obtain ⟨t',rfl⟩:=ry;exact PySem.EqNone.eq_none_str (Z9 I q ?g)
   | _=>exact absurd (show false=true from hs) n17_
 | bl i =>
   cases rx
   cases y with
   | non=>cases ry;exact PySem.EqNone.eq_bool_none (Z9 I q ?g)
   | bl j=>cases ry;exact eq_bool (Z9 I q Zrc)
   | str j=>obtain ⟨t',rfl⟩:=ry;exact PySem.EqMixed.eq_bool_str (Z9 I q ?g)
   | _=>exact absurd (show false=true from hs) n17_
 | int i =>
   obtain ⟨t,rfl⟩:=rx;cases y with
   | non=>cases ry;exact PySem.EqNone.eq_int_none (Z9 I q ?g)
   | int j=>obtain ⟨t',rfl⟩:=ry;exact eq_int (Z9 I q Zoy)
   | str j=>obtain ⟨t',rfl⟩:=ry;exact PySem.EqMixed.eq_int_str (Z9 I q ?g)
   | _=>exact absurd (show false=true from hs) n17_
 | str i =>
   obtain ⟨t,rfl⟩:=rx;cases y with
   | non=>cases ry;exact PySem.EqNone.eq_str_none (Z9 I q ?g)
   | bl j=>cases ry;exact PySem.EqMixed.eq_str_bool (Z9 I q ?g)
   | int j=>obtain ⟨t',rfl⟩:=ry;exact PySem.EqMixed.eq_str_int (Z9 I q ?g)
   | str j=>obtain ⟨t',rfl⟩:=ry;exact eq_str (Z9 I q Znm)
   | _=>exact absurd (show false=true from hs) n17_
 | byt i =>
   obtain ⟨t,rfl⟩:=rx;cases y with
   | byt j=>obtain ⟨t',rfl⟩:=ry;exact PySem.W.eq_bytes (Z9 I q Zmt)
   | _=>exact absurd (show false=true from hs) n17_
 | _=>cases y<;>exact absurd (show false=true from hs) n17_
theorem Zqs:OpR X (compareOp .NotEq) rNe:=by
 intro pins s σ H x y v u Q I rx ry h;obtain ⟨hs,q⟩:=h;cases x with
 | non =>
   cases rx
   cases y with
   | non=>cases ry;exact PySem.EqNone.ne_none_none (Z9 I q ?g)
   | bl j=>cases ry;exact PySem.EqNone.ne_none_bool (Z9 I q ?g)
   | int j=>obtain ⟨t',rfl⟩:=ry;exact PySem.EqNone.ne_none_int (Z9 I q ?g)
   | str j=>obtain ⟨t',rfl⟩:=ry;exact PySem.EqNone.ne_none_str (Z9 I q ?g)
   | _=>exact absurd (show false=true from hs) n17_
 | bl i =>
   cases rx
   cases y with
   | non=>cases ry;exact PySem.EqNone.ne_bool_none (Z9 I q ?g)
   | bl j=>cases ry;exact ne_bool (Z9 I q (congrArg not Zrc))
   | str j=>obtain ⟨t',rfl⟩:=ry;exact PySem.EqMixed.ne_bool_str (Z9 I q ?g)
   | _=>exact absurd (show false=true from hs) n17_
 | int i =>
   obtain ⟨t,rfl⟩:=rx;cases y with
   | non=>cases ry;exact PySem.EqNone.ne_int_none (Z9 I q ?g)
   | int j=>obtain ⟨t',rfl⟩:=ry;exact ne_int (Z9 I q (congrArg not Zoy))
   | str j=>obtain ⟨t',rfl⟩:=ry;exact PySem.EqMixed.ne_int_str (Z9 I q ?g)
   | _=>exact absurd (show false=true from hs) n17_
 | str i =>
   obtain ⟨t,rfl⟩:=rx;cases y with
   | non=>cases ry;exact PySem.EqNone.ne_str_none (Z9 I q ?g)
   | bl j=>cases ry;exact PySem.EqMixed.ne_str_bool (Z9 I q ?g)
   | int j=>obtain ⟨t',rfl⟩:=ry;exact PySem.EqMixed.ne_str_int (Z9 I q ?g)
   | str j=>obtain ⟨t',rfl⟩:=ry;exact ne_str (Z9 I q (congrArg not Znm))
   | _=>exact absurd (show false=true from hs) n17_
 | byt i =>
   obtain ⟨t,rfl⟩:=rx;cases y with
   | byt j=>obtain ⟨t',rfl⟩:=ry;exact PySem.W.ne_bytes (Z9 I q (congrArg not Zmt))
   | _=>exact absurd (show false=true from hs) n17_
 | _=>cases y<;>exact absurd (show false=true from hs) n17_
theorem Ztn:OpR X (compareOp .Lt) (rI0 fun i j=>.bl (decide (i<j))):=opB0 fun _ _ _ _ _ _ _ q=>lt_int q
theorem Zme:OpR X (compareOp .LtE) (rI0 fun i j=>.bl (decide (i≤j))):=opB0 fun _ _ _ _ _ _ _ q=>le_int q
theorem Zpu:OpR X (compareOp .Gt) (rI0 fun i j=>.bl (decide (j<i))):=opB0 fun _ _ _ _ _ _ _ q=>gt_int q
theorem Zwm:OpR X (compareOp .GtE) (rI0 fun i j=>.bl (decide (j≤i))):=opB0 fun _ _ _ _ _ _ _ q=>ge_int q
theorem Y1 (b:Expr) {op:CmpOp} (h:op≠.In:=by decide) (h2:op≠.NotIn:=by decide):behindInMarks op b=false:=by
 have e1:(op == CmpOp.In)=false:=by cases op<;>first|rfl|exact absurd rfl h
 have e2:(op == CmpOp.NotIn)=false:=by cases op<;>first|rfl|exact absurd rfl h2
 cases b<;>simp [behindInMarks,e1,e2]
theorem Zak {op:CmpOp} {r:R2} (ho:OpR X (compareOp op) r) (ha:PE X a ta) (hb:PE X b tb) (hm:behindInMarks op b=false):PE X (.Compare a [op] [b] pos) (tOp r ta tb):=by
 intro pins s σ H Q I h;exact wpAny_Compare1 (binT ha hb I h fun v u s2 x y H2 I2 rx ry q=>ho pins s2 σ H2 x y v u Q I2 rx ry q) hm
inductive BxTTest (Q:Bool→?o) (x:V) (H':Hp):Prop
 | mk (k:_) (q1:x=.bl k) (q2:Q k H'):BxTTest Q x H'
def Zth (t:TE):TT:=fun σ H Q=>t σ H fun x H'=>BxTTest Q x H'
theorem Yn {op:CmpOp} {r:R2} (ho:OpR X (compareOp op) r) (ha:PE X a ta) (hb:PE X b tb) (hm:behindInMarks op b=false):PT X (.Compare a [op] [b] pos) (Zth (tOp r ta tb)):=by
 intro pins s σ H Q I h
 refine wpAny_isTrue_Compare1 (thn (ha pins s σ H _ I h) fun v s1 ⟨x,H1,I1,r1,q1⟩=>thn (hb pins s1 σ H1 _ I1 q1) fun u s2 ⟨y,H2,I2,r2,q2⟩ =>
  thn (ho pins s2 σ H2 x y v u _ I2 r1 r2 q2) fun c s3 ⟨z,H3,I3,r3,k,e,q3⟩=>?_) hm
 subst e;cases r3
 exact wpAny_truthy_bool ⟨H3,I3,q3⟩
inductive BxTChain (r':R2) (y:V) (tc:TE) (σ:St) (Q:VK) (z:V) (H3:Hp):Prop
 | mk (k:_) (q1:z=.bl k) (q2:(if k=true then tc σ H3 fun w' H4=>r' y w' H4 Q else Q (.bl false) H3)):BxTChain r' y tc σ Q z H3
def Zt6 (r r':R2) (ta tb tc:TE):TE:=fun σ H Q=>ta σ H fun x H1=>tb σ H1 fun y H2=>r x y H2 fun z H3=>BxTChain r' y tc σ Q z H3
theorem Zku {op op':CmpOp} {r r':R2} (ho:OpR X (compareOp op) r) (ho':OpR X (compareOp op') r') (ha:PE X a ta) (hb:PE X b tb) (hc:PE X c tc)
 (hm:lastMarks [op,op'] [b,c]=false:=by with_unfolding_all rfl):PE X (.Compare a [op,op'] [b,c] pos) (Zt6 r r' ta tb tc):=by
 intro pins s σ H Q I h
 refine Compare_chain (thn (ha pins s σ H _ I h) fun v s1 ⟨x,H1,I1,r1,q1⟩=>chain_link (thn (hb pins s1 σ H1 _ I1 q1) fun u s2 ⟨y,H2,I2,r2,q2⟩ =>
  thn (ho pins s2 σ H2 x y v u _ I2 r1 r2 q2) fun d s3 ⟨z,H3,I3,r3,k,e,q3⟩=>?_)) hm
 subst e;cases r3
 refine wpAny_truthy_bool ?_;cases k with
 | false=>exact ite_ff ⟨.bl false,H3,I3,rfl,q3⟩
 | true=>exact ite_tt (chain_last (thn (hc pins s3 σ H3 _ I3 q3) fun w' s4 ⟨z',H4,I4,r4,q4⟩=>ho' pins s4 σ H4 y z' u w' Q I4 r2 r4 q4))
def TruV (K:PySem.W.Frag) (x:V) (H:Hp) (k:Bool):Prop :=
 match x with
 | .non=>k=false
 | .bl b=>k=b
 | .int i=>k=(i != 0)
 | .str y=>y.length≤sizeLine∧k=((y.length:Int) != 0)
 | .byt y=>y.size≤sizeLine∧k=((y.size:Int) != 0)
 | .ref p=>(∃ xs,SqL K H p xs∧k = !xs.isEmpty)∨(∃ xs,SqT K H p xs∧k = !xs.isEmpty)∨∃ kvs,H p=some (.dK kvs)∧k = !kvs.isEmpty
 | _=>False
theorem Zlz {κ:Type} {kvs:List (κ×V)} {vs:List (κ×Value)} (r:KV kvs vs):(!vs.isEmpty) = !kvs.isEmpty:=by
 cases r<;>rfl
theorem Zej (r:Vals xs its):(!its.toArray.isEmpty) = !xs.isEmpty:=by
 cases r<;>simp
theorem Zdl:(sizeLine:Nat)<2^63:=by rw [sizeLine_eq];decide
theorem Zur:TruR X (fun x H Q=>∃ k,TruV X.K x H k∧Q k H):=by
 intro pins s σ H x v Q I rx h;obtain ⟨k,e,q⟩:=h;have hl:=Zdl;have hs:sizeLine=16777216:=sizeLine_eq;cases x with
 | non =>
   cases rx
   have e':k=false:=e;subst e';exact truthy_none ⟨H,I,q⟩
 | bl b =>
   cases rx
   have e':k=b:=e;subst e';exact wpAny_truthy_bool ⟨H,I,q⟩
 | int i =>
   obtain ⟨t,rfl⟩:=rx;have e':k=(i != 0):=e;subst e';exact PySem.P.truthy_int ⟨H,I,q⟩
 | str y =>
   obtain ⟨t,rfl⟩:=rx;obtain ⟨hy,e'⟩:y.length≤sizeLine∧k=((y.length:Int) != 0):=e;subst e';exact PySem.P.truthy_str (?d) ⟨H,I.tok _,q⟩
 | byt y =>
   obtain ⟨t,rfl⟩:=rx;obtain ⟨hy,e'⟩:y.size≤sizeLine∧k=((y.size:Int) != 0):=e;subst e';exact PySem.W.truthy_bytes (?d) ⟨H,I.tok _,q⟩
 | ref p =>
   cases rx
   have e':(∃ xs,SqL X.K H p xs∧k = !xs.isEmpty)∨(∃ xs,SqT X.K H p xs∧k = !xs.isEmpty)∨∃ kvs,H p=some (.dK kvs)∧k = !kvs.isEmpty:=e
   rcases e' with ⟨xs,hx,e'⟩|⟨xs,hx,e'⟩|⟨kvs,hx,e'⟩
   · subst e';obtain ⟨its,r,pl,hz⟩:=I.list hx;have hlen:=r.length;exact wpAny_truthy_list pl.isList (by simp only [n15_];omega) ⟨H,I.tok _,by rw [Zej r];exact q⟩
   · subst e';obtain ⟨its,r,pl,hz⟩:=I.tuple hx;have hlen:=r.length;exact truthy_tuple pl (by simp only [n15_];omega) ⟨H,I.tok _,by rw [Zej r];exact q⟩
   · subst e';obtain ⟨hz,hS,vs,r,m⟩:kvs.length≤sizeLine∧(p == sysModules)=false∧∃ vs,KV kvs vs∧s.heap.DictOf (Yi X.prog X.w) p vs:=I.hok p _ hx;have hlen:kvs.length=vs.length:=Paired.length r;exact wpAny_truthy_dict hS m (?d) ⟨H,I.tok _,by rw [Zlz r];exact q⟩
 | _=>exact (show False from e).elim
theorem Z0 (ha:PE X a ta) (he:∀ whole,isTrue a X.env whole=(do let v ← whole;standAt a.pos;holding [v] (truthy v))) :
 PT X a (fun σ H Q=>ta σ H fun x H'=>∃ k,TruV X.K x H' k∧Q k H'):=by
 intro pins s σ H Q I h;exact isTrue_plain (thn (ha pins s σ H _ I h) fun v s1 ⟨x,H1,I1,r1,q1⟩=>Zur pins s1 σ H1 x v Q I1 r1 q1) (he _)
theorem Zh0 {x:V} (r:Vals [x] us):∃ u,us=[u]∧RelV x u:=by
 cases r with
 | cons r1 r2=>cases r2;exact ⟨_,rfl,r1⟩
theorem Zuw {x:V} (r:Vals [x,y] us):∃ u w',us=[u,w']∧RelV x u∧RelV y w':=by
 cases r with
 | cons r1 r2 =>
   cases r2 with
   | cons r3 r4=>cases r4;exact ⟨_,_,rfl,r1,r3⟩
inductive BxRc_abs  (xs:List V) (H:Hp) (Q:VK):Prop
 | mk (i:_) (q1:xs=[.int i]) (q2:Q (.int (if i<0 then -i else i)) H):BxRc_abs xs H Q
def Zvu  : List V→Hp→VK→Prop:=fun xs H Q=>BxRc_abs xs H Q
theorem Zkw:Yv X (.builtin "abs") (Zvu):=by
 intro pins s σ H xs us Q I r h;obtain ⟨i,rfl,q⟩:=h;obtain ⟨u,rfl,t,rfl⟩:=Zh0 r;exact call_abs_int fun u tk=>⟨.int (if i<0 then -i else i),H,I.tok _,⟨_,rfl⟩,q⟩
inductive BxRc_max2  (xs:List V) (H:Hp) (Q:VK):Prop
 | mk (i:_) (j:_) (q1:xs=[.int i,.int j]) (q2:Q (.int (if j>i then j else i)) H):BxRc_max2 xs H Q
def Ztd  : List V→Hp→VK→Prop:=fun xs H Q=>BxRc_max2 xs H Q
theorem Zge (hc:X.calm=true):Yv X (.builtin "max") (Ztd):=by
 intro pins s σ H xs us Q I r h;obtain ⟨i,j,rfl,q⟩:=h;obtain ⟨u,w',rfl,⟨t,rfl⟩,⟨t',rfl⟩⟩:=Zuw r;refine max_two_ints (I.ok.hd hc) fun h' tk k=>⟨_,H,I.kept k,?_,q⟩
 by_cases hj:j>i
 · rw [if_pos hj,if_pos hj];exact ⟨_,rfl⟩
 · rw [if_neg hj,if_neg hj];exact ⟨_,rfl⟩
inductive BxRc_min2  (xs:List V) (H:Hp) (Q:VK):Prop
 | mk (i:_) (j:_) (q1:xs=[.int i,.int j]) (q2:Q (.int (if j<i then j else i)) H):BxRc_min2 xs H Q
def Zs4  : List V→Hp→VK→Prop:=fun xs H Q=>BxRc_min2 xs H Q
theorem Zmv (hc:X.calm=true):Yv X (.builtin "min") (Zs4):=by
 intro pins s σ H xs us Q I r h;obtain ⟨i,j,rfl,q⟩:=h;obtain ⟨u,w',rfl,⟨t,rfl⟩,⟨t',rfl⟩⟩:=Zuw r;refine min_two_ints (I.ok.hd hc) fun h' tk k=>⟨_,H,I.kept k,?_,q⟩
 by_cases hj:j<i
 · rw [if_pos hj,if_pos hj];exact ⟨_,rfl⟩
 · rw [if_neg hj,if_neg hj];exact ⟨_,rfl⟩
end
structure ObjM (h:Heap) (x dx C:Addr) (mA:Str→Option Value):Prop where
 obj:h.get? x=some (PySem.W.instObj C dx)
 ns:h.Ns1 dx mA
 ne:dx≠x
theorem Zou {dx:Addr} {mA:Str→Option Value} (n:h.Ns1 dx mA):∃ od,h.get? dx=some od∧∀ name,PySem.W.lookIn name od=some (mA name):=by
 obtain ⟨o,es,ep,ho,hd,hk,_,hm⟩:=n;refine ⟨o,ho,fun name=>?_⟩;have e:=hm name;unfold nsFind findBy at e;rw [← Array.find?_toList] at e;unfold PySem.W.lookIn;rw [hd];dsimp only;split
 · rename_i y q
   rw [q] at e;exact congrArg some e
 · rename_i q
   rw [q] at e
   have a:es.toList.any (·.refKey)=false:=by
    rw [List.any_eq_false];intro y hy;obtain ⟨z,t,hkey⟩:=hk y (Array.mem_toList_iff.mp hy);simp [DictEntry.refKey,hkey]
   have a':¬ es.toList.any (·.refKey)=true:=by rw [a];exact n17_
   rw [if_neg a'];exact congrArg some e
theorem ObjM.look {x dx:Addr} {mA:Str→Option Value} (I:ObjM h x dx C mA):∃ od,PySem.W.InstAt h x (PySem.W.instObj C dx) C (some od)∧∀ name,PySem.W.lookIn name od=some (mA name) :=
 let ⟨od,ho,hl⟩:=Zou I.ns
 ⟨od,⟨I.obj,rfl,rfl,ho⟩,hl⟩
section
variable {prog:Program} {w:World} {A:Around} {E:Value→?i} {s:Shared} {K:PySem.W.Frag} {x dx C f:Addr} {mA:Str→Option Value} {name:Str} {v:Value}
end
theorem RelO.some_of {o:Option Value} (r:RelO (some v) o):∃ u,o=some u∧RelV v u:=by
 cases o with
 | none=>exact (show False from r).elim
 | some u=>exact ⟨u,rfl,r⟩
section
variable {P:Program} {w:World} {H H':Hp} {h h':Heap} {a C dx:Addr} {fs fs':List (Str×V)}
theorem Zs5 (hok:HOk P w H h) (e:H a=some (.ins C dx fs)):∃ mA,ObjM h a dx C mA∧(∀ f,RelO (fs.lookup f) (mA f))∧PySem.Within mA (fs.map (·.1))∧fs.length≤1000∧H dx=some (.own a):=by
 obtain ⟨d,z,ne,ob,mA,n,r,q⟩:=(show ObjOk P w H h a (.ins C dx fs) from hok a _ e);exact ⟨mA,⟨ob,n,ne⟩,r,q,z,d⟩
end
structure Cls (K:PySem.W.Frag) (C:Addr):Prop where
 pg:PySem.W.plainGet K C Str.empty=true
 hd:PySem.W.hasDictIn K C=true
 po:PySem.W.plainOver K C=true
 sa:PySem.W.findIn K (.ref C) "__setattr__" = some (some (.builtin "object.__setattr__"))
theorem Cls.get {K:PySem.W.Frag} (c:Cls K C) (f:Str):PySem.W.plainGet K C f=true:=c.pg
section
variable {X:Cx} {pins:?y} {σ:St} {H:Hp} {s:Shared} {a C dx:Addr} {fs:List (Str×V)} {f:Str} {v:V} {A:Around} {E:Value→?i}
end
section
variable {X:Cx} {o e value:Expr} {f:Str} {pos pos' tpos:Pos} {ta tv:TE}
end
section
variable {X:Cx} {pins:?y} {σ:St} {H:Hp} {s:Shared} {A:Around} {E:Value→?i} {Q:Value→?i} {c:Value} {b:Bool}
inductive TyOf (K:PySem.W.Frag) (H:Hp):V→Value→Prop where
 | non:TyOf K H .non (.type "NoneType")
 | bl (x:Bool):TyOf K H (.bl x) (.type "bool")
 | int (i:Int):TyOf K H (.int i) (.type "int")
 | str (x:Str):TyOf K H (.str x) (.type "str")
 | flt (x:UInt64):TyOf K H (.flt x) (.type "float")
 | lst {a:Addr} {xs:List V} (e:H a=some (.lst xs)):TyOf K H (.ref a) (.type "list")
 | frz {a:Addr} {o:Obj} {xs:List V} (e:H a=some (.frz o (.lst xs))):TyOf K H (.ref a) (.type "list")
 | tup {a:Addr} {xs:List V} (e:H a=some (.tup xs)):TyOf K H (.ref a) (.type "tuple")
 | dK {a:Addr} {kvs:List (Key×V)} (e:H a=some (.dK kvs)):TyOf K H (.ref a) (.type "dict")
 | dT {a:Addr} {kvs:List (List Key×V)} (e:H a=some (.dT kvs)):TyOf K H (.ref a) (.type "dict")
 | ins {a C dx:Addr} {fs:List (Str×V)} (e:H a=some (.ins C dx fs)) (cl:Cls K C) (ha:PySem.W.findIn K (.ref C) "__class__" = some (some (.builtin "object.__class__")))
    (hn:PySem.W.specialIn K (.builtin "object.__class__") "__get__" = some (some (.builtin "getset_descriptor.__get__"))) (htk:PySem.W.takesIn K (.builtin "object.__class__")=some true)
    (hm:PySem.W.mroIn K C (.type "object")=some true):TyOf K H (.ref a) (.ref C)
theorem Znw {x:V} {t:Value} (I:?k) (rx:RelV x u) (ty:TyOf X.K H x t) (e:PySem.W.kitOne X.K t c=some b) (h:∀ tk,Q (.bool b) { s with toks:=tk }) :
 wpAny ?t A (call (.builtin "isinstance") [u,c]) Q E s:=by
 cases ty with
 | non=>cases (show u=Value.none from rx);exact n68_ PySem.W.kitx_none I.kIn True.intro e (fun z=>nomatch z) h
 | bl y=>cases (show u=Value.bool y from rx);exact n68_ PySem.W.kitx_bool I.kIn True.intro e (fun z=>nomatch z) h
 | int i=>obtain ⟨t,q⟩:=(show ∃ t,u=Value.int i t from rx);cases q;exact n68_ PySem.W.kitx_int I.kIn True.intro e (fun z=>nomatch z) h
 | str y=>obtain ⟨t,q⟩:=(show ∃ t,u=Value.str y t from rx);cases q;exact n68_ PySem.W.kitx_str I.kIn True.intro e (fun z=>nomatch z) h
 | flt y=>obtain ⟨t,q⟩:=(show ∃ t,u=Value.float y t from rx);cases q;exact n68_ PySem.W.kitx_float I.kIn True.intro e (fun z=>nomatch z) h
 | @lst a xs ea =>
   cases (show u=Value.ref a from rx)
   obtain ⟨_,_,n,_,h1⟩:=(show ObjOk X.prog X.w H s.heap a (.lst xs) from I.hok a _ ea);exact n68_ PySem.W.kitx_list I.kIn ⟨_,h1,rfl⟩ e (fun z=>nomatch z) h
 | @frz a ob xs ea =>
   cases (show u=Value.ref a from rx)
   obtain ⟨_,_,_,n,_,h1⟩:=(show ObjOk X.prog X.w H s.heap a (.frz ob (.lst xs)) from I.hok a _ ea);exact n68_ PySem.W.kitx_list I.kIn ⟨_,h1,rfl⟩ e (fun z=>nomatch z) h
 | @tup a xs ea =>
   cases (show u=Value.ref a from rx)
   obtain ⟨_,_,_,p⟩:=(show ObjOk X.prog X.w H s.heap a (.tup xs) from I.hok a _ ea);obtain ⟨o,h1,⟨h2,_⟩,_⟩:=p;exact n68_ PySem.W.kitx_tuple I.kIn ⟨o,h1,h2⟩ e (fun z=>nomatch z) h
 | @dK a kvs ea =>
   cases (show u=Value.ref a from rx)
   obtain ⟨_,_,vs,_,p⟩:=(show ObjOk X.prog X.w H s.heap a (.dK kvs) from I.hok a _ ea);obtain ⟨o,es,ep,h1,h2,_⟩:=p;exact n68_ PySem.W.kitx_dict I.kIn ⟨o,h1,h2.1⟩ e (fun z=>nomatch z) h
 | @dT a kvs ea =>
   cases (show u=Value.ref a from rx)
   obtain ⟨_,_,xs,_,o,es,ep,h1,h2,_⟩:=(show ObjOk X.prog X.w H s.heap a (.dT kvs) from I.hok a _ ea);exact n68_ PySem.W.kitx_dict I.kIn ⟨o,h1,h2.1⟩ e (fun z=>nomatch z) h
 | @ins a C dx fs ea cl ha hn htk hm =>
   cases (show u=Value.ref a from rx)
   obtain ⟨mA,O,_⟩:=Zs5 I.hok ea;obtain ⟨od,J,_⟩:=O.look;exact n68_ (PySem.W.kitx_own (cl.get _) cl.hd ha hn htk hm) I.kIn J e (fun z=>nomatch z) h
end
structure Room (k:Nat) (A:Around):Prop where
 hd:A.handled=none
 dp:A.depth+3*k+5<recursionLimit
 un:A.units+16*k+200<cLine
 gd:A.guards=some []
theorem Room.mono (r:Room k A) (h:j≤k):Room j A:=⟨r.hd,by have:=r.dp;omega,by have:=r.un;omega,r.gd⟩
theorem Room.deeper (r:Room (k+1) A) (env:Env):Room k (A.deeper env) :=
 ⟨r.hd,by have:=r.dp;show A.depth+1+3*k+5<_;omega,by have:=r.un;show A.units+3+16*k+200<_;omega,r.gd⟩
theorem Room.depth (r:Room k A):A.depth<recursionLimit:=by have:=r.dp;omega
theorem Room.units (r:Room k A):A.units+64<cLine:=by have:=r.un;omega
def tNil:TA:=fun _ H Q=>Q [] H
def X5 (ta:TE) (tr:TA):TA:=fun σ H Q=>ta σ H fun x H1=>tr σ H1 fun xs H2=>Q (x :: xs) H2
section
variable {X:Cx} {e:Expr} {es:List Expr} {te:TE} {t:TA} {pos:Pos}
theorem Zb:PA X [] tNil:=fun _ _ _ _ H Q I h=>Calls.spliced_nil ⟨[],H,I,.nil,h⟩
theorem Za (ha:PE X e te) (hr:PA X es t) (hs:starEach (e :: es) X.env=(false,eval e X.env) :: starEach es X.env:=by rfl):PA X (e :: es) (X5 te t):=by
 intro pos pins s σ H Q I h;rw [hs];show wpAny _ _ (spliced ((false,eval e X.env) :: backTo pos (starEach es X.env))) _ _ s
 refine Calls.spliced_cons (thn (ha pins s σ H _ I h) fun u s1 ⟨x,H1,I1,r1,q1⟩=>?_);exact thn (hr pos pins s1 σ H1 _ I1 q1) fun us s2 ⟨xs,H2,I2,r2,q2⟩=>⟨x :: xs,H2,I2,.cons r1 r2,q2⟩
inductive BxTTup (xs:List V) (H1:Hp) (Q:VK):Prop
 | mk  (q1:xs.length≤sizeLine) (q2:∀ p,H1 p=none→Q (.ref p) (upd H1 p (.tup xs))):BxTTup xs H1 Q
def tTup (t:TA):TE:=fun σ H Q=>t σ H fun xs H1=>BxTTup xs H1 Q
inductive BxTLst (xs:List V) (H1:Hp) (Q:VK):Prop
 | mk  (q1:xs.length≤sizeLine) (q2:∀ p,H1 p=none→Q (.ref p) (upd H1 p (.lst xs))):BxTLst xs H1 Q
def tLst (t:TA):TE:=fun σ H Q=>t σ H fun xs H1=>BxTLst xs H1 Q
theorem Zz {x1} (h:PA X es t):PE X (.Tuple es x1 pos) (tTup t):=by
 intro pins s σ H Q I hq;refine wpAny_Tuple_spliced (thn (h pos pins s σ H _ I hq) fun us s1 ⟨xs,H1,I1,r,z,q⟩=>⟨by rw [← r.length];exact z,?_⟩);have hf:H1 s1.z=none:=I1.hok.fresh (n11_ _);refine ⟨.ref s1.z,upd H1 s1.z (.tup xs),I1.laid (t':=s1.toks) (fun b u e=>n3_ _ e) (n11_ _) ?_,rfl,q _ hf⟩;exact ⟨z,us,r,IsTupN.new _ _⟩
theorem Xd (h:PA X es t):PE X (.List es pos) (tLst t):=by
 intro pins s σ H Q I hq;refine wpAny_List_spliced (thn (h pos pins s σ H _ I hq) fun us s1 ⟨xs,H1,I1,r,z,q⟩=>⟨by rw [← r.length];exact z,?_⟩);have hf:H1 s1.z=none:=I1.hok.fresh (n11_ _);refine ⟨.ref s1.z,upd H1 s1.z (.lst xs),I1.laid (t':=s1.toks) (fun b u e=>n3_ _ e) (n11_ _) ?_,rfl,q _ hf⟩;exact ⟨z,us,0,r,n8_ _ rfl⟩
end
abbrev Sp:=List V→Hp→VK→XK→Prop
abbrev CXT:=List Env→Hp→Shared→XK→Value→?i
structure Env0 (P:Program) (w:World) (K:PySem.W.Frag) (mg:Str→Option Value) (base:Heap) (A:Around) (outer:List Env) (s:Shared) (H:Hp):Prop where
 frames:A.frames=some outer
 mod:Mod K mg base
 bs:∀ b o,base.get? b=some o→s.heap.get? b=some o∧H b=none
 bsz:base.objs.size≤s.z
 funs:s.heap.FunFrames base outer
 frf:∀ b∈frs outer,H b=none
 hok:HOk P w H s.heap
 bare:AllBare s.gens
def CE (outer:List Env) (P:Program) (w:World) (H:Hp) (s:Shared) (Q:VK) (u:Value) (s':Shared):Prop :=
 ∃ v H',s'.os=s.os∧AllBare s'.gens∧Un (frs outer) [] H H' s.heap s'.heap∧HOk P w H' s'.heap∧RelV v u∧Q v H'
def CR (CX:CXT) (outer:List Env) (P:Program) (w:World) (H:Hp) (s:Shared) (Q:VK) (E:XK) (r:Result) (s':Shared):Prop :=
 match r with
 | .ok (.ret u)=>CE outer P w H s Q u s'
 | .ok _=>False
 | .error e=>CX outer H s E e s'
structure FnOk (P:Program) (w:World) (K:PySem.W.Frag) (mg:Str→Option Value) (base:Heap) (CX:CXT) (k:Nat) (f:Addr) (fd:FuncData) (ps:List Str) (sp:Sp):Prop where
 len:∀ vs H Q E,sp vs H Q E→vs.length=ps.length
 run:∀ (A:Around) (outer:List Env) (s:Shared) (H:Hp) (args:Args) (us:?q) (vs:List V) (Q:VK) (E:XK),Room k A→Env0 P w K mg base A outer s H→BindsTo s fd args (ps.zip us)→Vals vs us→sp vs H Q E →
  codeAny (model P w) A (.call (.ref f) args) (CR CX outer P w H s Q E) s
section
variable {X:Cx} {pins:?y} {σ:St} {H:Hp} {s s':Shared}
theorem Inv.env0 (I:?k):Env0 X.prog X.w X.K X.mg X.base X.A X.stack s H :=
 ⟨I.ok.frames,I.ok.mod,I.bs,n53_ I.ok.bsz I.sz,I.stack,I.stkFree,I.hok,I.bare⟩
theorem Inv.after {Q:VK} (I:?k) (h:CE X.stack X.prog X.w H s Q u s'):EP X pins σ Q u s':=by
 obtain ⟨v,H',os,bare,un,hok,r,q⟩:=h;obtain ⟨hh,g,d,t,os'⟩:=s';obtain rfl:os'=s.os:=os;exact ⟨v,H',I.call (h':=hh) (g':=g) (d':=d) (t':=t) (ch:=[]) un hok bare (fun b z=>absurd z ?g),r,q⟩
end
def Zs9 (sp:Sp) (dvs:List V) (E:XK) (t:TA):TE:=fun σ H Q=>t σ H fun vs H1=>sp (vs++dvs) H1 Q E
def Binds (K:PySem.W.Frag) (fd:FuncData) (ps:List Str) (ds:?q):Prop :=
 ∀ (s:Shared) (us:?q),K.In s.heap→(us++ds).length=ps.length→BindsTo s fd ⟨us,[]⟩ (ps.zip (us++ds))
theorem Binds.all {K:PySem.W.Frag} {ps:List Str} (h:∀ us:?q,us.length=ps.length→bindArgs fd ⟨us,[]⟩=pure (ps.zip us)):Binds K fd ps []:=fun s us _ hl=>by
 rw [List.append_nil] at hl ⊢;exact .of_eq (h us hl)
def Zjr (CX:CXT) (X:Cx) (E:XK):Prop:=∀ (pins:?y) (σ:St) (H:Hp) (s:Shared) (e:Value) (s':Shared),?k→CX X.stack H s E e s'→X.xe e s'
section
variable {X:Cx} {CX:CXT} {k:Nat} {f C:Addr} {fd:FuncData} {ps:List Str} {sp:Sp} {dvs:List V} {ds:?q} {E:XK} {x m:Str} {p pos apos:Pos} {e o:Expr} {es:List Expr} {ta:TE} {t:TA}
theorem Zrg {Q:VK} (F:FnOk X.prog X.w X.K X.mg X.base CX k f fd ps sp) (hr:Room k X.A) (hb:Binds X.K fd ps ds) (hd:Vals dvs ds) (hx:Zjr CX X E)
 (I:?k) (r:Vals vs us) (h:sp (vs++dvs) H Q E):wpAny ?t X.A (call (.ref f) us) (EP X pins σ Q) X.xe s:=by
 have r2:Vals (vs++dvs) (us++ds):=r.append hd;have hl:(us++ds).length=ps.length:=by rw [← r2.length];exact F.len _ _ _ _ h
 refine wpAny_call (codeAny_mono (F.run X.A X.stack s H ⟨us,[]⟩ (us++ds) (vs++dvs) Q E hr I.env0 (hb s us I.kIn hl) r2 h) fun r s' hq=>?_);cases r with
 | error e=>exact hx pins σ H s e s' I hq
 | ok fl =>
   cases fl with
   | ret u=>exact I.after hq
   | next=>exact False.elim hq
   | brk=>exact False.elim hq
   | cont=>exact False.elim hq
theorem Zr1 (F:FnOk X.prog X.w X.K X.mg X.base CX k f fd ps sp) (hr:Room k X.A) (hg:Gl X x) (hm:X.mg x=some (.ref f)) (hk:PySem.W.keepIn X.K (.ref f)=true) (hb:Binds X.K fd ps ds) (hd:Vals dvs ds) (hx:Zjr CX X E)
 (ha:PA X (e :: es) t) (hdb:(x == ("__debug__" : Str))=false:=by decide) (he:starEach (e :: es) X.env=(false,eval e X.env) :: starEach es X.env:=by rfl) (hpl:(backTo pos (starEach es X.env)).any (·.1)=false:=by rfl) :
 PE X (.Call (.Name x p) (e :: es) [] pos) (Zs9 sp dvs E t):=by
 intro pins s σ H Q I h;refine wpAny_Call_Name_kw (Zjk I hg hm ?_ hdb);refine PySem.W.callWith_K (h₀:=X.base) I.ok.mod.kin hk (thn (ha pos pins s σ H _ I h) fun us s1 ⟨vs,H1,I1,r,q⟩=>⟨I1.kIn,?_⟩) he hpl;exact Zrg F hr hb hd hx I1 r q
theorem Zpv (F:FnOk X.prog X.w X.K X.mg X.base CX k f fd ps sp) (hr:Room k X.A) (hg:Gl X x) (hm:X.mg x=some (.ref f)) (hk:PySem.W.keepIn X.K (.ref f)=true) (hb:Binds X.K fd ps ds) (hd:Vals dvs ds) (hx:Zjr CX X E)
 (hdb:(x == ("__debug__" : Str))=false:=by decide):PE X (.Call (.Name x p) [] [] pos) (Zs9 sp dvs E tNil):=by
 intro pins s σ H Q I h;refine wpAny_Call_Name_kw (Zjk I hg hm ?_ hdb);exact PySem.W.callWith_K0 I.kIn hk (Zrg (us:=[]) F hr hb hd hx I .nil h)
end
section
variable {X:Cx} {CX:CXT} {k:Nat} {f C:Addr} {fd:FuncData} {ps ks:List Str} {sp:Sp} {E:XK} {x m:Str} {p pos apos kpos:Pos} {e o:Expr} {es:List Expr} {kws:List Keyword} {te ta:TE} {t tk:TA} {nm:Option Str}
variable {g:?q→?q→?q} {gV:List V→List V→List V}
end
structure FnScope (N P:List Str) (sc:Scope):Prop where
 kind:sc.kind=.function
 co:sc.isCoroutine=false
 gen:sc.isGenerator=false
 nd:N.Nodup
 pre:N.take P.length=P
 par:∀ x∈P,sc.names.lookup x=some .local∨sc.names.lookup x=some .cell
 nofree:∀ y∈sc.names,y.2≠.free
theorem Zgs {kindOf:Str→Option NameKind}:∀ {binds:List (Str×Value)} {m:Str→Option Value},(∀ v,(x,v)∉binds)→bindL kindOf binds m x=m x
 | [],_,_=>rfl
 | (n,v) :: r,m,h=>by
   unfold bindL;rw [Zgs fun w hw=>h w (n16_ _ hw)];split
   · have:x≠n:=by rintro rfl;exact h v n19_
     simp [this]
   · rfl
theorem Zhd {kindOf:Str→Option NameKind}:∀ {binds:List (Str×Value)} {m:Str→Option Value},(∀ v,(x,v)∉binds)→bindC kindOf binds m x=m x
 | [],_,_=>rfl
 | (n,v) :: r,m,h=>by
   unfold bindC;rw [Zhd fun w hw=>h w (n16_ _ hw)];split
   · rfl
   · have:x≠n:=by rintro rfl;exact h v n19_
     simp [this]
theorem Zhz {kindOf:Str→Option NameKind} {v:Value}:∀ {P:List Str} {vs:?q} {i:Nat} {m:Str→Option Value},P.Nodup→P[i]? = some x→vs[i]? = some v→kindOf x=some .local →
 bindL kindOf (P.zip vs) m x=some v
 | [],_,_,_,_,h,_,_=>by simp at h
 | _ :: _,[],_,_,_,_,h,_=>by simp at h
 | p :: P,w :: vs,0,m,nd,h1,h2,hk=>by
   simp at h1 h2;subst h1;subst h2;show bindL kindOf ((p,w) :: P.zip vs) m p=_
   unfold bindL;rw [Zgs fun v hv=>(n71_.mp nd).1 (List.of_mem_zip hv).1,if_pos hk]
   simp
 | p :: P,w :: vs,i+1,m,nd,h1,h2,hk=>by
   show bindL kindOf ((p,w) :: P.zip vs) m x=_
   unfold bindL;exact Zhz (i:=i) (n71_.mp nd).2 (by simpa using h1) (by simpa using h2) hk
theorem Zg3 {kindOf:Str→Option NameKind} {v:Value}:∀ {P:List Str} {vs:?q} {i:Nat} {m:Str→Option Value},P.Nodup→P[i]? = some x→vs[i]? = some v→kindOf x≠some .local →
 bindC kindOf (P.zip vs) m x=some v
 | [],_,_,_,_,h,_,_=>by simp at h
 | _ :: _,[],_,_,_,_,h,_=>by simp at h
 | p :: P,w :: vs,0,m,nd,h1,h2,hk=>by
   simp at h1 h2;subst h1;subst h2;show bindC kindOf ((p,w) :: P.zip vs) m p=_
   unfold bindC;rw [Zhd fun v hv=>(n71_.mp nd).1 (List.of_mem_zip hv).1,if_neg hk]
   simp
 | p :: P,w :: vs,i+1,m,nd,h1,h2,hk=>by
   show bindC kindOf ((p,w) :: P.zip vs) m x=_
   unfold bindC;exact Zg3 (i:=i) (n71_.mp nd).2 (by simpa using h1) (by simpa using h2) hk
def start (N:List Str) (vs:List V):St:=vs.map some++List.replicate (N.length-vs.length) none
def cxOf (CX:CXT) (P:Program) (w:World) (K:PySem.W.Frag) (mg:Str→Option Value) (base:Heap) (N:List Str) (qual:Str) (scope:Scope) (f:Addr) (cd:Value) (A:Around) (outer:List Env) (s:Shared) (H:Hp) (E:XK):Cx where
 prog:=P
 w:=w
 K:=K
 mg:=mg
 base:=base
 A:=A.deeper (envOfC qual scope s.z f cd)
 N:=N
 s₀:=s
 H₀:=H
 env:=envOfC qual scope s.z f cd
 outer:=outer
 stack:=envOfC qual scope s.z f cd :: outer
 ex:=[]
 calm:=true
 fn:=fun _=>true
 pn:=[]
 xe:=fun e s'=>wpAny (model P w) (A.deeper (envOfC qual scope s.z f cd)) (leaving (envOfC qual scope s.z f cd) e) (fun _ s''=>CX outer H s E e s'') (fun e' s''=>CX outer H s E e' s'') s'
theorem Zw {sc:Scope} (h:sc.names.lookup x=some .cell):∃ c,(cellsFrom n sc.names []).lookup x=some c:=by
 have q:=PySem.W.cellsFrom_some sc.names n [] (.inl h);exact Option.isSome_iff_exists.mp q
theorem Zox {CX:CXT} {K:PySem.W.Frag} {mg:Str→Option Value} {base:Heap} {ps:List Str} {cd:Value} {outer:List Env} {s1:Shared} {E:XK}
 (S:FnScope N ps scope) (hd:A.handled=none) (e0:Env0 P w K mg base A outer s H) (hl:vs.length=ps.length) (r:Vals vs us)
 (x:InCallC s s.z (bindL (envOfC qual scope s.z f cd).kindOf (ps.zip us) fun _=>none) (cellsFrom (s.z+1) scope.names []) (bindC (envOfC qual scope s.z f cd).kindOf (ps.zip us) fun _=>none) s1) :
 Inv (cxOf CX P w K mg base N qual scope f cd A outer s H E) [] (start N vs) H s1:=by
 have hpl:ps.length≤N.length:=by have:=congrArg List.length S.pre;rw [n59_] at this;omega
 obtain ⟨h1,tk,rfl,hk⟩:=x.done;have noA:∀ b:Addr,b∉(cxOf CX P w K mg base N qual scope f cd A outer s H E).ex:=fun b z=>absurd (show b∈([]:List Addr) from z) ?g
 refine ⟨⟨e0.mod,S.kind,rfl,rfl,n11_ _,fun y z c h1 h2=>?_,fun y hy=>?_,fun y c _ h=>?_,fun _=>hd,Around.frames_deeper e0.frames,.inr ⟨rfl,rfl⟩,fun b z=>absurd z (noA b),e0.bs,e0.bsz,fun b _ _=>noA b,fun b z=>absurd z (noA b),e0.funs,e0.frf⟩,
  rfl,e0.bare,Un.kept hk,⟨_,x.toInCall.ns,fun i y v h1 h2 h3=>?_⟩,fun y c h=>⟨_,x.cell y c h⟩,e0.hok.fresh (n11_ _),fun y c h=>?_,fun p hp=>absurd (show p∈([]:?y) from hp) ?g,e0.hok.kept hk,?_⟩
 · exact name_of_addr x.apart (n39_ h1) (n39_ h2)
 · have hy:scope.names.lookup y=some .cell∨scope.names.lookup y=some .free:=hy
   rcases hy with hy|hy
   · exact Zw hy
   · exact absurd rfl (S.nofree _ (n39_ hy))
 · exact Nat.le_of_lt (x.above y c (n39_ h))
 · have hi:i<vs.length:=by
    unfold start at h2
    by_cases hi:i<vs.length
    · exact hi
    · rw [n34_ (by simpa using hi)] at h2;rw [List.getElem?_replicate] at h2;split at h2<;>cases h2
   have ha:vs[i]? = some v:=by
    unfold start at h2;rw [n41_ (by simpa using hi),n7_] at h2;cases e:vs[i]? with
    | none=>rw [e] at h2;cases h2
    | some a=>rw [e] at h2;cases h2;rfl
   obtain ⟨u,hu,rv⟩:=r.get ha
   have hp:ps[i]? = some y:=by
    rw [← S.pre,List.getElem?_take_of_lt (?d)];exact h1
   have ndP:ps.Nodup:=by rw [← S.pre];exact S.nd.sublist (List.take_sublist _ _)
   refine ⟨u,rv,?_⟩
   rcases S.par y (n6_ hp) with k|k
   · exact .inl ⟨k,Zhz ndP hp hu k⟩
   · obtain ⟨c,e⟩:=Zw (n:=s.z+1) k;refine .inr ⟨.inl k,c,e,?_⟩;have q:=x.cell y c e;rw [Zg3 ndP hp hu (by show scope.names.lookup y≠_;rw [k];decide)] at q;exact q
 · exact .inl (e0.hok.fresh (Nat.le_of_lt (x.above y c (n39_ h))))
 · unfold start;show _=N.length
   rw [n21_,n5_,List.length_replicate];omega
theorem Zwk {CX:CXT} {K:PySem.W.Frag} {mg:Str→Option Value} {base:Heap} {name:Str} {params:Arguments} {body:List Stmt} {dV kV doc pm cdv ct oc:Value} {an od:Option Addr}
 {osl:Array (Option Value)} {ps:List Str} {sp:Sp} (lk:K.lookup f=some ⟨oc,od,.func (PySem.W.fnOf name qual params body scope dV kV doc pm an cdv ct),osl⟩) (hcd:PySem.W.codeIn K cdv qual=true) (S:FnScope N ps scope)
 (len:∀ vs H Q E,sp vs H Q E→vs.length=ps.length)
 (hbody:∀ (A:Around) (outer:List Env) (s:Shared) (H:Hp) (vs:List V) (Q:VK) (E:XK),Room k (A.deeper (envOfC qual scope s.z f cdv))→sp vs H Q E →
   ∃ t,PSs (cxOf CX P w K mg base N qual scope f cdv A outer s H E) body t∧t { nx:=fun _ H'=>Q .non H',rt:=Q } (start N vs) H) :
 FnOk P w K mg base CX (k+1) f (PySem.W.fnOf name qual params body scope dV kV doc pm an cdv ct) ps sp:=by
 refine ⟨len,fun A outer s H args us vs Q E hr e0 hb r hsp=>?_⟩;have hl:=len _ _ _ _ hsp;have KX:K.In s.heap:=e0.mod.kin.keeps fun b o e=>(e0.bs b o e).1;have lim:s.heap.NoLimit:=e0.mod.nolimit.keeps fun b o e=>(e0.bs b o e).1
 have hkind:∀ y∈ps.zip us,scope.names.lookup y.1=some .local∨(scope.names.lookup y.1=some .cell∧((cellsFrom (s.z+1) scope.names []).lookup y.1).isSome=true):=fun ⟨n,v⟩ hy=>by
  rcases S.par n (List.of_mem_zip hy).1 with q|q
  · exact .inl q
  · exact .inr ⟨q,PySem.W.cellsFrom_some _ _ _ (.inl q)⟩
 refine codeAny_call_function hr.depth (KX _ _ lk) rfl S.co S.gen rfl (PySem.W.codeRec_of KX hcd) (hb _ _ _ _ ?_);refine wpAny_newFunctionEnv_cells S.kind hkind fun env he s1 x=>?_;subst he;refine ⟨lim.keeps x.toInCall.keep,codeAny_func ?_⟩;obtain ⟨t,ht,hq⟩:=hbody A outer s H vs Q E (hr.deeper _) hsp;have I:Inv (cxOf CX P w K mg base N qual scope f cdv A outer s H E) [] (start N vs) H s1:=Zox S hr.hd e0 hl r x;refine n38_ (ht [] s1 (start N vs) H _ I hq) (fun fl s' hs=>?_) fun e s' hs=>hs
 have fin:∀ {σ':St} {H':Hp} {v:V} {u:Value},Inv (cxOf CX P w K mg base N qual scope f cdv A outer s H E) [] σ' H' s'→RelV v u→Q v H'→CE outer P w H s Q u s' :=
  fun {σ' H' v u} J rv q=>⟨v,H',J.os,J.bare,J.base,J.hok,rv,q⟩
 cases fl with
 | ret u =>
   obtain ⟨v,σ',H',J,rv,q⟩:=hs;exact fin J rv q
 | next =>
   obtain ⟨σ',H',J,q⟩:=hs;exact fin (v:=V.non) (u:=Value.none) J rfl q
 | brk =>
   obtain ⟨_,_,_,q⟩:=hs;exact False.elim q
 | cont =>
   obtain ⟨_,_,_,q⟩:=hs;exact False.elim q
section
variable {X:Cx} {x:Str} {p pos:Pos} {e:Expr} {es:List Expr} {t:TA} {id T:String} {r:List V→Hp→VK→Prop}
def tCB (r:List V→Hp→VK→Prop) (t:TA):TE:=fun σ H Q=>t σ H fun vs H1=>r vs H1 Q
theorem Zk (hc:Yv X (.builtin id) r) (hg:Gl X x) (hm:X.mg x=none) (hv:bootBuiltins x=some (.builtin id)) (ha:PA X (e :: es) t) (hn:x ≠ "__name__" := by decide) (hdb:(x == ("__debug__" : Str))=false:=by decide)
 (he:starEach (e :: es) X.env=(false,eval e X.env) :: starEach es X.env:=by rfl) (hpl:(backTo pos (starEach es X.env)).any (·.1)=false:=by rfl):PE X (.Call (.Name x p) (e :: es) [] pos) (tCB r t):=by
 intro pins s σ H Q I h;refine wpAny_Call_Name_kw (Zbr I hg hm hv ?_ hn hdb);exact PyProof.Rows.callWith_builtin1 (thn (ha pos pins s σ H _ I h) fun us s1 ⟨vs,H1,I1,r1,q1⟩=>hc pins s1 σ H1 vs us Q I1 r1 q1) he hpl
theorem Z3 (hc:Yv X (.type T) r) (hg:Gl X x) (hm:X.mg x=none) (hv:bootBuiltins x=some (.type T)) (ha:PA X (e :: es) t) (hn:x ≠ "__name__" := by decide) (hdb:(x == ("__debug__" : Str))=false:=by decide)
 (he:starEach (e :: es) X.env=(false,eval e X.env) :: starEach es X.env:=by rfl) (hpl:(backTo pos (starEach es X.env)).any (·.1)=false:=by rfl):PE X (.Call (.Name x p) (e :: es) [] pos) (tCB r t):=by
 intro pins s σ H Q I h;refine wpAny_Call_Name_kw (Zbr I hg hm hv ?_ hn hdb);exact n58_ (thn (ha pos pins s σ H _ I h) fun us s1 ⟨vs,H1,I1,r1,q1⟩=>hc pins s1 σ H1 vs us Q I1 r1 q1) he hpl
end
end L2
namespace HT
open PySem PyProof.Rows
def lexLt:?e→?e→Bool
 | [],[]=>false
 | [],_ :: _=>true
 | _ :: _,[]=>false
 | x :: xs,y :: ys=>if x=y then lexLt xs ys else decide (x<y)
theorem lexLt_cons (x y:Int) (xs ys:?e):lexLt (x :: xs) (y :: ys)=if x=y then lexLt xs ys else decide (x<y):=rfl
theorem Zfx:lexLt [] []=false:=rfl
theorem Zd5 (y:Int) (ys:?e):lexLt [] (y :: ys)=true:=rfl
theorem Zd3 (x:Int) (xs:?e):lexLt (x :: xs) []=false:=rfl
theorem Zqa (A:Around) (s:Shared) (a:Int) (t:Tok) (c:Int) (u:Tok):∃ e,SeqAt.EqAt A s (.int a t) (.int c u) e∧(e=true↔a=c) :=
 ⟨(a == c),SeqAt.EqAt.int_int a t c u,by simp⟩
theorem Zqo (A:Around) (s:Shared) (a:Int) (t:Tok) (c:Int) (u:Tok) (prog:Program) (w:World) (E:Value→?i) (Q:Value→?i) (h:Q (.bool (decide (a<c))) s) :
 wpAny ?p A (richCompare .Lt (.int a t) (.int c u)) Q E s :=
 (PyProof.Rows.lt_int h:wpAny ?p A (compareOp .Lt (.int a t) (.int c u)) Q E s)
section
open PySem.SeqAt
open PySem.AutoSeq1 (wpAny_loadPart')
open PySem.MeetsSeq PySem.MeetsSeq2 PySem.MeetsSeq3
theorem Zfo (l b:Addr) (items items2:Array Value) (n n2:Nat) (dd dd2:Option Addr) (sl sl2:Array (Option Value)) (ns ms:?e) (hi:IntsAre items.toList ns) (hj:IntsAre items2.toList ms) :
 Meets (Builtin.«tuple.__lt__» ⟨[.ref l,.ref b],[]⟩)
  (fun _ R s=>s.heap.get? l=some { cls:=.type "tuple",dict:=dd,data:=.seq items n,slots:=sl }∧s.heap.get? b=some { cls:=.type "tuple",dict:=dd2,data:=.seq items2 n2,slots:=sl2 } ∧
    R (.ok (.ret (.bool (lexLt ns ms)))) s) :=
 .of_wp fun prog w A R s h=>by
  obtain ⟨hp,g,d,tk,os⟩:=s;obtain ⟨hl,hb,h⟩:=h;have f2:=AutoSeq1.sub_tuple_tuple;have z1:items.size=ns.length:=by rw [← hi.length];simp
  have z2:items2.size=ms.length:=by rw [← hj.length];simp
  wp_walk using wpAny_loadPart' hl,wpAny_loadPart' hb,wpAny_forIn_list _ (fun rest b s'=>b.1=none∧s'=⟨hp,g,d,tk,os⟩∧∃ (vs ws:?q) (ns' ms':?e),rest=vs.zip ws ∧
   IntsAre vs ns'∧IntsAre ws ms'∧ns'.length+items2.size=ms'.length+items.size∧R (.ok (.ret (.bool (lexLt ns' ms')))) ⟨hp,g,d,tk,os⟩) _
  case turn =>
   rintro ⟨y,x⟩ rest b s' ⟨hb',rfl,vs,ws,ns',ms',hz,hvi,hwi,hlen,hR⟩
   cases hvi with
   | nil=>rw [List.zip_nil_left] at hz;cases hz
   | cons a t hvi' =>
     cases hwi with
     | nil=>rw [List.zip_nil_right] at hz;cases hz
     | cons c u hwi' =>
       rw [List.zip_cons_cons] at hz;injection hz with hyx hrest
       injection hyx with hy hx
       subst hy hx;rw [lexLt_cons] at hR;simp only [n18_] at hlen;obtain ⟨e,he,hiff⟩:=Zqa A.in1 ⟨hp,g,d,tk,os⟩ a t c u;refine n0_ (he prog w _ _ ?_);cases e with
       | true =>
         rw [if_pos (hiff.mp rfl)] at hR
         wp_walk
         exact ⟨rfl,rfl,_,_,_,_,hrest,hvi',hwi',?d,hR⟩
       | false =>
         rw [if_neg (fun q=>absurd (hiff.mpr q) n17_)] at hR;have hri:=Zqo A.in1 ⟨hp,g,d,tk,os⟩ a t c u prog w
         wp_walk using hri
         exact ⟨_,rfl,by simpa using hR⟩
  case fin =>
   rintro ⟨b1,b2⟩ s' ⟨hb',rfl,vs,ws,ns',ms',hz,hvi,hwi,hlen,hR⟩
   simp only at hb';subst hb'
   have hv:lexLt ns' ms'=decide (items.size<items2.size):=by
    cases hvi with
    | nil =>
      cases hwi with
      | nil =>
        simp only [n79_] at hlen;rw [Zfx];exact (n36_ (?d)).symm
      | cons c u hw =>
        simp only [n79_,n18_] at hlen;rw [Zd5];exact (n32_ (?d)).symm
    | cons a t hv =>
      cases hwi with
      | nil =>
        simp only [n79_,n18_] at hlen;rw [Zd3];exact (n36_ (?d)).symm
      | cons c u hw =>
        rw [List.zip_cons_cons] at hz;cases hz
   rw [hv] at hR
   wp_walk
   exact ⟨_,rfl,by simpa [Builtin.Tuple.tupleCompareSizes] using hR⟩
  case h =>
   exact ⟨rfl,rfl,items.toList,items2.toList,ns,ms,rfl,hi,hj,?d,h⟩
end
section
variable {prog:Program} {w:World} {A:Around} {E:Value→?i} {s:Shared}
theorem lt_tupInts {l b:Addr} {items items2:Array Value} {ns ms:?e} {Q:Value→?i} (hl:IsTup s.heap l items) (hb:IsTup s.heap b items2) (hi:IntsAre items.toList ns) (hj:IntsAre items2.toList ms)
 (hu:A.units<cLine) (h:Q (.bool (lexLt ns ms)) s):wpAny ?p A (compareOp .Lt (.ref l) (.ref b)) Q E s:=by
 obtain ⟨⟨cls,dd,data,sl⟩,ho,hc,n,hd⟩:=id hl;obtain ⟨⟨cls2,dd2,data2,sl2⟩,ho2,hc2,n2,hd2⟩:=id hb;simp only at hc hd hc2 hd2;subst hc hd hc2 hd2
 exact richCompare_meets_room (op:=.Lt) ⟨_,ho,rfl⟩ ⟨_,ho2,rfl⟩ PySem.F.slot_tuple_lt PySem.F.entry_tuple_lt (PySem.F.args_tuple_lt_2 _ _) (Zfo l b items items2 n n2 dd dd2 sl sl2 ns ms hi hj)
  ⟨ho,ho2,show Value.bool (lexLt ns ms)≠Value.notImplemented∧Q (.bool (lexLt ns ms)) s from ⟨(fun x=>nomatch x),h⟩⟩ hu
def sIx (n d:Nat):Option Int→Nat
 | none=>d
 | some v=>if v<0 then (v+(n:Int)).toNat else min v.toNat n
theorem sIx_none (n d:Nat):sIx n d none=d:=rfl
theorem sIx_nat (n d k:Nat):sIx n d (some (k:Int))=min k n:=by
 show (if (k:Int)<0 then ((k:Int)+(n:Int)).toNat else min (k:Int).toNat n)=min k n
 rw [if_neg (?d),n63_]
theorem Zuh (n d:Nat) (hd:d≤n) (o:Option Int):sIx n d o≤n:=by
 cases o with
 | none=>exact hd
 | some v =>
   show (if v<0 then (v+(n:Int)).toNat else min v.toNat n)≤n
   by_cases hv:v<0
   · rw [if_pos hv];omega
   · rw [if_neg hv];exact Nat.min_le_right _ _
theorem Zml (v:Int) (n d:Nat):(if v<0 then max (v+(n:Int)) 0 else min v (n:Int))=((sIx n d (some v):Nat):Int):=by
 show (if v<0 then max (v+(n:Int)) 0 else min v (n:Int))=(((if v<0 then (v+(n:Int)).toNat else min v.toNat n):Nat):Int)
 by_cases hv:v<0
 · simp only [if_pos hv];omega
 · simp only [if_neg hv];omega
theorem Zlc (lo hi:Option Int) (n:Nat):Builtin.Slice.sliceAdjust lo hi 1 (n:Int)=(((sIx n 0 lo:Nat):Int),((sIx n n hi:Nat):Int)):=by
 have h1:¬ ((1:Int)<0):=?d
 unfold Builtin.Slice.sliceAdjust;simp only [h1,if_false];refine Prod.ext ?_ ?_
 · cases lo with
   | none=>rfl
   | some v=>exact Zml v n 0
 · cases hi with
   | none=>rfl
   | some v=>exact Zml v n n
theorem Zlk (i j:Nat):Builtin.Slice.slicePlaces (i:Int) (j:Int) 1=j-i:=by
 unfold Builtin.Slice.slicePlaces;have h1:(1:Int)>0:=?d
 simp only [h1,if_true,Int.ediv_one];split<;>omega
theorem Zec {v:Value} {o:Option Int} {Q:Option Int→?i} (p:IsPart v o) (h:Q o s):wpAny ?p A (Builtin.Slice.slicePartIndex v) Q E s:=by
 cases p with
 | none=>exact slicePart_none h
 | int i t=>exact slicePart_int h
theorem Zar {sl:Addr} {vl vu:Value} {lo hi:Option Int} {n:Nat} {Q:Int×Int×Nat→?i} (hs:s.heap.IsSliceOf sl vl vu .none) (pl:IsPart vl lo) (pu:IsPart vu hi)
 (h:Q (((sIx n 0 lo:Nat):Int),1,sIx n n hi-sIx n 0 lo) s):wpAny ?p A (Builtin.Slice.sliceApplied (.ref sl) (pure (n:Int))) Q E s:=by
 obtain ⟨os,hos,hcs,hds⟩:=id hs;unfold Builtin.Slice.sliceApplied Builtin.Slice.sliceFields;refine n0_ (n0_ (wpAny_field hos hds (x:=vl) rfl (n0_ (wpAny_field hos hds (x:=vu) rfl (n0_ (wpAny_field hos hds (x:=.none) rfl (n2_ ?_)))))));refine n0_ (slicePart_none ?_);show wpAny _ _ (if ((1:Int) == 0)=true then _ else _) _ _ s
 rw [if_neg ?f];refine n0_ (Zec pl (n0_ (Zec pu (n0_ (n2_ ?_)))));show wpAny _ _ (match Builtin.Slice.sliceAdjust lo hi 1 (n:Int) with|(lo,hi)=>pure (lo,(1:Int),Builtin.Slice.slicePlaces lo hi 1)) _ _ s
 rw [Zlc lo hi n];show wpAny _ _ (pure (((sIx n 0 lo:Nat):Int),(1:Int),Builtin.Slice.slicePlaces ((sIx n 0 lo:Nat):Int) ((sIx n n hi:Nat):Int) 1)) _ _ s
 rw [Zlk];exact n2_ h
theorem Zpo (xs:Array Value) (i k:Nat):((List.range k).filterMap fun (m:Nat)=>xs[((i:Int)+(m:Int)*1).toNat]?).toArray=((xs.toList.drop i).take k).toArray:=by
 have e:(fun (m:Nat)=>xs[((i:Int)+(m:Int)*1).toNat]?)=fun m=>xs[i+m]?:=by
  funext m
  have:((i:Int)+(m:Int)*1).toNat=i+m:=?d
  rw [this]
 rw [e]
 have:=pick_run xs i k
 rw [List.filterMap_map] at this;have e2:((fun x=>xs[x]?) ∘ fun x=>i+x)=fun m=>xs[i+m]?:=rfl;rw [e2] at this;rw [this]
theorem getItem_tuple_cut {t sl:Addr} {items:Array Value} {vl vu:Value} {lo hi:Option Int} {Q:Value→?i} (ht:IsTup s.heap t items) (hs:s.heap.IsSliceOf sl vl vu .none) (pl:IsPart vl lo) (pu:IsPart vu hi)
 (hw:¬ (sIx items.size 0 lo=0∧sIx items.size items.size hi=items.size))
 (h:Q (.ref s.z) { s with heap:=s.heap.push { cls:=.type "tuple",data:=.seq ((items.toList.drop (sIx items.size 0 lo)).take (sIx items.size items.size hi-sIx items.size 0 lo)).toArray } })
 (hsz:items.size≤sizeLine):wpAny ?p A (getItem (.ref t) (.ref sl)) Q E s:=by
 have htake:sizeOk (.seq ((items.toList.drop (sIx items.size 0 lo)).take (sIx items.size items.size hi-sIx items.size 0 lo)).toArray):=by
  show ((items.toList.drop (sIx items.size 0 lo)).take (sIx items.size items.size hi-sIx items.size 0 lo)).toArray.size≤sizeLine
  rw [n15_,n59_,List.length_drop,Array.length_toList];omega
 have hj:sIx items.size items.size hi≤items.size:=Zuh _ _ (n11_ _) hi;obtain ⟨os,hos,hcs,hds⟩:=id hs;have hTs:s.TypeIs (.ref sl) "slice" := ⟨os,hos,hcs⟩;unfold getItem
 try with_reducible refine n30_ ?_
 first|refine n0_ (n2_ ?_)|skip
 refine n0_ (wpAny_sequenceKey ht.typeIs ?f ?_)
 refine n0_ (wpAny_callSpecial?_slot (name:=Str.ofString "__getitem__") ht.typeIs PyProof.Rows.slot_tuple_getitem
  (wpAny_call_entry PyProof.Rows.slot_tuple_getitem ht.typeIs entry_tuple_getitem ?_ (args_tuple_getitem _ _)))
 show wpAny _ _ (Builtin.Tuple.tupleItemsOf (.ref t) >>= _) _ _ s
 refine n0_ (tupleItemsOf_ ht ?_);refine n0_ (wpAny_typeOf hTs ?_);rw [if_pos ?f];refine n0_ (Zar hs pl pu ?_)
 have hno:¬ ((((sIx items.size 0 lo:Nat):Int) == 0&&(1:Int) == 1&&(sIx items.size items.size hi-sIx items.size 0 lo) == items.size)=true):=by
  intro q;rw [n40_,n40_] at q;have q1:((sIx items.size 0 lo:Nat):Int)=0:=eq_of_beq q.1.1;have q2:sIx items.size items.size hi-sIx items.size 0 lo=items.size:=eq_of_beq q.2;exact hw ⟨?d,?d⟩
 show wpAny _ _ (if (((sIx items.size 0 lo:Nat):Int) == 0&&(1:Int) == 1&&(sIx items.size items.size hi-sIx items.size 0 lo) == items.size)=true then _ else _) _ _ s
 rw [if_neg hno,Zpo]
 first
  | exact n0_ (m:=Builtin.Tuple.tupleExact _) (wpAny_newObj_type (n2_ ⟨_,rfl,n2_ h⟩) htake)
  | exact n0_ (m:=Builtin.Tuple.tupleExact _) (wpAny_newObj_type (n0_ (n2_ (n2_ ⟨_,rfl,n2_ h⟩))) htake)
  | exact n0_ (n0_ (m:=Builtin.Tuple.tupleExact _) (wpAny_newObj_type (n2_ (n2_ ⟨_,rfl,n2_ h⟩)) htake))
  | exact n0_ (n0_ (m:=Builtin.Tuple.tupleExact _) (wpAny_newObj_type (n2_ ⟨_,rfl,n2_ h⟩) htake))
end
end HT
namespace L2
open PySem PySem.Spec PyProof.Rows
abbrev TO:=St→Hp→(Option Int→?o)→Prop
def PO (X:Cx) (e:Option Expr) (t:TO):Prop :=
 ∀ (pins:?y) (s:Shared) (σ:St) (H:Hp) (Q:Option Int→?o),?k→t σ H Q →
   wpAny ?t X.A (evalPart e X.env) (fun u s'=>∃ o H',Inv X pins σ H' s'∧IsPart u o∧Q o H') X.xe s
def Zsl:TO:=fun _ H Q=>Q none H
def Zwa (t:TE):TO:=fun σ H Q=>t σ H fun x H1=>∃ i,x=.int i∧Q (some i) H1
variable {α:Type} {A:Around} {H:Hp} {pins:?y} {ns:?e} {xs:List V} {its us:?q} {j n t':Nat} {s:Shared} {σ:St} {y:V} {u:Value}
theorem X6:∀ {us:?q},Vals (ns.map V.int) us→IntsAre us ns:=by
 induction ns with
 | nil=>intro us r;rw [List.map_nil] at r;cases r;exact .nil
 | cons n ns ih =>
   intro us r;rw [n31_] at r;cases r with
   | cons r1 r2 =>
     obtain ⟨t,e⟩:=r1;subst e;exact .cons n t (ih r2)
section
variable {X:Cx} {e:Expr} {te:TE} {lo hi:Option Expr} {tl th:TO} {pos p2:Pos}
theorem Zjc:PO X none Zsl:=by
 intro pins s σ H Q I h;rw [evalPart_none];exact n2_ ⟨none,H,I,.none,h⟩
theorem Zjj (h:PE X e te):PO X (some e) (Zwa te):=by
 intro pins s σ H Q I hw;rw [evalPart_some];refine thn (h pins s σ H _ I hw) fun u s1 ⟨x,H1,I1,r1,q1⟩=>?_;obtain ⟨i,rfl,q⟩:=q1;obtain ⟨t,rfl⟩:=r1;exact ⟨some i,H1,I1,.int i t,q⟩
def SlR (X:Cx) (r:V→Option Int→Option Int→Hp→VK→Prop):Prop :=
 ∀ (pins:?y) (s:Shared) (σ:St) (H:Hp) (x:V) (v vl vu:Value) (lo hi:Option Int) (sl:Addr) (Q:VK),?k→RelV x v→s.heap.IsSliceOf sl vl vu .none→IsPart vl lo→IsPart vu hi→r x lo hi H Q →
   ∃ T id,typeLookup (.type T) "__getitem__" = pure (some (.builtin id))∧s.TypeIs v T∧wpAny ?t X.A (getItem v (.ref sl)) (EP X pins σ Q) X.xe s
def tSl (r:V→Option Int→Option Int→Hp→VK→Prop) (te:TE) (tl th:TO):TE:=fun σ H Q=>te σ H fun x H1=>tl σ H1 fun l H2=>th σ H2 fun u H3=>r x l u H3 Q
theorem Zf8 {r:V→Option Int→Option Int→Hp→VK→Prop} (hr:SlR X r) (he:PE X e te) (hl:PO X lo tl) (hu:PO X hi th):PE X (.Subscript e (.Slice lo hi none p2) pos) (tSl r te tl th):=by
 intro pins s σ H Q I h;refine Subscript_ (thn (he pins s σ H _ I h) fun v s1 ⟨x,H1,I1,r1,q1⟩=>?_);refine wpAny_Slice (thn (hl pins s1 σ H1 _ I1 q1) fun vl s2 ⟨l,H2,I2,pl,q2⟩=>thn (hu pins s2 σ H2 _ I2 q2) fun vu s3 ⟨u,H3,I3,pu,q3⟩=>?_);rw [evalPart_none];refine n2_ ?_;have I4:Inv X pins σ H3 { s3 with heap:=s3.heap.push { cls:=.type "slice",data:=.fields #[vl,vu,.none] } }:=I3.kept (t':=s3.toks) fun b ob q=>n3_ _ q;obtain ⟨T,id,hT,ht,hg⟩:=hr pins { s3 with heap:=s3.heap.push { cls:=.type "slice",data:=.fields #[vl,vu,.none] } } σ H3 x v vl vu l u s3.z Q I4 r1 (Heap.IsSliceOf.new ..) pl pu q3;show wpAny ?t X.A (subscriptTail e (.Slice lo hi none p2) v (.ref s3.z)) (EP X pins σ Q) X.xe { s3 with heap:=s3.heap.push { cls:=.type "slice",data:=.fields #[vl,vu,.none] } }
 exact tail_any (ops:=[.ref s3.z,v]) ht hT hg (by with_unfolding_all rfl)
def cutV (xs:List V) (lo hi:Option Int):List V:=(xs.drop (HT.sIx xs.length 0 lo)).take (HT.sIx xs.length xs.length hi-HT.sIx xs.length 0 lo)
theorem Zdn (xs:List V) (lo hi:Option Int):(cutV xs lo hi).length≤xs.length:=by
 unfold cutV;rw [n59_,List.length_drop];omega
inductive BxRSlT (K:PySem.W.Frag) (x:V) (lo hi:Option Int) (H:Hp) (Q:VK):Prop
 | mk (a:_) (xs:_) (q1:x=.ref a) (q2:SqT K H a xs) (q3:¬ (HT.sIx xs.length 0 lo=0∧HT.sIx xs.length xs.length hi=xs.length)) (q4:∀ p,H p=none→Q (.ref p) (upd H p (.tup (cutV xs lo hi)))):BxRSlT K x lo hi H Q
def rSlT (K:PySem.W.Frag):V→Option Int→Option Int→Hp→VK→Prop:=fun x lo hi H Q=>BxRSlT K x lo hi H Q
theorem Zvb:SlR X (rSlT X.K):=by
 intro pins s σ H x v vl vu lo hi sl Q I rx hs pl pu h;obtain ⟨a,xs,rfl,hx,hw,q⟩:=h;cases rx
 obtain ⟨its,r,ht,hz⟩:=I.tuple hx;have hlen:its.toArray.size=xs.length:=by rw [n15_];exact r.length.symm
 refine ⟨"tuple",_,PyProof.Rows.slot_tuple_getitem.lookup,ht.typeIs,?_⟩;refine HT.getItem_tuple_cut ht hs pl pu (by rw [hlen];exact hw) ?_ (by rw [hlen];exact hz);rw [hlen];refine ⟨.ref s.z,_,I.laid (t':=s.toks) (o:=.tup (cutV xs lo hi)) (fun b ob q=>n3_ _ q) (n11_ _) ?_,rfl,q _ (I.hok.fresh (n11_ _))⟩;exact ⟨n53_ (Zdn xs lo hi) hz,_,(r.drop (HT.sIx xs.length 0 lo)).take (HT.sIx xs.length xs.length hi-HT.sIx xs.length 0 lo),IsTupN.new _ _⟩
inductive BxRLtT (K:PySem.W.Frag) (x y:V) (H:Hp) (Q:VK):Prop
 | mk (a:_) (b:_) (ns:_) (ms:_) (q1:x=.ref a) (q2:y=.ref b) (q3:SqT K H a (ns.map V.int)) (q4:SqT K H b (ms.map V.int)) (q5:Q (.bl (HT.lexLt ns ms)) H):BxRLtT K x y H Q
def rLtT (K:PySem.W.Frag):R2:=fun x y H Q=>BxRLtT K x y H Q
theorem Zt9 (hu:X.A.units<cLine):OpR X (compareOp .Lt) (rLtT X.K):=by
 intro pins s σ H x y v u Q I rx ry h;obtain ⟨a,b,ns,ms,rfl,rfl,ha,hb,q⟩:=h;cases rx
 cases ry
 obtain ⟨its,r1,p1,_⟩:=I.tuple ha;obtain ⟨its2,r2,p2,_⟩:=I.tuple hb;have i1:IntsAre its.toArray.toList ns:=X6 r1;have i2:IntsAre its2.toArray.toList ms:=X6 r2;exact HT.lt_tupInts p1 p2 i1 i2 hu ⟨.bl (HT.lexLt ns ms),H,I,rfl,q⟩
theorem Vals.nil_iff (r:Vals xs us):us=[]↔xs=[]:=by
 cases r with
 | nil=>simp
 | cons _ _=>simp
end
def ixN (n:Nat) (i:Int):Option Nat:=if 0≤i then (if i<n then some i.toNat else none) else if -(n:Int)≤i then some (i+n).toNat else none
def atI {α:Type} (xs:List α) (i:Int):Option α:=(ixN xs.length i).bind fun j=>xs[j]?
theorem Ziq {i:Int} (h:ixN n i=some j):seqIndex? i n=some j∧j<n∧-(n:Int)≤i∧i<n:=by
 unfold ixN at h
 by_cases h0:0≤i
 · rw [if_pos h0] at h
   by_cases h1:i<n
   · rw [if_pos h1] at h;have e:i.toNat=j:=Option.some.inj h;exact ⟨by rw [seqIndex_of h0 h1,e],?d,?d,h1⟩
   · rw [if_neg h1] at h;cases h
 · rw [if_neg h0] at h
   by_cases h1:-(n:Int)≤i
   · rw [if_pos h1] at h;have e:(i+n).toNat=j:=Option.some.inj h;exact ⟨by rw [seqIndex_neg (?d) h1,e],?d,h1,?d⟩
   · rw [if_neg h1] at h;cases h
theorem Zmu {xs:List α} {i:Int} {v:α} (h:atI xs i=some v):∃ j,seqIndex? i xs.length=some j∧xs[j]? = some v∧j<xs.length∧-(xs.length:Int)≤i∧i<xs.length:=by
 unfold atI at h;cases e:ixN xs.length i with
 | none=>rw [e] at h;cases h
 | some j =>
   rw [e] at h;obtain ⟨h1,h2,h3,h4⟩:=Ziq e;exact ⟨j,h1,h,h2,h3,h4⟩
theorem Zca {xs:List α} {v:α} (h:xs[j]? = some v):atI xs (j:Int)=some v:=by
 have hj:j<xs.length:=(n12_.mp h).1
 have e:ixN xs.length (j:Int)=some j:=by
  unfold ixN;rw [if_pos (?d),if_pos (?d)];simp
 unfold atI;rw [e];exact h
def Zs3 (b:Expr):Prop:=∀ o i,subscripted b false o i=operate [o,i] (getItem o i)
def IxR (X:Cx) (r:R2):Prop :=
 ∀ (value slice:Expr) (pins:?y) (s:Shared) (σ:St) (H:Hp) (x y:V) (v u:Value) (Q:VK),?k→RelV x v→RelV y u→r x y H Q →
   subscripted slice false v u=operate [v,u] (getItem v u)→wpAny ?t X.A (subscriptTail value slice v u) (EP X pins σ Q) X.xe s
def MtR (X:Cx) (id:String) (r:V→List V→Hp→VK→Prop):Prop :=
 ∀ (pins:?y) (s:Shared) (σ:St) (H:Hp) (x:V) (xs:List V) (v:Value) (us:?q) (Q:VK),?k→RelV x v→Vals xs us→r x xs H Q →
   wpAny ?t X.A (call (.builtin id) (v :: us)) (EP X pins σ Q) X.xe s
section
variable {X:Cx} {a b:Expr} {ta tb:TE} {pos:Pos}
theorem Zt {r:R2} (hr:IxR X r) (ha:PE X a ta) (hb:PE X b tb) (hs:Zs3 b):PE X (.Subscript a b pos) (tOp r ta tb):=by
 intro pins s σ H Q I h;exact Subscript_ (binT ha hb I h fun v u s2 x y H2 I2 rx ry q=>hr a b pins s2 σ H2 x y v u Q I2 rx ry q (hs _ _))
inductive BxRIxL (K:PySem.W.Frag) (x y:V) (H:Hp) (Q:VK):Prop
 | mk (p:_) (xs:_) (i:_) (v:_) (q1:x=.ref p) (q2:y=.int i) (q3:SqL K H p xs) (q4:atI xs i=some v) (q5:Q v H):BxRIxL K x y H Q
def rIxL (K:PySem.W.Frag):R2:=fun x y H Q=>BxRIxL K x y H Q
inductive BxRIxT (K:PySem.W.Frag) (x y:V) (H:Hp) (Q:VK):Prop
 | mk (p:_) (xs:_) (i:_) (v:_) (q1:x=.ref p) (q2:y=.int i) (q3:SqT K H p xs) (q4:atI xs i=some v) (q5:Q v H):BxRIxT K x y H Q
def rIxT (K:PySem.W.Frag):R2:=fun x y H Q=>BxRIxT K x y H Q
theorem Yz:IxR X (rIxL X.K):=by
 intro value slice pins s σ H x y v u Q I rx ry h hs;obtain ⟨p,xs,i,z,rfl,rfl,hq,he,q⟩:=h;cases rx
 obtain ⟨t,rfl⟩:=ry;obtain ⟨its,r,pl,hz⟩:=I.list hq;obtain ⟨j,h1,h2,h3,h4,h5⟩:=Zmu he;obtain ⟨w,ew,rw'⟩:=r.get h2;have hl:=r.length;have hn:=Zdl;have fin:EP X pins σ Q w s:=⟨z,H,I,rw',q⟩
 by_cases h0:0≤i
 · have hj:i.toNat=j:=by
    rw [seqIndex_of h0 h5] at h1;exact Option.some.inj h1
   exact item_listR pl.isList h0 (?d) (by rw [hj];simpa using ew) fin hs
 · have hj:(i+(its.toArray.size:Int)).toNat=j:=by
    rw [seqIndex_neg (?d) h4] at h1;rw [n15_,← hl];exact Option.some.inj h1
   exact subscriptTail_builtinR (x:=w) pl.isList.typeIs slot_list_getitem.lookup
    (wpAny_getItem_list_neg (Q:=fun r s'=>r=w∧EP X pins σ Q r s') pl.isList (?d) (by rw [n15_]<;>omega) (?d) (by rw [hj];simpa using ew) ⟨rfl,fin⟩) hs
theorem Z7:IxR X (rIxT X.K):=by
 intro value slice pins s σ H x y v u Q I rx ry h hs;obtain ⟨p,xs,i,z,rfl,rfl,hq,he,q⟩:=h;cases rx
 obtain ⟨t,rfl⟩:=ry;obtain ⟨its,r,pl,hz⟩:=I.tuple hq;obtain ⟨j,h1,h2,h3,h4,h5⟩:=Zmu he;obtain ⟨w,ew,rw'⟩:=r.get h2;have hl:=r.length;have hn:=Zdl;have fin:EP X pins σ Q w s:=⟨z,H,I,rw',q⟩
 exact subscriptTail_builtinR (x:=w) pl.typeIs slot_tuple_getitem.lookup
  (getItem_tuple (j:=j) (Q:=fun r s'=>r=w∧EP X pins σ Q r s') pl (?d) (?d) (by rw [n15_,← hl];exact h1) (by simpa using ew) ⟨rfl,fin⟩) hs
theorem Zly (its:?q) (n j:Nat) (u:Value):Obj.mapSeq (·.setIfInBounds j u) { cls:=.type "list",data:=.seq its.toArray n }={ cls:=.type "list",data:=.seq (its.set j u).toArray n }:=by
 simp [Obj.mapSeq]
theorem Inv.lst {p:Addr} (I:?k) (h:H p=some (.lst xs)) :
 ∃ (its:?q) (n:Nat),Vals xs its∧s.heap.get? p=some { cls:=.type "list",data:=.seq its.toArray n }∧xs.length≤sizeLine:=by
 obtain ⟨z,its,n,r,e⟩:=I.hok p _ h;exact ⟨its,n,r,e,z⟩
theorem Inv.lstUpd {p:Addr} {ys:List V} {its':?q} {n':Nat} {f:Obj→Obj} (I:?k) (h:H p=some (.lst xs))
 (ho:s.heap.get? p=some { cls:=.type "list",data:=.seq its.toArray n }) (hf:f { cls:=.type "list",data:=.seq its.toArray n }={ cls:=.type "list",data:=.seq its'.toArray n' }) (r:Vals ys its') (hz:ys.length≤sizeLine) (t:Nat) :
 Inv X pins σ (upd H p (.lst ys)) { s with heap:=s.heap.update p f,toks:=t }:=by
 have e:(s.heap.update p f).get? p=some { cls:=.type "list",data:=.seq its'.toArray n' }:=by
  rw [n56_ f ho (by rw [hf]<;>rfl),hf]
 refine I.write (x:=p) (e:=p) (by rw [h];trivial) (.inl rfl) (fun b u hb q=>(Heap.get?_update_other _ _ (Ne.symm hb)).trans q) ⟨_,e⟩ ?_;exact ⟨hz,its',n',r,e⟩
inductive BxRSetL (o i v:V) (H:Hp) (Q:?o):Prop
 | mk (p:_) (xs:_) (k:_) (j:_) (q1:o=.ref p) (q2:i=.int k) (q3:H p=some (.lst xs)) (q4:ixN xs.length k=some j) (q5:Q (upd H p (.lst (xs.set j v)))):BxRSetL o i v H Q
def Zww:V→V→V→Hp→(?o)→Prop:=fun o i v H Q=>BxRSetL o i v H Q
theorem Zda:PSet X Zww:=by
 intro pins s σ H o i v ov iv u Q I ro ri rv h;obtain ⟨p,xs,k,j,rfl,rfl,hp,hj,q⟩:=h;cases ro
 obtain ⟨t,rfl⟩:=ri;obtain ⟨its,n,r,ho,hz⟩:=I.lst hp;obtain ⟨h1,h2,h3,h4⟩:=Ziq hj;have hl:=r.length;have hn:=Zdl
 have I':Inv X pins σ (upd H p (.lst (xs.set j v))) { s with heap:=s.heap.update p (Obj.mapSeq (·.setIfInBounds j u)) } :=
  I.lstUpd hp ho (Zly its n j u) (r.set rv j) (by rw [List.length_set];exact hz) s.toks
 by_cases h0:0≤k
 · have hk:k.toNat=j:=by
    rw [seqIndex_of h0 h4] at h1;exact Option.some.inj h1
   exact PySem.W.ki_setAt ho h0 (?d) (by rw [n15_,← hl];exact h4) (by rw [hk];exact ⟨_,I',q⟩)
 · have hk:(k+(its.toArray.size:Int)).toNat=j:=by
    rw [seqIndex_neg (?d) h3] at h1;rw [n15_,← hl];exact Option.some.inj h1
   exact PySem.W.ki_setBack ho (?d) (by rw [n15_,← hl];exact h3) (?d) (by rw [hk];exact ⟨_,I',q⟩)
theorem Zh7 (lo hi:Option Int) (n:Nat):(sliceBounds lo hi none n).1=((HT.sIx n 0 lo:Nat):Int)∧(sliceBounds lo hi none n).2.1=((HT.sIx n n hi:Nat):Int)∧(sliceBounds lo hi none n).2.2=1:=by
 refine ⟨?_,?_,rfl⟩
 · cases lo with
   | none=>simp [sliceBounds,HT.sIx]
   | some i =>
     simp only [sliceBounds,HT.sIx,Option.getD_none,show (1:Int)>0 by decide,if_true]
     by_cases h:i<0
     · simp only [h,if_true]<;>omega
     · simp only [h,if_false]<;>omega
 · cases hi with
   | none=>simp [sliceBounds,HT.sIx]
   | some i =>
     simp only [sliceBounds,HT.sIx,Option.getD_none,show (1:Int)>0 by decide,if_true]
     by_cases h:i<0
     · simp only [h,if_true]<;>omega
     · simp only [h,if_false]<;>omega
theorem Zfb (its:?q) (lo hi:Option Int):slicePick its.toArray lo hi none=((its.drop (HT.sIx its.length 0 lo)).take (HT.sIx its.length its.length hi-HT.sIx its.length 0 lo)).toArray:=by
 obtain ⟨h1,h2,h3⟩:=Zh7 lo hi its.toArray.size;unfold slicePick;rw [h1,h2,h3];simp only [sliceRange_one,pick_run,n15_]<;>rfl
inductive BxRSlL (K:PySem.W.Frag) (x:V) (lq hq:Option Int) (H:Hp) (Q:VK):Prop
 | mk (a:_) (xs:_) (q1:x=.ref a) (q2:SqL K H a xs) (q3:∀ p,H p=none→Q (.ref p) (upd H p (.lst (cutV xs lq hq)))):BxRSlL K x lq hq H Q
def rSlL (K:PySem.W.Frag):V→Option Int→Option Int→Hp→VK→Prop:=fun x lq hq H Q=>BxRSlL K x lq hq H Q
theorem Zt1:SlR X (rSlL X.K):=by
 intro pins s σ H x v vl vu lo hi sl Q I rx hs pl pu h;obtain ⟨a,xs,rfl,hx,q⟩:=h;cases rx
 obtain ⟨its,r,ht,hz⟩:=I.list hx;have hlen:=r.length;refine ⟨"list",_,slot_list_getitem.lookup,ht.isList.typeIs,?_⟩;refine wpAny_getItem_list_slice ht.isList hs pl pu .none ?g ?_ (by rw [n15_]<;>omega);rw [Zfb,← hlen];refine ⟨.ref s.z,_,I.laid (t':=s.toks) (o:=.lst (cutV xs lo hi)) (fun b ob q=>n3_ _ q) (n11_ _) ?_,rfl,q _ (I.hok.fresh (n11_ _))⟩;exact ⟨n53_ (Zdn xs lo hi) hz,_,0,(r.drop (HT.sIx xs.length 0 lo)).take (HT.sIx xs.length xs.length hi-HT.sIx xs.length 0 lo),n8_ _ rfl⟩
def Zib:V→Bool
 | .non=>true
 | .bl _=>true
 | .int _=>true
 | .str _=>true
 | _=>false
def eqV:V→V→Bool
 | .non,.non=>true
 | .bl a,.bl b=>a == b
 | .bl a,.int b=>(if a then 1 else 0) == b
 | .int a,.bl b=>a == (if b then 1 else 0)
 | .int a,.int b=>a == b
 | .str a,.str b=>a == b
 | _,_=>false
theorem Zup {x:V} {v:Value} (ry:RelV y u) (rx:RelV x v) (fy:Zib y=true) (fx:Zib x=true):SeqAt.EqAt A s u v (eqV y x):=by
 cases y with
 | non =>
   cases ry
   cases x with
   | non=>cases rx;exact SeqAt.EqAt.same _
   | bl b=>cases rx;exact SeqAt.EqAt.none_bool b
   | int b=>obtain ⟨t,rfl⟩:=rx;exact SeqAt.EqAt.none_int b t
   | str b=>obtain ⟨t,rfl⟩:=rx;exact SeqAt.EqAt.none_str b t
   | _=>exact absurd (show false=true from fx) n17_
 | bl a =>
   cases ry
   cases x with
   | non=>cases rx;exact SeqAt.EqAt.bool_none a
   | bl b=>cases rx;exact SeqAt.EqAt.bool_bool a b
   | int b=>obtain ⟨t,rfl⟩:=rx;exact SeqAt.EqAt.bool_int a b t
   | str b=>obtain ⟨t,rfl⟩:=rx;exact SeqAt.EqAt.bool_str a b t
   | _=>exact absurd (show false=true from fx) n17_
 | int a =>
   obtain ⟨t',rfl⟩:=ry;cases x with
   | non=>cases rx;exact SeqAt.EqAt.int_none a t'
   | bl b=>cases rx;exact SeqAt.EqAt.int_bool a t' b
   | int b=>obtain ⟨t,rfl⟩:=rx;exact SeqAt.EqAt.int_int a t' b t
   | str b=>obtain ⟨t,rfl⟩:=rx;exact SeqAt.EqAt.int_str a t' b t
   | _=>exact absurd (show false=true from fx) n17_
 | str a =>
   obtain ⟨t',rfl⟩:=ry;cases x with
   | non=>cases rx;exact SeqAt.EqAt.str_none a t'
   | bl b=>cases rx;exact SeqAt.EqAt.str_bool a t' b
   | int b=>obtain ⟨t,rfl⟩:=rx;exact SeqAt.EqAt.str_int a t' b t
   | str b=>obtain ⟨t,rfl⟩:=rx;exact SeqAt.EqAt.str_str a t' b t
   | _=>exact absurd (show false=true from fx) n17_
 | _=>exact absurd (show false=true from fy) n17_
def eqU (x:V) (u:Value):Bool:=match u with
 | .none=>eqV .non x
 | .bool b=>eqV (.bl b) x
 | .int i _=>eqV (.int i) x
 | .str z _=>eqV (.str z) x
 | _=>false
theorem Zrd {x:V} (r:RelV y u) (f:Zib y=true):eqU x u=eqV y x:=by
 cases y with
 | non=>cases r;rfl
 | bl b=>cases r;rfl
 | int i=>obtain ⟨t,rfl⟩:=r;rfl
 | str z=>obtain ⟨t,rfl⟩:=r;rfl
 | _=>exact absurd (show false=true from f) n17_
theorem Zdo {x:V}:∀ {xs:List V} {us:?q},Vals xs us→xs.all Zib=true→us.any (eqU x)=xs.any fun y=>eqV y x
 | _,_,.nil,_=>rfl
 | y :: xs,u :: us,.cons r t,f=>by
   rw [List.all_cons,n40_] at f;rw [List.any_cons,List.any_cons,Zrd r f.1,Zdo t f.2]
theorem Zb1 {x:V} {v:Value} (rx:RelV x v) (fx:Zib x=true):∀ {xs:List V} {us:?q},Vals xs us→xs.all Zib=true→∀ u∈us,SeqAt.EqAt A s u v (eqU x u)
 | _,_,.nil,_=>fun u hu=>by cases hu
 | y :: xs,u :: us,.cons r t,f=>fun u' hu=>by
   rw [List.all_cons,n40_] at f
   rcases n9_.mp hu with rfl|hu
   · rw [Zrd r f.1];exact Zup r rx f.1 fx
   · exact Zb1 rx fx t f.2 u' hu
def inV (x:V) (xs:List V):Bool:=xs.any fun y=>eqV y x
inductive BxRIn (K:PySem.W.Frag) (neg:Bool) (x y:V) (H:Hp) (Q:VK):Prop
 | mk (p:_) (xs:_) (q1:y=.ref p) (q2:(SqL K H p xs∨SqT K H p xs)) (q3:Zib x=true) (q4:xs.all Zib=true) (q5:Q (.bl (if neg then !inV x xs else inV x xs)) H):BxRIn K neg x y H Q
def rIn (K:PySem.W.Frag) (neg:Bool):R2:=fun x y H Q=>BxRIn K neg x y H Q
theorem Zna:OpR X (compareOp .In) (rIn X.K false):=by
 intro pins s σ H x y v u Q I rx ry h;obtain ⟨p,xs,rfl,hq,fx,fs,q⟩:=h;cases ry
 rcases hq with hq|hq
 · obtain ⟨its,r,pl,hz⟩:=I.list hq;refine SeqAt.in_listAt (eqU x) pl.isList (fun w hw=>Zb1 rx fx r fs w (by simpa using hw)) ⟨.bl _,H,I,rfl,?_⟩;rw [show its.toArray.any (eqU x)=its.any (eqU x) by simp,Zdo r fs];exact q
 · obtain ⟨its,r,pl,hz⟩:=I.tuple hq;refine SeqAt.in_tupleAt (eqU x) pl (fun w hw=>Zb1 rx fx r fs w (by simpa using hw)) ⟨.bl _,H,I,rfl,?_⟩;rw [show its.toArray.any (eqU x)=its.any (eqU x) by simp,Zdo r fs];exact q
theorem Zhc:OpR X (compareOp .NotIn) (rIn X.K true):=by
 intro pins s σ H x y v u Q I rx ry h;obtain ⟨p,xs,rfl,hq,fx,fs,q⟩:=h;cases ry
 rcases hq with hq|hq
 · obtain ⟨its,r,pl,hz⟩:=I.list hq;refine SeqAt.notIn_listAt (eqU x) pl.isList (fun w hw=>Zb1 rx fx r fs w (by simpa using hw)) ⟨.bl _,H,I,rfl,?_⟩;rw [show its.toArray.any (eqU x)=its.any (eqU x) by simp,Zdo r fs];exact q
 · obtain ⟨its,r,pl,hz⟩:=I.tuple hq;refine SeqAt.notIn_tupleAt (eqU x) pl (fun w hw=>Zb1 rx fx r fs w (by simpa using hw)) ⟨.bl _,H,I,rfl,?_⟩;rw [show its.toArray.any (eqU x)=its.any (eqU x) by simp,Zdo r fs];exact q
inductive BxRc_len_seq (K:PySem.W.Frag) (xs:List V) (H:Hp) (Q:VK):Prop
 | mk (p:_) (ys:_) (q1:xs=[.ref p]) (q2:(SqL K H p ys∨SqT K H p ys)) (q3:Q (.int ys.length) H):BxRc_len_seq K xs H Q
def Za5 (K:PySem.W.Frag):List V→Hp→VK→Prop:=fun xs H Q=>BxRc_len_seq K xs H Q
theorem Zp:Yv X (.builtin "len") (Za5 X.K):=by
 intro pins s σ H xs us Q I r h;obtain ⟨p,ys,rfl,hq,q⟩:=h;obtain ⟨u,rfl,rx⟩:=Zh0 r;cases rx
 have hn:=Zdl
 rcases hq with hq|hq
 · obtain ⟨its,r',pl,hz⟩:=I.list hq;have hlen:=r'.length;exact Calls.call_len_list pl.isList (by simp only [n15_]<;>omega) ⟨.int ys.length,H,I.tok _,⟨s.toks+1,by rw [n15_,hlen]⟩,q⟩
 · obtain ⟨its,r',pl,hz⟩:=I.tuple hq;have hlen:=r'.length;exact len_tuple pl (by simp only [n15_]<;>omega) ⟨.int ys.length,H,I.tok _,⟨s.toks+1,by rw [n15_,hlen]⟩,q⟩
inductive BxRc_tuple_of (K:PySem.W.Frag) (xs:List V) (H:Hp) (Q:VK):Prop
 | mk (p:_) (ys:_) (q1:xs=[.ref p]) (q2:((SqL K H p ys∧∀ l,H l=none→Q (.ref l) (upd H l (.tup ys)))∨(SqT K H p ys∧Q (.ref p) H))):BxRc_tuple_of K xs H Q
def Xj (K:PySem.W.Frag):List V→Hp→VK→Prop:=fun xs H Q=>BxRc_tuple_of K xs H Q
theorem Zx:Yv X (.type "tuple") (Xj X.K):=by
 intro pins s σ H xs us Q I r h;obtain ⟨p,ys,rfl,h⟩:=h;obtain ⟨u,rfl,rx⟩:=Zh0 r;cases rx
 rcases h with ⟨hq,q⟩|⟨hq,q⟩
 · obtain ⟨its,r',pl,hz⟩:=I.list hq;have hlen:=r'.length;refine call_tuple_list pl.isList (fun h' kp=>?_) (by simp only [n15_]<;>omega);have I1:Inv X pins σ H { s with heap:=h' }:=I.kept (t':=s.toks) kp
   have I2:Inv X pins σ (upd H h'.objs.size (.tup ys)) { s with heap:=h'.push { cls:=.type "tuple",data:=.seq its.toArray } } :=
    I1.laid (t':=s.toks) (fun b o e=>n3_ _ e) (n11_ _) (show ObjOk X.prog X.w _ _ _ (.tup ys) from ⟨hz,its,r',IsTupN.new _ _⟩)
   exact ⟨.ref h'.objs.size,_,I2,rfl,q _ (I1.hok.fresh (n11_ _))⟩
 · obtain ⟨its,r',pl,hz⟩:=I.tuple hq;exact call_tuple_same pl ⟨.ref p,H,I,rfl,q⟩
def tyV (K:PySem.W.Frag) (T:String) (x:V) (H:Hp):Prop:=match x with
 | .str _=>T = "str"
 | .int _=>T = "int"
 | .ref p=>(T = "list" ∧ ∃ xs,SqL K H p xs)∨(T = "tuple" ∧ ((∃ o,K.lookup p=some o∧o.cls=.type "tuple" ∧ o.dict=none)∨∃ xs,H p=some (.tup xs))) ∨
    (T = "dict" ∧ ((∃ kvs,H p=some (.dK kvs))∨∃ kvs,H p=some (.dT kvs)))∨(T = "set" ∧ ∃ S n,H p=some (.set S n))
 | _=>False
theorem Zq8 {T:String} {x:V} {v:Value} (I:?k) (r:RelV x v) (ty:tyV X.K T x H) :
 s.TypeIs v T∧∀ a,v=.ref a→∃ ob,s.heap.get? a=some ob∧ob.dict=none:=by
 cases x with
 | str z =>
   obtain ⟨t,rfl⟩:=r;cases (show T = "str" from ty)
   exact ⟨typeIs_str s z t,fun _ e=>nomatch e⟩
 | int i =>
   obtain ⟨t,rfl⟩:=r;cases (show T = "int" from ty)
   exact ⟨typeIs_int s i t,fun _ e=>nomatch e⟩
 | ref p =>
   cases r
   rcases ty with ⟨rfl,xs,hq⟩|⟨rfl,⟨o,hk,hc,hd⟩|⟨xs,hq⟩⟩|⟨rfl,hk⟩|⟨rfl,S,n,hk⟩
   · obtain ⟨its,_,pl,_⟩:=I.list hq;refine ⟨pl.isList.typeIs,fun a e=>?_⟩;cases e
     obtain ⟨o,n,e,c,hd,_⟩:=pl;exact ⟨o,e,hd⟩
   · refine ⟨⟨o,I.kIn p o hk,hc⟩,fun a e=>?_⟩;cases e
     exact ⟨o,I.kIn _ o hk,hd⟩
   · obtain ⟨_,its,_,o,e1,⟨e2,e3⟩,_⟩:=(show ObjOk X.prog X.w H s.heap p (.tup xs) from I.hok p _ hq);refine ⟨⟨o,e1,e2⟩,fun a e=>?_⟩;cases e
     exact ⟨o,e1,e3⟩
   · have z:∃ o,s.heap.get? p=some o∧o.ExactDict:=by
      rcases hk with ⟨kvs,hk⟩|⟨kvs,hk⟩
      · obtain ⟨_,_,_,_,o,_,_,e,ex,_⟩:=I.hok p _ hk;exact ⟨o,e,ex⟩
      · obtain ⟨_,_,_,_,o,_,_,e,ex,_⟩:=I.hok p _ hk;exact ⟨o,e,ex⟩
     obtain ⟨o,e,ex⟩:=z;refine ⟨⟨o,e,ex.1⟩,fun a e2=>?_⟩;cases e2
     exact ⟨o,e,ex.2.1⟩
   · obtain ⟨o,_,_,_,e,ex,_⟩:=I.hok p _ hk;refine ⟨⟨o,e,ex.1⟩,fun a e2=>?_⟩;cases e2
     exact ⟨o,e,ex.2.1⟩
 | _=>exact False.elim ty
inductive BxTBM0 (K:PySem.W.Frag) (T:String) (r:V→List V→Hp→VK→Prop) (x:V) (H1:Hp) (Q:VK):Prop
 | mk  (q1:tyV K T x H1) (q2:r x [] H1 Q):BxTBM0 K T r x H1 Q
def tBM0 (K:PySem.W.Frag) (T:String) (r:V→List V→Hp→VK→Prop) (to:TE):TE:=fun σ H Q=>to σ H fun x H1=>BxTBM0 K T r x H1 Q
inductive BxTBM (K:PySem.W.Frag) (T:String) (r:V→List V→Hp→VK→Prop) (t:TA) (σ:St) (x:V) (H1:Hp) (Q:VK):Prop
 | mk  (q1:tyV K T x H1) (q2:t σ H1 fun xs H2=>r x xs H2 Q):BxTBM K T r t σ x H1 Q
def tBM (K:PySem.W.Frag) (T:String) (r:V→List V→Hp→VK→Prop) (to:TE) (t:TA):TE:=fun σ H Q=>to σ H fun x H1=>BxTBM K T r t σ x H1 Q
variable {o e:Expr} {es:List Expr} {to:TE} {t:TA} {name:Str} {apos cpos:Pos} {T id:String} {r:V→List V→Hp→VK→Prop}
theorem Zvf (pa:PlainAttrs T) (slot:Slot T name id) (hty:typeOf (.builtin id)=pure (.type "method_descriptor")) (hm:MtR X id r) (ho:PE X o to)
 (hbase:attributeBase o name X.env (eval o X.env)=eval o X.env:=by rfl) (hline:(apos.endLine == cpos.line)=true:=by rfl):PE X (.Call (.Attribute o name apos) [] [] cpos) (tBM0 X.K T r to):=by
 intro pins s σ H Q I h;refine wpAny_Call_method0_late hbase hline (thn (ho pins s σ H _ I h) fun v s1 ⟨x,H1,I1,r1,ty,q1⟩=>?_);obtain ⟨h1,h2⟩:=Zq8 I1 r1 ty;exact ⟨T,id,pa,slot,hty,h1,h2,Calls.callWith_builtin rfl (PySem.evalArgs_none (hm pins s1 σ H1 x [] v [] Q I1 r1 .nil q1))⟩
theorem Zg7 (pa:PlainAttrs T) (slot:Slot T name id) (hty:typeOf (.builtin id)=pure (.type "method_descriptor")) (hm:MtR X id r) (ho:PE X o to) (ha:PA X (e :: es) t)
 (hbase:attributeBase o name X.env (eval o X.env)=eval o X.env:=by rfl)
 (hfew:((backTo cpos (starEach (e :: es) X.env)).all (fun x=>!x.1)&&(backToKw cpos (keywordEach [] X.env)).all (fun x=>x.1.isSome)
   && decide ((e :: es).length+([]:List Keyword).length+(if ([]:List Keyword).isEmpty then 0 else 1)<30))=true:=by rfl)
 (hline:(apos.endLine == cpos.line)=true:=by rfl) (hs:starEach (e :: es) X.env=(false,eval e X.env) :: starEach es X.env:=by rfl) (hplain:(backTo cpos (starEach es X.env)).any (·.1)=false:=by rfl) :
 PE X (.Call (.Attribute o name apos) (e :: es) [] cpos) (tBM X.K T r to t):=by
 intro pins s σ H Q I h;refine wpAny_Call_method_late hbase hfew hline rfl (thn (ho pins s σ H _ I h) fun v s1 ⟨x,H1,I1,r1,ty,q1⟩=>?_);obtain ⟨h1,h2⟩:=Zq8 I1 r1 ty;refine ⟨T,id,pa,slot,hty,h1,h2,?_⟩;have hA:=ha cpos pins s1 σ H1 _ I1 q1;rw [hs] at hA ⊢;refine Calls.callWith_builtin (by show (false||(backTo cpos (starEach es X.env)).any (·.1))=false;rw [hplain]<;>rfl) (Calls.evalArgs_plain ?_);exact thn hA fun us s2 ⟨vs,H2,I2,r2,q2⟩=>hm pins s2 σ H2 x vs v us Q I2 r1 r2 q2
/- xs.append(e),list.index on a module's tuple .. are MtR facts of 06m -/
end
def MtM (X:Cx) (id:String) (r:V→List V→Hp→VK→Prop):Prop :=
 ∀ (pins:?y) (s:Shared) (σ:St) (H:Hp) (x:V) (xs:List V) (v:Value) (us:?q) (Q:VK),?k→RelV x v→Vals xs us→r x xs H Q →
   wpAny ?t X.A (call (.builtin id) (v :: us)) (EP X pins σ Q) X.xe s
theorem Vals.one {x:V} (h:Vals [x] us):∃ u,us=[u]∧RelV x u:=by
 cases h with
 | cons r h=>cases h;exact ⟨_,rfl,r⟩
theorem Vals.two {x:V} (h:Vals [x,y] us):∃ u v,us=[u,v]∧RelV x u∧RelV y v:=by
 cases h with
 | cons r h=>cases h with
   | cons q h=>cases h;exact ⟨_,_,rfl,r,q⟩
theorem Vals.zero:∀ {us:?q},Vals [] us→us=[]
 | _,.nil=>rfl
theorem Vals.dropLast (h:Vals xs us):Vals xs.dropLast us.dropLast:=by
 induction h with
 | nil=>exact .nil
 | cons r t ih =>
   cases t with
   | nil=>exact .nil
   | cons q t'=>exact .cons r ih
theorem Vals.eraseIdx:∀ {xs:List V} {us:?q} (i:Nat),Vals xs us→Vals (xs.eraseIdx i) (us.eraseIdx i)
 | _,_,_,.nil=>.nil
 | _,_,0,.cons _ t=>t
 | _,_,i+1,.cons r t=>.cons r (Vals.eraseIdx i t)
theorem Vals.rep (h:Vals xs us):∀ k:Nat,Vals (List.replicate k xs).flatten (List.replicate k us).flatten
 | 0=>.nil
 | k+1=>by
   rw [n69_,n69_,List.flatten_cons,List.flatten_cons];exact Vals.append h (Vals.rep h k)
theorem Zlt (l:List α):l.eraseIdx (l.length-1)=l.dropLast:=by
 induction l with
 | nil=>rfl
 | cons a r ih =>
   cases r with
   | nil=>rfl
   | cons b r =>
     have e:(a :: b :: r).length-1=((b :: r).length-1)+1:=by
      have h1:(a :: b :: r).length=r.length+2:=rfl;have h2:(b :: r).length=r.length+1:=rfl;omega
     rw [e,List.eraseIdx_cons_succ,ih]
     all_goals rfl
theorem Zg0:∀ (l:List α) (i:Nat),(l.eraseIdx i).length≤l.length
 | [],_=>n11_ _
 | _ :: _,0=>Nat.le_succ _
 | _ :: r,i+1=>Nat.succ_le_succ (Zg0 r i)
theorem Zhl (its:?q):∀ (k:Nat) (acc:?q),
 List.foldl (fun x1 x2=>x1++x2) acc.toArray (List.replicate k its.toArray)=(acc++(List.replicate k its).flatten).toArray
 | 0,acc=>by simp
 | k+1,acc=>by
   have e:acc.toArray++its.toArray=(acc++its).toArray:=by simp
   have e2:(acc++its)++(List.replicate k its).flatten=acc++(List.replicate (k+1) its).flatten:=by
    rw [n69_,List.flatten_cons,n49_]
   rw [← e2,← Zhl its k (acc++its),← e,n69_,n73_]
section
variable {X:Cx} {pins:?y} {σ:St} {H:Hp} {s:Shared} {l b:Addr} {xs ys zs:List V}
theorem Inv.lset {its':?q} {f:Array Value→Array Value} (I:?k) (hH:H l=some (.lst xs))
 (e:s.heap.get? l=some { cls:=.type "list",data:=.seq its.toArray n }) (hf:f its.toArray=its'.toArray) (hv:Vals ys its') (hz:ys.length≤sizeLine) :
 Inv X pins σ (upd H l (.lst ys)) { s with heap:=s.heap.update l (Obj.mapSeq f),toks:=t' }:=by
 have q:=PySem.IsL.update e f;rw [hf] at q;refine I.write (x:=l) (e:=l) (by rw [hH];exact trivial) (.inl rfl) (fun b' u hb hu=>(Heap.get?_update_other s.heap (Obj.mapSeq f) (Ne.symm hb)).trans hu) ⟨_,q⟩ ?_;exact ⟨hz,its',_,hv,q⟩
theorem Inv.lnew (I:?k) (hv:Vals ys its) (hz:ys.length≤sizeLine) :
 Inv X pins σ (upd H s.z (.lst ys)) { s with heap:=s.heap.push { cls:=.type "list",data:=.seq its.toArray },toks:=t' } :=
 I.laid (fun _ _ q=>n3_ _ q) (n11_ _) ⟨hz,its,0,hv,n8_ _ rfl⟩
theorem Inv.fresh (I:?k):H s.z=none:=I.hok.fresh (n11_ _)
theorem Inv.lstM (I:?k) (hH:H l=some (.lst xs)):xs.length≤sizeLine∧∃ (its:?q) (n:Nat),Vals xs its∧xs.length=its.length∧s.heap.get? l=some { cls:=.type "list",data:=.seq its.toArray n }:=by
 obtain ⟨z,its,n,r,e⟩:=I.hok l _ hH;exact ⟨z,its,n,r,r.length,e⟩
theorem Zga (h:n≤sizeLine):Builtin.List.listTooLong n=false:=by
 unfold Builtin.List.listTooLong;exact n36_ (?d)
end
section
variable {X:Cx}
inductive BxRAppend (x:V) (vs:List V) (H:Hp) (Q:VK):Prop
 | mk (l:_) (xs:_) (y:_) (q1:x=.ref l) (q2:vs=[y]) (q3:H l=some (.lst xs)) (q4:xs.length<sizeLine) (q5:Q .non (upd H l (.lst (xs++[y])))):BxRAppend x vs H Q
def Ztf:V→List V→Hp→VK→Prop:=fun x vs H Q=>BxRAppend x vs H Q
theorem Xi:MtM X "list.append" Ztf:=by
 intro pins s σ H x vs v us Q I rx rv h;obtain ⟨l,xs,y,rfl,rfl,hH,hz,q⟩:=h;cases rx
 obtain ⟨u,rfl,ru⟩:=rv.one;obtain ⟨z,its,n,r,hl,e⟩:=I.lstM hH;refine call_meets F.slot_list_append ⟨_,e,rfl⟩ F.entry_list_append (F.args_list_append_2 _ _) (PySem.list_append l its.toArray n u (by rw [n15_];omega)) ⟨e,?_⟩;refine ⟨.non,_,I.lset (its':=its++[u]) hH e ?g (r.append (.cons ru .nil)) ?_,rfl,q⟩;rw [n21_,List.length_singleton];omega
inductive BxRExtend (x:V) (vs:List V) (H:Hp) (Q:VK):Prop
 | mk (l:_) (b:_) (xs:_) (zs:_) (q1:x=.ref l) (q2:vs=[.ref b]) (q3:H l=some (.lst xs)) (q4:H b=some (.lst zs)) (q5:xs.length+zs.length≤sizeLine) (q6:Q .non (upd H l (.lst (xs++zs)))):BxRExtend x vs H Q
def Zr7:V→List V→Hp→VK→Prop:=fun x vs H Q=>BxRExtend x vs H Q
theorem Zm6:MtM X "list.extend" Zr7:=by
 intro pins s σ H x vs v us Q I rx rv h;obtain ⟨l,b,xs,zs,rfl,rfl,hH,hB,hz,q⟩:=h;cases rx
 obtain ⟨u,rfl,ru⟩:=rv.one;cases ru
 obtain ⟨z,its,n,r,hl,e⟩:=I.lstM hH;obtain ⟨z2,its2,n2,r2,hl2,e2⟩:=I.lstM hB;have hsz:its.toArray.size+its2.toArray.size≤sizeLine:=by rw [n15_,n15_];omega
 have hlong:¬ (!its.toArray.isEmpty&&Builtin.List.listTooLong (its.toArray.size+its2.toArray.size))=true:=by
  rw [Zga hsz,Bool.and_false];exact n17_
 refine call_meets F.slot_list_extend ⟨_,e,rfl⟩ F.entry_list_extend (F.args_list_extend_2 _ _)
  (AutoSeq1.list_extend_list_list_0 l its.toArray n b its2.toArray n2 hlong (by rw [n15_];omega) (?d)) ⟨e,e2,?_⟩
 refine ⟨.non,_,I.lset (its':=its++its2) hH e ?g (r.append r2) ?_,rfl,q⟩;rw [n21_];omega
inductive BxRPop (x:V) (vs:List V) (H:Hp) (Q:VK):Prop
 | mk (l:_) (xs:_) (y:_) (q1:x=.ref l) (q2:vs=[]) (q3:H l=some (.lst xs)) (q4:xs[xs.length-1]? = some y) (q5:Q y (upd H l (.lst xs.dropLast))):BxRPop x vs H Q
def rPop:V→List V→Hp→VK→Prop:=fun x vs H Q=>BxRPop x vs H Q
theorem Zvp:MtM X "list.pop" rPop:=by
 intro pins s σ H x vs v us Q I rx rv h;obtain ⟨l,xs,y,rfl,rfl,hH,hy,q⟩:=h;cases rx
 have hus:=rv.zero;subst hus;obtain ⟨z,its,n,r,hl,e⟩:=I.lstM hH;obtain ⟨u,hu,ru⟩:=r.get hy
 have hy':its.toArray[its.toArray.size-1]? = some u:=by
  show its.toArray[its.length-1]? = some u
  rw [← Array.getElem?_toList,← hl];exact hu
 refine call_meets F.slot_list_pop ⟨_,e,rfl⟩ F.entry_list_pop (F.args_list_pop_1 _) (MeetsSeq.list_pop_last l its.toArray n u hy' (by rw [n15_];omega)) ⟨e,?_⟩;refine ⟨y,_,I.lset (its':=its.dropLast) hH e ?_ r.dropLast ?_,ru,q⟩
 · show its.toArray.eraseIdxIfInBounds (its.toArray.size-1)=its.dropLast.toArray
   rw [n15_,List.eraseIdxIfInBounds_toArray,Zlt]
 · rw [List.length_dropLast];omega
inductive BxRPopAt (x:V) (vs:List V) (H:Hp) (Q:VK):Prop
 | mk (l:_) (xs:_) (i:_) (k:_) (y:_) (q1:x=.ref l) (q2:vs=[.int i]) (q3:H l=some (.lst xs)) (q4:-(2^63)≤i) (q5:i<2^63) (q6:seqIndex? i xs.length=some k) (q7:xs[k]? = some y) (q8:Q y (upd H l (.lst (xs.eraseIdx k)))):BxRPopAt x vs H Q
def Zvn:V→List V→Hp→VK→Prop:=fun x vs H Q=>BxRPopAt x vs H Q
theorem Zpa:MtM X "list.pop" Zvn:=by
 intro pins s σ H x vs v us Q I rx rv h;obtain ⟨l,xs,i,k,y,rfl,rfl,hH,h1,h2,hk,hy,q⟩:=h;cases rx
 obtain ⟨u,rfl,ru⟩:=rv.one;obtain ⟨t,rfl⟩:=ru;obtain ⟨z,its,n,r,hl,e⟩:=I.lstM hH;obtain ⟨w,hw,rw'⟩:=r.get hy
 refine call_meets F.slot_list_pop ⟨_,e,rfl⟩ F.entry_list_pop (F.args_list_pop_2 _ _)
  (MeetsSeq.list_pop_at l its.toArray n i t k w (fitsIndex_both h1 h2) (by rw [n15_,← hl];exact hk) (by rw [← Array.getElem?_toList];exact hw) (by rw [n15_];omega)) ⟨e,?_⟩
 refine ⟨y,_,I.lset (its':=its.eraseIdx k) hH e ?_ (r.eraseIdx k) ?_,rw',q⟩
 · show its.toArray.eraseIdxIfInBounds k=(its.eraseIdx k).toArray
   rw [List.eraseIdxIfInBounds_toArray]
 · have:=Zg0 xs k
   omega
inductive BxRCat (x y:V) (H:Hp) (Q:VK):Prop
 | mk (l:_) (b:_) (xs:_) (zs:_) (q1:x=.ref l) (q2:y=.ref b) (q3:H l=some (.lst xs)) (q4:H b=some (.lst zs)) (q5:xs.length+zs.length≤sizeLine) (q6:∀ p,H p=none→Q (.ref p) (upd H p (.lst (xs++zs)))):BxRCat x y H Q
def rCat:R2:=fun x y H Q=>BxRCat x y H Q
theorem Zrk:OpR X (binaryOp .Add) rCat:=by
 intro pins s σ H x y v u Q I rx ry h;obtain ⟨l,b,xs,zs,rfl,rfl,hH,hB,hz,q⟩:=h;cases rx
 cases ry
 obtain ⟨z,its,n,r,hl,e⟩:=I.lstM hH;obtain ⟨z2,its2,n2,r2,hl2,e2⟩:=I.lstM hB;refine PySem.P.add_list e e2 ?_ (by rw [n15_,n15_];omega);have ea:its.toArray++its2.toArray=(its++its2).toArray:=by simp
 rw [ea];exact ⟨.ref _,_,I.lnew (t':=s.toks) (r.append r2) (by rw [n21_];omega),rfl,q _ I.fresh⟩
inductive BxRRep (x y:V) (H:Hp) (Q:VK):Prop
 | mk (l:_) (k:_) (xs:_) (q1:x=.ref l) (q2:y=.int k) (q3:H l=some (.lst xs)) (q4:-(2^63)≤k) (q5:k<2^63) (q6:xs.length*k.toNat≤sizeLine) (q7:∀ p,H p=none→Q (.ref p) (upd H p (.lst (List.replicate k.toNat xs).flatten))):BxRRep x y H Q
def rRep:R2:=fun x y H Q=>BxRRep x y H Q
theorem Zsg (xs:List α) (k:Nat):(List.replicate k xs).flatten.length=k*xs.length:=by
 induction k with
 | zero=>simp
 | succ k ih=>rw [n69_,List.flatten_cons,n21_,ih,Nat.succ_mul,Nat.add_comm]
theorem Zt7:OpR X (binaryOp .Mult) rRep:=by
 intro pins s σ H x y v u Q I rx ry h;obtain ⟨l,k,xs,rfl,rfl,hH,h1,h2,hz,q⟩:=h;cases rx
 obtain ⟨t,rfl⟩:=ry;obtain ⟨z,its,n,r,hl,e⟩:=I.lstM hH;have hlen:its.toArray.size*k.toNat≤sizeLine:=by rw [n15_,← hl];exact hz
 have hcap:¬ its.toArray.size*k.toNat>(2^63-1)/8:=by
  have:(sizeLine:Nat)≤(2^63-1)/8:=by decide
  omega
 have hfit:¬ (!Builtin.List.listFitsIndex k)=true:=by
  rw [fitsIndex_both h1 h2];exact n17_
 have hlong:¬ Builtin.List.listTooLong (its.toArray.size*k.toNat)=true:=by
  rw [Zga hlen];exact n17_
 have hnew:List.foldl (fun x1 x2=>x1++x2) #[] (List.replicate (if its.toArray.isEmpty=true then 0 else k.toNat) its.toArray)=(List.replicate k.toNat its).flatten.toArray:=by
  have f0:∀ m:Nat,List.foldl (fun x1 x2=>x1++x2) #[] (List.replicate m its.toArray)=(List.replicate m its).flatten.toArray:=fun m=>by
   have:=Zhl its m []
   rw [List.nil_append] at this;exact this
  rw [f0];cases its with
  | nil=>simp
  | cons a r'=>rw [if_neg ?g]
 refine wpAny_binaryOp_repeat_ref (T := "list") (U := "int") ?f ⟨_,e,rfl⟩ (fun s'=>typeIs_int s' k t) noFill_list_mul F.fills_int_mul F.slot_int_rmul repeat_list F.slot_int_index.lookup
  (call_meets F.slot_int_rmul (typeIs_int s k t) F.entry_int_rmul (F.args_int_rmul_2 _ _) (int___rmul___int_list k t l its.toArray n)
    ⟨e,rfl,⟨_,e,rfl⟩,call_meets F.slot_list_mul ⟨_,e,rfl⟩ F.entry_list_mul (F.args_list_mul_2 _ _) (AutoListH.list___mul___list_int_3 l its.toArray n k t hfit hcap hlong) ⟨e,?_⟩⟩)
 rw [hnew];exact ⟨.ref _,_,I.lnew (t':=s.toks) (r.rep k.toNat) (by rw [Zsg,Nat.mul_comm];exact hz),rfl,q _ I.fresh⟩
end
section
variable {prog:Program} {w:World} {A:Around} {E:Value→?i} {s:Shared}
set_option maxRecDepth 100000 in
end
section
variable {X:Cx}
end
end L2
namespace Att
open PySem PySem.W PySem.Calls PyProof.Rows
theorem Zdh {P:Params} {h:Heap}:∀ (ns:?e) (vs:?q),WellAll P h vs (ns.map WData.int)→IntsAre vs ns:=by
 intro ns
 induction ns with
 | nil =>
   intro vs w;rw [List.map_nil] at w;cases w
   exact .nil
 | cons n ns ih =>
   intro vs w;rw [n31_] at w;cases w with
   | cons a b =>
     cases a
     exact .cons _ _ (ih _ b)
theorem Zn3 {l:OpenLaw} {n:Nat} (hn:l.most=some n) {P:Params} {h:Heap} {args:List WData} {vals:?q}
 (hpre:l.row.toRowW.claim.pre args=true) (hwl:WellAll P h vals args) :
 ∃ a vs ns,vals=[Value.ref a]∧args=[WData.list (ns.map WData.int)]∧h.get? a=some { cls:=.type "list",data:=.seq vs.toArray }∧IntsAre vs ns∧ns.length≤n:=by
 have hsh:WShape.hasAll [] args [.list .int]=true:=(pre_splitW hpre).1;have hc:l.pre.holds [] { args:=args }=true:=(pre_splitW hpre).2;obtain ⟨d,r,rfl,h1,h2⟩:=hasAllW_cons hsh;obtain rfl:=hasAllW_nil h2;obtain ⟨xs,rfl,h3⟩:=hasW_list h1;obtain ⟨ns,rfl⟩:=items_int h3
 have hlen:ns.length≤n:=by
  unfold OpenLaw.pre at hc
  have h4:(WTm.not (.lt (.lit (.int (n:Int))) (.len (.arg 0)))).holds [] { args:=[.list (ns.map .int)] }=true:=by
   have h4:=(holds_andW hc).1;rw [hn] at h4;exact h4
  have h5:=condW_of h4 (w_not (w_lt w_lit (w_len_list (w_arg rfl))));rw [n5_] at h5;refine Nat.le_of_not_lt fun q=>?_;have q':(n:Int)<((ns.length:Nat):Int):=?d
  first
   | (rw [n32_ q'] at h5;exact absurd h5 ?f)
   | (simp at h5;omega)
 cases hwl with
 | cons w1 w2 =>
   cases w2
   cases w1 with
   | list ho hall=>exact ⟨_,_,ns,rfl,rfl,ho,Zdh ns _ hall,hlen⟩
theorem Znz (l:OpenLaw) (args:List WData):l.row.toRowW.claim.post args (.bool true) args=true :=
 postW_of (r:=l.row.toRowW) (X:=(true == true))
  (show WShape.has [] (.bool true) .bool=true by first|rfl|decide|simp [WShape.has,WShape.arms,WShape.armsAll])
  (show (WTm.eq .res (.lit (.bool true))).value [] { args:=args,res:=some (.bool true),after:=args }=some (.bool (true == true)) from w_eq_bool (w_res rfl) w_lit) rfl
theorem attach_call {l:OpenLaw} {n:Nat} {q:Program} {loose:List Str} {XP:(Str→Option Value)→Heap→Prop} {YP:World→Heap→Prop} {d:DefRec}
 (hn:l.most=some n) (hdf:d.params.defaults=[])
 (call:∀ (w:World) (s₀ s₁:Shared) (mg mb:Str→Option Value) (fa:Addr) (o:Obj) (pm cd doc:Value) (a:Addr) (vs:?q) (ns:?e),
   Ground q loose [] XP w s₀ mg mb s₁.heap→YP w s₁.heap →
   s₁.heap.get? fa=some o→o.data=.func (docDef d.name d.params d.body d.scope pm cd doc)→s₁.heap.CodeRec cd d.name→mg d.name=some (.ref fa) →
   s₁.heap.get? a=some { cls:=.type "list",data:=.seq vs.toArray }→IntsAre vs ns→ns.length≤n→s₁.gens=#[] →
   codeAny (model l.prog w) callerA (.call (.ref fa) ⟨[.ref a],[]⟩) (fun r s'=>r=.ok (.ret (.bool true))∧OldK s₁.heap s'.heap∧s'.os=s₁.os∧AllBare s'.gens) s₁) :
 WalkO q loose XP YP l.row.toRowW d [] (fun f vs=>PySem.call f vs):=by
 intro w s₀ s₁ mg mb G Y fa o pm cd doc dV kV ho hd hcd hD hmg hg args vals as hpre hlay hrd hwl hlo;obtain rfl:dV=.none:=Dflts.none hD hdf;obtain rfl:kV=.none:=Dflts.noKw hD;obtain ⟨a,vs,ns,rfl,rfl,hobj,hints,hlen⟩:=Zn3 hn hpre hwl;refine enter_call (codeAny_mono (call w s₀ s₁ mg mb fa o pm cd doc a vs ns G Y ho (fd_plain hd) hcd hmg hobj hints hlen hg) fun r s' hq=>?_);obtain ⟨rfl,h2,h3,h4⟩:=hq;exact ⟨.inl ⟨.bool true,.bool true,[],rfl,fun _=>rfl,.bool true,Znz l _,fun _=>⟨List.Pairwise.nil,fun _ hm=>(nomatch hm)⟩⟩,h2,h3,h4⟩
section
variable {prog:Program} {w:World} {A:Around} {E:Value→?i} {s:Shared} {K:Frag}
end
end Att
namespace L2
open PySem PySem.Spec PyProof.Rows
variable {a f:Addr} {A:Around} {X:Cx} {fd:FuncData} {H H' H1 H2:Hp} {ns:?e} {N:List Str} {xs:List V} {k n:Nat} {pos:Pos} {P:Program} {qual x:Str} {w:World}
theorem Zdw {vs:?q} (h:IntsAre vs ns):Vals (ns.map V.int) vs:=by
 induction h with
 | nil=>exact .nil
 | cons n t _ ih=>exact .cons ⟨t,rfl⟩ ih
def Only (H:Hp):Prop:=∀ b,H b=none∨∃ o xs,H b=some (.frz o (.lst xs))
theorem Zpg {K:PySem.W.Frag} {mg mb:Str→Option Value} {CX:CXT} {fa:Addr} {sp:Sp} {s₁:Shared} {vs:?q}
 (KX:K.In s₁.heap) (hns:s₁.heap.Ns mainGlobals mg) (hb:s₁.heap.Ns builtinsNs mb) (hbb:∀ x:Str,x ≠ "__name__" → mb x=bootBuiltins x) (hlim:s₁.heap.NoLimit) (hsr:s₁.heap.NoSeer) (hdg:s₁.heap.NoDigits) (hg:s₁.gens=#[])
 (ha:s₁.heap.get? a=some { cls:=.type "list",data:=.seq vs.toArray }) (hi:IntsAre vs ns) (hl:ns.length≤sizeLine) (hr:Room k callerA)
 (F:∀ base:Heap,K.In base→base.Ns mainGlobals mg→FnOk P w K mg base CX k fa fd [x] sp) (hbind:∀ (s:Shared) (u:Value),BindsTo s fd ⟨[u],[]⟩ [(x,u)])
 (hsp:∀ H:Hp,Only H→SqL K H a (ns.map V.int)→sp [.ref a] H (fun v _=>v=.bl true) fun _ _ _=>False)
 (hCX:∀ H e s',CX [] H s₁ (fun _ _ _=>False) e s'→False) :
 codeAny (model P w) callerA (.call (.ref fa) ⟨[.ref a],[]⟩) (fun r s'=>r=.ok (.ret (.bool true))∧OldK s₁.heap s'.heap∧s'.os=s₁.os∧AllBare s'.gens) s₁:=by
 have rv:=Zdw hi;have lenV:=hi.length
 have core:∀ H:Hp,Only H→SqL K H a (ns.map V.int)→HOk P w H s₁.heap→(∀ b,H b≠none→b=a)→(H a≠none→K.lookup a=none) →
  codeAny (model P w) callerA (.call (.ref fa) ⟨[.ref a],[]⟩) (fun r s'=>r=.ok (.ret (.bool true))∧OldK s₁.heap s'.heap∧s'.os=s₁.os∧AllBare s'.gens) s₁:=by
  intro H hO hS hok hA hK;have Zcj:∀ {b:Addr} {o:Obj},s₁.heap.get? b=some o→H b=none→(hidT s₁.heap H).get? b=some o:=fun e n=>Zqh e n
  have noA:∀ {b:Addr} {o:Obj} {es:Array DictEntry} {ep:Nat},s₁.heap.get? b=some o→o.data=.dict es ep→H b=none:=fun {b o es ep} e d=>by
   cases q:H b with
   | none=>rfl
   | some u =>
     have e':b=a:=hA b (by rw [q];simp);subst e';rw [ha] at e;cases e;have d':Data.seq vs.toArray _=Data.dict es ep:=d;cases d'
  have nsK:∀ {b:Addr} {m:Str→Option Value},s₁.heap.Ns b m→(hidT s₁.heap H).Ns b m:=fun {b m} ⟨o,es,ep,e,d,r⟩=>⟨o,es,ep,Zcj e (noA e d),d,r⟩
  have hKb:K.In (hidT s₁.heap H):=fun b o e=>Zcj (KX b o e) (by
   cases q:H b with
   | none=>rfl
   | some u =>
     have e':b=a:=hA b (by rw [q];simp);subst e';rw [hK (by rw [q];simp)] at e;cases e)
  have sK:(hidT s₁.heap H).NoSeer:=⟨let ⟨mc,a,b⟩:=hsr.statics;⟨mc,nsK a,b⟩,let ⟨mc,a,b⟩:=hsr.mods;⟨mc,nsK a,b⟩,let ⟨mb,a,b⟩:=hsr.imp;⟨mb,nsK a,b⟩,let ⟨mg',bm,ob,a,b,c,d,e⟩:=hsr.main;⟨mg',bm,ob,nsK a,b,Zcj c (by
   cases q:H bm with
   | none=>rfl
   | some u =>
     have e':bm=_:=hA bm (by rw [q];simp);subst e';rw [ha] at c;cases c;exact absurd d ?g),d,e⟩⟩
  have hM:Mod K mg (hidT s₁.heap H):=⟨hKb,nsK hns,⟨mb,nsK hb,hbb⟩,(let ⟨mc,h1,h2⟩:=hlim;⟨mc,nsK h1,h2⟩),sK,(let ⟨mc,h1,h2⟩:=hdg;⟨mc,nsK h1,h2⟩)⟩;have e0:Env0 P w K mg (hidT s₁.heap H) callerA [] s₁ H:=⟨rfl,hM,fun b o e=>Zss e,Nat.le_of_eq (Zl7 _ _),trivial,fun b hb=>absurd (show b∈([]:List Addr) from hb) ?g,hok,.of_eq hg⟩;refine codeAny_mono ((F _ hKb (nsK hns)).run callerA [] s₁ H ⟨[.ref a],[]⟩ [.ref a] [.ref a] _ _ hr e0 (hbind s₁ (.ref a)) (.cons rfl .nil) (hsp H hO hS)) fun r s' h=>?_;cases r with
  | error e=>exact (hCX H e s' h).elim
  | ok fl =>
    cases fl with
    | next=>exact False.elim h
    | brk=>exact False.elim h
    | cont=>exact False.elim h
    | ret u =>
      obtain ⟨v,H',os,bare,un,hok',r',q⟩:=h;have q':v=.bl true:=q;subst q';obtain rfl:u=Value.bool true:=r';refine ⟨rfl,OldK.of_keep fun b o e=>?_,os,bare⟩;cases q:H b with
      | none=>exact un.keep b o e q (by intro z;exact absurd (show b∈([]:List Addr) from z) ?g) ?g
      | some u =>
        rcases hO b with z|⟨ob,xs,z⟩
        · rw [q] at z;cases z
        · have z2:=un.frzs b ob _ z;obtain ⟨e1,_⟩:=hok b _ z;obtain ⟨e2,_⟩:=hok' b _ z2;rw [e] at e1;cases e1;exact e2
 cases hk:K.lookup a with
 | some o =>
   have e:=KX a o hk;rw [ha] at e;cases e
   refine core (fun _=>none) (fun _=>.inl rfl) (.inr ⟨_,vs.toArray,_,hk,rfl,rfl,rfl,by rw [n15_,lenV];exact hl,by simpa using rv⟩) (fun b u z=>by have z':(none:Option HO)=some u:=z;cases z') (fun b z=>absurd rfl z) fun z=>absurd rfl z
 | none =>
   refine core (fun b=>if b=a then some (.frz { cls:=.type "list",data:=.seq vs.toArray } (.lst (ns.map V.int))) else none) (fun b=>?_) (.inl (.inr ⟨{ cls:=.type "list",data:=.seq vs.toArray },if_pos rfl⟩)) (fun b u z=>?_) (fun b z=>?_) fun _=>hk
   · by_cases hb:b=a
     · exact .inr ⟨_,_,if_pos hb⟩
     · exact .inl (if_neg hb)
   · by_cases hb:b=a
     · have z':=(if_pos hb).symm.trans z;cases z'
       subst hb;exact ⟨ha,by rw [n5_];exact hl,vs,_,rv,ha⟩
     · have z':=(if_neg hb).symm.trans z;cases z'
   · by_cases hb:b=a
     · exact hb
     · exact absurd (if_neg hb) z
theorem Zt2 {l:PySem.W.OpenLaw} {q:Program} {loose:List Str} {XP:(Str→Option Value)→Heap→Prop} {YP:World→Heap→Prop} {d:DefRec} {K:Params→PySem.W.Frag} {CX:World→CXT} {sp:World→Sp}
 (hn:l.most=some n) (hn2:n≤sizeLine) (hdf:d.params.defaults=[]) (hr:Room k callerA)
 (hY:∀ (w:World) (h:Heap),YP w h→(K w.params).In h)
 (F:∀ (w:World) (mg:Str→Option Value) (fa:Addr) (h:Heap),(K w.params).In h→h.Ns mainGlobals mg→mg d.name=some (.ref fa) →
   ∃ fd:FuncData,(∀ (s:Shared) (u:Value),BindsTo s fd ⟨[u],[]⟩ [(x,u)]) ∧
     ∀ base:Heap,(K w.params).In base→base.Ns mainGlobals mg→FnOk l.prog w (K w.params) mg base (CX w) k fa fd [x] (sp w))
 (hsp:∀ (w:World) (H:Hp) (a:Addr) (ns:?e),ns.length≤n→Only H→SqL (K w.params) H a (ns.map V.int)→sp w [.ref a] H (fun v _=>v=.bl true) fun _ _ _=>False)
 (hCX:∀ (w:World) (H:Hp) (s:Shared) (e:Value) (s':Shared),CX w [] H s (fun _ _ _=>False) e s'→False) (him:importsNone q=true:=by decide +kernel) :
 PySem.W.WalkO q loose XP YP l.row.toRowW d [] (fun f vs=>PySem.call f vs):=by
 refine Att.attach_call hn hdf fun w s₀ s₁ mg mb fa o pm cd doc a vs ns G Y ho hd hcd hmg hobj hints hlen hg=>?_;have KX:=hY w _ Y;obtain ⟨fd,hb,hF⟩:=F w mg fa _ KX G.T.g hmg;exact Zpg KX G.T.g G.T.b G.T.builtins G.T.nolimit (G.T.seer him) G.T.nodigits hg hobj hints (n53_ hlen hn2) hr hF hb (fun H hO hS=>hsp w H a ns hlen hO hS) fun H e s'=>hCX w H s₁ e s'
def X1 (s:Stmt):Arguments:=match s with
 | .FunctionDef _ a _ _ _ _ _ _ _ _=>a
 | _=>{ posonlyargs:=[],args:=[],vararg:=none,kwonlyargs:=[],kw_defaults:=[],kwarg:=none,defaults:=[] }
def Xh (s:Stmt):List Stmt:=match s with
 | .FunctionDef _ _ b _ _ _ _ _ _ _=>b
 | _=>[]
def Zf (s:Stmt):Scope:=match s with
 | .FunctionDef _ _ _ _ _ _ sc _ _ _=>sc
 | _=>{ kind:=.function,names:=[],isGenerator:=false,isCoroutine:=false }
abbrev CX0:CXT:=fun _ _ _ _ _ _=>False
abbrev E0:XK:=fun _ _ _=>False
theorem Zv7:Zjr CX0 X E0:=fun _ _ _ _ _ _ _ h=>h.elim
structure Fun (K:PySem.W.Frag) (x qual:Str) (st:Stmt) (f:Addr) (fd:FuncData):Prop where
 ex:∃ (oc:Value) (od:Option Addr) (kV doc pm:Value) (an:Option Addr) (cdv ct:Value) (osl:Array (Option Value)),
  fd=PySem.W.fnOf x qual (X1 st) (Xh st) (Zf st) .none kV doc pm an cdv ct∧K.lookup f=some ⟨oc,od,.func fd,osl⟩∧PySem.W.codeIn K cdv qual=true
 kp:PySem.W.keepIn K (.ref f)=true
section
variable {P:Program} {w:World} {K:PySem.W.Frag} {mg:Str→Option Value} {base:Heap}
theorem Fun.ok {st:Stmt} {ps:List Str} {sp:Sp} (F:Fun K x qual st f fd) (S:FnScope N ps (Zf st)) (len:∀ vs H Q E,sp vs H Q E→vs.length=ps.length)
 (hbody:∀ (cdv:Value) (A:Around) (outer:List Env) (s:Shared) (H:Hp) (vs:List V) (Q:VK) (E:XK),Room k (A.deeper (envOfC qual (Zf st) s.z f cdv))→sp vs H Q E →
   ∃ t,PSs (cxOf CX0 P w K mg base N qual (Zf st) f cdv A outer s H E).nox (Xh st) t∧t { nx:=fun _ H'=>Q .non H',rt:=Q } (start N vs) H):FnOk P w K mg base CX0 (k+1) f fd ps sp:=by
 obtain ⟨oc,od,kV,doc,pm,an,cdv,ct,osl,rfl,lk,hcd⟩:=F.ex;refine Zwk lk hcd S len fun A outer s H vs Q E hr hsp=>?_;obtain ⟨t,h,q⟩:=hbody cdv A outer s H vs Q E hr hsp;exact ⟨t,h.nox,q⟩
theorem Fun.binds {st:Stmt} {ps:List Str} (F:Fun K x qual st f fd)
 (h:∀ (kV doc pm:Value) (an:Option Addr) (cdv ct:Value) (us:?q),us.length=ps.length→bindArgs (PySem.W.fnOf x qual (X1 st) (Xh st) (Zf st) .none kV doc pm an cdv ct) ⟨us,[]⟩=pure (ps.zip us)):Binds K fd ps []:=by
 obtain ⟨oc,od,kV,doc,pm,an,cdv,ct,osl,rfl,lk,hcd⟩:=F.ex;exact .all (h kV doc pm an cdv ct)
theorem Zrq {st:Stmt} {oc:Value} {od an:Option Addr} {osl:Array (Option Value)} {kV doc pm cdv ct:Value} (l:K.lookup f=some ⟨oc,od,.func (PySem.W.fnOf x qual (X1 st) (Xh st) (Zf st) .none kV doc pm an cdv ct),osl⟩)
 (c:PySem.W.codeIn K cdv qual=true) (k:PySem.W.keepIn K (.ref f)=true):Fun K x qual st f (PySem.W.fnOf x qual (X1 st) (Xh st) (Zf st) .none kV doc pm an cdv ct):=⟨⟨oc,od,kV,doc,pm,an,cdv,ct,osl,rfl,l,c⟩,k⟩
end
theorem Zid (hr:Room k A):A.units+1<cLine:=Nat.lt_of_le_of_lt (Nat.add_le_add_left (by decide:1≤64) _) hr.units
section
variable {X:Cx}
theorem pv (i:Nat) (hN:X.N[i]? = some x:=by rfl) (hv:Vis X.env.scope x:=by first|exact Or.inl rfl|exact Or.inr ?s|exact Or.inr (Or.inr rfl)) (hd:(x == ("__debug__" : Str))=false:=by decide)
 (hcd:(x == ("__classdict__" : Str))=false:=by decide):PE X (.Name x pos) (tVar i):=Zv0 hN hv hd hcd
end
theorem iteF {A B:Prop} (h:B):if false=true then A else B:=by
 rw [if_neg n17_];exact h
theorem iteT {A B:Prop} (h:A):if true=true then A else B:=by
 rw [if_pos rfl];exact h
theorem ite2 {c A B:Prop} [Decidable c] (h1:c→A) (h2:¬ c→B):if c then A else B:=by
 by_cases h:c
 · rw [if_pos h];exact h1 h
 · rw [if_neg h];exact h2 h
def Same (H H':Hp):Prop:=∀ b o,H b=some o→H' b=some o
theorem Same.refl (H:Hp):Same H H:=fun _ _ h=>h
theorem Same.trans (a:Same H H1) (b:Same H1 H2):Same H H2:=fun c o h=>b c o (a c o h)
theorem Same.seq {K:PySem.W.Frag} (e:Same H H') (h:SqL K H a xs):SqL K H' a xs:=by
 rcases h with (h|⟨o,h⟩)|h
 · exact .inl (.inl (e _ _ h))
 · exact .inl (.inr ⟨o,e _ _ h⟩)
 · exact .inr h
end L2
namespace FM
end FM
namespace L2
open PySem PySem.Spec PyProof.Rows
variable {C D a it l:Addr} {A:Around} {X:Cx} {env:Env} {e elt iter tg:Expr} {h h':Heap} {H H' H1 H2:Hp} {pins:?y} {fr:List (Option Nat)} {cl:List (Str×Addr)} {fp:List Addr} {es ifs:List Expr} {N:List Str} {M:Model} {i j k n:Nat} {o:Obj} {pos:Pos} {P prog:Program} {R:Result→?i} {scope:Scope} {s s3:Shared} {σ:St} {qual x:Str} {ta:TA} {te:TE} {g:TG} {wi:TI} {tt:TT} {E:Value→?i} {w:World}
theorem Zcq {target:Expr} {it acc:Value} (I:Nat→?i)
 (turn:∀ n s,I n s→wpAny ?p A (pyNext it) (fun r s₁=>match r with
   | none=>R (.ok .next) s₁
   | some v=>wpAny ?p A (letOwnedTupleGo target it v) (fun _ s₀=>wpAny ?p A (assign target env v) (fun _ s₂ =>
      wpAny ?p A (forIn ifs true fun c r=>if r=true then do let ok ← isTrue c env (eval c env);pure (ForInStep.yield ok) else pure (ForInStep.yield r)) (fun ok s₃ =>
       if ok=true then wpAny ?p A (eval elt env) (fun x s₄ =>
        wpAny ?p A (call (.builtin "list.append") [acc,x]) (fun _ s₅=>∃ m,m<n∧I m s₅) (fun _ _=>False) s₄) (fun _ _=>False) s₃
       else ∃ m,m<n∧I m s₃) (fun _ _=>False) s₂) (fun _ _=>False) s₀) (fun _ _=>False) s₁) (fun _ _=>False) s)
 (n:Nat) (h:I n s) :
 codeAny ?p A (.compLoop (.ListComp elt [⟨target,iter,ifs,0⟩] scope pos) 0 it acc env) R s:=by
 refine codeAny_loop rfl I (fun n s hI=>?_) n h;show wpAny _ A ((compTurn (.ListComp elt [⟨target,iter,ifs,0⟩] scope pos) 0 it acc env).onRaise (fun x=>do noteFrame x env;theTreesLotGoes x)) _ _ s
 refine wpAny_noted ?_;rw [compTurn_list];refine n0_ (wpAny_standAt (n0_ (n38_ (turn n s hI) (fun r s₁ h₁=>?_) fun _ _ h'=>h'.elim)));cases r with
 | none=>exact n2_ h₁
 | some v =>
   refine n0_ (n38_ h₁ (fun _ s₀ h₀=>?_) fun _ _ h'=>h'.elim);refine n0_ (n38_ h₀ (fun _ s₂ h₂=>n0_ (n38_ h₂ (fun ok s₃ h₃=>?_) fun _ _ h'=>h'.elim)) fun _ _ h'=>h'.elim);cases ok with
   | false=>exact n2_ ⟨rfl,h₃⟩
   | true =>
     exact n0_ (n0_ (n38_ h₃ (fun x s₄ h₄=>n0_ (n38_ h₄ (fun _ s₅ h₅=>n2_ (n2_ ⟨rfl,h₅⟩)) fun _ _ h'=>h'.elim)) fun _ _ h'=>h'.elim))
theorem Yd:∀ (names:List (Str×NameKind)) (n:Nat) (acc:List (Str×Addr)),cellsFrom n names acc=cellsFrom n names []++acc
 | [],_,_=>rfl
 | (x,k) :: r,n,acc=>by
   unfold cellsFrom;split
   · rw [Yd r (n+1) ((x,n) :: acc),Yd r (n+1) [(x,n)],n49_];rfl
   · exact Yd r n acc
theorem Zah {c:Addr}:∀ (names:List (Str×NameKind)) (n:Nat),(x,c)∈cellsFrom n names []→(x,NameKind.cell)∈names
 | [],_,h=>by simp [cellsFrom] at h
 | (y,k) :: r,n,h=>by
   unfold cellsFrom at h;split at h
   · rename_i hk
     rw [Yd] at h
     rcases n28_.mp h with h|h
     · exact n16_ _ (Zah r _ h)
     · cases n25_.mp h
       rw [show k=.cell by simpa using hk];exact n19_
   · exact n16_ _ (Zah r _ h)
theorem Zb2 {names:List (Str×NameKind)} {c:Addr} (h:(cellsFrom n names cl).lookup x=some c):(cellsFrom n names []).lookup x=some c∨cl.lookup x=some c:=by
 rw [Yd,List.lookup_append] at h;cases e:(cellsFrom n names []).lookup x with
 | none=>rw [e] at h;exact .inr h
 | some c'=>rw [e] at h;exact .inl h
theorem Zlm {globals:Addr} {Q:Env→?i}
 (hQ:∀ h',h'.Ns s.z (fun _=>none)→(∀ b o,s.heap.get? b=some o→h'.get? b=some o)→CellsOk h' (s.z+1) (cellsFrom (s.z+1) scope.names []) →
   Q (newEnv scope s.z globals (cellsFrom (s.z+1) scope.names cl) qual none .none (some env) builtinsNs) { s with heap:=h' }) :
 wpAny M A (newFunctionEnv scope globals cl [] qual none .none (some env)) Q E s:=by
 simp only [newFunctionEnv,Option.isSome_some,if_true];refine n0_ (wpAny_alloc ?_);refine n0_ (wpAny_layCells _ (fun name kind cells=>by cases hkc:kind == NameKind.cell<;>simp [hkc]) _ _ _ _ ?_);have ok:=cellsFrom_ok scope.names (s.heap.push { cls:=.type "dict",data:=.dict #[] }) (s.z+1) [] ⟨fun _ _ hm=>(nomatch hm),List.Pairwise.nil⟩ (by rw [n43_];exact n11_ _);rw [n43_] at ok;rw [show ({ s with heap:=s.heap.push { cls:=.type "dict",data:=.dict #[] } }:Shared).heap.objs.size=s.z+1 from n43_ ..];rw [List.forIn_nil];exact n0_ (n2_ (n2_ (hQ _ ((Heap.Ns.new s.heap (.type "dict")).keeps (pushCells_keeps _ _)) (fun b o e=>pushCells_keeps _ _ b o (n3_ _ e)) ok)))
def blk (X:Cx) (scope:Scope) (cl:List (Str×Addr)) (C:Addr) (N:List Str) (s3:Shared) (H3:Hp) (fp:List Addr):Cx where
 prog:=X.prog
 w:=X.w
 K:=X.K
 mg:=X.mg
 base:=X.base
 A:=X.A
 N:=N
 s₀:=s3
 H₀:=H3
 env:=compEnvC scope (cellsFrom (C+1) scope.names cl) C X.env
 outer:=X.stack
 stack:=X.stack
 ex:=fp
 fn:=fun x=>scope.names.lookup x == some .cell
 calm:=X.calm
 pn:=[]
 xe:=fun _ _=>False
structure LcO (X:Cx) (scope:Scope) (cl:List (Str×Addr)) (N:List Str) (fr:List (Option Nat)):Prop where
 clos:closureFor scope X.env=pure cl
 sub:∀ x c,cl.lookup x=some c→X.env.cells.lookup x=some c
 has:∀ x,((relabel scope X.env).names.lookup x=some .cell∨(relabel scope X.env).names.lookup x=some .free)→scope.names.lookup x=some .cell∨∃ c,cl.lookup x=some c
 kind:scope.kind=.function
 names:∀ y∈scope.names,y.2=.local→scope.names.lookup y.1=some .local
 len:fr.length=N.length
 from':∀ (i j:Nat),fr[i]? = some (some j)→∃ x,N[i]? = some x∧X.N[j]? = some x∧(X.env.scope.names.lookup x=some .cell∨X.env.scope.names.lookup x=some .free)∧((relabel scope X.env).names.lookup x=some .cell∨(relabel scope X.env).names.lookup x=some .free)∧(∃ c,cl.lookup x=some c)∧(x,NameKind.cell)∉scope.names
def Xz (fr:List (Option Nat)) (σ:St):St:=fr.map fun o=>match o with
 | some j=>match σ[j]? with
   | some v=>v
   | none=>none
 | none=>none
theorem pgB {H3:Hp} (i:Nat) (hN:N.Nodup:=by decide) (hi:N[i]? = some x:=by rfl) (hf:(blk X scope cl C N s3 H3 fp).env.scope.names.lookup x=some .local:=by rfl):PG ?B (.Name x pos) (Zy i):=Zl hN hi (.inl hf) (.inr hf)
theorem Ztz (ok:HOk P w H h) (hfree:H a=none) (hs:Heap.SameBut a h h'):HOk P w H h':=fun b ob e=>by
 refine (ok b ob e).stay (fun c w' hc q=>(hs.2 c ?_).trans q) (fun _ q=>q) fun _ _ q=>q;rintro rfl
 rcases hc with rfl|hc
 · rw [hfree] at e;cases e
 · rw [hfree] at hc;cases hc
theorem Zm5 {h1:Heap} (L:LcO X scope cl N fr) (I:Inv X pins σ H s3) (co:CellsOk h1 (s3.z+1) (cellsFrom (s3.z+1) scope.names []))
 (hf:∀ b∈fp,FpOk X pins H b) (hlt:∀ b∈fp,b<s3.z):(blk X scope cl s3.z N s3 H fp).Ok where
 mod:=I.ok.mod
 kind:=L.kind
 glob:=I.ok.glob
 blt:=I.ok.blt
 above:=n11_ _
 inj:=fun x y c h1 h2=>by
  have old:∀ z,cl.lookup z=some c→c<s3.z:=fun z e=>let ⟨_,k⟩:=I.cell z c (L.sub z c e);k.lt;have new:∀ z,(cellsFrom (s3.z+1) scope.names []).lookup z=some c→s3.z+1≤c:=fun z e=>(co.empty z c (n39_ e)).2
  rcases Zb2 h1 with a|a<;>rcases Zb2 h2 with b|b
  · exact name_of_addr co.apart (n39_ a) (n39_ b)
  · exact absurd (n23_ (old y b) (Nat.le_of_succ_le (new x a))) (n77_ _)
  · exact absurd (n23_ (old x a) (Nat.le_of_succ_le (new y b))) (n77_ _)
  · exact I.ok.inj x y c (L.sub x c a) (L.sub y c b)
 has:=fun x h=>by
  refine Option.isSome_iff_exists.mp (PySem.W.cellsFrom_some scope.names (s3.z+1) cl ?_)
  rcases L.has x h with z|⟨c,z⟩
  · exact .inl z
  · exact .inr (by rw [z];rfl)
 cab:=fun x c h e=>by
  obtain ⟨c',e'⟩:=Zw (sc:=scope) (n:=s3.z+1) (beq_iff_eq.mp (show (scope.names.lookup x == some .cell)=true from h));have e2:(cellsFrom (s3.z+1) scope.names cl).lookup x=some c:=e;rw [Yd,List.lookup_append,e'] at e2;have e3:c'=c:=Option.some.inj e2;subst e3;exact Nat.le_of_succ_le (co.empty x c' (n39_ e')).2
 hd:=I.ok.hd
 frames:=I.ok.frames
 stk:=.inl rfl
 exf:=fun b hb=>⟨n27_ (hlt b hb),fun x c h=>by
  rcases Zb2 h with a|a
  · exact n70_ (n23_ (hlt b hb) (Nat.le_of_succ_le (co.empty x c (n39_ a)).2))
  · exact (hf b hb).2.2.2.2.1 x c (L.sub x c a)⟩
 bs:=I.bs
 bsz:=n53_ I.ok.bsz I.sz
 noex:=fun b o e hb=>by
  rcases (hf b hb).2.2.2.1 with z|z
  · exact I.ok.noex b o e z
  · exact absurd (n23_ (n13_ e) (n53_ I.ok.bsz z)) (n77_ _)
 exfs:=fun b hb z=>by
  rcases n9_.mp (I.stkSub b z) with e|e
  · exact (hf b hb).2.1 e
  · exact (hf b hb).2.2.1 e
 funs:=I.stack
 frf:=I.stkFree
theorem Zmw {h1:Heap} {t:Nat} (L:LcO X scope cl N fr) (I:Inv X pins σ H s3) (co:CellsOk h1 (s3.z+1) (cellsFrom (s3.z+1) scope.names []))
 (hf:∀ b∈fp,FpOk X pins H b) (hlt:∀ b∈fp,b<s3.z) {m0:Str→Option Value} (hns:h1.Ns s3.z m0) (hk:∀ b o,s3.heap.get? b=some o→h1.get? b=some o) :
 Inv (blk X scope cl s3.z N s3 H fp) [] (Xz fr σ) H { s3 with heap:=h1,toks:=t } where
 ok:=Zm5 L I co hf hlt
 os:=rfl
 bare:=I.bare
 base:=Un.kept hk
 loc:=⟨m0,hns,fun i x v e1 e2 e3=>by
  unfold Xz at e2;rw [n7_] at e2;cases q:fr[i]? with
  | none=>rw [q] at e2;cases e2
  | some o =>
    rw [q] at e2;cases o with
    | none=>cases e2
    | some j =>
      obtain ⟨y,n1,n2,n3,n4,⟨c,hc⟩,n6⟩:=L.from' i j q;have e1':N[i]? = some x:=e1;rw [n1] at e1';cases e1'
      have e2':(match σ[j]? with|some v=>v|none=>none)=some v:=Option.some.inj e2
      have e2'':σ[j]? = some (some v):=by
       cases z:σ[j]? with
       | none=>rw [z] at e2';cases e2'
       | some w'=>rw [z] at e2';rw [show w'=some v from e2']
      obtain ⟨m,_,hl⟩:=I.loc;obtain ⟨u,r,lk⟩:=hl j x v n2 e2'' (.inr n3);refine ⟨u,r,.inr ⟨n4,c,?_,?_⟩⟩
      · show (cellsFrom (s3.z+1) scope.names cl).lookup x=some c
        rw [Yd,List.lookup_append];cases z:(cellsFrom (s3.z+1) scope.names []).lookup x with
        | none=>exact hc
        | some c'=>exact absurd (Zah _ _ (n39_ z)) n6
      rcases lk with ⟨k,_⟩|⟨k,c',hc',z⟩
      · exfalso
        have k':X.env.scope.names.lookup x=some .local:=k
        rcases n3 with z|z<;>rw [k'] at z<;>cases z
      · rw [L.sub x c hc] at hc';cases hc'
        obtain ⟨o,ho,hd⟩:=z;exact ⟨o,hk _ _ ho,hd⟩⟩
 cell:=fun x c e=>by
  rcases Zb2 e with a|a
  · exact ⟨none,(co.empty x c (n39_ a)).1⟩
  · obtain ⟨v,o,ho,hd⟩:=I.cell x c (L.sub x c a);exact ⟨v,o,hk _ _ ho,hd⟩
 free:=I.hok.fresh (n11_ _)
 freeC:=fun x c e=>by
  rcases Zb2 e with a|a
  · exact .inl (I.hok.fresh (Nat.le_of_succ_le (co.empty x c (n39_ a)).2))
  · refine (I.freeC x c (L.sub x c a)).imp id fun ⟨_,z⟩=>⟨Bool.eq_false_iff.mpr fun q=>?_,z⟩;obtain ⟨v,oc,hoc,_⟩:=I.cell x c (L.sub x c a);obtain ⟨c',e'⟩:=Zw (sc:=scope) (n:=s3.z+1) (beq_iff_eq.mp (show (scope.names.lookup x == some .cell)=true from q));have e2:(cellsFrom (s3.z+1) scope.names cl).lookup x=some c:=e;rw [Yd,List.lookup_append,e'] at e2;cases e2
    exact absurd (n23_ (n13_ hoc) (Nat.le_of_succ_le (co.empty x c (n39_ e')).2)) (n77_ _)
 pin:=fun p hp=>absurd (show p∈([]:?y) from hp) ?g
 hok:=I.hok.kept hk
 len:=by
  unfold Xz;rw [n5_];exact L.len
def PIfs (X:Cx) (ifs:List Expr) (t:TT):Prop :=
 ∀ (pins:?y) (s:Shared) (σ:St) (H:Hp) (Q:Bool→?o),?k→t σ H Q →
   wpAny ?t X.A (forIn ifs true fun c r=>if r=true then do let ok ← isTrue c X.env (eval c X.env);pure (ForInStep.yield ok) else pure (ForInStep.yield r)) (TP X pins σ Q) X.xe s
def tYes:TT:=fun _ H Q=>Q true H
theorem Zq:PIfs X [] tYes:=fun _ _ _ H _ I h=>wpAny_tests_nil ⟨H,I,h⟩
theorem Zfq {c:Expr} {t:TT} (h:PT X c t):PIfs X [c] t:=fun pins s σ H Q I hw=>wpAny_tests_one (h pins s σ H Q I hw)
def LcGo (J:It) (g:TG) (tt:TT) (te:TE) (σ0:St) (H1:Hp) (D:Addr) (Q:VK):Prop:=∃ W:Nat→Nat→St→?o,(∃ m,W 0 m σ0 (upd H1 D (.lst []))) ∧
 ∀ i m σ2 H2,W i m σ2 H2→(J.stop i H2∧Q (.ref D) H2)∨(J.go i H2∧∀ x H3,J.yld i H2 x H3→g x σ2 H3 fun σ4 H4=>tt σ4 H4 fun b H5=>if b=true then te σ4 H5 fun y H6=>∃ ys,H6 D=some (.lst ys)∧ys.length<sizeLine ∧
   ∃ m',m'<m∧W (i+1) m' σ4 (upd H6 D (.lst (ys++[y]))) else ∃ m',m'<m∧W (i+1) m' σ4 H5)
def tLC (wi:TI) (g:TG) (tt:TT) (te:TE) (fr:List (Option Nat)):TE:=fun σ H Q=>wi σ H fun J H1=>∀ D,H1 D=none→LcGo J g tt te (Xz fr σ) H1 D Q
abbrev NoX:Value→?i:=fun _ _=>False
theorem Zn5 {σ7:St} {H3 H7:Hp} {s7:Shared} (I3:Inv X pins σ H3 s3) (f3:∀ b∈fp,FpOk X pins H3 b) (I7:Inv (blk X scope cl s3.z N s3 H3 fp) [] σ7 H7 s7) :
 ∃ m7,s7.heap.Ns s3.z m7∧∀ h8,Heap.SameBut s3.z s7.heap h8→Inv X pins σ H7 { s7 with heap:=h8 }:=by
 obtain ⟨m7,hn7,_⟩:=I7.loc;refine ⟨m7,hn7,fun h8 sb8=>?_⟩;have un:=I7.base;have neC:∀ b o,s3.heap.get? b=some o→b≠s3.z:=fun b o e=>n27_ (n13_ e);refine I3.call' (s':={ s7 with heap:=h8 }) (ch:=fp) I7.os ?_ (Ztz I7.hok I7.free sb8) I7.bare (fun b hb=>⟨(f3 b hb).2.2.2.1,(f3 b hb).2.1,(f3 b hb).2.2.2.2.1,(f3 b hb).2.2.2.2.2⟩);refine ⟨fun b o e n' hb hx=>?_,fun b o e n' hb hx=>?_,un.free,fun b o e hx=>?_,un.tups,un.frzs,un.tbls⟩
 · exact sb8.extBut b o (neC b o e) (un.keep b o e n' hb hx)
 · obtain ⟨sl,q⟩:=un.slot b o e n' hb hx;exact ⟨sl,sb8.extBut b _ (neC b o e) q⟩
 · obtain ⟨o',q⟩:=un.there b o e hx;exact ⟨o',sb8.extBut b _ (neC b o e) q⟩
def Zlp (M:Model) (A:Around) (tg:Expr) (it:Value) (env:Env) (R:Result→?i) (B:Nat→?i) (n:Nat) (s:Shared):Prop :=
 wpAny M A (pyNext it) (fun r s1=>match r with
  | none=>R (.ok .next) s1
  | some v=>wpAny M A (letOwnedTupleGo tg it v) (fun _ s0=>wpAny M A (assign tg env v) (fun _ s2=>B n s2) NoX s0) NoX s1) NoX s
theorem Zbu {s2:Shared} {J:It} {tn:Nat→Heap→Prop} {ac:HO} {o0:Obj} {W:Nat→Nat→St→?o} {m0:Nat} {Qn:?o} {Kn:Nat→Nat→St→?o} {c:Expr} {R:Addr→Result→?i} {B:(Nat→?i)→Nat→?i}
 (hs3:s3={ s2 with heap:=s2.heap.push o0 }) (hc:X.calm=true) (L:LcO X scope cl N fr) (hg:∀ C s3 H3 fp,PG ?B tg g)
 (I2:Inv X pins σ H2 s2) (T:Turn X.prog X.w X.K tg J fp it tn) (st2:tn 0 s2.heap) (f2:∀ b∈fp,FpOk X pins H2 b)
 (ok0:ObjOk X.prog X.w (upd H2 s2.z ac) (s2.heap.push o0) s2.z ac) (w0:W 0 m0 (Xz fr σ) (upd H2 s2.z ac))
 (turn:∀ i m σ2 H2,W i m σ2 H2→(J.stop i H2∧Qn H2)∨(J.go i H2∧∀ x H3,J.yld i H2 x H3→g x σ2 H3 (Kn i m)))
 (start:∀ env s4,codeAny ?t X.A (.compLoop c 0 (.ref it) (.ref s2.z) env) (R s3.z) s4→(∀ E,wpAny ?t X.A (pyIter (.ref it)) (fun it' s'=>codeAny ?t X.A (.compLoop c 0 it' (.ref s2.z) env) (R s3.z) s') E s4)→codeAny ?t X.A (.compStart c 0 (.ref it) (.ref s2.z) env) (R s3.z) s4)
 (loop:∀ (LI:Nat→?i) s4,(∀ n s,LI n s→Zlp ?t X.A tg (.ref it) (blk X scope cl s3.z N s3 (upd H2 s2.z ac) fp).env (R s3.z) (B LI) n s)→∀ n,LI n s4→codeAny ?t X.A (.compLoop c 0 (.ref it) (.ref s2.z) (blk X scope cl s3.z N s3 (upd H2 s2.z ac) fp).env) (R s3.z) s4)
 (stop:∀ H7 s7,Qn H7→Inv X pins σ (upd H2 s2.z ac) s3→H7 s3.z=none→(∃ m7,s7.heap.Ns s3.z m7∧∀ h8,Heap.SameBut s3.z s7.heap h8→Inv X pins σ H7 { s7 with heap:=h8 })→R s3.z (.ok .next) s7)
 (body:∀ (LI:Nat→?i) n i σ9 H9 s9 ps,Inv (blk X scope cl s3.z N s3 (upd H2 s2.z ac) fp) ps σ9 H9 s9→Kn i n σ9 H9→(∀ {s11:Shared} {σ11:St} {H11:Hp} {m':Nat},Inv (blk X scope cl s3.z N s3 (upd H2 s2.z ac) fp) ps σ11 H11 s11→m'<n→W (i+1) m' σ11 H11→∃ m,m<n∧LI m s11)→B LI n s9) :
 wpAny ?t X.A (newFunctionEnv scope X.env.globals cl [] X.env.qual none .none (some X.env)) (fun cenv s4=>codeAny ?t X.A (.compStart c 0 (.ref it) (.ref s2.z) { cenv with scope:=relabel scope X.env }) (R cenv.locals) s4) X.xe s3:=by
 have fplt:∀ b∈fp,b<s2.z:=fun b hb=>by
  obtain ⟨o,q,_⟩:=T.obj _ _ st2 b hb;exact n13_ q
 have k3:∀ b o,s2.heap.get? b=some o→s3.heap.get? b=some o:=fun b o e=>by rw [hs3];exact n3_ _ e
 have I3:Inv X pins σ (upd H2 s2.z ac) s3:=by rw [hs3];exact I2.laid (t':=s2.toks) (fun b o e=>n3_ _ e) (n11_ _) ok0
 have f3:∀ b∈fp,FpOk X pins (upd H2 s2.z ac) b:=fun b hb=>⟨by rw [Zh (n27_ (fplt b hb))];exact (f2 b hb).1,(f2 b hb).2⟩;have st3:tn 0 s3.heap:=T.keep _ _ _ st2 fun b hb o e=>k3 b o e
 have fplt3:∀ b∈fp,b<s3.z:=fun b hb=>by
  obtain ⟨o,q,_⟩:=T.obj _ _ st2 b hb;exact n13_ (k3 _ _ q)
 generalize upd H2 s2.z ac=H3 at *;refine Zlm fun h1 hns1 k4 ok3=>?_;have I4:=Zmw (t:=s3.toks) L I3 ok3 f3 fplt3 hns1 k4;have st4:tn 0 h1:=T.keep _ _ _ st3 fun b hb o e=>k4 b o e
 have fpB:∀ {H':Hp} (b:Addr),b∈fp→H' b=none→FpOk (blk X scope cl s3.z N s3 H3 fp) [] H' b:=fun b hb hn =>
  ⟨hn,n27_ (fplt3 b hb),fun z=>(Zm5 L I3 ok3 f3 fplt3).exfs b hb z,.inl hb,fun x c e=>((Zm5 L I3 ok3 f3 fplt3).exf b hb).2 x c e,fun p hp=>absurd (show p∈([]:?y) from hp) ?g⟩
 have lp:=loop (fun n s'=>∃ i σ' H',Inv (blk X scope cl s3.z N s3 H3 fp) [] σ' H' s'∧tn i s'.heap∧(∀ b∈fp,H' b=none)∧W i n σ' H') { s3 with heap:=h1 } (fun n s6=>?_) m0 ⟨0,_,_,I4,st4,fun b hb=>(f3 b hb).1,w0⟩
 · exact start _ _ lp fun E=>T.self _ 0 _ _ _ st4 lp
 · rintro ⟨i,σ6,H6,I6,st6,fr6,w6⟩
   unfold Zlp
   rcases turn i n σ6 H6 w6 with ⟨sp,qn⟩|⟨go,step⟩
   · refine thn (T.done (blk X scope cl s3.z N s3 H3 fp) rfl rfl rfl hc i [] s6 σ6 H6 (fun _ _=>False) I6 (fun b hb=>fpB b hb (fr6 b hb)) st6 sp) fun r s7 ⟨hr,I7⟩=>?_;subst hr;exact stop _ _ qn I3 I7.free (Zn5 I3 f3 I7)
   · refine thn (T.item (blk X scope cl s3.z N s3 H3 fp) rfl rfl rfl hc i [] s6 σ6 H6 (fun _ _=>False) I6 (fun b hb=>fpB b hb (fr6 b hb)) st6 go) fun r s7 ⟨u,hr,h7⟩=>?_;subst hr;refine thn h7 fun _ s8 ⟨x,H8,I8,r8,y8,st8,fr8⟩=>?_;have I8':=I8.pinned (fun b hb=>fpB b hb (fr8 b hb)) (T.obj _ _ st8);refine thn (hg _ _ _ _ _ s8 σ6 H8 x u _ I8' r8 (step x H8 y8)) fun _ s9 ⟨σ9,H9,I9,q9⟩=>?_;refine body _ n i σ9 H9 s9 _ I9 q9 fun {s11 σ11 H11 m'} I11 hm w11=>?_;refine ⟨m',hm,i+1,σ11,H11,I11.unpinned,T.keep _ _ _ st8 fun b hb o e=>(I11.pin (b,o) (n29_ _ (n29_ _ (Y3 hb e)))).1,fun b hb=>?_,w11⟩;obtain ⟨o,e,d⟩:=T.obj _ _ st8 b hb;exact (I11.pin (b,o) (n29_ _ (n29_ _ (Y3 hb e)))).2.1
theorem Zom {W:Nat→Nat→St→?o} {C0:Addr} {s30:Shared} {H30:Hp} {fp0:List Addr}
 (ht:∀ C s3 H3 fp,PIfs ?B ifs tt) (he:∀ C s3 H3 fp,PE ?B elt te) (LI:Nat→?i) (n i:Nat) (σ9:St) (H9:Hp) (s9:Shared) (ps:?y) (I9:Inv (blk X scope cl C0 N s30 H30 fp0) ps σ9 H9 s9)
 (q9:tt σ9 H9 fun b H5=>if b=true then te σ9 H5 fun y H6=>∃ ys,H6 D=some (.lst ys)∧ys.length<sizeLine∧∃ m',m'<n∧W (i+1) m' σ9 (upd H6 D (.lst (ys++[y]))) else ∃ m',m'<n∧W (i+1) m' σ9 H5)
 (again:∀ {s11:Shared} {σ11:St} {H11:Hp} {m':Nat},Inv (blk X scope cl C0 N s30 H30 fp0) ps σ11 H11 s11→m'<n→W (i+1) m' σ11 H11→∃ m,m<n∧LI m s11) :
 wpAny ?t X.A (forIn ifs true fun c r=>if r=true then do let ok ← isTrue c (blk X scope cl C0 N s30 H30 fp0).env (eval c (blk X scope cl C0 N s30 H30 fp0).env);pure (ForInStep.yield ok) else pure (ForInStep.yield r)) (fun ok s₃ =>
  if ok=true then wpAny ?t X.A (eval elt (blk X scope cl C0 N s30 H30 fp0).env) (fun x s₄ =>
   wpAny ?t X.A (call (.builtin "list.append") [.ref D,x]) (fun _ s₅=>∃ m,m<n∧LI m s₅) (fun _ _=>False) s₄) (fun _ _=>False) s₃
  else ∃ m,m<n∧LI m s₃) (fun _ _=>False) s9:=by
 refine thn (ht _ _ _ _ ps s9 σ9 H9 _ I9 q9) fun b s10 ⟨H10,I10,q10⟩=>?_;cases b with
 | false =>
   obtain ⟨m',hm,w11⟩:=q10;exact again I10 hm w11
 | true =>
   refine thn (he _ _ _ _ ps s10 σ9 H10 _ I10 q10) fun y s11 zq=>?_;obtain ⟨yv,H11,I11,r11,ys,hys,hz,m',hm,w11⟩:=zq
   have ap:=Xi (X:=blk X scope cl C0 N s30 H30 fp0) _ s11 σ9 H11 (.ref D) [yv] (.ref D) [y] (fun _ H'=>W (i+1) m' σ9 H') I11 rfl (.cons r11 .nil)
    ⟨_,ys,yv,rfl,rfl,hys,hz,w11⟩
   exact thn ap fun _ s12 ⟨_,H12,I12,_,q12⟩=>again I12 hm q12
theorem Zfh {Q:VK} {H7:Hp} {s7:Shared} (qn:Q (.ref D) H7) (c:∃ m7,s7.heap.Ns C m7∧∀ h8,Heap.SameBut C s7.heap h8→Inv X pins σ H7 { s7 with heap:=h8 }):compPost ?t X.A X.xe none (EP X pins σ Q) (.ref D) C (.ok .next) s7 :=
 let ⟨m7,hn7,c7⟩:=c
 ⟨m7,hn7,fun h8 sb8=>⟨.ref _,H7,c7 h8 sb8,rfl,qn⟩⟩
theorem Xe
 (hc:X.calm=true) (L:LcO X scope cl N fr) (hi:PI X tg iter wi) (hg:∀ C s3 H3 fp,PG ?B tg g)
 (ht:∀ C s3 H3 fp,PIfs ?B ifs tt) (he:∀ C s3 H3 fp,PE ?B elt te)
 (hs:∀ x,foldedSetIterable iter X.env x=pure x:=by intro _;rfl):PE X (.ListComp elt [⟨tg,iter,ifs,0⟩] scope pos) (tLC wi g tt te fr):=by
 intro pins s σ H Q I h;rw [eval_ListComp];refine wpAny_comprehension_free (use:=none) rfl hs L.clos L.kind L.names (thn (hi pins s σ H _ I h) fun v s1 h1=>thn h1 fun itv s2 h2=>?_);obtain ⟨it,fp,tn,J,H2,e,I2,T,st2,f2,h⟩:=h2;subst e;obtain ⟨W,⟨m0,w0⟩,turn⟩:=h s2.z (I2.hok.fresh (n11_ _));refine wpAny_newObj_type ?_;refine Zbu (ac:=.lst []) rfl hc L hg I2 T st2 f2 ⟨n42_ _,[],_,.nil,n8_ _ rfl⟩ w0 turn (fun _ _ a b=>codeAny_compStart_list a (b _)) (fun LI s4 t n h=>Zcq LI t n h) (fun H7 s7 qn _ _ c=>Zfh qn c) (Zom ht he)
def LcN (n:Nat) (Pv:Nat→St→?o) (i m:Nat) (σ:St) (H:Hp):Prop:=i≤n∧m=n-i∧Pv i σ H
section
variable {X:Cx}
def Zwu (i j:Int):Prop:=j≠0∧j.natAbs<2^8999
theorem Zrt {a:Nat} (h:a<2^n) (hn:0<n):a.log2<n:=by
 rcases Nat.eq_zero_or_pos a with rfl|hp
 · simpa using hn
 · exact (Nat.log2_lt (n70_ hp)).mpr h
theorem Zkg:OpR X (binaryOp .FloorDiv) (rI Zwu fun i j=>.int (i.fdiv j)):=opI fun _ _ _ _ _ _ _ hc q=>floordiv_int hc.1 q (.inl (PyProof.noPylong_of_log2 (Nat.lt_trans (Zrt hc.2 ?f) ?f)))
def CMulB (i j:Int):Prop:=i.natAbs<2^1000000∧j.natAbs<2^1000000
theorem Zow {i:Int} (h:i.natAbs<2^n) (hn:0<n):Builtin.Int.intBits i≤n:=by
 unfold Builtin.Int.intBits;split
 · exact n42_ _
 · exact Zrt h hn
theorem CMulB.ok {i j:Int} (h:CMulB i j):IntMulOk i j:=by
 unfold IntMulOk;have h1:=Zow h.1 ?f;have h2:=Zow h.2 ?f
 have:Builtin.Int.intTooBig (Builtin.Int.intBits i+Builtin.Int.intBits j:Nat)=false:=by
  unfold Builtin.Int.intTooBig bitsLine;refine n36_ ?_;omega
 intro z;rw [n40_] at z;rw [show ((Builtin.Int.intBits i:Int)+(Builtin.Int.intBits j:Int))=((Builtin.Int.intBits i+Builtin.Int.intBits j:Nat):Int) by omega,this] at z;exact absurd z.2 ?f
theorem Yh:OpR X (binaryOp .Mult) (rI CMulB fun i j=>.int (i*j)):=opI fun _ _ _ _ _ _ _ hc q=>mul_int q hc.ok
inductive BxRc_isi (K:PySem.W.Frag) (xs:List V) (H:Hp) (Q:VK):Prop
 | mk (x:_) (T:_) (t:_) (b:_) (q1:xs=[x,.ty T]) (q2:TyOf K H x t) (q3:PySem.W.kitOne K t (.type T)=some b) (q4:Q (.bl b) H):BxRc_isi K xs H Q
def Zue (K:PySem.W.Frag):List V→Hp→VK→Prop:=fun xs H Q=>BxRc_isi K xs H Q
theorem Zfk:Yv X (.builtin "isinstance") (Zue X.K):=by
 intro pins s σ H xs us Q I r h;obtain ⟨x,T,t,b,rfl,ty,e,q⟩:=h;cases r with
 | cons rx r =>
   cases r with
   | cons ry r =>
     cases r
     cases (show _=Value.type T from ry)
     exact Znw I rx ty e fun tk=>⟨.bl b,H,I.tok _,rfl,q⟩
theorem Zek {bs:List Bool}:∀ {us:?q} {i:Nat} {v:Value},Vals (bs.map V.bl) us→us[i]? = some v→∃ b,bs[i]? = some b∧v=Value.bool b:=by
 induction bs with
 | nil=>intro us i v h e;cases h;cases e
 | cons b bs ih =>
   intro us i v h e;cases h with
   | cons r t =>
     cases i with
     | zero=>cases e;exact ⟨b,rfl,r⟩
     | succ i=>obtain ⟨c,h1,h2⟩:=ih t e;exact ⟨c,h1,h2⟩
theorem Zex:∀ (bs:List Bool),((List.range bs.length).all fun i=>(bs[i]?).getD true)=bs.all id
 | []=>rfl
 | b :: bs=>by
   rw [n18_,List.range_succ_eq_map,List.all_cons,List.all_map,List.all_cons,← Zex bs];rfl
theorem Zio (hk:∀ b x,b∉[s.z]→(s.heap.push o).get? b=some x→h'.get? b=some x):∀ b x,s.heap.get? b=some x→h'.get? b=some x :=
 fun b x e=>hk b x (fun hm=>by rw [n25_.mp hm] at e;exact n77_ _ (n13_ e)) (n3_ _ e)
inductive BxRc_allB (K:PySem.W.Frag) (xs:List V) (H:Hp) (Q:VK):Prop
 | mk (p:Addr) (bs:List Bool) (q1:xs=[.ref p]) (q2:SqL K H p (bs.map V.bl)) (q3:Q (.bl (bs.all id)) H):BxRc_allB K xs H Q
def Zs2 (K:PySem.W.Frag):List V→Hp→VK→Prop:=fun xs H Q=>BxRc_allB K xs H Q
theorem Yu (hc:X.calm=true):Yv X (.builtin "all") (Zs2 X.K):=by
 intro pins s σ H xs us Q I r h;obtain ⟨p,bs,rfl,hq,q⟩:=h;cases r with
 | cons rx r =>
   cases r
   cases (show _=Value.ref p from rx)
   obtain ⟨its,rv,pl,hz⟩:=I.list hq;have hl:=pl.isList;have hlt:p<s.z:=by obtain ⟨_,e,_⟩:=hl;exact n13_ e
   have hh:X.A.handled=none:=I.ok.hd hc;refine call_all_walk (wpAny_pyIter_list hl ?_)
   refine ⟨s.z,[s.z,p],[s.z],its.toArray.size,_,_,fun i=>(bs[i]?).getD true,rfl,Walks.list (A:=X.A.in1) hh _ p (n27_ hlt) its.toArray,
    ⟨⟨_,n8_ _ rfl,rfl,rfl⟩,hl.push _⟩,fun i v s' Q' E' hP hQ=>?_,fun h' tk hk=>?_⟩
   · obtain ⟨b,e,rfl⟩:=Zek rv (show its[i]? = some v by simpa using hP);simp only [e,Option.getD_some] at hQ;exact wpAny_truthy_bool hQ
   · have e:((List.range its.toArray.size).all fun i=>(bs[i]?).getD true)=bs.all id:=by
      rw [n15_,← rv.length,n5_];exact Zex bs
     rw [e];exact ⟨.bl _,H,I.kept (Zio hk),rfl,q⟩
end
structure Cal (P:Program) (w:World) (K:PySem.W.Frag) (mg:Str→Option Value) (base:Heap) (x:Str) (k:Nat) (ps:List Str) (sp:Sp):Prop where
 ex:∃ (f:Addr) (fd:FuncData),FnOk P w K mg base CX0 k f fd ps sp∧mg x=some (.ref f)∧PySem.W.keepIn K (.ref f)=true∧Binds K fd ps []
theorem Zm {ps:List Str} {sp:Sp} {p:Pos} {t:TA} (C:Cal X.prog X.w X.K X.mg X.base x k ps sp) (hr:Room j X.A) (hj:k≤j) (hg:Gl X x) (ha:PA X (e :: es) t)
 (hdb:(x == ("__debug__" : Str))=false:=by decide) (he:starEach (e :: es) X.env=(false,eval e X.env) :: starEach es X.env:=by rfl) (hpl:(backTo pos (starEach es X.env)).any (·.1)=false:=by rfl) :
 PE X (.Call (.Name x p) (e :: es) [] pos) (fun σ H Q=>t σ H fun vs H1=>sp vs H1 Q E0):=by
 obtain ⟨f,fd,F,hm,hk,hb⟩:=C.ex;have h:=Zr1 (dvs:=[]) (E:=E0) (p:=p) F (hr.mono hj) hg hm hk hb .nil Zv7 ha hdb he hpl;intro pins s σ H Q I hw;refine h pins s σ H Q I ?_;unfold Zs9
 simpa only [List.append_nil] using hw
section
variable {P:Program} {w:World} {K:PySem.W.Frag} {mg:Str→Option Value} {base:Heap}
end
def Keep (l:Addr) (H H':Hp):Prop:=∀ b o,b≠l→H b=some o→H' b=some o
theorem Keep.refl (l:Addr) (H:Hp):Keep l H H:=fun _ _ _ h=>h
theorem Keep.trans (a:Keep l H H1) (b:Keep l H1 H2):Keep l H H2:=fun c o n h=>b c o n (a c o n h)
theorem Keep.new {p:Addr} {o:HO} (h:H p=none):Keep l H (upd H p o):=fun b u _ e=>by rw [Zh (Zi e h)];exact e
theorem Keep.upd {o:HO}:Keep l H (upd H l o):=fun b u n e=>by rw [Zh n];exact e
theorem Same.new {p:Addr} {o:HO} (h:H p=none):Same H (upd H p o):=fun b u e=>by rw [Zh (Zi e h)];exact e
theorem Same.keep (s:Same H H'):Keep l H H':=fun b o _ e=>s b o e
inductive BxTPar3 (i j k:Nat) (D:Ends) (σ:St) (vs:List V) (H1:Hp):Prop
 | mk (v:_) (w:_) (x:_) (q1:vs=[v,w,x]) (q2:D.nx (((σ.set i (some v)).set j (some w)).set k (some x)) H1):BxTPar3 i j k D σ vs H1
def Zwd (i j k:Nat) (ta:TA):TS:=fun D σ H=>ta σ H fun vs H1=>BxTPar3 i j k D σ vs H1
theorem Zmo {y z:Str} {a b c:Expr} {px py pz pt:Pos} {kt k2 pt2} (hc:X.calm=true) (hN:X.N.Nodup) (hi:X.N[i]? = some x) (hj:X.N[j]? = some y) (hk:X.N[k]? = some z) (hij:i≠j) (hik:i≠k) (hjk:j≠k)
 (hx:X.env.scope.names.lookup x=some .local) (hy:X.env.scope.names.lookup y=some .local) (hz:X.env.scope.names.lookup z=some .local) (ha:PA X [a,b,c] ta)
 (hw:swappedStores [.Tuple [.Name x px,.Name y py,.Name z pz] kt pt] (.Tuple [a,b,c] k2 pt2) X.env=pure (some [x,y,z]))
 (hs:swapsWithSole [.Tuple [.Name x px,.Name y py,.Name z pz] kt pt] (.Tuple [a,b,c] k2 pt2) pos.line X.env=pure false:=by rfl) :
 PS X (.Assign [.Tuple [.Name x px,.Name y py,.Name z pz] kt pt] (.Tuple [a,b,c] k2 pt2) pos) (Zwd i j k ta):=by
 intro pins s σ H D I h;rw [exec_Assign_arm];refine n0_ (wpAny_standAt ?_);rw [hs];refine n0_ (n2_ ?_);rw [if_neg ?f];refine n0_ (Tuple_ (thn (ha _ pins s σ H _ I h) fun us s1 ⟨vs,H1,I1,r1,q1⟩=>?_));obtain ⟨v,w,x',e1,q1⟩:=q1;subst e1
 obtain ⟨u1,u2,u3,rfl,rv,rw',rx⟩:∃ u1 u2 u3,us=[u1,u2,u3]∧RelV v u1∧RelV w u2∧RelV x' u3:=by
  cases r1 with
  | cons p q =>
    cases q with
    | cons p' q' =>
      cases q' with
      | cons p'' q'' =>
        cases q''
        exact ⟨_,_,_,rfl,p,p',p''⟩
 refine wpAny_newObj_type ?_ (z3_);have I2:Inv X pins σ H1 { s1 with heap:=s1.heap.push { cls:=.type "tuple",data:=.seq [u1,u2,u3].toArray } }:=I1.kept (t':=s1.toks) fun b o e=>n3_ _ e;rw [hw];refine n0_ (n2_ ?_);show wpAny ?t X.A (do rule "assign.swapped-stores";let items ← unpackItems (.ref s1.z) 3 none;assignInOrder [fun v=>bindName X.env z v,fun v=>bindName X.env y v,fun v=>bindName X.env x v] items.reverse;pure Flow.next) _ _ _
 refine n0_ (wpAny_rule (n0_ (unpackItems_tuple (items:=#[u1,u2,u3]) (I.ok.hd hc) (IsTup.new s1.heap _) fun h' hx'=>?_)));have I3:=I2.kept (h':=h') (t':=s1.toks) fun b o e=>hx' b o (n27_ (n13_ e)) e;show wpAny _ _ (assignInOrder [fun v=>bindName X.env z v,fun v=>bindName X.env y v,fun v=>bindName X.env x v] [u3,u2,u1] >>= fun _=>pure Flow.next) _ _ _
 refine n0_ (assignInOrder_cons (wpAny_bindName (Xu I3 hN hk (.inl hz) rx (fun s2 I4=>?_) (.inr hz))));refine assignInOrder_cons (wpAny_bindName (Xu I4 hN hj (.inl hy) rw' (fun s3 I5=>?_) (.inr hy)));refine assignInOrder_cons (wpAny_bindName (Xu I5 hN hi (.inl hx) rv (fun s4 I6=>assignInOrder_nil (n2_ ?_)) (.inr hx)))
 have e:(((σ.set k (some x')).set j (some w)).set i (some v))=(((σ.set i (some v)).set j (some w)).set k (some x')):=by
  rw [List.set_comm _ _ (Ne.symm hij),List.set_comm _ _ (Ne.symm hik),List.set_comm _ _ (Ne.symm hjk)]
 rw [e] at I6;exact ⟨_,H1,I6,q1⟩
theorem Zb3:∀ (xs:List PyData),(PyData.shownAll xs).length=xs.length
 | []=>rfl
 | _ :: xs=>by simp only [PyData.shownAll,n18_,Zb3 xs]
section
variable {X:Cx}
end
mutual
inductive Dt (N:Addr→Prop) (H:Hp) (k:Nat):V→PyData→Prop
 | non:Dt N H k .non .none
 | bl (b:Bool):Dt N H k (.bl b) (.bool b)
 | int {i:Int}:i.natAbs<2^k→Dt N H k (.int i) (.int i)
 | str (x:Str):Dt N H k (.str x) (.str x)
 | tup {a:Addr} {xs:List V} {ds:List PyData}:H a=some (.tup xs)→Dts N H k xs ds→Dt N H k (.ref a) (.tuple ds)
 | lst {a:Addr} {xs:List V} {ds:List PyData}:H a=some (.lst xs)→¬ N a→a≠sysModules→Dts N H k xs ds→Dt N H k (.ref a) (.list ds)
 | dic {a:Addr}:H a=some (.dK [])→Dt N H k (.ref a) (.dict [])
inductive Dts (N:Addr→Prop) (H:Hp) (k:Nat):List V→List PyData→Prop
 | nil:Dts N H k [] []
 | cons {x:V} {xs:List V} {d:PyData} {ds:List PyData}:Dt N H k x d→Dts N H k xs ds→Dts N H k (x :: xs) (d :: ds)
end
variable {N:Addr→Prop} {k:Nat}
mutual
theorem Dt.reads {X:Cx} {pins:?y} {σ:St} {H:Hp} {s:Shared} (I:?k):∀ {v:V} {d:PyData} {u:Value},Dt N H k v d→RelV v u→∃ as,Reads s.heap u d as∧sysModules∉as
 | _,_,_,.non,r=>by cases r;exact ⟨_,.none,by simp⟩
 | _,_,_,.bl b,r=>by cases r;exact ⟨_,.bool b,by simp⟩
 | _,_,_,.int (i:=i) _,r=>by obtain ⟨t,rfl⟩:=r;exact ⟨_,.int i t,by simp⟩
 | _,_,_,.str x,r=>by obtain ⟨t,rfl⟩:=r;exact ⟨_,.str x t,by simp⟩
 | _,_,_,.tup (a:=a) (xs:=xs) h rs,r=>by
   cases r
   obtain ⟨_,its,rv,o,e,⟨hc,_⟩,n,hd⟩:=(show ObjOk X.prog X.w H s.heap a (.tup xs) from I.hok a _ h);obtain ⟨as,ra,na⟩:=Dts.reads I rs rv;exact ⟨_,.tuple e hc hd (by simpa using ra),na⟩
 | _,_,_,.lst (a:=a) (xs:=xs) h _ ns rs,r=>by
   cases r
   obtain ⟨_,its,n,rv,e⟩:=(show ObjOk X.prog X.w H s.heap a (.lst xs) from I.hok a _ h);obtain ⟨as,ra,na⟩:=Dts.reads I rs rv
   exact ⟨_,.list e rfl rfl (by simpa using ra),by
    intro hm
    rcases n9_.mp hm with e|e
    · exact ns e.symm
    · exact na e⟩
 | _,_,_,.dic (a:=a) h,r=>by
   cases r
   obtain ⟨_,hS,vs,rel,o,es,ep,e,ex,hd,_,he,_⟩:=(show ObjOk X.prog X.w H s.heap a (.dK []) from I.hok a _ h);cases rel
   have hes:es.toList=[]:=by
    generalize es.toList=z at he;cases he
    rfl
   refine ⟨_,.dict (kvs:=[]) (as:=[]) (bs:=[]) e ex.1 hd (by rw [hes];exact .nil) (by rw [hes];exact .nil),?_⟩;intro hm
   have:sysModules=a:=by simpa using hm
   rw [this] at hS;simp at hS
theorem Dts.reads {X:Cx} {pins:?y} {σ:St} {H:Hp} {s:Shared} (I:?k):∀ {vs:List V} {ds:List PyData} {us:?q},Dts N H k vs ds→Vals vs us→∃ as,ReadsAll s.heap us ds as∧sysModules∉as
 | _,_,_,.nil,.nil=>⟨_,.nil,by simp⟩
 | _,_,_,.cons r rs,.cons q qs=>by
   obtain ⟨as,ra,na⟩:=Dt.reads I r q;obtain ⟨bs,rb,nb⟩:=Dts.reads I rs qs
   exact ⟨_,.cons ra rb,by
    intro hm
    rcases n28_.mp hm with e|e
    · exact na e
    · exact nb e⟩
end
mutual
def nz:PyData→Nat
 | .none=>1
 | .bool _=>1
 | .int _=>1
 | .str x=>(reprText x).length
 | .list xs=>1+Zbp xs
 | .tuple xs=>1+Zbp xs
 | .dict _=>1
def Zbp:List PyData→Nat
 | []=>0
 | x :: xs=>nz x+1+Zbp xs
end
theorem Zci {i:Int} (h:i.natAbs<2^n) (hn:n<1920):i.natAbs.log2<1920:=by
 rcases Nat.eq_zero_or_pos n with rfl|hp
 · have:i.natAbs=0:=by simpa using h
   rw [this];decide
 · by_cases h0:i.natAbs=0
   · rw [h0];decide
   · exact Nat.lt_trans ((Nat.log2_lt h0).mpr h) hn
mutual
theorem Dt.showable {H:Hp} (hk:k<1920):∀ {v:V} {d:PyData},Dt N H k v d→d.showable=true
 | _,_,.non=>rfl
 | _,_,.bl b=>rfl
 | _,_,.int h=>n32_ (Zci h hk)
 | _,_,.str x=>rfl
 | _,_,.tup h r=>Dts.showable hk r
 | _,_,.lst h n m r=>Dts.showable hk r
 | _,_,.dic h=>rfl
theorem Dts.showable {H:Hp} (hk:k<1920):∀ {vs:List V} {ds:List PyData},Dts N H k vs ds→PyData.showableAll ds=true
 | _,_,.nil=>rfl
 | _,_,.cons r rs=>by
   show (_&&_)=true
   rw [Dt.showable hk r,Dts.showable hk rs];rfl
end
mutual
theorem Dt.shownLen {H:Hp} (hk:k<1920):∀ {v:V} {d:PyData},Dt N H k v d→d.shown.length≤2000*nz d
 | _,_,.non=>?j
 | _,_,.bl true=>?j
 | _,_,.bl false=>?j
 | _,_,.int (i:=i) h=>by
   have:=int_text_length_le ?f (Zci h hk)
   show (Str.ofString (toString i)).length≤2000*1
   rw [PySem.ofString_length];omega
 | _,_,.str x=>by
   show (reprText x).length≤2000*(reprText x).length
   omega
 | _,_,.tup (ds:=ds) h r=>by
   have:=Dts.shownLen hk r
   have z:=tupleText_len_le (PyData.shownAll ds);rw [Zb3] at z;show (tupleText (PyData.shownAll ds)).length≤2000*(1+Zbp ds)
   omega
 | _,_,.lst (ds:=ds) h n m r=>by
   have:=Dts.shownLen hk r
   have z:=listText_len_le (PyData.shownAll ds);rw [Zb3] at z;show (listText (PyData.shownAll ds)).length≤2000*(1+Zbp ds)
   omega
 | _,_,.dic h=>?j
theorem Dts.shownLen {H:Hp} (hk:k<1920):∀ {vs:List V} {ds:List PyData},Dts N H k vs ds→((PyData.shownAll ds).map (·.length)).sum+2*ds.length≤2000*Zbp ds
 | _,_,.nil=>by simp [PyData.shownAll,Zbp]
 | _,_,.cons r rs=>by
   have a:=Dt.shownLen hk r;have b:=Dts.shownLen hk rs;simp only [PyData.shownAll,Zbp,n31_,List.sum_cons,n18_];omega
end
section
variable {X:Cx}
inductive BxRc_reprD  (xs:List V) (H:Hp) (Q:VK):Prop
 | mk (N:_) (k:_) (v:_) (d:_) (q1:xs=[v]) (q2:Dt N H k v d) (q3:k<1920) (q4:d.depth≤20) (q5:nz d≤8000) (q6:Q (.str d.shown) H):BxRc_reprD xs H Q
def Zpq  : List V→Hp→VK→Prop:=fun xs H Q=>BxRc_reprD xs H Q
theorem Zeg (hr:Room j X.A):Yv X (.builtin "repr") (Zpq):=by
 intro pins s σ H xs us Q I r h;obtain ⟨N,k,v,d,rfl,rd,hk,h3,h4,q⟩:=h;have h1:=rd.showable hk
 have hz:d.shown.length≤sizeLine:=by
  have:=rd.shownLen hk
  have e:sizeLine=16777216:=sizeLine_eq;omega
 cases r with
 | cons rx r =>
   cases r
   have hu:=hr.un;have R:=Dt.reads I rd rx
   have go:∀ a,RelV v (Value.ref a)→wpAny ?t X.A (call (.builtin "repr") [Value.ref a]) (EP X pins σ Q) X.xe s:=fun a rx=>by
    obtain ⟨as,ra,na⟩:=Dt.reads I rd rx;exact repr_of_reads' ra h1 (fun _=>na) hr.gd (?d) (fun _ _ e=>e) (fun h' u tk hk=>⟨.str _,H,I.kept hk,⟨_,rfl⟩,q⟩) hz
   cases rd with
   | non=>cases (show _=Value.none from rx);exact PySem.P.repr_of_none ⟨.str _,H,I.tok _,⟨_,rfl⟩,q⟩
   | bl b=>cases (show _=Value.bool b from rx);exact PySem.P.repr_of_bool ⟨.str _,H,I.tok _,⟨_,rfl⟩,q⟩
   | int hi=>obtain ⟨t,rfl⟩:=(show ∃ t,_=Value.int _ t from rx);exact PySem.P.repr_of_int (Zci hi hk) ⟨.str _,H,I.tok _,⟨_,rfl⟩,q⟩
   | str x=>obtain ⟨t,rfl⟩:=(show ∃ t,_=Value.str x t from rx);exact PySem.P.repr_of_str ⟨.str _,H,I.tok _,⟨_,rfl⟩,q⟩ hz
   | tup h rs=>cases (show _=Value.ref _ from rx);exact go _ rx
   | lst h n m rs=>cases (show _=Value.ref _ from rx);exact go _ rx
   | dic h=>cases (show _=Value.ref _ from rx);exact go _ rx
end
end L2
namespace HT
open PySem PyProof.Rows
section
variable {prog:Program} {w:World} {A:Around} {E:Value→?i} {s:Shared}
theorem getItem_tuple_whole {t sl:Addr} {items:Array Value} {vl vu:Value} {lo hi:Option Int} {Q:Value→?i} (ht:IsTup s.heap t items) (hs:s.heap.IsSliceOf sl vl vu .none) (pl:IsPart vl lo) (pu:IsPart vu hi)
 (hw:sIx items.size 0 lo=0∧sIx items.size items.size hi=items.size)
 (h:Q (.ref t) s):wpAny ?p A (getItem (.ref t) (.ref sl)) Q E s:=by
 obtain ⟨os,hos,hcs,hds⟩:=id hs;have hTs:s.TypeIs (.ref sl) "slice" := ⟨os,hos,hcs⟩;unfold getItem
 try with_reducible refine n30_ ?_
 first|refine n0_ (n2_ ?_)|skip
 refine n0_ (wpAny_sequenceKey ht.typeIs ?f ?_)
 refine n0_ (wpAny_callSpecial?_slot (name:=Str.ofString "__getitem__") ht.typeIs PyProof.Rows.slot_tuple_getitem
  (wpAny_call_entry PyProof.Rows.slot_tuple_getitem ht.typeIs entry_tuple_getitem ?_ (args_tuple_getitem _ _)))
 show wpAny _ _ (Builtin.Tuple.tupleItemsOf (.ref t) >>= _) _ _ s
 refine n0_ (tupleItemsOf_ ht ?_);refine n0_ (wpAny_typeOf hTs ?_);rw [if_pos ?f];refine n0_ (Zar hs pl pu ?_);rw [hw.1,hw.2];have hyes:(((0:Nat):Int) == 0&&(1:Int) == 1&&(items.size-0) == items.size)=true:=by simp
 show wpAny _ _ (if (((0:Nat):Int) == 0&&(1:Int) == 1&&(items.size-0) == items.size)=true then _ else _) _ _ s
 rw [if_pos hyes];have hx:(Builtin.Tuple.tupleIsExact (.ref t))=(do pure ((← typeOf (.ref t)) == .type "tuple")):=by first|rfl|(unfold Builtin.Tuple.tupleIsExact;rfl)
 rw [hx];refine n0_ (n0_ (wpAny_typeOf ht.typeIs (n2_ ?_)));rw [if_pos ?f];exact n0_ (wpAny_rule (n2_ ⟨_,rfl,n2_ h⟩))
end
end HT
namespace L2
open PySem PySem.Spec PyProof.Rows
section
variable {X:Cx} {e:Expr} {es:List Expr} {te:TE} {t:TA} {pos p2:Pos}
inductive BxRSlU (x:V) (lo hi:Option Int) (H:Hp) (Q:VK):Prop
 | mk (a:_) (xs:_) (q1:x=.ref a) (q2:H a=some (.tup xs)) (q3:∀ p H',Same H H'→H' p=some (.tup (cutV xs lo hi))→Q (.ref p) H'):BxRSlU x lo hi H Q
def rSlU:V→Option Int→Option Int→Hp→VK→Prop:=fun x lo hi H Q=>BxRSlU x lo hi H Q
theorem Zmb:SlR X rSlU:=by
 intro pins s σ H x v vl vu lo hi sl Q I rx hs pl pu h;obtain ⟨a,xs,rfl,hx,q⟩:=h
 by_cases hw:HT.sIx xs.length 0 lo=0∧HT.sIx xs.length xs.length hi=xs.length
 · cases rx
   obtain ⟨its,r,ht,hz⟩:=I.tuple (SqT.of hx);have hlen:its.toArray.size=xs.length:=by rw [n15_];exact r.length.symm
   refine ⟨"tuple",_,PyProof.Rows.slot_tuple_getitem.lookup,ht.typeIs,?_⟩;refine HT.getItem_tuple_whole ht hs pl pu (by rw [hlen];exact hw) ⟨.ref a,H,I,rfl,q a H (Same.refl H) ?_⟩;unfold cutV;rw [hw.1,hw.2,List.drop_zero,Nat.sub_zero,List.take_length];exact hx
 · exact Zvb pins s σ H _ _ vl vu lo hi sl Q I rx hs pl pu ⟨a,xs,rfl,SqT.of hx,hw,fun p hp=>q p _ (Same.new hp) Zc⟩
end
def Yy (cells:List (Str×Addr)) (names:List (Str×NameKind)):List (Str×Addr):=((names.filter (fun y=>y.2 == .free)).map fun y=>(y.1,(cells.lookup y.1).getD 0)).reverse
variable {D a b it t z:Addr} {A:Around} {ys:Array Value} {X:Cx} {env:Env} {h h':Heap} {H:Hp} {pins:?y} {ch fp:List Addr} {es:List Expr} {xs:List V} {i m n t':Nat} {pos:Pos} {P prog:Program} {scope:Scope} {s:Shared} {σ:St} {x:Str} {ta:TA} {te:TE} {g:TG} {tt:TT} {c d:Value} {Q:Value→?i} {w:World}
theorem Zc0:∀ (names:List (Str×NameKind)) (acc:List (Str×Addr)),(∀ y∈names,y.2=.free→∃ c,env.cells.lookup y.1=some c) →
 (forIn names acc (fun (x:Str×NameKind) (r:List (Str×Addr))=>do
   if x.2 == .free then do
    let a ← cellOf env x.1
    pure (ForInStep.yield ((x.1,a) :: r))
   else pure (ForInStep.yield r)):Sem (List (Str×Addr)))=pure (Yy env.cells names++acc)
 | [],acc,_=>rfl
 | (n,k) :: rest,acc,h=>by
   have ih:=fun acc=>Zc0 rest acc fun y hy=>h y (n16_ _ hy);rw [List.forIn_cons]
   by_cases hk:k=.free
   · subst hk;obtain ⟨c,hc⟩:=h (n,.free) n19_ rfl;have e:cellOf env n=pure c:=by unfold cellOf;rw [hc]
     have e2:Yy env.cells ((n,.free) :: rest)=Yy env.cells rest++[(n,c)]:=by
      unfold Yy;rw [List.filter_cons_of_pos (by rfl),n31_,List.reverse_cons,hc];rfl
     simp only [beq_self_eq_true,if_true,e,pure_bind];rw [ih,e2,n49_];rfl
   · have b:(k == NameKind.free)=false:=by simpa using hk
     have e2:Yy env.cells ((n,k) :: rest)=Yy env.cells rest:=by
      unfold Yy;rw [List.filter_cons_of_neg (by simpa using hk)]
     simp only [b,n20_,if_false,pure_bind];rw [ih,e2]
theorem Zc4 (h:∀ y∈scope.names,y.2=.free→∃ c,env.cells.lookup y.1=some c):closureFor scope env=pure (Yy env.cells scope.names):=by
 have e:=Zc0 scope.names [] h;rw [List.append_nil] at e;unfold closureFor
 first
  | (rw [← e];rfl)
  | (simp only [bind_pure];exact e)
  | simpa using e
section
variable {X:Cx}
theorem Xk {i:Int} (h:∃ t,X.mg x=some (.int i t)) (hg:Gl X x) (hd:(x == ("__debug__" : Str))=false:=by decide):PE X (.Name x pos) (tC (.int i)):=by
 obtain ⟨t,h⟩:=h;exact Zse hg h ⟨t,rfl⟩ hd
end
section
variable {X:Cx} {pins:?y} {σ:List (Option V)} {H:Hp} {s:Shared} {h':Heap}
theorem Inv.turnNew {o:HO} (I:?k) (k:∀ b u,b∉ch→s.heap.get? b=some u→h'.get? b=some u) (hf:∀ b∈ch,FpOk X pins H b)
 (ha:s.z≤a) (new:ObjOk X.prog X.w (upd H a o) h' a o):Inv X pins σ (upd H a o) { s with heap:=h',toks:=t' }:=by
 have fa:H a=none:=I.hok.fresh ha;have na:∀ b u,H b=some u→b≠a:=fun b u e=>Zi e fa;have nc:∀ b u,H b=some u→b∉ch:=fun b u e z=>by rw [(hf b z).1] at e;cases e
 have la:∀ b u,s.heap.get? b=some u→b≠a:=fun b u e=>n27_ (n23_ (n13_ e) ha)
 refine I.step (g':=s.gens) (d':=s.drawn) (ch:=ch) (fun b hb=>?_) (fun b u _ _ hc e _=>k b u hc e) (fun b u _ _ hc e _=>⟨u.slots,k b u hc e⟩) (fun b u _ e n=>by rw [Zh (la b u e)];exact n)
  (fun b u hc e=>⟨u,k b u hc e⟩) (fun b xs e=>by rw [Zh (na b _ e)];exact e) (fun b u v e=>by rw [Zh (na b _ e)];exact e) (fun b ps e=>⟨#[],by rw [Zh (na b _ e),e];simp⟩) (fun m hm=>?_) (fun b u e=>?_) I.bare
 · obtain ⟨f0,f1,f2,f3,f4,f5⟩:=hf b hb;exact ⟨f3,f1,f4,f5⟩
 · obtain ⟨u,es,ep,hu,r⟩:=hm;exact ⟨u,es,ep,k _ u (fun z=>(hf _ z).2.1 rfl) hu,r⟩
 · by_cases hb:b=a
   · subst hb;rw [Zc] at e;cases e;exact new
   · rw [Zh hb] at e;refine (I.hok b u e).stay (fun c v hc q=>k c v ?_ q) (fun c q=>by rw [Zh (na c _ q)];exact q) fun c xs q=>by rw [Zh (na c _ q)];exact q
     rcases hc with z|z
     · rw [z];exact nc b u e
     · exact nc c _ z
theorem Inv.turnOnly (I:?k) (k:∀ b u,b∉ch→s.heap.get? b=some u→h'.get? b=some u) (hf:∀ b∈ch,FpOk X pins H b):Inv X pins σ H { s with heap:=h',toks:=t' }:=by
 have nc:∀ b u,H b=some u→b∉ch:=fun b u e z=>by rw [(hf b z).1] at e;cases e
 refine I.step (g':=s.gens) (d':=s.drawn) (ch:=ch) (fun b hb=>?_) (fun b u _ _ hc e _=>k b u hc e) (fun b u _ _ hc e _=>⟨u.slots,k b u hc e⟩) (fun _ _ _ _ n=>n)
  (fun b u hc e=>⟨u,k b u hc e⟩) (fun _ _ e=>e) (fun _ _ _ e=>e) (fun b ps e=>⟨#[],by rw [e];simp⟩) (fun m hm=>?_) (fun b u e=>?_) I.bare
 · obtain ⟨f0,f1,f2,f3,f4,f5⟩:=hf b hb;exact ⟨f3,f1,f4,f5⟩
 · obtain ⟨u,es,ep,hu,r⟩:=hm;exact ⟨u,es,ep,k _ u (fun z=>(hf _ z).2.1 rfl) hu,r⟩
 · refine (I.hok b u e).stay (fun c v hc q=>k c v ?_ q) (fun _ q=>q) fun _ _ q=>q
   rcases hc with z|z
   · rw [z];exact nc b u e
   · exact nc c _ z
end
inductive SK where
 | l
 | t
def SK.Sq (K:PySem.W.Frag) (H:Hp) (a:Addr) (xs:List V):SK→Prop
 | .l=>SqL K H a xs
 | .t=>SqT K H a xs
def SK.Is (h:Heap) (a:Addr) (vs:Array Value):SK→Prop
 | .l=>h.IsList a vs
 | .t=>h.IsTuple a vs
def SK.It (h:Heap) (it a:Addr) (i:Nat):SK→Prop
 | .l=>h.IsListIter it a i
 | .t=>h.IsTupleIter it a i
def SK.name:SK→String
 | .l => "list_iterator"
 | .t => "tuple_iterator"
abbrev SK.obj (k:SK) (a:Addr):Obj:={ cls:=.type k.name,data:=.fields #[.ref a,.int 0 0] }
theorem SK.It.ex {k:SK} (x:k.It h it a i):∃ o,h.get? it=some o∧o.cls=.type k.name∧o.data=.fields #[.ref a,.int i 0]:=by
 cases k<;>exact x
theorem SK.It.of {k:SK} (x:∃ o,h.get? it=some o∧o.cls=.type k.name∧o.data=.fields #[.ref a,.int i 0]):k.It h it a i:=by
 cases k<;>exact x
theorem SK.It.at {k:SK} (x:k.It h it a i) (f:∀ o,h.get? it=some o→h'.get? it=some o):k.It h' it a i:=by
 obtain ⟨o,e,r⟩:=x.ex;exact .of ⟨o,f o e,r⟩
theorem SK.Is.ex {k:SK} {vs:Array Value} (x:k.Is h a vs):∃ o n,h.get? a=some o∧o.data=.seq vs n:=by
 cases k with
 | l=>obtain ⟨o,e,_,n,d⟩:=(show h.IsList a vs from x);exact ⟨o,n,e,d⟩
 | t=>obtain ⟨o,e,_,n,d⟩:=(show h.IsTuple a vs from x);exact ⟨o,n,e,d⟩
theorem SK.Is.at {k:SK} {vs:Array Value} (x:k.Is h a vs) (f:∀ o,h.get? a=some o→h'.get? a=some o):k.Is h' a vs:=by
 cases k with
 | l=>obtain ⟨o,e,r⟩:=(show h.IsList a vs from x);exact (⟨o,f o e,r⟩:h'.IsList a vs)
 | t=>obtain ⟨o,e,r⟩:=(show h.IsTuple a vs from x);exact (⟨o,f o e,r⟩:h'.IsTuple a vs)
theorem SK.Sq.is {k:SK} (q:k.Sq X.K H a xs) (I:?k):∃ its,Vals xs its∧k.Is s.heap a its.toArray:=by
 cases k with
 | l=>obtain ⟨its,rv,p,_⟩:=I.list (show SqL X.K H a xs from q);exact ⟨its,rv,p.isList⟩
 | t=>obtain ⟨its,rv,p,_⟩:=I.tuple (show SqT X.K H a xs from q);exact ⟨its,rv,p⟩
theorem SK.Sq.inj {k:SK} {ys:List V} (q:k.Sq X.K H a xs) (r:k.Sq X.K H a ys) (I:?k):xs=ys:=by
 cases k with
 | l=>exact I.list_inj q r
 | t=>exact I.tuple_inj q r
section
variable {prog:Program} {w:World} {A:Around} {E:Value→?i} {s:Shared}
theorem SK.draw {k:SK} {vs:Array Value} {x:Value} (hi:k.It s.heap it a i) (ha:k.Is s.heap a vs) (hx:vs[i]? = some x)
 (q:∀ h1,k.It h1 it a (i+1)→Heap.SameBut it s.heap h1→Q x { s with heap:=h1 }):wpAny ?p A (n22_ (.ref it)) Q E s:=by
 cases k with
 | l=>exact wpAny_nextOf_list_item hi ha hx q
 | t =>
   have hi':s.heap.IsTupleIter it a i:=hi;obtain ⟨o,e,c,d⟩:=id hi';obtain ⟨oa,ea,_,n,da⟩:=(show s.heap.IsTuple a vs from ha);unfold n22_;refine n0_ (wpAny_callSpecial?_slot (name:=Str.ofString "__next__") hi'.typeIs F.slot_tuple_iterator_next (wpAny_call_entry F.slot_tuple_iterator_next hi'.typeIs F.entry_tuple_iterator_next ?_ (F.args_tuple_iterator_next_1 _)));refine n0_ (m:=field (.ref it) 0) (wpAny_field e d (x:=.ref a) rfl ?_);show wpAny _ _ (if (Value.ref a == Value.none)=true then _ else _) _ _ s
   rw [if_neg (show ¬ ((Value.ref a == Value.none)=true) from n17_)];refine n0_ (m:=field (.ref it) 1) (wpAny_field e d (x:=.int i 0) rfl ?_);refine n0_ (m:=seqItems? (.ref a)) (wpAny_seqItems ea da ?_);simp only [n63_,hx];refine n0_ (wpAny_setField e d ?g (n2_ ⟨x,rfl,n2_ (q _ (SK.It.of ?_) (Heap.SameBut.update ..))⟩));exact ⟨_,n56_ _ e (Obj.isFreed_of_fields (Obj.data_mapFields d _)),(Obj.cls_mapFields ..).trans c,by rw [Obj.data_mapFields d];simp [rawInt]⟩
theorem SK.dry {k:SK} {vs:Array Value} (hh:A.handled=none) (hi:k.It s.heap it a i) (ha:k.Is s.heap a vs) (hx:vs[i]? = none)
 (q:∀ h1 e,Heap.ExtBut it s.heap h1→(∃ o,h1.get? e=some o∧o.cls=.type "StopIteration")→E (.ref e) { s with heap:=h1 }):wpAny ?p A (n22_ (.ref it)) Q E s:=by
 cases k with
 | l=>exact wpAny_nextOf_list_end hh hi ha hx q
 | t =>
   have hi':s.heap.IsTupleIter it a i:=hi;obtain ⟨o,e,c,d⟩:=id hi';obtain ⟨oa,ea,_,n,da⟩:=(show s.heap.IsTuple a vs from ha);unfold n22_;refine n0_ (wpAny_callSpecial?_slot (name:=Str.ofString "__next__") hi'.typeIs F.slot_tuple_iterator_next (wpAny_call_entry F.slot_tuple_iterator_next hi'.typeIs F.entry_tuple_iterator_next ?_ (F.args_tuple_iterator_next_1 _)));refine n0_ (m:=field (.ref it) 0) (wpAny_field e d (x:=.ref a) rfl ?_);show wpAny _ _ (if (Value.ref a == Value.none)=true then _ else _) _ _ s
   rw [if_neg (show ¬ ((Value.ref a == Value.none)=true) from n17_)];refine n0_ (m:=field (.ref it) 1) (wpAny_field e d (x:=.int i 0) rfl ?_);refine n0_ (m:=seqItems? (.ref a)) (wpAny_seqItems ea da ?_);simp only [n63_,hx];refine n0_ (wpAny_rule (n0_ (wpAny_setField e d ?g ?_)));refine n0_ (m:=newExc (.type "StopIteration") []) ?_;simp only [newExc,newTuple];refine n0_ (wpAny_newObj_type (n0_ (m:=firstArgMember _ _) (wpAny_of_eq (a:=Value.none) (by first|rfl|(simp only [firstArgMember];rfl)) (wpAny_newObj_type ?_ (by size_fits)))) (by size_fits));simp only [raiseNew];refine n0_ (wpAny_handled ?_)
   first|rw [show A.in1.handled=none from hh]|rw [hh]
   refine n0_ (n2_ (wpAny_throw (q _ _ (((Heap.SameBut.update ..).extBut.push _).push _) ⟨_,n8_ _ rfl,rfl⟩)))
theorem SK.iter {k:SK} {vs:Array Value} (ha:k.Is s.heap a vs) (q:Q (.ref s.z) { s with heap:=s.heap.push (k.obj a) }):wpAny ?p A (pyIter (.ref a)) Q E s:=by
 cases k with
 | l=>exact wpAny_pyIter_list ha q
 | t=>exact wpAny_pyIter_tuple ha q
end
structure ZP (z t o i j a b:Addr):Prop where
 tz:t≠z
 oz:o≠z
 iz:i≠z
 jz:j≠z
 to:t≠o
 ti:t≠i
 tj:t≠j
 oi:o≠i
 oj:o≠j
 ij:i≠j
 az:a≠z
 ao:a≠o
 ai:a≠i
 aj:a≠j
 bz:b≠z
 bo:b≠o
 bi:b≠i
 bj:b≠j
section
variable {prog:Program} {w:World} {A:Around} {E:Value→?i} {s:Shared} {k l:SK}
theorem Zph {o i j:Addr} {xs:Array Value} {x y:Value} (D:ZP z t o i j a b)
 (hz:IsZip s.heap z t o .none) (ht:IsPair s.heap t (.ref i) (.ref j)) (ho:IsPair s.heap o c d)
 (hi:k.It s.heap i a m) (hj:l.It s.heap j b n) (ha:k.Is s.heap a xs) (hb:l.Is s.heap b ys) (hx:xs[m]? = some x) (hy:ys[n]? = some y)
 (q:∀ h1,IsZip h1 z t o (rawInt s.z)→IsPair h1 o x y→k.It h1 i a (m+1)→l.It h1 j b (n+1)→IsPair h1 s.z x y→h1.objs.size=s.z+1 →
   (∀ e u,e≠z→e≠o→e≠i→e≠j→s.heap.get? e=some u→h1.get? e=some u)→Q (.ref s.z) { s with heap:=h1 }) :
 wpAny ?p A (Builtin.«zip.__next__» ⟨[.ref z],[]⟩) (fun fin s'=>∃ v,fin=.done (.ret v)∧Q v s') E s:=by
 refine n0_ (m:=field (.ref z) 2) (wpAny_field hz rfl (x:=.bool false) rfl ?_);refine n0_ (m:=field (.ref z) 3) (wpAny_field hz rfl (x:=.ref t) rfl (n0_ (wpAny_seqItems ht rfl ?_)));refine n0_ (m:=n33_ (.ref z)) ?_;unfold n33_;refine n0_ (wpAny_field hz rfl (x:=.none) rfl (n2_ ?_));simp only [if_true];refine n0_ (wpAny_rule (n0_ (wpAny_field hz rfl (x:=.ref o) rfl (n0_ (wpAny_setField_rec hz ?g fun h1 z1 s1=>?_)))));replace z1:IsZip h1 z t o .ellipsis:=z1;refine n0_ ?_;simp only [List.zipIdx_cons,List.zipIdx_nil,List.forIn_cons,List.forIn_nil];refine n0_ (n0_ (wpAny_onRaise (n0_ (m:=n22_ (.ref i)) ?_)));refine SK.draw (hi.at fun u e=>s1.extBut _ _ D.iz e) (ha.at fun u e=>s1.extBut _ _ D.az e) hx fun h2 i2 s2=>n2_ ?_;have o2:IsPair h2 o c d:=s2.extBut _ _ D.oi (s1.extBut _ _ D.oz ho);refine n0_ (wpAny_seqItems o2 rfl (n0_ (wpAny_updateSeq_pair o2 fun h3 o3 s3=>?_)));replace o3:IsPair h3 o x d:=o3;refine n0_ (wpAny_letGo (n2_ (n0_ (n0_ (wpAny_onRaise (n0_ (m:=n22_ (.ref j)) ?_))))));refine SK.draw (hj.at fun u e=>s3.extBut _ _ D.oj.symm (s2.extBut _ _ D.ij.symm (s1.extBut _ _ D.jz e))) (hb.at fun u e=>s3.extBut _ _ D.bo (s2.extBut _ _ D.bi (s1.extBut _ _ D.bz e))) hy fun h4 j4 s4=>n2_ ?_;have o4:IsPair h4 o x d:=s4.extBut _ _ D.oj o3;refine n0_ (wpAny_seqItems o4 rfl (n0_ (wpAny_updateSeq_pair o4 fun h5 o5 s5=>?_)));replace o5:IsPair h5 o x y:=o5;refine n0_ (wpAny_letGo (n2_ (n2_ (n0_ (wpAny_seqItems o5 rfl (n0_ (wpAny_newTuple ?_)))))));have sz:h5.objs.size=s.z:=by rw [s5.1,s4.1,s3.1,s2.1,s1.1]
 have z5:IsZip h5 z t o .ellipsis:=s5.extBut _ _ D.oz.symm (s4.extBut _ _ D.jz.symm (s3.extBut _ _ D.oz.symm (s2.extBut _ _ D.iz.symm z1)));have k5:∀ e u,e≠z→e≠o→e≠i→e≠j→s.heap.get? e=some u→h5.get? e=some u:=fun e u e1 e2 e3 e4 g=>s5.extBut _ _ e2 (s4.extBut _ _ e4 (s3.extBut _ _ e2 (s2.extBut _ _ e3 (s1.extBut _ _ e1 g))));have i5:k.It h5 i a (m+1):=i2.at fun u e=>s5.extBut _ _ D.oi.symm (s4.extBut _ _ D.ij (s3.extBut _ _ D.oi.symm e));have j5:l.It h5 j b (n+1):=j4.at fun u e=>s5.extBut _ _ D.oj.symm e;have zl:z<h5.objs.size:=n13_ z5;refine n0_ (m:=Builtin.SmallTypes.ownedTupleHandOut (.ref z) (.ref h5.objs.size)) ?_;unfold Builtin.SmallTypes.ownedTupleHandOut;have z6:IsZip (h5.push { cls:=.type "tuple",data:=.seq #[x,y] }) z t o .ellipsis:=n3_ _ z5;refine n0_ (wpAny_setField_rec z6 ?g fun h7 z7 s7=>?_);replace z7:IsZip h7 z t o (rawInt h5.objs.size):=z7;refine wpAny_setField_rec z7 ?g fun h8 z8 s8=>?_;replace z8:IsZip h8 z t o (rawInt h5.objs.size):=z8;have up:∀ e u,e≠z→h5.get? e=some u→h8.get? e=some u:=fun e u e1 g=>s8.extBut _ _ e1 (s7.extBut _ _ e1 (n3_ _ g));have T8:IsPair h8 h5.objs.size x y:=s8.extBut _ _ (n70_ zl) (s7.extBut _ _ (n70_ zl) (n8_ _ rfl));have l8:h8.objs.size=h5.objs.size+1:=by rw [s8.1,s7.1,n43_]
 rw [sz] at z8 T8 l8;refine n2_ ⟨_,rfl,?_⟩;show Q (.ref h5.objs.size) _
 rw [sz];exact q h8 z8 (up _ _ D.oz o5) (i5.at fun u e=>up _ u D.iz e) (j5.at fun u e=>up _ u D.jz e) T8 l8 fun e u e1 e2 e3 e4 g=>up e u e1 (k5 e u e1 e2 e3 e4 g)
theorem Zr9 {o i j:Addr} {xs:Array Value} {Q:Fin→?i} (hh:A.handled=none) (D:ZP z t o i j a b)
 (hz:IsZip s.heap z t o .none) (ht:IsPair s.heap t (.ref i) (.ref j)) (ho:IsPair s.heap o c d)
 (hi:k.It s.heap i a m) (hj:l.It s.heap j b n) (ha:k.Is s.heap a xs) (hb:l.Is s.heap b ys) (hx:xs[m]? = none∨ys[n]? = none)
 (q:∀ h1 e,(∀ e u,e≠z→e≠o→e≠i→e≠j→s.heap.get? e=some u→h1.get? e=some u)→(∃ u,h1.get? e=some u∧u.cls=.type "StopIteration")→E (.ref e) { s with heap:=h1 }) :
 wpAny ?p A (Builtin.«zip.__next__» ⟨[.ref z],[]⟩) Q E s:=by
 refine n0_ (m:=field (.ref z) 2) (wpAny_field hz rfl (x:=.bool false) rfl ?_);refine n0_ (m:=field (.ref z) 3) (wpAny_field hz rfl (x:=.ref t) rfl (n0_ (wpAny_seqItems ht rfl ?_)));refine n0_ (m:=n33_ (.ref z)) ?_;unfold n33_;refine n0_ (wpAny_field hz rfl (x:=.none) rfl (n2_ ?_));simp only [if_true];refine n0_ (wpAny_rule (n0_ (wpAny_field hz rfl (x:=.ref o) rfl (n0_ (wpAny_setField_rec hz ?g fun h1 z1 s1=>?_)))));replace z1:IsZip h1 z t o .ellipsis:=z1;refine n0_ ?_;simp only [List.zipIdx_cons,List.zipIdx_nil,List.forIn_cons,List.forIn_nil];refine n0_ (n0_ (wpAny_onRaise (n0_ (m:=n22_ (.ref i)) ?_)));cases hm:xs[m]? with
 | none =>
   refine SK.dry hh (hi.at fun u e=>s1.extBut _ _ D.iz e) (ha.at fun u e=>s1.extBut _ _ D.az e) hm fun h2 e s2 ⟨u,g,cu⟩=>?_;have z2:IsZip h2 z t o .ellipsis:=s2 _ _ D.iz.symm z1;have ez:e≠z:=fun r=>by subst r;rw [z2] at g;cases g;simp at cu
   exact wpAny_setField_rec z2 ?g fun h3 _ s3=>q h3 e (fun e' u' e1 _ e3 _ r=>s3.extBut _ _ e1 (s2 _ _ e3 (s1.extBut _ _ e1 r))) ⟨u,s3.extBut _ _ ez g,cu⟩
 | some x =>
   have hn:ys[n]? = none:=by rcases hx with r|r;(rw [hm] at r;cases r);exact r
   refine SK.draw (hi.at fun u e=>s1.extBut _ _ D.iz e) (ha.at fun u e=>s1.extBut _ _ D.az e) hm fun h2 i2 s2=>n2_ ?_;have o2:IsPair h2 o c d:=s2.extBut _ _ D.oi (s1.extBut _ _ D.oz ho);refine n0_ (wpAny_seqItems o2 rfl (n0_ (wpAny_updateSeq_pair o2 fun h3 o3 s3=>?_)));refine n0_ (wpAny_letGo (n2_ (n0_ (n0_ (wpAny_onRaise (n0_ (m:=n22_ (.ref j)) ?_))))));refine SK.dry hh (hj.at fun u e=>s3.extBut _ _ D.oj.symm (s2.extBut _ _ D.ij.symm (s1.extBut _ _ D.jz e))) (hb.at fun u e=>s3.extBut _ _ D.bo (s2.extBut _ _ D.bi (s1.extBut _ _ D.bz e))) hn fun h4 e s4 ⟨u,g,cu⟩=>?_;have z4:IsZip h4 z t o .ellipsis:=s4 _ _ D.jz.symm (s3.extBut _ _ D.oz.symm (s2.extBut _ _ D.iz.symm z1));have ez:e≠z:=fun r=>by subst r;rw [z4] at g;cases g;simp at cu
   exact wpAny_setField_rec z4 ?g fun h5 _ s5=>q h5 e (fun e' u' e1 e2 e3 e4 r=>s5.extBut _ _ e1 (s4 _ _ e4 (s3.extBut _ _ e2 (s2.extBut _ _ e3 (s1.extBut _ _ e1 r))))) ⟨u,s5.extBut _ _ ez g,cu⟩
theorem Zfi {o i j:Addr} {xs:Array Value} {x y:Value} {Q:Option Value→?i} (D:ZP z t o i j a b)
 (hz:IsZip s.heap z t o .none) (ht:IsPair s.heap t (.ref i) (.ref j)) (ho:IsPair s.heap o c d)
 (hi:k.It s.heap i a m) (hj:l.It s.heap j b n) (ha:k.Is s.heap a xs) (hb:l.Is s.heap b ys) (hx:xs[m]? = some x) (hy:ys[n]? = some y)
 (q:∀ h1,IsZip h1 z t o (rawInt s.z)→IsPair h1 o x y→k.It h1 i a (m+1)→l.It h1 j b (n+1)→IsPair h1 s.z x y→h1.objs.size=s.z+1 →
   (∀ e u,e≠z→e≠o→e≠i→e≠j→s.heap.get? e=some u→h1.get? e=some u)→Q (some (.ref s.z)) { s with heap:=h1 }) :
 wpAny ?p A (pyNext (.ref z)) Q E s:=by
 have hT:s.TypeIs (.ref z) "zip" := ⟨_,hz,rfl⟩;unfold pyNext
 exact n0_ (wpAny_attempt (wpAny_callSpecial?_slot (name:=Str.ofString "__next__") hT F.slot_zip_next (wpAny_call_entry F.slot_zip_next hT F.entry_zip_next
  (Zph D hz ht ho hi hj ha hb hx hy fun h1 r1 r2 r3 r4 r5 r6 r7=>n2_ (q h1 r1 r2 r3 r4 r5 r6 r7)) (F.args_zip_next_1 _))))
theorem Zh1 {o i j:Addr} {xs:Array Value} {Q:Option Value→?i} (hh:A.handled=none) (D:ZP z t o i j a b)
 (hz:IsZip s.heap z t o .none) (ht:IsPair s.heap t (.ref i) (.ref j)) (ho:IsPair s.heap o c d)
 (hi:k.It s.heap i a m) (hj:l.It s.heap j b n) (ha:k.Is s.heap a xs) (hb:l.Is s.heap b ys) (hx:xs[m]? = none∨ys[n]? = none)
 (q:∀ h1,(∀ e u,e≠z→e≠o→e≠i→e≠j→s.heap.get? e=some u→h1.get? e=some u)→Q none { s with heap:=h1 }) :
 wpAny ?p A (pyNext (.ref z)) Q E s:=by
 have hT:s.TypeIs (.ref z) "zip" := ⟨_,hz,rfl⟩;unfold pyNext
 refine n0_ (wpAny_attempt (wpAny_callSpecial?_slot (name:=Str.ofString "__next__") hT F.slot_zip_next (wpAny_call_entry F.slot_zip_next hT F.entry_zip_next
  (Zr9 hh D hz ht ho hi hj ha hb hx fun h1 e r1 ⟨u,g,cu⟩=>?_) (F.args_zip_next_1 _))))
 exact n0_ (wpAny_isInstance (T := "StopIteration") (b:=true) ⟨u,g,cu⟩ isSubtype_stop (n2_ (q _ r1)))
abbrev zp1 (k:SK) (h:Heap) (a:Addr):Heap:=h.push (k.obj a)
abbrev zp2 (k l:SK) (h:Heap) (a b:Addr):Heap:=(zp1 k h a).push (l.obj b)
abbrev zp3 (k l:SK) (h:Heap) (a b:Addr):Heap:=(zp2 k l h a b).push { cls:=.type "tuple",data:=.seq #[.ref h.objs.size,.ref (zp1 k h a).objs.size] }
abbrev zp4 (k l:SK) (h:Heap) (a b:Addr):Heap:=(zp3 k l h a b).push { cls:=.type "tuple",data:=.seq #[.none,.none] }
abbrev zp5 (k l:SK) (h:Heap) (a b:Addr):Heap:=(zp4 k l h a b).push { cls:=.type "zip",data:=.fields #[.none,.bool false,.bool false,.ref (zp2 k l h a b).objs.size,.ref (zp3 k l h a b).objs.size] }
theorem Zmy (k l:SK) (a b:Addr) (xs ys:Array Value):Meets (Builtin.«zip.__new__» ⟨[.type "zip",.ref a,.ref b],[]⟩) (fun _ R s=>k.Is s.heap a xs∧l.Is s.heap b ys∧R (.ok (.ret (.ref (zp4 k l s.heap a b).objs.size))) { s with heap:=zp5 k l s.heap a b }) :=
 .of_wp fun prog w A R s h=>by
  obtain ⟨hp,g,d,tk,os⟩:=s;obtain ⟨h1,h2,h⟩:=h;have hsub:=sub_zip;have r1:k.Is (Shared.heap ⟨hp,g,d,tk,os⟩) a xs:=h1;have r2:l.Is (Shared.heap ⟨hp.push (k.obj a),g,d,tk,os⟩) b ys:=SK.Is.at h2 fun o e=>n3_ _ e
  wp_walk using SK.iter r1,SK.iter r2
  exact ⟨_,rfl,h⟩
theorem Zjp {xs:Array Value} (ha:k.Is s.heap a xs) (hb:l.Is s.heap b ys)
 (q:∀ h1,IsZip h1 (s.z+4) (s.z+2) (s.z+3) .none→IsPair h1 (s.z+2) (.ref s.z) (.ref (s.z+1)) →
   IsPair h1 (s.z+3) .none .none→k.It h1 s.z a 0→l.It h1 (s.z+1) b 0→h1.objs.size=s.z+5 →
   (∀ c o,s.heap.get? c=some o→h1.get? c=some o)→Q (.ref (s.z+4)) { s with heap:=h1 }) :
 wpAny ?p A (call (.type "zip") [.ref a,.ref b]) Q E s:=by
 refine callType_new F.called_zip ?f (F.typeCall_zip_2 _ _) (F.newCall_zip_2 _ _) (fun obj=>F.args_object_init_3 obj _ _) F.entry_zip_new (Zmy k l a b xs ys) ⟨ha,hb,?_⟩;have n1:(zp1 k s.heap a).objs.size=s.z+1:=n43_ ..;have n2:(zp2 k l s.heap a b).objs.size=s.z+2:=by rw [n43_,n1]
 have n3:(zp3 k l s.heap a b).objs.size=s.z+3:=by rw [n43_,n2]
 have n4:(zp4 k l s.heap a b).objs.size=s.z+4:=by rw [n43_,n3]
 have n5:(zp5 k l s.heap a b).objs.size=s.z+5:=by rw [n43_,n4]
 have m5:(zp5 k l s.heap a b).get? (zp4 k l s.heap a b).objs.size=some _:=n8_ _ rfl;have m4:(zp5 k l s.heap a b).get? (zp3 k l s.heap a b).objs.size=some _:=n3_ _ (n8_ _ rfl);have m3:(zp5 k l s.heap a b).get? (zp2 k l s.heap a b).objs.size=some _:=n3_ _ (n3_ _ (n8_ _ rfl));have m2:(zp5 k l s.heap a b).get? (zp1 k s.heap a).objs.size=some _:=n3_ _ (n3_ _ (n3_ _ (n8_ _ rfl)));have m1:(zp5 k l s.heap a b).get? s.z=some _:=n3_ _ (n3_ _ (n3_ _ (n3_ _ (n8_ _ rfl))));show _∧_
 rw [n2,n3,n4] at m5;rw [n1,n2] at m3;rw [n3] at m4;rw [n1] at m2;rw [n4];exact ⟨⟨_,m5,rfl⟩,q _ m5 m3 m4 (.of ⟨_,m1,rfl,rfl⟩) (.of ⟨_,m2,rfl,rfl⟩) n5 fun c o e=>n3_ _ (n3_ _ (n3_ _ (n3_ _ (n3_ _ e))))⟩
end
def Itz (k l:SK) (K:PySem.W.Frag) (a b:Addr):It :=
 ⟨fun i H=>∃ xs ys x y,k.Sq K H a xs∧l.Sq K H b ys∧xs[i]? = some x∧ys[i]? = some y,
  fun i H v H'=>∃ p x y,v=.ref p∧H p=none∧H'=upd H p (.tup [x,y])∧(∀ xs,k.Sq K H a xs→xs[i]? = some x)∧∀ ys,l.Sq K H b ys→ys[i]? = some y,
  fun i H=>∃ xs ys,k.Sq K H a xs∧l.Sq K H b ys∧(xs.length≤i∨ys.length≤i)⟩
theorem Zqg {K:PySem.W.Frag} {x1:Nat} {tp:Pos} {k l:SK} {o i j:Addr} (D:ZP z t o i j a b) :
 Turn P w K (.Tuple es x1 tp) (Itz k l K a b) [z,t,o,i,j] z (fun n h=>IsZip h z t o .none∧IsPair h t (.ref i) (.ref j)∧(∃ c d,IsPair h o c d)∧k.It h i a n∧l.It h j b n) where
 mem:=by simp
 obj:=fun n h st e he=>by
  obtain ⟨h1,h2,⟨c,d,h3⟩,h4,h5⟩:=st;simp only [n9_,n10_,or_false] at he
  rcases he with rfl|rfl|rfl|rfl|rfl
  · exact ⟨_,h1,fun v q=>by cases (show Data.fields _=Data.cell v from q)⟩
  · exact ⟨_,h2,fun v q=>by cases (show Data.seq _ _=Data.cell v from q)⟩
  · exact ⟨_,h3,fun v q=>by cases (show Data.seq _ _=Data.cell v from q)⟩
  · obtain ⟨u,e,_,q⟩:=h4.ex;exact ⟨u,e,fun v r=>by rw [q] at r;cases r⟩
  · obtain ⟨u,e,_,q⟩:=h5.ex;exact ⟨u,e,fun v r=>by rw [q] at r;cases r⟩
 keep:=fun n h h' st f=>by
  obtain ⟨h1,h2,⟨c,d,h3⟩,h4,h5⟩:=st;exact ⟨f z ?g _ h1,f t ?g _ h2,⟨c,d,f o ?g _ h3⟩,h4.at fun u e=>f i ?g u e,h5.at fun u e=>f j ?g u e⟩
 item:=by
  intro X hP hw hK hc n pins s σ H E I hf st hg;subst hP hw hK;obtain ⟨h1,h2,⟨c,d,h3⟩,h4,h5⟩:=st;obtain ⟨xs,ys,x,y,q1,q2,hx,hy⟩:=hg;obtain ⟨us,ru,pu⟩:=q1.is I;obtain ⟨vs,rv,pv⟩:=q2.is I;obtain ⟨u,hu,ux⟩:=ru.get hx;obtain ⟨v,hv,vy⟩:=rv.get hy;have lt:∀ {e o'},s.heap.get? e=some o'→e≠s.z:=fun e=>n27_ (n13_ e);refine Zfi D h1 h2 h3 h4 h5 pu pv (x:=u) (y:=v) (by simpa using hu) (by simpa using hv) fun g r1 r2 r3 r4 r5 r6 r7=>?_;refine ⟨_,rfl,wpAny_letOwnedTupleGo_zip r1 fun g2 z2 s2=>?_⟩;have hp:H s.z=none:=I.hok.fresh (n11_ _);have T2:IsPair g2 s.z u v:=s2.extBut _ _ (Ne.symm (lt h1)) r5
  have I2:Inv X pins σ (upd H s.z (.tup [x,y])) { s with heap:=g2,toks:=s.toks }:=by
   refine I.turnNew (ch:=[z,o,i,j]) (fun e o' ne q=>?_) (fun e he=>hf e ?_) (n11_ _) ⟨z2_,[u,v],.cons ux (.cons vy .nil),⟨_,T2,⟨rfl,rfl⟩,_,rfl⟩⟩
   · simp only [n9_,n10_,or_false,not_or] at ne;exact s2.extBut _ _ ne.1 (r7 e o' ne.1 ne.2.1 ne.2.2.1 ne.2.2.2 q)
   · simp only [n9_,n10_,or_false] at he ⊢
     rcases he with q|q|q|q<;>simp [q]
  refine ⟨.ref s.z,_,I2,rfl,⟨_,x,y,rfl,hp,rfl,fun xs' q=>by rw [q.inj q1 I];exact hx,fun ys' q=>by rw [q.inj q2 I];exact hy⟩,⟨z2,?_,⟨u,v,s2.extBut _ _ D.oz r2⟩,r3.at fun u' e=>s2.extBut _ _ D.iz e,r4.at fun u' e=>s2.extBut _ _ D.jz e⟩,fun e he=>?_⟩
  · exact s2.extBut _ _ D.tz (r7 _ _ D.tz D.to D.ti D.tj h2)
  · have ne:e≠s.z:=by
     simp only [n9_,n10_,or_false] at he
     rcases he with rfl|rfl|rfl|rfl|rfl
     · exact lt h1
     · exact lt h2
     · exact lt h3
     · obtain ⟨_,q,_⟩:=h4.ex;exact lt q
     · obtain ⟨_,q,_⟩:=h5.ex;exact lt q
    rw [Zh ne];exact (hf e he).1
 done:=by
  intro X hP hw hK hc n pins s σ H E I hf st hg;subst hP hw hK;obtain ⟨h1,h2,⟨c,d,h3⟩,h4,h5⟩:=st;obtain ⟨xs,ys,q1,q2,hl⟩:=hg;obtain ⟨us,ru,pu⟩:=q1.is I;obtain ⟨vs,rv,pv⟩:=q2.is I;have e1:=ru.length;have e2:=rv.length;refine Zh1 (I.ok.hd hc) D h1 h2 h3 h4 h5 pu pv ?_ fun g r=>⟨rfl,?_⟩
  · rcases hl with q|q
    · left;simp;omega
    · right;simp;omega
  · refine I.turnOnly (t':=s.toks) (ch:=[z,o,i,j]) (fun e o' ne q=>?_) (fun e he=>hf e ?_)
    · simp only [n9_,n10_,or_false,not_or] at ne;exact r e o' ne.1 ne.2.1 ne.2.2.1 ne.2.2.2 q
    · simp only [n9_,n10_,or_false] at he ⊢
      rcases he with q|q|q|q<;>simp [q]
 self:=fun _ _ _ _ _ st h=>wpAny_pyIter_zip st.1 h
theorem Zq9 {n:Addr} (la:a<n) (lb:b<n):ZP (n+4) (n+2) (n+3) n (n+1) a b:=by
 constructor<;>(intro h;have h':@Eq Nat _ _:=h;have la':@LT.lt Nat _ _ _:=la;have lb':@LT.lt Nat _ _ _:=lb;clear h la lb;omega)
theorem Zg5:bootBuiltins "zip" = some (.type "zip"):=?j
section
variable {X:Cx} {es:List Expr} {x1:Nat} {tp:Pos}
inductive BxIZip (k l:SK) (K:PySem.W.Frag) (R:It→?o) (vs:List V) (H1:Hp):Prop
 | mk (a:_) (b:_) (q1:vs=[.ref a,.ref b]) (q2:(∃ xs,k.Sq K H1 a xs)) (q3:(∃ ys,l.Sq K H1 b ys)) (q4:R (Itz k l K a b) H1):BxIZip k l K R vs H1
def iZip (k l:SK) (K:PySem.W.Frag) (ta:TA):TI:=fun σ H R=>ta σ H fun vs H1=>BxIZip k l K R vs H1
theorem Inv.fps (I:?k) (h:∀ b∈fp,s.z≤b):∀ b∈fp,FpOk X pins H b:=fun b hb=>I.fpOk (h b hb) (I.hok.fresh (h b hb))
theorem Zk0 (k l:SK) {a b:Expr} {p:Pos} (hg:Gl X "zip") (hm:X.mg "zip" = none) (ha:PA X [a,b] ta) (hs:starEach [a,b] X.env=[(false,eval a X.env),(false,eval b X.env)]:=by rfl) (hs2:starEach [b] X.env=[(false,eval b X.env)]:=by rfl) :
 PI X (.Tuple es x1 tp) (.Call (.Name "zip" p) [a,b] [] pos) (iZip k l X.K ta):=by
 intro pins s σ H R I h;refine Call_ (Zbr I hg hm Zg5 (n58_ (thn (ha pos pins s σ H _ I h) fun us s1 ⟨vs,H1,I1,r1,q1⟩=>?_) (by rw [hs,hs2]) (by rw [hs2];rfl)));obtain ⟨a,b,e,⟨xs,hx⟩,⟨ys,hy⟩,q⟩:=q1;subst e;cases r1 with
 | cons r rr =>
   cases rr with
   | cons r' rr =>
     cases rr
     cases r
     cases r'
     obtain ⟨us,ru,pu⟩:=hx.is I1;obtain ⟨ws,rw',pw⟩:=hy.is I1;have la:a<s1.z:=by obtain ⟨_,_,e,_⟩:=pu.ex;exact n13_ e
     have lb:b<s1.z:=by obtain ⟨_,_,e,_⟩:=pw.ex;exact n13_ e
     refine Zjp pu pw fun h1 m1 m2 m3 m4 m5 m6 m7=>wpAny_pyIter_zip m1 ?_;have I2:Inv X pins σ H1 { s1 with heap:=h1,toks:=s1.toks }:=I1.kept m7;refine ⟨_,_,_,_,H1,rfl,I2,Zqg (z:=s1.z+4) (t:=s1.z+2) (o:=s1.z+3) (i:=s1.z) (j:=s1.z+1) (k:=k) (l:=l) (a:=a) (b:=b) ?_,⟨m1,m2,⟨_,_,m3⟩,m4,m5⟩,?_,q⟩
     · exact Zq9 la lb
     · have f1:=I1.fps (fp:=[s1.z+4,s1.z+2,s1.z+3,s1.z,s1.z+1]) (by
        intro e he;simp only [n9_,n10_,or_false] at he
        rcases he with rfl|rfl|rfl|rfl|rfl<;>omega)
       exact f1
end
def Ite (k:SK) (K:PySem.W.Frag) (a:Addr):It :=
 ⟨fun i H=>∃ xs x,k.Sq K H a xs∧xs[i]? = some x,
  fun i H v H'=>∃ p x,v=.ref p∧H p=none∧H'=upd H p (.tup [.int i,x])∧∀ xs,k.Sq K H a xs→xs[i]? = some x,
  fun i H=>∃ xs,k.Sq K H a xs∧xs.length=i⟩
theorem SK.draws {k:SK} (hh:A.handled=none) (it a:Addr) (ne:a≠it) (vs:Array Value):Draws prog w A it [it,a] vs.size (fun i v=>vs[i]? = some v) (fun i h=>k.It h it a i∧k.Is h a vs) where
 live:=fun _ _ st=>let ⟨o,e,_⟩:=st.1.ex;⟨o,e⟩
 frame:=fun _ _ _ st f=>⟨st.1.at fun o e=>f it ?g o e,st.2.at fun o e=>f a ?g o e⟩
 item:=fun i s Q E hi st q=>SK.draw st.1 st.2 (x:=vs[i]) (by simp [hi]) fun h1 r1 r2=>q _ h1 s.toks (by simp [hi]) ⟨r1,st.2.at fun o e=>r2.extBut _ _ ne e⟩ r2
 done:=fun s Q E st q=>SK.dry hh st.1 st.2 ?g q
theorem Zo3 {K:PySem.W.Frag} {x1:Nat} {tp:Pos} {k:SK} {e:Addr} (n1:e≠it) (n2:a≠e) (n3:a≠it) :
 Turn P w K (.Tuple es x1 tp) (Ite k K a) [e,it] e (fun n h=>(∃ old,IsEnum h e it n old)∧k.It h it a n) where
 mem:=by simp
 obj:=fun n h st b hb=>by
  obtain ⟨⟨old,h1⟩,h2⟩:=st;simp only [n9_,n10_,or_false] at hb
  rcases hb with rfl|rfl
  · exact ⟨_,h1,fun v q=>by cases (show Data.fields _=Data.cell v from q)⟩
  · obtain ⟨u,e,_,q⟩:=h2.ex;exact ⟨u,e,fun v r=>by rw [q] at r;cases r⟩
 keep:=fun n h h' st f=>by
  obtain ⟨⟨old,h1⟩,h2⟩:=st;exact ⟨⟨old,f e ?g _ h1⟩,h2.at fun u q=>f it ?g u q⟩
 item:=by
  intro X hP hw hK hc n pins s σ H E I hf st hg;subst hP hw hK;obtain ⟨⟨old,h1⟩,h2⟩:=st;obtain ⟨xs,x,q1,hx⟩:=hg;obtain ⟨us,ru,pu⟩:=q1.is I;obtain ⟨u,hu,ux⟩:=ru.get hx;have lt:∀ {b o'},s.heap.get? b=some o'→b≠s.z:=fun e=>n27_ (n13_ e);have hlen:n<us.toArray.size:=by have:=(n12_.mp hu).1;simpa using this
  refine wpAny_pyNext_enum_itemD (SK.draws (k:=k) (show X.A.in1.handled=none from I.ok.hd hc) it a n3 us.toArray) h1 ⟨h2,pu⟩ hlen n1 (by simp [n1,n2.symm]) fun v g tk hv r1 r2 r3 r4 r5=>?_
  have ev:v=u:=by
   have:us[n]? = some v:=by simpa using hv
   rw [hu] at this;exact (Option.some.inj this).symm
  subst ev;refine ⟨_,rfl,wpAny_letOwnedTupleGo_enum r1 fun g2 z2 s2=>?_⟩;have hp:H s.z=none:=I.hok.fresh (n11_ _);have T2:g2.get? s.z=some { cls:=.type "tuple",data:=.seq #[.int n tk,v] }:=s2.extBut _ _ (Ne.symm (lt h1)) r3
  have I2:Inv X pins σ (upd H s.z (.tup [.int n,x])) { s with heap:=g2,toks:=tk+1 }:=by
   refine I.turnNew (ch:=[e,it]) (fun b o' ne q=>?_) (fun b hb=>hf b hb) (n11_ _) ⟨z2_,[.int n tk,v],.cons ⟨tk,rfl⟩ (.cons ux .nil),⟨_,T2,⟨rfl,rfl⟩,_,rfl⟩⟩;simp only [n9_,n10_,or_false,not_or] at ne;exact s2.extBut _ _ ne.1 (r5 b o' ne.1 ne.2 q)
  refine ⟨.ref s.z,_,I2,rfl,⟨_,x,rfl,hp,rfl,fun xs' q=>by rw [q.inj q1 I];exact hx⟩,⟨⟨v,by simpa using z2⟩,r2.1.at fun u' q=>s2.extBut _ _ n1.symm q⟩,fun b hb=>?_⟩
  have ne:b≠s.z:=by
   simp only [n9_,n10_,or_false] at hb
   rcases hb with rfl|rfl
   · exact lt h1
   · obtain ⟨_,q,_⟩:=h2.ex;exact lt q
  rw [Zh ne];exact (hf b hb).1
 done:=by
  intro X hP hw hK hc n pins s σ H E I hf st hg;subst hP hw hK;obtain ⟨⟨old,h1⟩,h2⟩:=st;obtain ⟨xs,q1,hl⟩:=hg;obtain ⟨us,ru,pu⟩:=q1.is I;have e1:=ru.length;have en:us.toArray.size=n:=by rw [n15_];omega
  subst en;have D:=SK.draws (prog:=X.prog) (w:=X.w) (k:=k) (show X.A.in1.handled=none from I.ok.hd hc) it a n3 us.toArray;refine wpAny_pyNext_enum_endD D h1 ⟨h2,pu⟩ fun g r=>⟨rfl,?_⟩;exact I.turnOnly (t':=s.toks) (ch:=[it]) (fun b o' ne q=>r b o' (by simpa using ne) q) (fun b hb=>hf b (by simp at hb;simp [hb]))
 self:=fun _ _ _ _ _ st h=>by obtain ⟨⟨old,h1⟩,_⟩:=st;exact wpAny_pyIter_enum h1 h
open AutoSeq1 (wpAny_loadPart')
abbrev Zal (it:Addr):Obj:={ cls:=.type "enumerate",data:=.fields #[.none,.bool false,.ref it,rawInt 0,.none,.none] }
theorem Zls (k:SK) (a:Addr) (vs:Array Value) (o:Obj):Meets (Builtin.«enumerate.__new__» ⟨[.type "enumerate",.ref a],[]⟩) (fun _ R s=>s.heap.get? a=some o∧k.Is s.heap a vs ∧
 R (.ok (.ret (.ref (s.heap.push (k.obj a)).objs.size))) { s with heap:=(s.heap.push (k.obj a)).push (Zal s.z) }) :=
 .of_wp fun prog w A R s h=>by
  obtain ⟨hp,g,d,tk,os⟩:=s;obtain ⟨ho,hk,h⟩:=h;have hsub:=sub_enumerate;have r1:k.Is (Shared.heap ⟨hp,g,d,tk,os⟩) a vs:=hk
  wp_walk using wpAny_loadPart' ho
  refine wpAny_stack_any fun st=>n2_ ?_;split
  · rename_i c _ _ _ _ _
    cases (c == Value.type "enumerate")
    · (wp_walk using wpAny_loadPart' ho,SK.iter r1);exact ⟨_,rfl,h⟩
    · (wp_walk using wpAny_loadPart' ho,SK.iter r1);exact ⟨_,rfl,h⟩
  · (wp_walk using wpAny_loadPart' ho,SK.iter r1);exact ⟨_,rfl,h⟩
section
variable {prog:Program} {w:World} {A:Around} {E:Value→?i} {s:Shared} {k:SK}
theorem Znh {vs:Array Value} (ha:k.Is s.heap a vs)
 (q:∀ h1,IsEnum h1 (s.z+1) s.z 0 .none→k.It h1 s.z a 0→(∀ b o,s.heap.get? b=some o→h1.get? b=some o)→Q (.ref (s.z+1)) { s with heap:=h1 }) :
 wpAny ?p A (call (.type "enumerate") [.ref a]) Q E s:=by
 obtain ⟨o,n,e,d⟩:=ha.ex;refine callType_new F.called_enumerate ?f (F.typeCall_enumerate_1 _) (F.newCall_enumerate_1 _) (fun obj=>F.args_object_init_2 obj _) F.entry_enumerate_new (Zls k a vs o) ⟨e,ha,?_⟩;have n1:(s.heap.push (k.obj a)).objs.size=s.z+1:=n43_ ..;have m2:((s.heap.push (k.obj a)).push (Zal s.z)).get? (s.heap.push (k.obj a)).objs.size=some (Zal s.z):=n8_ _ rfl;have m1:((s.heap.push (k.obj a)).push (Zal s.z)).get? s.z=some (k.obj a):=n3_ _ (n8_ _ rfl);show _∧_
 rw [n1] at m2;rw [n1];exact ⟨⟨_,m2,rfl⟩,q _ m2 (.of ⟨_,m1,rfl,rfl⟩) fun b o' r=>n3_ _ (n3_ _ r)⟩
end
theorem Ze0:bootBuiltins "enumerate" = some (.type "enumerate"):=?j
section
variable {X:Cx} {es:List Expr} {x1:Nat} {tp:Pos}
inductive BxIEnum (k:SK) (K:PySem.W.Frag) (R:It→?o) (vs:List V) (H1:Hp):Prop
 | mk (a:_) (q1:vs=[.ref a]) (q2:(∃ xs,k.Sq K H1 a xs)) (q3:R (Ite k K a) H1):BxIEnum k K R vs H1
def Zw2 (k:SK) (K:PySem.W.Frag) (ta:TA):TI:=fun σ H R=>ta σ H fun vs H1=>BxIEnum k K R vs H1
theorem ne3 {n:Addr} (la:a<n):n+1≠n∧a≠n+1∧a≠n:=by
 have la':@LT.lt Nat _ a n:=la;refine ⟨fun h=>?_,fun h=>?_,fun h=>?_⟩<;>(have h':@Eq Nat _ _:=h;clear h la;omega)
theorem Zdf (k:SK) {a:Expr} {p:Pos} (hg:Gl X "enumerate") (hm:X.mg "enumerate" = none) (ha:PA X [a] ta) (hs:starEach [a] X.env=[(false,eval a X.env)]:=by rfl) :
 PI X (.Tuple es x1 tp) (.Call (.Name "enumerate" p) [a] [] pos) (Zw2 k X.K ta):=by
 intro pins s σ H R I h;refine Call_ (Zbr I hg hm Ze0 (n58_ (thn (ha pos pins s σ H _ I h) fun us s1 ⟨vs,H1,I1,r1,q1⟩=>?_) hs rfl));obtain ⟨a,e,⟨xs,hx⟩,q⟩:=q1;subst e;cases r1 with
 | cons r rr =>
   cases rr
   cases r
   obtain ⟨us,ru,pu⟩:=hx.is I1;have la:a<s1.z:=by obtain ⟨_,_,e,_⟩:=pu.ex;exact n13_ e
   refine Znh pu fun h1 m1 m4 m7=>wpAny_pyIter_enum m1 ?_;have I2:Inv X pins σ H1 { s1 with heap:=h1,toks:=s1.toks }:=I1.kept m7;obtain ⟨z1,z2,z3⟩:=ne3 la;refine ⟨_,_,_,_,H1,rfl,I2,Zo3 (e:=s1.z+1) (it:=s1.z) (k:=k) (a:=a) z1 z2 z3,⟨⟨_,m1⟩,m4⟩,?_,q⟩
   exact I1.fps (fp:=[s1.z+1,s1.z]) (by
    intro e he;simp only [n9_,n10_,or_false] at he
    rcases he with rfl|rfl
    · exact Nat.le_succ _
    · exact n11_ _)
end
theorem Zhu {J:It} {σ0:St} {Q:VK} (Pv:Nat→St→?o) (h0:Pv 0 σ0 (upd H D (.lst [])))
 (hx:∀ i σ H,i<n→Pv i σ H→J.go i H) (hz:∀ σ H,Pv n σ H→J.stop n H)
 (hs:∀ i x σ2 H2 H3,i<n→J.yld i H2 x H3→Pv i σ2 H2→g x σ2 H3 fun σ4 H4=>tt σ4 H4 fun b H5=>if b=true then te σ4 H5 fun y H6=>∃ ys,H6 D=some (.lst ys)∧ys.length<sizeLine ∧
   ∃ m',m'<n-i∧LcN n Pv (i+1) m' σ4 (upd H6 D (.lst (ys++[y]))) else ∃ m',m'<n-i∧LcN n Pv (i+1) m' σ4 H5)
 (hd:∀ σ2 H2,Pv n σ2 H2→Q (.ref D) H2):LcGo J g tt te σ0 H D Q:=by
 refine ⟨LcN n Pv,⟨_,n42_ _,rfl,h0⟩,?_⟩;rintro i m σ2 H2 ⟨hi,rfl,p⟩
 by_cases hlt:i<n
 · exact .inr ⟨hx i σ2 H2 hlt p,fun x H3 y=>hs i x σ2 H2 H3 hlt y p⟩
 · have e:i=n:=?d
   subst e;exact .inl ⟨hz σ2 H2 p,hd σ2 H2 p⟩
theorem Zcd {J:It} {tb:TS} {D:Ends} (Pv:Nat→St→?o) (h0:Pv 0 σ H)
 (hx:∀ i σ H,i<n→Pv i σ H→J.go i H) (hz:∀ σ H,Pv n σ H→J.stop n H)
 (hs:∀ i x σ H H',i<n→J.yld i H x H'→Pv i σ H→g x σ H' fun σ2 H2=>tb { D with nx:=Pv (i+1),ct:=Pv (i+1),bk:=D.nx } σ2 H2) (hd:∀ σ H,Pv n σ H→D.nx σ H) :
 ∃ W:Nat→Nat→St→?o,(∃ m,W 0 m σ H)∧∀ i m σ H,W i m σ H →
   (J.stop i H∧D.nx σ H)∨(J.go i H∧∃ N:St→?o,(∀ σ' H',N σ' H'→∃ m',m'<m∧W (i+1) m' σ' H')∧∀ x H',J.yld i H x H'→g x σ H' fun σ2 H2=>tb { D with nx:=N,ct:=N,bk:=D.nx } σ2 H2):=by
 refine ⟨fun i m σ H=>m=n-i∧i≤n∧Pv i σ H,⟨n,by simp,n42_ _,h0⟩,?_⟩;rintro i m σ H ⟨rfl,hi,p⟩
 by_cases hlt:i<n
 · exact .inr ⟨hx i σ H hlt p,Pv (i+1),fun σ' H' p'=>⟨n-(i+1),?d,rfl,hlt,p'⟩,fun x H' y=>hs i x σ H H' hlt y p⟩
 · have e:i=n:=?d
   subst e;exact .inl ⟨hz σ H p,hd σ H p⟩
end L2
namespace STb
open PySem
def step (M:Nat) (q:Nat×Nat):Nat×Nat:=SetTable.leap M q.1 q.2
def nth (M:Nat):Nat→Nat×Nat→Nat×Nat
 | 0,q=>q
 | n+1,q=>nth M n (step M q)
theorem Zp4 (M n:Nat) (q:Nat×Nat):nth M (n+1) q=step M (nth M n q):=by
 induction n generalizing q with
 | zero=>rfl
 | succ n ih=>exact ih (step M q)
theorem Ztj (M a b:Nat) (q:Nat×Nat):nth M (a+b) q=nth M b (nth M a q):=by
 induction a generalizing q with
 | zero=>rw [Nat.zero_add];rfl
 | succ a ih=>rw [Nat.succ_add];exact ih (step M q)
theorem Ztq (M n:Nat) (q:Nat×Nat):(nth M n q).2=q.2/32^n:=by
 induction n generalizing q with
 | zero=>simp [nth]
 | succ n ih =>
   show (nth M n (step M q)).2=_
   rw [ih];show q.2/32/32^n=_
   rw [Nat.div_div_eq_div_mul,Nat.pow_succ,Nat.mul_comm]
def fz (M:Nat) (i:Nat):Nat:=(i*5+1) % (M+1)
def fzn (M:Nat):Nat→Nat→Nat
 | 0,i=>i
 | n+1,i=>fzn M n (fz M i)
theorem Zu2 (M n:Nat) (i:Nat):nth M n (i,0)=(fzn M n i,0):=by
 induction n generalizing i with
 | zero=>rfl
 | succ n ih =>
   show nth M n (step M (i,0))=_
   have e:step M (i,0)=(fz M i,0):=by
    unfold step SetTable.leap fz
    simp
   rw [e,ih];rfl
def masks (M:Nat):Prop:=M=7∨M=31∨M=127
def orb (M:Nat):List Nat:=(List.range (M+1)).map fun n=>fzn M n 0
theorem Zjb (M a b i:Nat):fzn M (a+b) i=fzn M b (fzn M a i):=by
 induction a generalizing i with
 | zero=>rw [Nat.zero_add];rfl
 | succ a ih=>rw [Nat.succ_add];exact ih (fz M i)
def good (M:Nat):Bool:=(List.range (M+1)).all (fun j=>(orb M).contains j)&&fzn M (M+1) 0 == 0
theorem Zwt:good 7=true:=?j
theorem Zuv:good 31=true:=?j
theorem Zsp:good 127=true:=?j
theorem Zr2 {M:Nat} (h:masks M):good M=true:=by
 rcases h with rfl|rfl|rfl
 · exact Zwt
 · exact Zuv
 · exact Zsp
theorem Zwv {M i j:Nat} (h:masks M) (hi:i≤M) (hj:j≤M):∃ n,n≤M∧fzn M n i=j:=by
 have g:=Zr2 h;unfold good at g;rw [n40_,n44_] at g;obtain ⟨g1,g2⟩:=g;have g2':fzn M (M+1) 0=0:=by simpa using g2
 have mem:∀ j,j≤M→∃ a,a≤M∧fzn M a 0=j:=fun j hj=>by
  have:=g1 j (by simpa using Nat.lt_succ_of_le hj)
  have:j∈orb M:=by simpa using this
  unfold orb at this;obtain ⟨a,ha,e⟩:=n24_.mp this;exact ⟨a,Nat.le_of_lt_succ (n35_.mp ha),e⟩
 obtain ⟨a,ha,ea⟩:=mem i hi;obtain ⟨b,hb,eb⟩:=mem j hj
 by_cases hab:a≤b
 · refine ⟨b-a,?d,?_⟩;rw [← ea,← Zjb,show a+(b-a)=b by omega];exact eb
 · refine ⟨M+1-a+b,?d,?_⟩;rw [← ea,← Zjb,show a+(M+1-a+b)=(M+1)+b by omega,Zjb,g2'];exact eb
theorem Zs7 (M:Nat) (q:Nat×Nat):(step M q).1≤M:=Nat.le_of_lt_succ (Nat.mod_lt _ (Nat.succ_pos _))
theorem Zuy {M n:Nat} {q:Nat×Nat} (h:q.1≤M):(nth M n q).1≤M:=by
 cases n with
 | zero=>exact h
 | succ n=>rw [Zp4];exact Zs7 M _
theorem Zui {M i p j:Nat} (h:masks M) (hi:i≤M) (hp:p<2^64) (hj:j≤M):∃ n,n≤M+13∧(nth M n (i,p)).1=j:=by
 have z:(nth M 13 (i,p)).2=0:=by
  rw [Ztq];refine Nat.div_eq_of_lt (n23_ hp ?_);decide
 have e:nth M 13 (i,p)=((nth M 13 (i,p)).1,0):=by rw [← z]
 obtain ⟨n,hn,en⟩:=Zwv h (Zuy (n:=13) (q:=(i,p)) hi) hj;refine ⟨13+n,?d,?_⟩;rw [Ztj,e,Zu2];exact en
theorem Zod (h:Int):SetTable.bits h<2^64:=by
 unfold SetTable.bits;have h1:(0:Int)≤h % 2^64:=Int.emod_nonneg _ ?f;have h2:h % 2^64<2^64:=Int.emod_lt_of_pos _ ?f;omega
theorem Zl0 {t:SetTable} {j:Nat} (hd:t.dummies=#[]) (hj:j∉t.place.toList):t.slot j=.empty:=by
 unfold SetTable.slot
 have h1:(t.place[SetTable.below t.place j]? == some j)=false:=by
  rw [beq_eq_false_iff_ne];intro e;exact hj (by simpa using Array.mem_of_getElem? e)
 have h2:SetTable.has t.dummies j=false:=by
  rw [hd];unfold SetTable.has
  simp
 simp only [h1,h2];rfl
theorem Zl1 {t:SetTable} {j:Nat} (hd:t.dummies=#[]):t.slot j=.empty∨∃ i,t.slot j=.live i∧t.place[i]? = some j:=by
 by_cases h:t.place[SetTable.below t.place j]? = some j
 · refine .inr ⟨_,?_,h⟩;unfold SetTable.slot;simp only [h,beq_self_eq_true,if_true]
 · left
   have h1:(t.place[SetTable.below t.place j]? == some j)=false:=beq_eq_false_iff_ne.mpr h
   have h2:SetTable.has t.dummies j=false:=by
    rw [hd];unfold SetTable.has
    simp
   unfold SetTable.slot;simp only [h1,h2];rfl
theorem Ziu (l:List Nat) (n:Nat) (h:l.length<n):∃ j,j<n∧j∉l:=by
 induction n generalizing l with
 | zero=>omega
 | succ n ih =>
   by_cases hm:n∈l
   · obtain ⟨j,hj,hl⟩:=ih (l.filter (·≠n)) (by
      have:(l.filter (·≠n)).length<l.length:=by
       refine List.length_filter_lt_length_iff_exists.mpr ⟨n,hm,by simp⟩
      omega)
     refine ⟨j,?d,fun z=>hl ?_⟩;rw [n72_];exact ⟨z,by simp;omega⟩
   · exact ⟨n,Nat.lt_succ_self n,hm⟩
def adv (t:SetTable):Nat→SetTable.Probe→SetTable.Probe
 | 0,p=>p
 | n+1,p=>adv t n (t.advance p)
theorem Zgb (t:SetTable) (a b:Nat) (p:SetTable.Probe):adv t (a+b) p=adv t b (adv t a p):=by
 induction a generalizing p with
 | zero=>rw [Nat.zero_add];rfl
 | succ a ih=>rw [Nat.succ_add];exact ih (t.advance p)
def start (t:SetTable) (q:Nat×Nat) (d:Option Nat):SetTable.Probe:={ j:=q.1,more:=SetTable.runEnd t.mask q.1-q.1,i:=q.1,perturb:=q.2,dummy:=d }
theorem Zrp (M i:Nat):SetTable.runEnd M i-i≤9:=by
 unfold SetTable.runEnd;split<;>omega
theorem Zi1 (t:SetTable):∀ (k:Nat) (p:SetTable.Probe),p.more=k→adv t (k+1) p=start t (step t.mask (p.i,p.perturb)) p.dummy
 | 0,p,h=>by
   show t.advance p=_
   unfold SetTable.advance;rw [if_neg (?d)];rfl
 | k+1,p,h=>by
   show adv t (k+1) (t.advance p)=_
   have e:t.advance p={ p with j:=p.j+1,more:=p.more-1 }:=by
    unfold SetTable.advance;rw [if_pos (?d)]
   rw [e]
   have:=Zi1 t k { p with j:=p.j+1,more:=p.more-1 } (by show p.more-1=k;omega)
   rw [this]
theorem Zoc (t:SetTable) (n:Nat) (q:Nat×Nat) (d:Option Nat):∃ m,m≤10*n∧adv t m (start t q d)=start t (nth t.mask n q) d:=by
 induction n generalizing q with
 | zero=>exact ⟨0,n11_ _,rfl⟩
 | succ n ih =>
   obtain ⟨m,hm,e⟩:=ih (step t.mask q);refine ⟨(SetTable.runEnd t.mask q.1-q.1)+1+m,?_,?_⟩
   · have:=Zrp t.mask q.1;omega
   · rw [Zgb,Zi1 t (SetTable.runEnd t.mask q.1-q.1) (start t q d) rfl];exact e
def Near (t:SetTable) (n:Nat) (p:SetTable.Probe):Prop:=∃ m,m≤n∧t.slot (adv t m p).j=.empty
theorem near_start {t:SetTable} {h:Int} (hm:masks t.mask) (hd:t.dummies=#[]) (hl:t.place.size<t.mask+1):Near t (10*(t.mask+13)) (t.probeStart h):=by
 obtain ⟨j,hj,hn⟩:=Ziu t.place.toList (t.mask+1) (by simpa using hl);have hi:SetTable.bits h % (t.mask+1)≤t.mask:=Nat.le_of_lt_succ (Nat.mod_lt _ (Nat.succ_pos _));obtain ⟨n,hn2,e⟩:=Zui hm hi (Zod h) (Nat.le_of_lt_succ hj);obtain ⟨m,hm2,e2⟩:=Zoc t n (SetTable.bits h % (t.mask+1),SetTable.bits h) none;refine ⟨m,?d,?_⟩
 have:t.probeStart h=start t (SetTable.bits h % (t.mask+1),SetTable.bits h) none:=rfl
 rw [this,e2];show t.slot (nth t.mask n _).1=.empty
 rw [e];exact Zl0 hd hn
theorem Zhp (t:SetTable):∀ (n:Nat) (p:SetTable.Probe),(adv t n p).dummy=p.dummy
 | 0,_=>rfl
 | n+1,p=>by
   show (adv t n (t.advance p)).dummy=_
   rw [Zhp t n];unfold SetTable.advance;split<;>rfl
theorem Zhk {M:Nat} {owner:Array (Option Nat)}:∀ (n fuel:Nat) (q:Nat×Nat),(∃ m,m≤n∧(owner.getD (nth M m q).1 (some 0)).isNone=true)→n<fuel →
 ∃ j,SetTable.layClean.free M owner fuel q.1 q.2=some j∧(owner.getD j (some 0)).isNone=true
 | n,0,_,_,hf=>?d
 | n,fuel+1,q,⟨m,hm,e⟩,hf=>by
   unfold SetTable.layClean.free;cases hfi:(List.range (SetTable.runEnd M q.1+1-q.1)).find? fun k=>(owner.getD (q.1+k) (some 0)).isNone with
   | some k =>
     refine ⟨q.1+k,rfl,?_⟩;exact (List.find?_some (p:=fun k=>(owner.getD (q.1+k) (some 0)).isNone) hfi)
   | none =>
     have hm0:m≠0:=by
      rintro rfl
      have e0:(owner.getD q.1 (some 0)).isNone=true:=e
      have:=List.find?_eq_none.mp hfi 0 (by
       rw [n35_];unfold SetTable.runEnd;split<;>omega)
      rw [Nat.add_zero] at this;exact this e0
     obtain ⟨k,rfl⟩:∃ k,m=k+1:=⟨m-1,?d⟩;exact Zhk (n-1) fuel (step M q) ⟨k,?d,e⟩ (?d)
def cnt (owner:Array (Option Nat)):Nat:=owner.toList.countP (·.isSome)
structure Own (M n:Nat) (owner:Array (Option Nat)):Prop where
 size:owner.size=M+1
 cnt:cnt owner=n
 lt:∀ (j k:Nat),owner[j]? = some (some k)→k<n
theorem Zas {α:Type} (p:α→Bool):∀ (l:List α),l.countP p<l.length→∃ (j:Nat) (x:α),l[j]? = some x∧p x=false
 | [],h=>by simp at h
 | x :: l,h=>by
   by_cases hx:p x=true
   · rw [List.countP_cons,if_pos hx,n18_] at h;obtain ⟨j,y,e,hy⟩:=Zas p l (?d);exact ⟨j+1,y,by simpa using e,hy⟩
   · exact ⟨0,x,rfl,by simpa using hx⟩
theorem Zel {α:Type} (p:α→Bool):∀ (l:List α) (j:Nat) (x y:α),l[j]? = some x→p x=false→p y=true→(l.set j y).countP p=l.countP p+1
 | [],j,x,y,h,_,_=>by simp at h
 | z :: l,0,x,y,h,hx,hy=>by
   have:z=x:=by simpa using h
   subst this;simp [List.countP_cons,hx,hy]
 | z :: l,j+1,x,y,h,hx,hy=>by
   have:=Zel p l j x y (by simpa using h) hx hy
   simp only [List.set_cons_succ,List.countP_cons,this];omega
theorem Own.free {M n:Nat} {owner:Array (Option Nat)} (o:Own M n owner) (hm:masks M) (hn:n<M+1) (h:Int):∃ j,SetTable.layClean.free M owner (SetTable.turns M) (SetTable.bits h % (M+1)) (SetTable.bits h)=some j∧owner[j]? = some none:=by
 obtain ⟨j,x,e,hx⟩:=Zas (fun x:Option Nat=>x.isSome) owner.toList (by
  have:owner.toList.countP (fun x:Option Nat=>x.isSome)=n:=o.cnt
  rw [this,Array.length_toList,o.size];exact hn)
 have hj:j≤M:=by
  have:=(n12_.mp e).1
  rw [Array.length_toList,o.size] at this;omega
 have e':owner[j]? = some x:=by simpa using e
 obtain ⟨m,hm2,em⟩:=Zui hm (Nat.le_of_lt_succ (Nat.mod_lt (SetTable.bits h) (Nat.succ_pos M))) (Zod h) hj
 obtain ⟨j',r1,r2⟩:=Zhk (M:=M) (owner:=owner) (M+13) (SetTable.turns M) (SetTable.bits h % (M+1),SetTable.bits h) ⟨m,hm2,by
  rw [em,Array.getD_eq_getD_getElem?,e'];cases x with
  | none=>rfl
  | some _=>cases hx⟩ (by unfold SetTable.turns;omega)
 refine ⟨j',r1,?_⟩;rw [Array.getD_eq_getD_getElem?] at r2;cases q:owner[j']? with
 | none=>rw [q] at r2;cases r2
 | some y =>
   rw [q] at r2;cases y with
   | none=>rfl
   | some _=>cases r2
theorem Own.put {M n:Nat} {owner:Array (Option Nat)} (o:Own M n owner) {j:Nat} (hj:owner[j]? = some none):Own M (n+1) (owner.setIfInBounds j (some n)) where
 size:=by rw [Array.size_setIfInBounds];exact o.size
 cnt:=by
  unfold STb.cnt;rw [Array.toList_setIfInBounds];rw [Zel (fun x:Option Nat=>x.isSome) owner.toList j none (some n) (by simpa using hj) rfl rfl]
  have:owner.toList.countP (fun x:Option Nat=>x.isSome)=n:=o.cnt
  rw [this]
 lt:=fun i k e=>by
  rw [Array.getElem?_setIfInBounds] at e;split at e
  · split at e
    · have:n=k:=by simpa using e
      omega
    · cases e
  · have:=o.lt i k e;omega
def Y6 (M:Nat) (acc:Option (Array (Option Nat)×Nat)) (h:Int):Option (Array (Option Nat)×Nat):=do
 let (owner,k) ← acc
 let j ← SetTable.layClean.free M owner (SetTable.turns M) (SetTable.bits h % (M+1)) (SetTable.bits h)
 pure (owner.setIfInBounds j (some k),k+1)
theorem Zfm {M:Nat} (hm:masks M):∀ (hs:?e) (n:Nat) (owner:Array (Option Nat)),Own M n owner→n+hs.length<M+1→∃ owner',hs.foldl (Y6 M) (some (owner,n))=some (owner',n+hs.length)∧Own M (n+hs.length) owner'
 | [],n,owner,o,_=>⟨owner,rfl,o⟩
 | h :: hs,n,owner,o,hl=>by
   rw [n18_] at hl;obtain ⟨j,r1,r2⟩:=o.free hm (?d) h
   have e:Y6 M (some (owner,n)) h=some (owner.setIfInBounds j (some n),n+1):=by
    unfold Y6;show (SetTable.layClean.free M owner (SetTable.turns M) (SetTable.bits h % (M+1)) (SetTable.bits h)).bind _=_
    rw [r1];rfl
   obtain ⟨owner',e2,o2⟩:=Zfm hm hs (n+1) _ (o.put r2) (?d);refine ⟨owner',?_,?_⟩
   · rw [n73_,e,e2,n18_];congr 2;omega
   · rw [n18_,show n+(hs.length+1)=n+1+hs.length by omega];exact o2
theorem own0 (M:Nat):Own M 0 (Array.replicate (M+1) none) where
 size:=by simp
 cnt:=by
  unfold STb.cnt;rw [Array.toList_replicate,List.countP_replicate];rfl
 lt:=fun j k e=>by
  rw [Array.getElem?_replicate] at e;split at e<;>cases e
theorem Zja {M:Nat} (hm:masks M) (hs:Array Int) (hl:hs.size<M+1):∃ owner,SetTable.layClean M hs=some owner∧Own M hs.size owner:=by
 obtain ⟨owner,e,o⟩:=Zfm hm hs.toList 0 _ (own0 M) (by simpa using hl);refine ⟨owner,?_,by simpa using o⟩;unfold SetTable.layClean;rw [← Array.foldl_toList]
 have:(hs.toList.foldl (Y6 M) (some (Array.replicate (M+1) none,0)))=some (owner,0+hs.toList.length):=e
 show (List.foldl (Y6 M) (some (Array.replicate (M+1) none,0)) hs.toList).map (·.1)=some owner
 rw [this];rfl
theorem Xf {α β:Type} (f:α→Option β):∀ l:List α,(l.filterMap f).length=l.countP (fun x=>(f x).isSome)
 | []=>rfl
 | x :: l=>by
   rw [List.countP_cons];cases h:f x with
   | none=>rw [List.filterMap_cons_none h,Xf f l];simp
   | some y=>rw [List.filterMap_cons_some h,n18_,Xf f l];simp
theorem Zpf {M n:Nat} {owner:Array (Option Nat)} (o:Own M n owner):((List.range (M+1)).filterMap fun j=>(owner.getD j none).map (j,·)).length=n:=by
 rw [Xf]
 have e:(List.range (M+1)).countP (fun j=>((owner.getD j none).map (j,·)).isSome)=(List.range owner.size).countP (fun j=>(owner.getD j none).isSome):=by
  rw [o.size];refine List.countP_congr fun j _=>?_;cases owner.getD j none<;>simp
 rw [e]
 have e2:owner.toList=(List.range owner.size).map (fun j=>owner.getD j none):=by
  refine n57_ ?g fun i h1 h2=>?_;have hi:i<owner.size:=by simpa using h1
  simp [Array.getD,hi]
 have:=o.cnt
 unfold STb.cnt at this;rw [e2,List.countP_map] at this;exact this
theorem pick_size {α:Type} {es:Array α} {order:Array Nat} (h1:order.size=es.size) (h2:∀ k∈order.toList,k<es.size):(order.filterMap (es[·]?)).size=es.size∧∀ x∈(order.filterMap (es[·]?)).toList,x∈es.toList:=by
 constructor
 · rw [← Array.length_toList,Array.toList_filterMap,Xf,← h1,← Array.length_toList];rw [List.countP_eq_length];intro k hk
   have:k<es.size:=h2 k hk
   simp [this]
 · intro x hx;rw [Array.toList_filterMap] at hx;obtain ⟨k,_,e⟩:=List.mem_filterMap.mp hx;exact by simpa using Array.mem_of_getElem? e
theorem insertAt_size {α:Type} (xs:Array α) (p:Nat) (x:α):(SetTable.insertAt xs p x).size=xs.size+1:=by
 unfold SetTable.insertAt;simp only [Array.size_append,Array.size_push,Array.size_extract];omega
end STb
namespace L2
open PySem PySem.Spec PyProof.Rows
variable {a it l:Addr} {items:Array Value} {X:Cx} {env:Env} {elt i0 i1 t0 t1:Expr} {H2:Hp} {pins:?y} {fr:List (Option Nat)} {cl:List (Str×Addr)} {fp:List Addr} {es:List Expr} {N:List Str} {k n:Nat} {pos:Pos} {prog:Program} {scope:Scope} {s3:Shared} {σ:St} {ta:TA} {te:TE} {wi:TI} {w:World}
section
variable {prog:Program} {w:World} {A:Around} {E:Value→?i} {s:Shared} {K:Type} [DecidableEq K] {knd:KeyKind prog w K}
theorem Zds {ks:List K} {Q:Bool→?i} (hk:IsTupleKey knd s.heap ks a) (h:Q false s):wpAny ?p A (ofAClassStatement (n+1) (.ref a)) Q E s:=by
 have hT:=hk.typeIs;obtain ⟨o,items,m,ho,_,hd,hi⟩:=hk;unfold ofAClassStatement;refine n0_ (wpAny_typeOf hT ?_);simp only [beq_self_eq_true,if_true];refine n0_ (n2_ ?_);simp only [Bool.not_true,n20_,if_false];refine n0_ (wpAny_seqItems ho hd ?_);refine n0_ ?_;show wpAny _ _ (forIn items _ _) _ _ s
 rw [← Array.forIn_toList];refine wpAny_forIn_list _ (fun rest r s'=>r.1=none∧s'=s∧∀ v∈rest,carriedByValue v=true) _ ?_ ?_ _ _ ⟨rfl,rfl,hi.byValue⟩
 · rintro v rest r s' ⟨hr,rfl,hall⟩
   have hv:=hall v n19_
   have e:ofAClassStatement n v=pure false:=by
    cases v<;>first|(unfold ofAClassStatement;rfl)|(cases hv)
   rw [e];refine n0_ (n2_ ?_);simp only [n20_,if_false];exact n2_ ⟨rfl,rfl,fun u hu'=>hall u (n16_ _ hu')⟩
 · rintro ⟨r1,r2⟩ s' ⟨hr,rfl,_⟩
   simp only at hr;subst hr;exact n2_ h
theorem Zvl {k:List K} {Q:Bool→?i} (hk:IsTupleKey knd s.heap k a) (l:?q) (hl:∀ y∈l,∃ b k',y=.ref b∧IsTupleKey knd s.heap k' b) (h:Q false s) :
 wpAny ?p A (searchCouldBeSeen (.ref a) l) Q E s:=by
 unfold searchCouldBeSeen;refine n0_ ?_;refine wpAny_forIn_list _ (fun rest r s'=>r.1=none∧s'=s∧∀ y∈rest,∃ b k',y=.ref b∧IsTupleKey knd s.heap k' b) _ ?_ ?_ _ _ ⟨rfl,rfl,hl⟩
 · rintro y rest r s' ⟨hr,rfl,hall⟩
   obtain ⟨b,k',rfl,hb⟩:=hall y n19_;have rest':∀ y∈rest,∃ b k',y=.ref b∧IsTupleKey knd s'.heap k' b:=fun u hu=>hall u (n16_ _ hu);dsimp only;split
   · exact n2_ ⟨rfl,rfl,rest'⟩
   · refine n0_ (wpAny_eqIsQuiet_tuple hk ?_);simp only [Bool.not_true,n20_,if_false];refine n0_ (wpAny_eqIsQuiet_tuple hb ?_);simp only [Bool.not_true,n20_,if_false];refine n0_ (Zds hk ?_);simp only [n20_,if_false];refine n0_ (Zds hb ?_);simp only [n20_,if_false];exact n2_ ⟨rfl,rfl,rest'⟩
 · rintro ⟨r1,r2⟩ s' ⟨hr,rfl,_⟩
   simp only at hr;subst hr;exact n2_ h
end
section
variable {prog:Program} {w:World} {A:Around} {E:Value→?i} {s:Shared} {K:Type} [DecidableEq K] {knd:KeyKind prog w K}
theorem Zno (t:SetTable) (j:Nat):(t.put j).1.place.size=t.place.size+1∧(t.dummies=#[]→(t.put j).1.dummies=#[])∧(t.put j).1.mask=t.mask:=by
 unfold SetTable.put;refine ⟨STb.insertAt_size _ _ _,fun hd=>?_,rfl⟩
 have h2:SetTable.has t.dummies j=false:=by
  rw [hd];unfold SetTable.has
  simp
 simp only [h2];exact hd
end
section
variable {X:Cx}
theorem items_int:∀ {ns:?e} {us:?q},Vals (ns.map V.int) us→ItemsAre (PySem.intKind prog w) ns us
 | [],_,.nil=>.nil
 | n :: ns,_,.cons r rs=>by
   obtain ⟨t,rfl⟩:=r;exact .cons (intKind_is _ _ _ _) (items_int rs)
theorem Zet:∀ (bs:List Bool),((List.range bs.length).any fun i=>(bs[i]?).getD true)=bs.any id
 | []=>rfl
 | b :: bs=>by
   rw [n18_,List.range_succ_eq_map,List.any_cons,List.any_map,List.any_cons,← Zet bs];rfl
inductive BxRc_anyB (K:PySem.W.Frag) (xs:List V) (H:Hp) (Q:VK):Prop
 | mk (p:Addr) (bs:List Bool) (q1:xs=[.ref p]) (q2:SqL K H p (bs.map V.bl)) (q3:Q (.bl (bs.any id)) H):BxRc_anyB K xs H Q
def Zsw (K:PySem.W.Frag):List V→Hp→VK→Prop:=fun xs H Q=>BxRc_anyB K xs H Q
theorem Zhj (hc:X.calm=true):Yv X (.builtin "any") (Zsw X.K):=by
 intro pins s σ H xs us Q I r h;obtain ⟨p,bs,rfl,hq,q⟩:=h;cases r with
 | cons rx r =>
   cases r
   cases (show _=Value.ref p from rx)
   obtain ⟨its,rv,pl,hz⟩:=I.list hq;have hl:=pl.isList;have hlt:p<s.z:=by obtain ⟨_,e,_⟩:=hl;exact n13_ e
   have hh:X.A.handled=none:=I.ok.hd hc;refine call_any_walk (wpAny_pyIter_list hl ⟨s.z,[s.z,p],[s.z],its.toArray.size,_,_,fun i=>(bs[i]?).getD true,rfl,Walks.list (A:=X.A.in1) hh _ p (n27_ hlt) its.toArray,⟨⟨_,n8_ _ rfl,rfl,rfl⟩,hl.push _⟩,fun i v s' Q' E' hP hQ=>?_,fun h' tk hk=>?_⟩)
   · obtain ⟨b,e,rfl⟩:=Zek rv (show its[i]? = some v by simpa using hP);simp only [e,Option.getD_some] at hQ;exact wpAny_truthy_bool hQ
   · have e:((List.range its.toArray.size).any fun i=>(bs[i]?).getD true)=bs.any id:=by
      rw [n15_,← rv.length,n5_];exact Zet bs
     rw [e];exact ⟨.bl _,H,I.kept (Zio hk),rfl,q⟩
theorem Zh9:∀ {ns:?e} {us:?q} {i:Nat} {v:Value},Vals (ns.map V.int) us→us[i]? = some v→∃ t,v=.int (ns.getD i 0) t
 | [],_,i,v,.nil,e=>by simp at e
 | n :: ns,_,0,v,.cons r t,e=>by
   obtain ⟨k,rfl⟩:=r
   have:v=.int n k:=by simpa using e.symm
   exact ⟨k,this⟩
 | n :: ns,_,i+1,v,.cons r t,e=>by
   obtain ⟨k,h⟩:=Zh9 t (by simpa using e);exact ⟨k,by simpa using h⟩
theorem Zee:∀ (ns:?e) (acc:?e),preSum (fun i=>(acc++ns).getD i 0) (acc.length+ns.length)=preSum (fun i=>(acc++ns).getD i 0) acc.length+ns.sum
 | [],acc=>by simp
 | n :: ns,acc=>by
   have:=Zee ns (acc++[n])
   rw [n49_] at this;simp only [n21_,n18_,n79_,List.singleton_append] at this ⊢;rw [show acc.length+(ns.length+1)=acc.length+(0+1)+ns.length by omega,this]
   have e:preSum (fun i=>(acc++n :: ns).getD i 0) (acc.length+(0+1))=preSum (fun i=>(acc++n :: ns).getD i 0) acc.length+n:=by
    show preSum (fun i=>(acc++n :: ns).getD i 0) acc.length+(acc++n :: ns).getD acc.length 0=_
    congr 1
    simp
   rw [e,List.sum_cons,Int.add_assoc]
inductive BxRc_sumI (K:PySem.W.Frag) (xs:List V) (H:Hp) (Q:VK):Prop
 | mk (p:Addr) (ns:?e) (q1:xs=[.ref p]) (q2:SqL K H p (ns.map V.int)) (q3:Q (.int ns.sum) H):BxRc_sumI K xs H Q
def Zsk (K:PySem.W.Frag):List V→Hp→VK→Prop:=fun xs H Q=>BxRc_sumI K xs H Q
theorem Znl (hc:X.calm=true):Yv X (.builtin "sum") (Zsk X.K):=by
 intro pins s σ H xs us Q I r h;obtain ⟨p,ns,rfl,hq,q⟩:=h;cases r with
 | cons rx r =>
   cases r
   cases (show _=Value.ref p from rx)
   obtain ⟨its,rv,pl,hz⟩:=I.list hq;have hl:=pl.isList;have hlt:p<s.z:=by obtain ⟨_,e,_⟩:=hl;exact n13_ e
   have hh:X.A.handled=none:=I.ok.hd hc;refine call_sum_walkG (wpAny_pyIter_list hl ⟨s.z,[s.z,p],[s.z],its.toArray.size,_,_,fun i=>ns.getD i 0,rfl,Walks.list (A:=X.A.in1) hh _ p (n27_ hlt) its.toArray,⟨⟨_,n8_ _ rfl,rfl,rfl⟩,hl.push _⟩,fun b hb=>?_,fun i v hP=>Zh9 rv (by simpa using hP),fun h' tk t' hk=>?_⟩)
   · simp only [n9_,n10_,or_false] at hb;show b<(s.heap.push _).objs.size
     rw [n43_]
     rcases hb with rfl|rfl
     · exact Nat.lt_succ_self _
     · exact n54_ hlt
   · have e:preSum (fun i=>ns.getD i 0) its.toArray.size=ns.sum:=by
      have:=Zee ns []
      simp only [List.nil_append,n79_,Nat.zero_add] at this;rw [n15_,← rv.length,n5_,this];show preSum _ 0+_=_
      simp [preSum]
     rw [e];exact ⟨.int _,H,I.kept (Zio hk),⟨_,rfl⟩,q⟩
end
section
variable {prog:Program} {w:World} {A:Around} {E:Value→?i} {s:Shared}
theorem Zrx (ne:l≠it):∀ (n i:Nat) (s:Shared) (Q:?q→?i),s.heap.IsListIter it l i→s.heap.IsList l items→i+n≤items.size →
 (∀ h',h'.IsListIter it l (i+n)→Heap.SameBut it s.heap h'→Q ((items.toList.drop i).take n) { s with heap:=h' })→wpAny ?p A (draw (.ref it) n) Q E s
 | 0,i,s,Q,hit,_,_,q=>by
   show wpAny _ _ (pure []) Q E s
   exact n2_ (by simpa using q s.heap hit (Heap.SameBut.refl ..))
 | n+1,i,s,Q,hit,hl,hle,q=>by
   have hlt:i<items.size:=?d
   refine n0_ (m:=pyNext (.ref it)) (wpAny_pyNext_list_item hit hl (x:=items[i]) (by simp [hlt]) fun h1 it1 s1=>?_);refine n0_ (n30_ (Zrx ne n (i+1) _ _ it1 (hl.extBut s1.extBut ne) (?d) fun h2 it2 s2=>n2_ ?_));have e:items.toList.drop i=items[i] :: items.toList.drop (i+1):=by simp [List.drop_eq_getElem_cons,hlt]
   have z:=q h2 (by rw [show i+(n+1)=i+1+n by omega];exact it2) (s1.trans s2);rw [e,List.take_succ_cons] at z;exact z
theorem Zff {Q:?q→?i} (hh:A.handled=none) (hl:s.heap.IsList l items)
 (q:∀ h',Heap.ExtBut s.z s.heap h'→Q items.toList { s with heap:=h' }):wpAny ?p A (unpackItems (.ref l) items.size none) Q E s:=by
 have ne:l≠s.z:=by obtain ⟨o,ho,_⟩:=hl;exact n27_ (n13_ ho)
 unfold unpackItems;refine n0_ ?_
 · unfold notIterableAtAll;refine n0_ (wpAny_specialOf hl.typeIs F.slot_list_iter.lookup (n2_ ?_));simp only [n20_,if_false];refine n0_ (n30_ (wpAny_pyIter_list hl ?_));refine n0_ (n30_ (Zrx ne items.size 0 _ _ ⟨_,n8_ _ rfl,rfl,rfl⟩ (hl.push _) (?d) fun h1 it1 s1=>?_));rw [show List.take items.size (List.drop 0 items.toList)=items.toList by rw [List.drop_zero];exact n45_ ?g,if_neg ?g];refine n0_ (n30_ (wpAny_pyNext_list_end hh it1 ((hl.push _).extBut s1.extBut ne) ?g fun h2 e2=>?_));simp only [Option.isSome_none,n20_,if_false];refine n2_ (q h2 fun b o hb e=>e2 b o hb (s1.extBut b o hb (n3_ _ e)))
theorem Zqd {elts:List Expr} {x1} {Q:Unit→?i} (hh:A.handled=none) (hl:s.heap.IsList l items)
 (hn:(assignEach elts env).length=items.size) (hs:(assignEach elts env).findIdx? (·.1)=none)
 (h:∀ h',Heap.ExtBut s.z s.heap h'→wpAny ?p A (assignInOrder ((assignEach elts env).map (·.2)) items.toList) Q E { s with heap:=h' }) :
 wpAny ?p A (assign (.Tuple elts x1 pos) env (.ref l)) Q E s:=by
 rw [assign_Tuple];refine n0_ (wpAny_standAt ?_);unfold unpack;rw [hn,hs];exact n0_ (n30_ (Zff hh hl h))
end
section
variable {X:Cx} {pos:Pos}
inductive BxGLst (K:PySem.W.Frag) (n:Nat) (t:TGs) (v:V) (σ:St) (H:Hp) (Q:St→?o):Prop
 | mk (a:_) (xs:_) (q1:v=.ref a) (q2:SqL K H a xs) (q3:xs.length=n) (q4:t xs σ H Q):BxGLst K n t v σ H Q
def gLst (K:PySem.W.Frag) (n:Nat) (t:TGs):TG:=fun v σ H Q=>BxGLst K n t v σ H Q
theorem Zrj {t:TGs} (hc:X.calm=true) (h:PGs X es t) (hn:(assignEach es X.env).length=n:=by rfl) (hst:(assignEach es X.env).findIdx? (·.1)=none:=by rfl):PG X (.Tuple es k pos) (gLst X.K n t):=by
 intro pins s σ H v u Q I r hw;obtain ⟨a,xs,e1,hq,hl,hw⟩:=hw;subst e1;cases r
 obtain ⟨its,rv,pl,hz⟩:=I.list hq;refine Zqd (I.ok.hd hc) pl.isList (by simp [hn,← hl,rv.length]) hst fun h' hx=>?_;have I1:Inv X pins σ H { s with heap:=h' }:=I.kept (t':=s.toks) fun b o e=>hx b o (n27_ (n13_ e)) e;exact h pins _ σ H xs _ Q I1 (by simpa using rv) hw
inductive BxRc_sortedI (K:PySem.W.Frag) (xs:List V) (H:Hp) (Q:VK):Prop
 | mk (p:Addr) (ns:?e) (q1:xs=[.ref p]) (q2:SqL K H p (ns.map V.int)) (q3:ns.length<64) (q4:∀ (l:Addr) (ns':?e),H l=none→ns'.Perm ns→ns'.Pairwise (·≤·)→Q (.ref l) (upd H l (.lst (ns'.map V.int)))):BxRc_sortedI K xs H Q
def Ze1 (K:PySem.W.Frag):List V→Hp→VK→Prop:=fun xs H Q=>BxRc_sortedI K xs H Q
theorem Zcy:Yv X (.builtin "sorted") (Ze1 X.K):=by
 intro pins s σ H xs us Q I r h;obtain ⟨p,ns,rfl,hq,h64,q⟩:=h;cases r with
 | cons rx r =>
   cases r
   cases (show _=Value.ref p from rx)
   obtain ⟨its,rv,pl,hz⟩:=I.list hq;have hlen:=rv.length;rw [n5_] at hlen;refine sorted_ints pl.isList (X6 rv) (?d) fun out ns' a1 a2 a3=>?_;obtain ⟨e,he⟩:=sortedAll_at s.heap its out;have fr:H (s.z+1)=none:=I.hok.fresh (Nat.le_succ _);refine ⟨.ref (s.z+1),_,I.laid (o:=.lst (ns'.map V.int)) (t':=s.toks) (fun b u e=>sortedAll_old e) (Nat.le_succ _) ⟨?_,out.toList,e,Zdw a1,by simpa using he⟩,rfl,q _ ns' fr a2 a3⟩;rw [n5_,a2.length_eq,sizeLine_eq];omega
theorem Ziv:∀ {l:?q} (k:Nat),l.length=n→(∀ (j:Nat) (v:Value),l[j]? = some v→∃ t,v=.int ((k:Int)+j) t)→Vals ((List.range' k n).map fun i:Nat=>V.int i) l:=by
 induction n with
 | zero=>intro l k hl _;cases l with
   | nil=>exact .nil
   | cons _ _=>simp at hl
 | succ n ih =>
   intro l k hl h;cases l with
   | nil=>simp at hl
   | cons x l =>
     obtain ⟨t,rfl⟩:=h 0 x rfl;refine .cons ⟨t,by simp⟩ (ih (k+1) (by simpa using hl) fun j v e=>?_);obtain ⟨t',e'⟩:=h (j+1) v (by simpa using e);exact ⟨t',by rw [e'];congr 1;omega⟩
theorem Zvy {a:Expr} {p2 q2:Pos} (hg2:Gl X "range") (hm2:X.mg "range" = none) (ha:PA X [a] ta) (he:starEach [a] X.env=[(false,eval a X.env)]:=by rfl) :
 PE X (.Call (.Name "range" p2) [a] [] q2) (fun σ H Q=>ta σ H fun vs H1=>∃ n:Nat,vs=[.int n]∧∀ r,H1 r=none→Q (.ref r) (upd H1 r (.rng 0 n))):=by
 intro pins s σ H Q I h;refine Call_ (Zbr I hg2 hm2 boot_range (n58_ (thn (ha q2 pins s σ H _ I h) fun us s1 ⟨vs,H1,I1,r1,q1⟩=>?_) he rfl));obtain ⟨n,rfl,q⟩:=q1;cases r1 with
 | cons r rr =>
   cases rr
   obtain ⟨t,rfl⟩:=r;refine call_range_1 ?_;have fr:H1 s1.z=none:=I1.hok.fresh (n11_ _);exact ⟨.ref s1.z,_,I1.laid (o:=.rng 0 n) (fun b o e=>n3_ _ e) (n11_ _) ⟨_,_,_,n8_ _ rfl⟩,rfl,q _ fr⟩
inductive BxRc_listR  (xs:List V) (H:Hp) (Q:VK):Prop
 | mk (r:Addr) (n:Nat) (q1:xs=[.ref r]) (q2:H r=some (.rng 0 n)) (q3:n≤1000) (q4:∀ l,H l=none→Q (.ref l) (upd H l (.lst ((List.range n).map fun i:Nat=>V.int i)))):BxRc_listR xs H Q
def Zpk  : List V→Hp→VK→Prop:=fun xs H Q=>BxRc_listR xs H Q
theorem Zk5 (hc:X.calm=true):Yv X (.type "list") (Zpk):=by
 intro pins s σ H xs us Q I r h;obtain ⟨a,n,rfl,hr,hn,q⟩:=h;cases r with
 | cons rx r =>
   cases r
   cases (show _=Value.ref a from rx)
   obtain ⟨t,u,v,e⟩:=(show ObjOk X.prog X.w H s.heap a (.rng 0 n) from I.hok a _ hr);have fr:H s.z=none:=I.hok.fresh (n11_ _);refine call_list_range (n:=n) (I.ok.hd hc) e (small_one (?d) (?d) (?d) (?d)) (by rw [rangeSize_one];split<;>omega) (?d) fun h' tk acc c k hS it=>?_;refine ⟨.ref s.z,_,I.laid (o:=.lst ((List.range n).map fun i:Nat=>V.int i)) (t':=tk) k (n11_ _) ⟨?_,acc.toList,c,?_,by simpa using hS⟩,rfl,q _ fr⟩
   · rw [n5_,n76_,sizeLine_eq];omega
   · rw [List.range_eq_range'];refine Ziv 0 (by rw [Array.length_toList];exact it.1) fun j v e=>?_;obtain ⟨t',e'⟩:=it.2 j v (by simpa using e);exact ⟨t',by rw [e'];congr 1;omega⟩
end
def Zv1 (c t0 i0 i1:Expr) (it acc:Value) (env:Env):Sem Fin:=do
 standAt i0.pos
 match ← pyNext it with
 | none=>pure (.done .next)
 | some v =>
   letOwnedTupleGo t0 it v
   assign t0 env v
   let mut ok:=true
   for c in ([]:List Expr) do
    if ok then ok ← isTrue c env (eval c env)
   if ok then do
    let x ← eval i1 env
    standAt i1.pos
    let x ← foldedSetIterable i1 env x
    let _ ← runOwn (.compStart c 1 (← holding [x] (pyIter x)) acc env) env
    again (.compLoop c 0 it acc env)
   else again (.compLoop c 0 it acc env)
def Zvv (c t1 i1 elt:Expr) (add:Value→Sem PUnit) (it acc:Value) (env:Env):Sem Fin:=do
 standAt i1.pos
 match ← pyNext it with
 | none=>pure (.done .next)
 | some v =>
   letOwnedTupleGo t1 it v
   assign t1 env v
   let mut ok:=true
   for c in ([]:List Expr) do
    if ok then ok ← isTrue c env (eval c env)
   if ok then
    (do let v ← eval elt env;add v)
   again (.compLoop c 1 it acc env)
structure C2Ok (prog:Program) (w:World) (c t0 i0 t1 i1 elt:Expr) (id:String) (add:Value→Value→Sem PUnit):Prop where
 un:∀ (A:Around) (k:Nat) (it acc:Value) (env:Env),A.under (.compLoop c k it acc env)=A
 den:∀ (k:Nat) (it acc:Value) (env:Env),(model prog w).den (.compLoop c k it acc env)=(compTurn c k it acc env).onRaise (fun x=>do noteFrame x env;theTreesLotGoes x)
 qu:∀ (k:Nat) (it acc:Value) (env:Env),(Code.compLoop c k it acc env).quiet=true
 e0:∀ it acc env,compTurn c 0 it acc env=Zv1 c t0 i0 i1 it acc env
 e1:∀ it acc env,compTurn c 1 it acc env=Zvv c t1 i1 elt (add acc) it acc env
 ha:∀ (A:Around) acc x s (P:?i) E,wpAny ?p A (call (.builtin id) [acc,x]) (fun _ s5=>P s5) NoX s→wpAny ?p A (add acc x) (fun _ s5=>P s5) E s
 start:∀ (A:Around) k,k<2→∀ it acc env R s4,codeAny ?p A (.compLoop c k it acc env) R s4→(∀ E,wpAny ?p A (pyIter it) (fun it' s'=>codeAny ?p A (.compLoop c k it' acc env) R s') E s4)→codeAny ?p A (.compStart c k it acc env) R s4
section
variable {prog:Program} {w:World} {A:Around} {R:Result→?i} {s:Shared} {c elt t0 i0 t1 i1:Expr} {it acc:Value} {env:Env} {add:Value→Value→Sem PUnit} {id:String} (c2:C2Ok prog w c t0 i0 t1 i1 elt id add)
include c2
theorem Zqp (I:Nat→?i)
 (turn:∀ n s,I n s→Zlp ?p A t1 it env R (fun n s3=>wpAny ?p A (eval elt env) (fun x s4=>wpAny ?p A (call (.builtin id) [acc,x]) (fun _ s5=>∃ m,m<n∧I m s5) NoX s4) NoX s3) n s)
 (n:Nat) (h:I n s):codeAny ?p A (.compLoop c 1 it acc env) R s:=by
 refine codeAny_loop (c2.qu _ _ _ _) I (fun n s hI=>?_) n h;rw [c2.un,c2.den];refine wpAny_noted ?_;rw [c2.e1];unfold Zvv;refine n0_ (wpAny_standAt (n0_ (n38_ (turn n s hI) (fun r s1 h1=>?_) fun _ _ h'=>h'.elim)));cases r with
 | none=>exact n2_ h1
 | some v =>
   refine n0_ (n38_ h1 (fun _ s2 h2=>n0_ (n38_ h2 (fun _ s3 h3=>n0_ (n2_ ?_)) fun _ _ h'=>h'.elim)) fun _ _ h'=>h'.elim);simp only [if_true];exact n0_ (n0_ (n38_ h3 (fun x s4 h4=>n38_ (c2.ha _ _ x s4 _ _ h4) (fun _ s5 h5=>n2_ ⟨rfl,h5⟩) fun _ _ h'=>h') fun _ _ h'=>h'.elim))
theorem Zpp (hs1:∀ x,foldedSetIterable i1 env x=pure x) (I:Nat→?i)
 (turn:∀ n s,I n s→Zlp ?p A t0 it env R (fun n s3=>wpAny ?p A (eval i1 env) (fun x s4=>wpAny ?p A (pyIter x) (fun itv s5 =>
   codeAny ?p A (.compStart c 1 itv acc env) (fun r s6=>match r with|.ok _=>∃ m,m<n∧I m s6|.error _=>False) s5) NoX s4) NoX s3) n s)
 (n:Nat) (h:I n s):codeAny ?p A (.compLoop c 0 it acc env) R s:=by
 refine codeAny_loop (c2.qu _ _ _ _) I (fun n s hI=>?_) n h;rw [c2.un,c2.den];refine wpAny_noted ?_;rw [c2.e0];unfold Zv1;refine n0_ (wpAny_standAt (n0_ (n38_ (turn n s hI) (fun r s1 h1=>?_) fun _ _ h'=>h'.elim)));cases r with
 | none=>exact n2_ h1
 | some v =>
   refine n0_ (n38_ h1 (fun _ s2 h2=>n0_ (n38_ h2 (fun _ s3 h3=>n0_ (n2_ ?_)) fun _ _ h'=>h'.elim)) fun _ _ h'=>h'.elim);simp only [if_true];refine n0_ (n38_ h3 (fun x s4 h4=>n0_ (wpAny_standAt (n0_ (wpAny_of_eq (hs1 x) (n0_ (n30_ (n38_ h4 (fun itv s5 h5=>n0_ (wpAny_runOwn ?_)) fun _ _ h'=>h'.elim))))))) fun _ _ h'=>h'.elim);refine codeAny_mono h5 fun r s6 h6=>?_;cases r with
   | ok f=>exact n2_ ⟨rfl,h6⟩
   | error e=>exact h6.elim
end
abbrev TAd:=V→Addr→Hp→(?o)→Prop
abbrev adL:TAd:=fun v D H C=>∃ ys,H D=some (.lst ys)∧ys.length<sizeLine∧C (upd H D (.lst (ys++[v])))
abbrev adS:TAd:=fun v D H C=>∃ (k:Int) (S:Int→Bool) (n:Nat),v=.int k∧H D=some (.set S n)∧n+1<scanBound∧C (upd H D (.set (fun k'=>S k'||decide (k'=k)) (if S k then n else n+1)))
def PAd (id:String) (ad:TAd):Prop:=∀ (X:Cx) (pins:?y) (s:Shared) (σ:St) (H:Hp) (v:V) (u:Value) (D:Addr) (C:?o),?k→RelV v u→ad v D H C→wpAny ?t X.A (call (.builtin id) [.ref D,u]) (fun _ s'=>∃ H',Inv X pins σ H' s'∧C H') X.xe s
theorem Zw3:PAd "list.append" adL:=fun X pins s σ H v u D C I r ⟨ys,hys,hz,q⟩=>thn (Xi (X:=X) pins s σ H (.ref D) [v] (.ref D) [u] (fun _ H'=>C H') I rfl (.cons r .nil) ⟨_,ys,v,rfl,rfl,hys,hz,q⟩) fun _ s' ⟨_,H',I',_,q'⟩=>⟨H',I',q'⟩
def C2In (ad:TAd) (J1:It) (g1:TG) (te:TE) (D:Addr) (σ4:St) (H5:Hp) (fin:St→?o):Prop:=∃ W1:Nat→Nat→St→?o,(∃ m1,W1 0 m1 σ4 H5)∧∀ i1 m1 σ6 H6,W1 i1 m1 σ6 H6 →
 (J1.stop i1 H6∧fin σ6 H6)∨(J1.go i1 H6∧∀ y H7,J1.yld i1 H6 y H7→g1 y σ6 H7 fun σ8 H8=>te σ8 H8 fun v H9=>ad v D H9 fun Hn=>∃ m1',m1'<m1∧W1 (i1+1) m1' σ8 Hn)
def C2Go (ad:TAd) (ac:HO) (J:It) (g0:TG) (wi1:TI) (g1:TG) (te:TE) (σ0:St) (H1:Hp) (D:Addr) (Q:VK):Prop:=∃ W:Nat→Nat→St→?o,(∃ m,W 0 m σ0 (upd H1 D ac)) ∧
 ∀ i m σ2 H2,W i m σ2 H2→(J.stop i H2∧Q (.ref D) H2)∨(J.go i H2∧∀ x H3,J.yld i H2 x H3→g0 x σ2 H3 fun σ4 H4=>wi1 σ4 H4 fun J1 H5=>C2In ad J1 g1 te D σ4 H5 fun σ6 H6=>∃ m',m'<m∧W (i+1) m' σ6 H6)
theorem Zoz {s2:Shared} {g0 g1:TG} {wi1:TI} {J:It} {tn:Nat→Heap→Prop} {ac:HO} {ad:TAd} {id:String} {o0:Obj} {c:Expr} {Q:VK} {add:Value→Value→Sem PUnit}
 (hs3:s3={ s2 with heap:=s2.heap.push o0 }) (hc:X.calm=true) (L:LcO X scope cl N fr) (hg:∀ C s3 H3 fp,PG ?B t0 g0) (hi1:∀ C s3 H3 fp,PI ?B t1 i1 wi1) (hg1:∀ C s3 H3 fp,PG ?B t1 g1) (he:∀ C s3 H3 fp,PE ?B elt te) (hA:PAd id ad)
 (I2:Inv X pins σ H2 s2) (T:Turn X.prog X.w X.K t0 J fp it tn) (st2:tn 0 s2.heap) (f2:∀ b∈fp,FpOk X pins H2 b)
 (ok0:ObjOk X.prog X.w (upd H2 s2.z ac) (s2.heap.push o0) s2.z ac) (h:C2Go ad ac J g0 wi1 g1 te (Xz fr σ) H2 s2.z Q) (hs1:∀ env x,foldedSetIterable i1 env x=pure x)
 (c2:C2Ok X.prog X.w c t0 i0 t1 i1 elt id add) :
 wpAny ?t X.A (newFunctionEnv scope X.env.globals cl [] X.env.qual none .none (some X.env)) (fun cenv s4=>codeAny ?t X.A (.compStart c 0 (.ref it) (.ref s2.z) { cenv with scope:=relabel scope X.env }) (compPost ?t X.A X.xe none (EP X pins σ Q) (.ref s2.z) cenv.locals) s4) X.xe s3:=by
 obtain ⟨W,⟨m0,w0⟩,turn⟩:=h;refine Zbu (R:=fun C=>compPost ?t X.A X.xe none (EP X pins σ Q) (.ref s2.z) C) hs3 hc L hg I2 T st2 f2 ok0 w0 turn (fun env s4 a b=>c2.start _ 0 ?f _ _ _ _ _ a b) (fun LI s4 t n h=>Zpp c2 (hs1 _) LI t n h) (fun H7 s7 qn _ _ c=>Zfh qn c) fun LI n i σ9 H9 s9 ps I9 q9 again=>?_;refine thn (hi1 _ _ _ _ ps s9 σ9 H9 _ I9 q9) fun xv s10 h10=>thn h10 fun itv s11 h11=>?_;obtain ⟨it1,fp1,tn1,J1,H11,e,I11,T1,st11,f11,W1,⟨m1,w1⟩,turn1⟩:=h11;subst e;have fpC:∀ {H':Hp} (b:Addr),b∈fp1→H' b=none→FpOk (blk X scope cl s3.z N s3 (upd H2 s2.z ac) fp) ps H' b:=fun b hb hn=>⟨hn,(f11 b hb).2⟩
 have lp:codeAny ?t X.A (.compLoop c 1 (.ref it1) (.ref s2.z) (blk X scope cl s3.z N s3 (upd H2 s2.z ac) fp).env) (fun r s6=>match r with|.ok _=>∃ m,m<n∧LI m s6|.error _=>False) s11:=by
  refine Zqp c2 (fun n1 s'=>∃ j σ' H',Inv (blk X scope cl s3.z N s3 (upd H2 s2.z ac) fp) ps σ' H' s'∧tn1 j s'.heap∧(∀ b∈fp1,H' b=none)∧W1 j n1 σ' H') ?_ m1 ⟨0,_,_,I11,st11,fun b hb=>(f11 b hb).1,w1⟩;rintro n1 s13 ⟨j,σ13,H13,I13,st13,fr13,w13⟩
  unfold Zlp
  rcases turn1 j n1 σ13 H13 w13 with ⟨stop,m',hm',qn⟩|⟨go1,step1⟩
  · refine thn (T1.done (blk X scope cl s3.z N s3 (upd H2 s2.z ac) fp) rfl rfl rfl hc j _ s13 σ13 H13 (fun _ _=>False) I13 (fun b hb=>fpC b hb (fr13 b hb)) st13 stop) fun r s14 ⟨hr,I14⟩=>?_;subst hr;exact again I14 hm' qn
  · refine thn (T1.item (blk X scope cl s3.z N s3 (upd H2 s2.z ac) fp) rfl rfl rfl hc j _ s13 σ13 H13 (fun _ _=>False) I13 (fun b hb=>fpC b hb (fr13 b hb)) st13 go1) fun r s14 ⟨u1,hr,h14⟩=>?_;subst hr;refine thn h14 fun _ s15 ⟨y,H15,I15,r15,y15,st15,fr15⟩=>?_;have I15':=I15.pinned (fun b hb=>fpC b hb (fr15 b hb)) (T1.obj _ _ st15);refine thn (hg1 _ _ _ _ _ s15 σ13 H15 y u1 _ I15' r15 (step1 y H15 y15)) fun _ s16 ⟨σ16,H16,I16,q16⟩=>?_;refine thn (he _ _ _ _ _ s16 σ16 H16 _ I16 q16) fun vv s17 ⟨vk,H17,I17,r17,q17⟩=>?_;refine thn (hA _ _ s17 σ16 H17 vk vv _ _ I17 r17 q17) fun _ s18 ⟨H18,I18,m',hm',w18⟩=>?_;refine ⟨m',hm',j+1,σ16,_,I18.unpinned,T1.keep _ _ _ st15 fun b hb o e=>(I18.pin (b,o) (n29_ _ (n29_ _ (Y3 hb e)))).1,fun b hb=>?_,w18⟩;obtain ⟨o,e,d⟩:=T1.obj _ _ st15 b hb;exact (I18.pin (b,o) (n29_ _ (n29_ _ (Y3 hb e)))).2.1
 exact c2.start _ 1 ?f _ _ _ _ _ lp fun E=>T1.self _ 0 _ _ _ st11 lp
abbrev sc2 (elt t0 i0 t1 i1:Expr) (scope:Scope) (pos:Pos):Expr:=.SetComp elt [⟨t0,i0,[],0⟩,⟨t1,i1,[],0⟩] scope pos
theorem Zuu:C2Ok prog w (sc2 elt t0 i0 t1 i1 scope pos) t0 i0 t1 i1 elt "set.add" (fun acc v=>do standAt elt.pos;let _ ← call (.builtin "set.add") [acc,v]):=by
 refine ⟨fun _ _ _ _ _=>rfl,fun _ _ _ _=>rfl,fun _ _ _ _=>rfl,fun _ _ _=>rfl,fun _ _ _=>rfl,fun A acc x s P E h=>n0_ (wpAny_standAt (n0_ (n38_ h (fun _ s5 h5=>n2_ h5) fun _ _ h'=>h'.elim))),fun A k hk it acc env R s4 h0 h=>?_⟩;refine codeAny_of_tree ?_;show wpAny _ _ ((compStart (sc2 elt t0 i0 t1 i1 scope pos) k it acc env).onRaise (fun x=>do noteFrame x env;standAt theWindowsPlace)) _ _ s4
 refine wpAny_notedAt ?_;have hk':k=0∨k=1:=?d
 rcases hk' with rfl|rfl <;>
 · unfold compStart;show wpAny _ _ (ask >>= _) _ _ s4
   refine n0_ (wpAny_askSetting (wpAny_ite ?_));split
   · first
      | exact n0_ (n2_ (n2_ (And.intro rfl h0)))
      | exact n2_ (And.intro rfl h0)
   · first
      | exact n0_ (wpAny_rule (n0_ (wpAny_standAt (n0_ (n38_ (h NoX) (fun it' s' h'=>n2_ (And.intro rfl h')) fun _ _ x=>x.elim)))))
      | (refine n0_ (wpAny_rule ?_);show wpAny _ _ (standAt _ >>= _) _ _ s4;exact n0_ (wpAny_standAt (n0_ (n38_ (h NoX) (fun it' s' h'=>n2_ (And.intro rfl h')) fun _ _ x=>x.elim))))
theorem Zwq:PAd "set.add" adS:=fun X pins s σ H v u D C I r ⟨k,S,nn,e,hS,hroom,q⟩=>by
 subst e;obtain ⟨tk,rfl⟩:=r;have hset:s.heap.SetOf (PySem.intKind X.prog X.w) D S nn:=I.hok _ _ hS;refine call_set_add (knd:=PySem.intKind X.prog X.w) (k:=k) (intKind_is _ _ _ _) rfl hset hroom fun h18 sb18 hset'=>⟨_,?_,q⟩;refine I.write (e:=D) (by rw [hS];trivial) (.inl rfl) (fun b o hb e=>(sb18.2 b hb).trans e) ?_ hset';obtain ⟨o,_,_,_,e,_⟩:=hset';exact ⟨o,e⟩
abbrev ScGo:=C2Go adS (.set (fun _=>false) 0)
def tSC (wi:TI) (g0:TG) (wi1:TI) (g1:TG) (te:TE) (fr:List (Option Nat)):TE:=fun σ H Q=>wi σ H fun J H1=>∀ D,H1 D=none→ScGo J g0 wi1 g1 te (Xz fr σ) H1 D Q
theorem Zum {wi1:TI} {g0 g1:TG}
 (hc:X.calm=true) (L:LcO X scope cl N fr) (hi:PI X t0 i0 wi) (hg:∀ C s3 H3 fp,PG ?B t0 g0) (hi1:∀ C s3 H3 fp,PI ?B t1 i1 wi1) (hg1:∀ C s3 H3 fp,PG ?B t1 g1)
 (he:∀ C s3 H3 fp,PE ?B elt te)
 (hs:∀ x,foldedSetIterable i0 X.env x=pure x:=by intro _;rfl) (hs1:∀ env x,foldedSetIterable i1 env x=pure x:=by intro _ _;rfl):PE X (sc2 elt t0 i0 t1 i1 scope pos) (tSC wi g0 wi1 g1 te fr):=by
 intro pins s σ H Q I h;rw [arm_eval_SetComp];dsimp only;refine wpAny_comprehension_free (use:=none) rfl hs L.clos L.kind L.names (thn (hi pins s σ H _ I h) fun v s1 h1=>thn h1 fun itv s2 h2=>?_);obtain ⟨it,fp,tn,J,H2,e,I2,T,st2,f2,h⟩:=h2;subst e;refine wpAny_newSet_of (knd:=PySem.intKind X.prog X.w) fun led setOf=>?_;exact Zoz (ac:=.set (fun _=>false) 0) rfl hc L hg hi1 hg1 he Zwq I2 T st2 f2 setOf (h _ (I2.hok.fresh (n11_ _))) hs1 Zuu
end L2
namespace L2
open PySem PySem.Spec PyProof.Rows PySem.W
def krun {α:Type} (f:Nat→Nat→Bool):KasT α→α
 | .ret a=>a
 | .ask i j k=>krun f (k (f i j))
def kin {α:Type} (n:Nat) (f:Nat→Nat→Bool):KasT α→Bool
 | .ret _=>true
 | .ask i j k=>decide (i<n)&&decide (j<n)&&kin n f (k (f i j))
variable {α:Type} {a l:Addr} {n:Nat} {s:Shared} {Q:Value→?i}
theorem Zji {f:Nat→Nat→Bool} {cmp:Nat→Nat→(Bool→?i)→?i} {Q:α→?i} (hc:∀ i j C,i<n→j<n→C (f i j) s→cmp i j C s) :
 ∀ (t:KasT α),kin n f t=true→Q (krun f t) s→t.kasWp cmp Q s
 | .ret a,_,h=>h
 | .ask i j k,hk,h=>by
   unfold kin at hk;rw [n40_,n40_] at hk;exact hc i j _ (n52_ hk.1.1) (n52_ hk.1.2) (Zji hc (k (f i j)) hk.2 h)
structure Ord (n:Nat) (f:Nat→Nat→Bool):Prop where
 irr:∀ i,i<n→f i i=false
 ant:∀ i j,i<n→j<n→i≠j→f j i = !f i j
 tr:∀ i j k,i<n→j<n→k<n→f i j=true→f j k=true→f i k=true
section
variable {prog:Program} {w:World} {A:Around} {E:Value→?i} {s:Shared}
theorem Zo6 {vs:?q} {P:PySem.Fin→?i} (good:List Nat→Prop) (g1:vs.length<2→good (List.range vs.length)) (ho:s.heap.get? a=some (seqObj "list" vs.toArray n)) (h64:vs.length<64)
 (ask:2≤vs.length→∀ h1,(∀ b u,b≠a→s.heap.get? b=some u→h1.get? b=some u)→wpAny ?p A (keyKind' vs.toArray) (fun κ s1=>s1={ s with heap:=h1 }∧(kas_sort vs.length).kasWp (kas_ask prog w A κ vs) (fun p s2=>s2={ s with heap:=h1 }∧good p.toList) s1) (fun _ _=>False) { s with heap:=h1 })
 (h:∀ p:List Nat,good p→P (.done (.ret .none)) { s with heap:=sortedHeap s.heap a vs (p.map fun i=>vs.getD i Value.none).toArray }) :
 wpAny ?p A (Builtin.«list.sort» ⟨[.ref a],[]⟩) P E s:=by
 have ha:a<s.z:=n13_ ho;obtain ⟨e1,o1⟩:∃ e1,(s.heap.update a (Obj.mapSeq fun _=>(#[]:Array Value))).get? a=some (seqObj "list" #[] e1):=⟨_,get?_update_seq ho fun _=>#[]⟩;have s1:=Heap.SameBut.update s.heap a (Obj.mapSeq fun _=>(#[]:Array Value));have k6:∀ b u,b≠a→s.heap.get? b=some u→(((s.heap.update a (Obj.mapSeq fun _=>#[])).push (seqObj "tuple" vs.toArray 0)).push (seqObj "list" #[] 0)).get? b=some u:=fun b u nb e=>n3_ _ (n3_ _ ((s1.2 b nb).trans e));have o6:(((s.heap.update a (Obj.mapSeq fun _=>#[])).push (seqObj "tuple" vs.toArray 0)).push (seqObj "list" #[] 0)).get? a=some (seqObj "list" #[] e1):=n3_ _ (n3_ _ o1);rw [list_sort_plain];refine n0_ (listItems_at ho rfl (n0_ (listUpdate_at ho rfl (n0_ (seqEpoch_at o1 rfl (n0_ (wpAny_newTuple (n0_ (wpAny_newList (n30_ ?_) (n42_ _))) (by show vs.length≤_;rw [sizeLine_eq];omega))))) (by rw [n15_,sizeLine_eq];omega) (n42_ _))));show wpAny ?p A _ P E { s with heap:=((s.heap.update a (Obj.mapSeq fun _=>#[])).push (seqObj "tuple" vs.toArray 0)).push (seqObj "list" #[] 0) }
 dsimp only
 by_cases h2:vs.toArray.size<2
 · rw [if_pos h2,if_pos h2];refine n0_ (n2_ ?_);rw [StateT.run_pure];refine n0_ (n2_ ?_);dsimp only;have z:=h _ (g1 (by simpa using h2))
   have ev:((List.range vs.length).map fun i=>vs.getD i Value.none)=vs:=by
    refine n57_ ?g fun i a1 a2=>?_;simp [n4_,a2]
   rw [ev] at z;refine n0_ (seqEpoch_at o6 rfl (n0_ (listUpdate_at o6 rfl ?_ (hsz2:=by rw [Array.size_map];show (vs.toArray.zip vs.toArray).size≤_;rw [Array.size_zip,n15_,sizeLine_eq];omega))));simp only [bne_self_eq_false,n20_,if_false];refine n2_ ?_
   have em:((vs.toArray.zip vs.toArray).map (·.2))=vs.toArray:=by
    apply Array.ext ?g
    intro i a1 a2
    simp
   unfold sortedHeap at z;show P _ { s with heap:=(((s.heap.update a (Obj.mapSeq fun _=>#[])).push (seqObj "tuple" vs.toArray 0)).push (seqObj "list" #[] 0)).update a (Obj.mapSeq fun _=>(vs.toArray.zip vs.toArray).map (·.2)) }
   rw [em];exact z
 · have hn:2≤vs.length:=by simp at h2;omega
   rw [if_neg h2,if_neg h2];refine n0_ (n38_ (ask hn _ k6) (fun κ s0 hk=>?_) fun _ _ x=>x.elim);obtain ⟨rfl,hk⟩:=hk
   refine n0_ (n38_ (kat_run (Q:=fun st' s2=>∃ p:Array Nat,arrOf st'=p.map (kas_item (vs.toArray.zip vs.toArray))∧failedOf st'=none∧p.size=vs.length∧s2={ s with heap:=((s.heap.update a (Obj.mapSeq fun _=>#[])).push (seqObj "tuple" vs.toArray 0)).push (seqObj "list" #[] 0) }∧good p.toList)
    rfl hn h64 (fun p st' s2 a1 a2 a3 a4=>⟨p,a2,a3,a1,a4.1,a4.2⟩) hk) ?_ fun _ _ e=>e)
   rintro ⟨⟨⟩,st'⟩ s2 ⟨p,har,hf,hp,rfl,gp⟩
   dsimp only;rw [kat_snds rfl har];refine n0_ (seqEpoch_at o6 rfl (n0_ (listUpdate_at o6 rfl ?_ (n42_ _) (by rw [n15_,n5_,Array.length_toList,hp,sizeLine_eq];omega))));rw [hf];simp only [bne_self_eq_false,n20_,if_false];exact n2_ (h p.toList gp)
theorem Zm7 {vs:?q} (good:List Nat→Prop) (g1:vs.length<2→good (List.range vs.length)) (hl:s.heap.IsList l vs.toArray) (h64:vs.length<64)
 (ask:2≤vs.length→∀ h1,(∀ b u,s.heap.get? b=some u→h1.get? b=some u)→wpAny ?p A.in1.in1 (keyKind' vs.toArray) (fun κ s1=>s1={ s with heap:=h1 }∧(kas_sort vs.length).kasWp (kas_ask prog w A.in1.in1 κ vs) (fun p s2=>s2={ s with heap:=h1 }∧good p.toList) s1) (fun _ _=>False) { s with heap:=h1 })
 (h:∀ p:List Nat,good p→Q (.ref (s.z+1)) { s with heap:=sortedAll s.heap vs (p.map fun i=>vs.getD i Value.none).toArray }) :
 wpAny ?p A (call (.builtin "sorted") [.ref l]) Q E s:=by
 refine Calls.call_function_entry kind_sorted plain_sorted entry_sorted (args_sorted1 _) ?_;unfold Builtin.«sorted»;refine n0_ (m:=checkCount "sorted" 1 1 _) (n2_ (n0_ (collect_list hl (n0_ (wpAny_newList ?_ (by rw [sizeLine_eq];omega))) (by rw [sizeLine_eq];omega))));have n1:((s.heap.push (seqObj "list" #[] 0)).update s.z (Obj.mapSeq (·++vs.toArray))).objs.size=s.z+1:=by rw [Heap.size_update,size_push']
 have oL:(((s.heap.push (seqObj "list" #[] 0)).update s.z (Obj.mapSeq (·++vs.toArray))).push (seqObj "list" vs.toArray 0)).get? (s.z+1)=some (seqObj "list" vs.toArray 0):=by rw [← n1];exact n8_ _ rfl
 have kL:∀ b u,s.heap.get? b=some u→(((s.heap.push (seqObj "list" #[] 0)).update s.z (Obj.mapSeq (·++vs.toArray))).push (seqObj "list" vs.toArray 0)).get? b=some u:=fun b u e=>by
  have lt:b<s.z:=n13_ e;refine n3_ _ ?_;rw [Heap.get?_update_ne _ _ _ _ (n27_ lt)];exact n3_ _ e
 show wpAny _ _ _ _ _ { s with heap:=((s.heap.push (seqObj "list" #[] 0)).update s.z (Obj.mapSeq (·++vs.toArray))).push (seqObj "list" vs.toArray 0) }
 rw [n1];refine n0_ (n30_ (wpAny_call_entry slot_list_sort ⟨_,oL,rfl⟩ entry_list_sort (Zo6 (s:={ s with heap:=((s.heap.push (seqObj "list" #[] 0)).update s.z (Obj.mapSeq (·++vs.toArray))).push (seqObj "list" vs.toArray 0) }) good g1 oL h64 (fun h2 h1 k1=>ask h2 h1 fun b u e=>k1 b u (n27_ (n54_ (n13_ e))) (kL b u e)) fun p gp=>⟨_,rfl,?_⟩) (args_list_sort _)));exact n2_ ⟨_,rfl,h p gp⟩
end
end L2
namespace L2
open PySem PySem.Spec PyProof.Rows PySem.W
section
variable {prog:Program} {w:World} {A:Around} {E:Value→?i} {s:Shared}
theorem Zu4 {b:Bool} {x y:Int} {t u:Tok} {Q:Bool→?i} (h:Q (decide (x<y)) s):wpAny ?p A (oneLt' b (.int x t) (.int y u)) Q E s:=by
 cases b
 · refine kat_one _ _ (lt_int ?_);exact h
 · exact kat_lt_int h
end
theorem Zad:∀ (a:?e),HT.lexLt a a=false
 | []=>rfl
 | x :: a=>by rw [HT.lexLt_cons,if_pos rfl];exact Zad a
variable {α:Type} {D a b l t z:Addr} {A:Around} {ys:Array Value} {X:Cx} {env:Env} {e elt iter tg:Expr} {h h':Heap} {H H' H1 H2:Hp} {pins:?y} {ps:List (?e)} {kvs:List (List Key×V)} {fr:List (Option Nat)} {cl:List (Str×Addr)} {ch:List Addr} {es ifs:List Expr} {ns p:?e} {N:List Str} {vs:List V} {M:Model} {i j k m n t':Nat} {u0 u1:Option V} {pos:Pos} {P prog:Program} {scope:Scope} {s:Shared} {rest σ:St} {x:Str} {ta:TA} {te tl:TE} {g:TG} {wi:TI} {tt:TT} {v y:V} {c d u:Value} {E Q:Value→?i} {w:World}
section
variable {X:Cx}
theorem Zik {vs:?q} {kl:List (?e)} (p:Paired (fun v k=>∃ b o its n,v=Value.ref b∧h.get? b=some o∧o.cls=.type "tuple" ∧ o.data=.seq its n∧IntsAre its.toList k∧0<k.length) vs kl):∃ fs:?q,KatTups h vs fs∧fs.length=vs.length∧∀ v∈fs,∃ x t,v=Value.int x t:=by
 induction p with
 | nil=>exact ⟨[],.nil,rfl,fun v hv=>by simp at hv⟩
 | cons r rs ih =>
   obtain ⟨fs,h1,h2,h3⟩:=ih;obtain ⟨b,o,its,n,rfl,g,c,d,hi,hk⟩:=r
   have:∃ x t,its[0]? = some (Value.int x t):=by
    cases hi':its.toList with
    | nil=>rw [hi'] at hi;cases hi;simp at hk
    | cons u us =>
      rw [hi'] at hi;cases hi with
      | cons x t _=>exact ⟨x,t,by rw [← Array.getElem?_toList,hi'];rfl⟩
   obtain ⟨x,t,e⟩:=this;refine ⟨_ :: fs,.cons g c d e h1,by rw [n18_,n18_,h2],fun v hv=>?_⟩
   rcases n9_.mp hv with rfl|hv
   · exact ⟨_,_,rfl⟩
   · exact h3 v hv
end
abbrev ZR (h:Heap) (z t o:Addr) (f0:Value) (f1:Bool):Prop:=h.get? z=some { cls:=.type "zip",dict:=none,data:=.fields #[f0,.bool f1,.bool false,.ref t,.ref o],slots:=#[] }
def ZSt (h:Heap) (z t o:Addr):Prop:=∃ f0 f1,ZR h z t o f0 f1∧(f0=.none∨∃ T,f0=rawInt T)
section
variable {prog:Program} {w:World} {A:Around} {E:Value→?i} {s:Shared} {k l:SK}
theorem Zil {Q:Option Obj→?i} (h:Q (s.heap.get? a) s):wpAny M A (loadIfAlive a) Q E s:=fun _ _ _=>h
theorem Zjy {o:Addr} {Q:Bool→?i} (hz:ZSt s.heap z t o) (q:∀ (b:Bool) (h1:Heap),ZSt h1 z t o→Heap.SameBut z s.heap h1→Q b { s with heap:=h1 }):wpAny ?p A (n33_ (.ref z)) Q E s:=by
 obtain ⟨f0,f1,hz,hf⟩:=hz;unfold n33_;refine n0_ (wpAny_field hz rfl (x:=f0) rfl ?_)
 rcases hf with rfl|⟨T,rfl⟩
 · exact n2_ (q true s.heap ⟨_,_,hz,.inl rfl⟩ (Heap.SameBut.refl ..))
 · show wpAny _ _ (loadIfAlive _ >>= _) _ _ s
   refine n0_ (Zil ?_);split
   · exact n2_ (q true s.heap ⟨_,_,hz,.inr ⟨T,rfl⟩⟩ (Heap.SameBut.refl ..))
   · refine n0_ (wpAny_field hz rfl (x:=.bool f1) rfl ?_);split
     · refine n0_ (wpAny_setField_rec hz ?g fun h1 z1 s1=>n2_ (q false h1 ⟨_,true,z1,.inr ⟨T,rfl⟩⟩ s1))
     · exact n2_ (q false s.heap ⟨_,_,hz,.inr ⟨T,rfl⟩⟩ (Heap.SameBut.refl ..))
theorem Zmd {o i j:Addr} {xs:Array Value} {x y:Value} (D:ZP z t o i j a b)
 (hz:ZSt s.heap z t o) (ht:IsPair s.heap t (.ref i) (.ref j)) (ho:IsPair s.heap o c d)
 (hi:k.It s.heap i a m) (hj:l.It s.heap j b n) (ha:k.Is s.heap a xs) (hb:l.Is s.heap b ys) (hx:xs[m]? = some x) (hy:ys[n]? = some y)
 (q:∀ h1,ZSt h1 z t o→(∃ c d,IsPair h1 o c d)→k.It h1 i a (m+1)→l.It h1 j b (n+1)→IsPair h1 s.z x y→h1.objs.size=s.z+1 →
   (∀ e u,e≠z→e≠o→e≠i→e≠j→s.heap.get? e=some u→h1.get? e=some u)→Q (.ref s.z) { s with heap:=h1 }) :
 wpAny ?p A (Builtin.«zip.__next__» ⟨[.ref z],[]⟩) (fun fin s'=>∃ v,fin=.done (.ret v)∧Q v s') E s:=by
 obtain ⟨f0,f1,hz0,hf⟩:=id hz;refine n0_ (m:=field (.ref z) 2) (wpAny_field hz0 rfl (x:=.bool false) rfl ?_);refine n0_ (m:=field (.ref z) 3) (wpAny_field hz0 rfl (x:=.ref t) rfl (n0_ (wpAny_seqItems ht rfl ?_)));refine n0_ (m:=n33_ (.ref z)) (Zjy hz fun fr h0 hz' s0=>?_);have ho0:IsPair h0 o c d:=s0.extBut _ _ D.oz ho;have hi0:k.It h0 i a m:=hi.at fun u e=>s0.extBut _ _ D.iz e;have hj0:l.It h0 j b n:=hj.at fun u e=>s0.extBut _ _ D.jz e;have ha0:k.Is h0 a xs:=ha.at fun u e=>s0.extBut _ _ D.az e;have hb0:l.Is h0 b ys:=hb.at fun u e=>s0.extBut _ _ D.bz e;have n0:h0.objs.size=s.z:=s0.1;obtain ⟨g0,g1,hz0,hg⟩:=hz';cases fr with
 | true =>
   simp only [if_true];refine n0_ (wpAny_rule (n0_ (wpAny_field hz0 rfl (x:=.ref o) rfl (n0_ (wpAny_setField_rec hz0 ?g fun h1 z1 s1=>?_)))));replace z1:ZR h1 z t o .ellipsis g1:=z1;refine n0_ ?_;simp only [List.zipIdx_cons,List.zipIdx_nil,List.forIn_cons,List.forIn_nil];refine n0_ (n0_ (wpAny_onRaise (n0_ (m:=n22_ (.ref i)) ?_)));refine SK.draw (hi0.at fun u e=>s1.extBut _ _ D.iz e) (ha0.at fun u e=>s1.extBut _ _ D.az e) hx fun h2 i2 s2=>n2_ ?_;have o2:IsPair h2 o c d:=s2.extBut _ _ D.oi (s1.extBut _ _ D.oz ho0);refine n0_ (wpAny_seqItems o2 rfl (n0_ (wpAny_updateSeq_pair o2 fun h3 o3 s3=>?_)));replace o3:IsPair h3 o x d:=o3;refine n0_ (wpAny_letGo (n2_ (n0_ (n0_ (wpAny_onRaise (n0_ (m:=n22_ (.ref j)) ?_))))));refine SK.draw (hj0.at fun u e=>s3.extBut _ _ D.oj.symm (s2.extBut _ _ D.ij.symm (s1.extBut _ _ D.jz e))) (hb0.at fun u e=>s3.extBut _ _ D.bo (s2.extBut _ _ D.bi (s1.extBut _ _ D.bz e))) hy fun h4 j4 s4=>n2_ ?_;have o4:IsPair h4 o x d:=s4.extBut _ _ D.oj o3;refine n0_ (wpAny_seqItems o4 rfl (n0_ (wpAny_updateSeq_pair o4 fun h5 o5 s5=>?_)));replace o5:IsPair h5 o x y:=o5;refine n0_ (wpAny_letGo (n2_ (n2_ (n0_ (wpAny_seqItems o5 rfl (n0_ (wpAny_newTuple ?_)))))));have sz:h5.objs.size=s.z:=by rw [s5.1,s4.1,s3.1,s2.1,s1.1,n0]
   have z5:ZR h5 z t o .ellipsis g1:=s5.extBut _ _ D.oz.symm (s4.extBut _ _ D.jz.symm (s3.extBut _ _ D.oz.symm (s2.extBut _ _ D.iz.symm z1)));have k5:∀ e u,e≠z→e≠o→e≠i→e≠j→s.heap.get? e=some u→h5.get? e=some u:=fun e u e1 e2 e3 e4 g=>s5.extBut _ _ e2 (s4.extBut _ _ e4 (s3.extBut _ _ e2 (s2.extBut _ _ e3 (s1.extBut _ _ e1 (s0.extBut _ _ e1 g)))));have i5:k.It h5 i a (m+1):=i2.at fun u e=>s5.extBut _ _ D.oi.symm (s4.extBut _ _ D.ij (s3.extBut _ _ D.oi.symm e));have j5:l.It h5 j b (n+1):=j4.at fun u e=>s5.extBut _ _ D.oj.symm e;have zl:z<h5.objs.size:=n13_ z5;refine n0_ (m:=Builtin.SmallTypes.ownedTupleHandOut (.ref z) (.ref h5.objs.size)) ?_;unfold Builtin.SmallTypes.ownedTupleHandOut;have z6:ZR (h5.push { cls:=.type "tuple",data:=.seq #[x,y] }) z t o .ellipsis g1:=n3_ _ z5;refine n0_ (wpAny_setField_rec z6 ?g fun h7 z7 s7=>?_);replace z7:ZR h7 z t o (rawInt h5.objs.size) g1:=z7;refine wpAny_setField_rec z7 ?g fun h8 z8 s8=>?_;replace z8:ZR h8 z t o (rawInt h5.objs.size) false:=z8;have up:∀ e u,e≠z→h5.get? e=some u→h8.get? e=some u:=fun e u e1 g=>s8.extBut _ _ e1 (s7.extBut _ _ e1 (n3_ _ g));have T8:IsPair h8 h5.objs.size x y:=s8.extBut _ _ (n70_ zl) (s7.extBut _ _ (n70_ zl) (n8_ _ rfl));have l8:h8.objs.size=h5.objs.size+1:=by rw [s8.1,s7.1,n43_]
   rw [sz] at T8 l8;refine n2_ ⟨_,rfl,?_⟩;show Q (.ref h5.objs.size) _
   rw [sz];exact q h8 ⟨_,_,z8,.inr ⟨_,rfl⟩⟩ ⟨x,y,up _ _ D.oz o5⟩ (i5.at fun u e=>up _ u D.iz e) (j5.at fun u e=>up _ u D.jz e) T8 l8 fun e u e1 e2 e3 e4 g=>up e u e1 (k5 e u e1 e2 e3 e4 g)
 | false =>
   simp only [n20_,if_false];refine n0_ ?_;rw [← Array.forIn_toList];simp only [List.forIn_cons,List.forIn_nil];refine n0_ (n0_ (n30_ (n0_ (m:=n22_ (.ref i)) (SK.draw hi0 ha0 hx fun h2 i2 s2=>n2_ (n2_ ?_)))));refine n0_ (n0_ (n30_ (n0_ (m:=n22_ (.ref j)) (SK.draw (hj0.at fun u e=>s2.extBut _ _ D.ij.symm e) (hb0.at fun u e=>s2.extBut _ _ D.bi e) hy fun h4 j4 s4=>n2_ (n2_ ?_)))));refine n2_ ?_;have sz:h4.objs.size=s.z:=by rw [s4.1,s2.1,n0]
   have z4:ZR h4 z t o g0 g1:=s4.extBut _ _ D.jz.symm (s2.extBut _ _ D.iz.symm hz0);refine n0_ (wpAny_newTuple (n2_ ⟨_,rfl,?_⟩) (z2_));show Q (.ref h4.objs.size) _
   have up:∀ e u,h4.get? e=some u→(h4.push { cls:=.type "tuple",data:=.seq #[x,y] }).get? e=some u:=fun e u g=>n3_ _ g;have T4:IsPair (h4.push { cls:=.type "tuple",data:=.seq #[x,y] }) h4.objs.size x y:=n8_ _ rfl;rw [sz] at T4 ⊢;refine q _ ⟨_,_,up _ _ z4,hg⟩ ⟨c,d,up _ _ (s4.extBut _ _ D.oj (s2.extBut _ _ D.oi ho0))⟩ (i2.at fun u e=>up _ u (s4.extBut _ _ D.ij e)) (j4.at fun u e=>up _ u e) T4 (by rw [n43_,sz]) fun e u e1 e2 e3 e4 g=>up e u (s4.extBut _ _ e4 (s2.extBut _ _ e3 (s0.extBut _ _ e1 g)))
theorem Zpd {o i j:Addr} {xs:Array Value} {Q:Fin→?i} (hh:A.handled=none) (D:ZP z t o i j a b)
 (hz:ZSt s.heap z t o) (ht:IsPair s.heap t (.ref i) (.ref j)) (ho:IsPair s.heap o c d)
 (hi:k.It s.heap i a m) (hj:l.It s.heap j b n) (ha:k.Is s.heap a xs) (hb:l.Is s.heap b ys) (hx:xs[m]? = none∨ys[n]? = none)
 (q:∀ h1 e,(∀ e u,e≠z→e≠o→e≠i→e≠j→s.heap.get? e=some u→h1.get? e=some u)→(∃ u,h1.get? e=some u∧u.cls=.type "StopIteration")→E (.ref e) { s with heap:=h1 }) :
 wpAny ?p A (Builtin.«zip.__next__» ⟨[.ref z],[]⟩) Q E s:=by
 obtain ⟨f0,f1,hz0,hf⟩:=id hz;refine n0_ (m:=field (.ref z) 2) (wpAny_field hz0 rfl (x:=.bool false) rfl ?_);refine n0_ (m:=field (.ref z) 3) (wpAny_field hz0 rfl (x:=.ref t) rfl (n0_ (wpAny_seqItems ht rfl ?_)));refine n0_ (m:=n33_ (.ref z)) (Zjy hz fun fr h0 hz' s0=>?_);have ho0:IsPair h0 o c d:=s0.extBut _ _ D.oz ho;have hi0:k.It h0 i a m:=hi.at fun u e=>s0.extBut _ _ D.iz e;have hj0:l.It h0 j b n:=hj.at fun u e=>s0.extBut _ _ D.jz e;have ha0:k.Is h0 a xs:=ha.at fun u e=>s0.extBut _ _ D.az e;have hb0:l.Is h0 b ys:=hb.at fun u e=>s0.extBut _ _ D.bz e;obtain ⟨g0,g1,hz0,hg⟩:=hz';cases fr with
 | true =>
   simp only [if_true];refine n0_ (wpAny_rule (n0_ (wpAny_field hz0 rfl (x:=.ref o) rfl (n0_ (wpAny_setField_rec hz0 ?g fun h1 z1 s1=>?_)))));replace z1:ZR h1 z t o .ellipsis g1:=z1;refine n0_ ?_;simp only [List.zipIdx_cons,List.zipIdx_nil,List.forIn_cons,List.forIn_nil];refine n0_ (n0_ (wpAny_onRaise (n0_ (m:=n22_ (.ref i)) ?_)));cases hm:xs[m]? with
   | none =>
     refine SK.dry hh (hi0.at fun u e=>s1.extBut _ _ D.iz e) (ha0.at fun u e=>s1.extBut _ _ D.az e) hm fun h2 e s2 ⟨u,g,cu⟩=>?_;have z2:ZR h2 z t o .ellipsis g1:=s2 _ _ D.iz.symm z1;have ez:e≠z:=fun r=>by subst r;rw [z2] at g;cases g;simp at cu
     exact wpAny_setField_rec z2 ?g fun h3 _ s3=>q h3 e (fun e' u' e1 _ e3 _ r=>s3.extBut _ _ e1 (s2 _ _ e3 (s1.extBut _ _ e1 (s0.extBut _ _ e1 r)))) ⟨u,s3.extBut _ _ ez g,cu⟩
   | some x =>
     have hn:ys[n]? = none:=by rcases hx with r|r;(rw [hm] at r;cases r);exact r
     refine SK.draw (hi0.at fun u e=>s1.extBut _ _ D.iz e) (ha0.at fun u e=>s1.extBut _ _ D.az e) hm fun h2 i2 s2=>n2_ ?_;have o2:IsPair h2 o c d:=s2.extBut _ _ D.oi (s1.extBut _ _ D.oz ho0);refine n0_ (wpAny_seqItems o2 rfl (n0_ (wpAny_updateSeq_pair o2 fun h3 o3 s3=>?_)));refine n0_ (wpAny_letGo (n2_ (n0_ (n0_ (wpAny_onRaise (n0_ (m:=n22_ (.ref j)) ?_))))));refine SK.dry hh (hj0.at fun u e=>s3.extBut _ _ D.oj.symm (s2.extBut _ _ D.ij.symm (s1.extBut _ _ D.jz e))) (hb0.at fun u e=>s3.extBut _ _ D.bo (s2.extBut _ _ D.bi (s1.extBut _ _ D.bz e))) hn fun h4 e s4 ⟨u,g,cu⟩=>?_;have z4:ZR h4 z t o .ellipsis g1:=s4 _ _ D.jz.symm (s3.extBut _ _ D.oz.symm (s2.extBut _ _ D.iz.symm z1));have ez:e≠z:=fun r=>by subst r;rw [z4] at g;cases g;simp at cu
     exact wpAny_setField_rec z4 ?g fun h5 _ s5=>q h5 e (fun e' u' e1 e2 e3 e4 r=>s5.extBut _ _ e1 (s4 _ _ e4 (s3.extBut _ _ e2 (s2.extBut _ _ e3 (s1.extBut _ _ e1 (s0.extBut _ _ e1 r)))))) ⟨u,s5.extBut _ _ ez g,cu⟩
 | false =>
   simp only [n20_,if_false];refine n0_ ?_;rw [← Array.forIn_toList];simp only [List.forIn_cons,List.forIn_nil];refine n0_ (n0_ (n30_ (n0_ (m:=n22_ (.ref i)) ?_)));cases hm:xs[m]? with
   | none=>exact SK.dry hh hi0 ha0 hm fun h2 e s2 hu=>q h2 e (fun e' u' e1 _ e3 _ r=>s2 _ _ e3 (s0.extBut _ _ e1 r)) hu
   | some x =>
     have hn:ys[n]? = none:=by rcases hx with r|r;(rw [hm] at r;cases r);exact r
     refine SK.draw hi0 ha0 hm fun h2 i2 s2=>n2_ (n2_ ?_);refine n0_ (n0_ (n30_ (n0_ (m:=n22_ (.ref j)) ?_)));exact SK.dry hh (hj0.at fun u e=>s2.extBut _ _ D.ij.symm e) (hb0.at fun u e=>s2.extBut _ _ D.bi e) hn fun h4 e s4 hu=>q h4 e (fun e' u' e1 _ e3 e4 r=>s4 _ _ e4 (s2.extBut _ _ e3 (s0.extBut _ _ e1 r))) hu
theorem Zlq {e o i j:Addr} {xs:Array Value} {x y old:Value} {Q:Option Value→?i} (D:ZP z t o i j a b) (ne:e≠z∧e≠t∧e≠o∧e≠i∧e≠j∧a≠e∧b≠e)
 (he:IsEnum s.heap e z n old) (hz:ZSt s.heap z t o) (ht:IsPair s.heap t (.ref i) (.ref j)) (ho:IsPair s.heap o c d)
 (hi:k.It s.heap i a n) (hj:l.It s.heap j b n) (ha:k.Is s.heap a xs) (hb:l.Is s.heap b ys) (hx:xs[n]? = some x) (hy:ys[n]? = some y)
 (q:∀ h1 tk,IsEnumOut h1 e z ((n:Int)+1) (.ref s.z) (s.z+1)→ZSt h1 z t o→IsPair h1 t (.ref i) (.ref j)→(∃ c d,IsPair h1 o c d)→k.It h1 i a (n+1)→l.It h1 j b (n+1)→IsPair h1 s.z x y→IsPair h1 (s.z+1) (.int n tk) (.ref s.z) →
   (∀ f u,f≠e→f≠z→f≠o→f≠i→f≠j→s.heap.get? f=some u→h1.get? f=some u)→Q (some (.ref (s.z+1))) { s with heap:=h1,toks:=tk+1 }) :
 wpAny ?p A (pyNext (.ref e)) Q E s:=by
 have hT:s.TypeIs (.ref e) "enumerate" := ⟨_,he,rfl⟩;obtain ⟨n1,n2,n3,n4,n5,n6,n7⟩:=ne;unfold pyNext;refine n0_ (wpAny_attempt (wpAny_callSpecial?_slot (name:=Str.ofString "__next__") hT F.slot_enumerate_next (wpAny_call_entry F.slot_enumerate_next hT F.entry_enumerate_next ?_ (F.args_enumerate_next_1 _))));refine n0_ (m:=field (.ref e) 2) (wpAny_field he rfl (x:=.ref z) rfl ?_);obtain ⟨f0,f1,hz0,hf⟩:=id hz;have hTz:s.TypeIs (.ref z) "zip" := ⟨_,hz0,rfl⟩;refine n0_ (m:=n22_ (.ref z)) ?_;unfold n22_;refine n0_ (wpAny_callSpecial?_slot (name:=Str.ofString "__next__") hTz F.slot_zip_next (wpAny_call_entry F.slot_zip_next hTz F.entry_zip_next (Zmd D hz ht ho hi hj ha hb hx hy fun h1 r1 r2 r3 r4 r5 r6 r7=>n2_ ?_) (F.args_zip_next_1 _)));have he1:IsEnum h1 e z n old:=r7 _ _ n1 n3 n4 n5 he;have el:e<s.z:=n13_ he;refine n0_ (m:=field (.ref e) 3) (wpAny_field he1 rfl (x:=rawInt n) rfl ?_);refine n0_ (m:=field (.ref e) 4) (wpAny_field he1 rfl (x:=.none) rfl ?_);refine n0_ (m:=mkInt n) (wpAny_mkInt ?_);refine n0_ (m:=setField (.ref e) 3 (rawInt ((n:Int)+1))) (wpAny_setField_rec he1 ?g fun h2 e2 s2=>?_);replace e2:IsEnum h2 e z ((n:Int)+1) old:=e2;refine n0_ (m:=setField (.ref e) 4 .none) (wpAny_setField_rec e2 ?g fun h3 e3 s3=>?_);replace e3:IsEnum h3 e z ((n:Int)+1) old:=e3;refine n0_ (m:=newTuple _) (wpAny_newTuple ?_);have sz:h3.objs.size=s.z+1:=by rw [s3.1,s2.1];exact r6
 have e4:IsEnum (h3.push { cls:=.type "tuple",data:=.seq #[.int n s.toks,.ref s.z] }) e z ((n:Int)+1) old:=n3_ _ e3;have T4:(h3.push { cls:=.type "tuple",data:=.seq #[.int n s.toks,.ref s.z] }).get? (s.z+1)=some { cls:=.type "tuple",data:=.seq #[.int n s.toks,.ref s.z] }:=by rw [← sz];exact n8_ _ rfl
 have k4:∀ f u,f≠e→h1.get? f=some u→(h3.push { cls:=.type "tuple",data:=.seq #[.int n s.toks,.ref s.z] }).get? f=some u:=fun f u fe g=>n3_ _ (s3.extBut _ _ fe (s2.extBut _ _ fe g));generalize h3.push { cls:=.type "tuple",data:=.seq #[.int n s.toks,.ref s.z] }=h4 at e4 T4 k4;refine n0_ (m:=n33_ (.ref e)) ?_;unfold n33_;refine n0_ (wpAny_field e4 rfl (x:=.none) rfl (n2_ ?_));simp only [if_true];refine n0_ (wpAny_rule (n0_ (wpAny_field e4 rfl (x:=old) rfl (n0_ (wpAny_setField_rec e4 ?g fun h5 e5 s5=>?_)))));replace e5:IsEnum h5 e z ((n:Int)+1) (.ref s.z):=e5;refine n0_ ?_;unfold Builtin.SmallTypes.ownedTupleHandOut;refine n0_ (wpAny_setField_rec e5 ?g fun h6 e6 s6=>?_);refine wpAny_setField_rec e6 ?g fun h7 e7 s7=>?_;rw [sz] at e7;replace e7:IsEnumOut h7 e z ((n:Int)+1) (.ref s.z) (s.z+1):=e7;refine n0_ (wpAny_letGo (n2_ ⟨_,rfl,n2_ ?_⟩));rw [sz];have up:∀ f u,f≠e→h1.get? f=some u→h7.get? f=some u:=fun f u fe g=>s7.extBut _ _ fe (s6.extBut _ _ fe (s5.extBut _ _ fe (k4 f u fe g)));obtain ⟨g0,g1,z1,hg⟩:=r1;obtain ⟨c',d',o1⟩:=r2;refine q h7 s.toks e7 ⟨g0,g1,up _ _ n1.symm z1,hg⟩ (up _ _ n2.symm (r7 _ _ D.tz D.to D.ti D.tj ht)) ⟨c',d',up _ _ n3.symm o1⟩ (r3.at fun u g=>up _ u n4.symm g) (r4.at fun u g=>up _ u n5.symm g) (up _ _ (n70_ el) r5) ?_ fun f u f1 f2 f3 f4 f5 g=>up f u f1 (r7 f u f2 f3 f4 f5 g);have ne:s.z+1≠e:=n70_ (n54_ el);exact s7.extBut _ _ ne (s6.extBut _ _ ne (s5.extBut _ _ ne T4))
theorem Zm1 {e o i j:Addr} {xs:Array Value} {old:Value} {Q:Option Value→?i} (hh:A.handled=none) (D:ZP z t o i j a b) (ne:e≠z∧e≠t∧e≠o∧e≠i∧e≠j∧a≠e∧b≠e)
 (he:IsEnum s.heap e z n old) (hz:ZSt s.heap z t o) (ht:IsPair s.heap t (.ref i) (.ref j)) (ho:IsPair s.heap o c d)
 (hi:k.It s.heap i a n) (hj:l.It s.heap j b n) (ha:k.Is s.heap a xs) (hb:l.Is s.heap b ys) (hx:xs[n]? = none∨ys[n]? = none)
 (q:∀ h1,(∀ f u,f≠e→f≠z→f≠o→f≠i→f≠j→s.heap.get? f=some u→h1.get? f=some u)→Q none { s with heap:=h1 }) :
 wpAny ?p A (pyNext (.ref e)) Q E s:=by
 have hT:s.TypeIs (.ref e) "enumerate" := ⟨_,he,rfl⟩;unfold pyNext;refine n0_ (wpAny_attempt (wpAny_callSpecial?_slot (name:=Str.ofString "__next__") hT F.slot_enumerate_next (wpAny_call_entry F.slot_enumerate_next hT F.entry_enumerate_next ?_ (F.args_enumerate_next_1 _))));refine n0_ (m:=field (.ref e) 2) (wpAny_field he rfl (x:=.ref z) rfl ?_);obtain ⟨f0,f1,hz0,hf⟩:=id hz;have hTz:s.TypeIs (.ref z) "zip" := ⟨_,hz0,rfl⟩;refine n0_ (m:=n22_ (.ref z)) ?_;unfold n22_;refine n0_ (wpAny_callSpecial?_slot (name:=Str.ofString "__next__") hTz F.slot_zip_next (wpAny_call_entry F.slot_zip_next hTz F.entry_zip_next (Zpd hh D hz ht ho hi hj ha hb hx fun h1 x r1 ⟨u,g,cu⟩=>?_) (F.args_zip_next_1 _)));exact n0_ (wpAny_isInstance (T := "StopIteration") (b:=true) ⟨u,g,cu⟩ isSubtype_stop (n2_ (q _ fun f u _ f2 f3 f4 f5 r=>r1 f u f2 f3 f4 f5 r)))
end
open AutoSeq1 (wpAny_loadPart')
section
variable {X:Cx} {pins:?y} {σ:List (Option V)} {H H':Hp} {s:Shared} {h':Heap}
theorem Inv.turnGen (I:?k) (k:∀ b u,b∉ch→s.heap.get? b=some u→h'.get? b=some u) (hf:∀ b∈ch,FpOk X pins H b)
 (old:∀ b u,H b=some u→H' b=some u) (non:∀ b u,s.heap.get? b=some u→H b=none→H' b=none) (new:∀ b u,H b=none→H' b=some u→ObjOk X.prog X.w H' h' b u):Inv X pins σ H' { s with heap:=h',toks:=t' }:=by
 have nc:∀ b u,H b=some u→b∉ch:=fun b u e z=>by rw [(hf b z).1] at e;cases e
 refine I.step (g':=s.gens) (d':=s.drawn) (ch:=ch) (fun b hb=>?_) (fun b u _ _ hc e _=>k b u hc e) (fun b u _ _ hc e _=>⟨u.slots,k b u hc e⟩) (fun b u _ e n=>non b u e n)
  (fun b u hc e=>⟨u,k b u hc e⟩) (fun b xs e=>old b _ e) (fun b u v e=>old b _ e) (fun b ps e=>⟨#[],by rw [old b _ e];simp⟩) (fun m hm=>?_) (fun b u e=>?_) I.bare
 · obtain ⟨f0,f1,f2,f3,f4,f5⟩:=hf b hb;exact ⟨f3,f1,f4,f5⟩
 · obtain ⟨u,es,ep,hu,r⟩:=hm;exact ⟨u,es,ep,k _ u (fun z=>(hf _ z).2.1 rfl) hu,r⟩
 · cases hb:H b with
   | none=>exact new b u hb e
   | some v =>
     rw [old b v hb] at e;cases e
     refine (I.hok b _ hb).stay (fun c w hc q=>k c w ?_ q) (fun c q=>old c _ q) fun c xs q=>old c _ q
     rcases hc with z|z
     · rw [z];exact nc b _ hb
     · exact nc c _ z
end
def Itez (k l:SK) (K:PySem.W.Frag) (a b:Addr):It :=
 ⟨fun i H=>∃ xs ys x y,k.Sq K H a xs∧l.Sq K H b ys∧xs[i]? = some x∧ys[i]? = some y,
  fun i H v H'=>∃ p p' x y,v=.ref p'∧H p=none∧H p'=none∧p≠p'∧H'=upd (upd H p (.tup [x,y])) p' (.tup [.int i,.ref p])∧(∀ xs,k.Sq K H a xs→xs[i]? = some x)∧∀ ys,l.Sq K H b ys→ys[i]? = some y,
  fun i H=>∃ xs ys,k.Sq K H a xs∧l.Sq K H b ys∧(xs.length≤i∨ys.length≤i)⟩
theorem Zhv {K:PySem.W.Frag} {x1:Nat} {tp:Pos} {k l:SK} {e o i j:Addr} (D:ZP z t o i j a b) (ne:e≠z∧e≠t∧e≠o∧e≠i∧e≠j∧a≠e∧b≠e) :
 Turn P w K (.Tuple es x1 tp) (Itez k l K a b) [e,z,t,o,i,j] e (fun n h=>(∃ old,IsEnum h e z n old)∧ZSt h z t o∧IsPair h t (.ref i) (.ref j)∧(∃ c d,IsPair h o c d)∧k.It h i a n∧l.It h j b n) where
 mem:=by simp
 obj:=fun n h st f hf=>by
  obtain ⟨⟨old,h0⟩,⟨f0,f1,h1,_⟩,h2,⟨c,d,h3⟩,h4,h5⟩:=st;simp only [n9_,n10_,or_false] at hf
  rcases hf with rfl|rfl|rfl|rfl|rfl|rfl
  · exact ⟨_,h0,fun v q=>by cases (show Data.fields _=Data.cell v from q)⟩
  · exact ⟨_,h1,fun v q=>by cases (show Data.fields _=Data.cell v from q)⟩
  · exact ⟨_,h2,fun v q=>by cases (show Data.seq _ _=Data.cell v from q)⟩
  · exact ⟨_,h3,fun v q=>by cases (show Data.seq _ _=Data.cell v from q)⟩
  · obtain ⟨u,e,_,q⟩:=h4.ex;exact ⟨u,e,fun v r=>by rw [q] at r;cases r⟩
  · obtain ⟨u,e,_,q⟩:=h5.ex;exact ⟨u,e,fun v r=>by rw [q] at r;cases r⟩
 keep:=fun n h h' st f=>by
  obtain ⟨⟨old,h0⟩,⟨f0,f1,h1,hf⟩,h2,⟨c,d,h3⟩,h4,h5⟩:=st;exact ⟨⟨old,f e ?g _ h0⟩,⟨f0,f1,f z ?g _ h1,hf⟩,f t ?g _ h2,⟨c,d,f o ?g _ h3⟩,h4.at fun u q=>f i ?g u q,h5.at fun u q=>f j ?g u q⟩
 item:=by
  intro X hP hw hK hc n pins s σ H E I hf st hg;subst hP hw hK;obtain ⟨⟨old,h0⟩,hz,h2,⟨c,d,h3⟩,h4,h5⟩:=st;obtain ⟨xs,ys,x,y,q1,q2,hx,hy⟩:=hg;obtain ⟨us,ru,pu⟩:=q1.is I;obtain ⟨vs,rv,pv⟩:=q2.is I;obtain ⟨u,hu,ux⟩:=ru.get hx;obtain ⟨v,hv,vy⟩:=rv.get hy;have lt:∀ {b o'},s.heap.get? b=some o'→b≠s.z∧b≠s.z+1:=fun q=>⟨n27_ (n13_ q),n27_ (n54_ (n13_ q))⟩;refine Zlq D ne h0 hz h2 h3 h4 h5 pu pv (x:=u) (y:=v) (by simpa using hu) (by simpa using hv) fun g tk r0 r1 r2 r3 r4 r5 r6 r7 r8=>?_;refine ⟨_,rfl,wpAny_letOwnedTupleGo_enum r0 fun g2 z2 s2=>?_⟩;have hp:H s.z=none:=I.hok.fresh (n11_ _);have hp':H (s.z+1)=none:=I.hok.fresh (Nat.le_succ _);have pp:s.z≠s.z+1:=n27_ (Nat.lt_succ_self _);have T1:IsPair g2 s.z u v:=s2.extBut _ _ (Ne.symm (lt h0).1) r6;have T2:IsPair g2 (s.z+1) (.int n tk) (.ref s.z):=s2.extBut _ _ (Ne.symm (lt h0).2) r7
  have I2:Inv X pins σ (upd (upd H s.z (.tup [x,y])) (s.z+1) (.tup [.int n,.ref s.z])) { s with heap:=g2,toks:=tk+1 }:=by
   refine I.turnGen (ch:=[e,z,o,i,j]) (fun f o' nf q=>?_) (fun f hf'=>hf f ?_) (fun b u' q=>?_) (fun b u' q n'=>?_) (fun b u' q r=>?_)
   · simp only [n9_,n10_,or_false,not_or] at nf;exact s2.extBut _ _ nf.1 (r8 f o' nf.1 nf.2.1 nf.2.2.1 nf.2.2.2.1 nf.2.2.2.2 q)
   · simp only [n9_,n10_,or_false] at hf' ⊢
     rcases hf' with q|q|q|q|q<;>simp [q]
   · rw [Zh (Zi q hp'),Zh (Zi q hp)];exact q
   · rw [Zh (lt q).2,Zh (lt q).1];exact n'
   · by_cases e1:b=s.z+1
     · subst e1;rw [Zc] at r;cases r;exact ⟨z2_,[.int n tk,.ref s.z],.cons ⟨tk,rfl⟩ (.cons rfl .nil),⟨_,T2,⟨rfl,rfl⟩,_,rfl⟩⟩
     · rw [Zh e1] at r
       by_cases e2:b=s.z
       · subst e2;rw [Zc] at r;cases r;exact ⟨z2_,[u,v],.cons ux (.cons vy .nil),⟨_,T1,⟨rfl,rfl⟩,_,rfl⟩⟩
       · rw [Zh e2,q] at r;cases r
  obtain ⟨n1,n2,n3,n4,n5,n6,n7⟩:=ne;obtain ⟨g0,g1,z1,hg1⟩:=r1;obtain ⟨c',d',o1⟩:=r3;refine ⟨.ref (s.z+1),_,I2,rfl,⟨_,_,x,y,rfl,hp,hp',pp,rfl,fun xs' q=>by rw [q.inj q1 I];exact hx,fun ys' q=>by rw [q.inj q2 I];exact hy⟩,⟨⟨_,by simpa using z2⟩,⟨g0,g1,s2.extBut _ _ n1.symm z1,hg1⟩,s2.extBut _ _ n2.symm r2,⟨c',d',s2.extBut _ _ n3.symm o1⟩,r4.at fun u' q=>s2.extBut _ _ n4.symm q,r5.at fun u' q=>s2.extBut _ _ n5.symm q⟩,fun f hf'=>?_⟩
  have nf:f≠s.z∧f≠s.z+1:=by
   obtain ⟨f0,f1,hz1,_⟩:=hz;simp only [n9_,n10_,or_false] at hf'
   rcases hf' with rfl|rfl|rfl|rfl|rfl|rfl
   · exact lt h0
   · exact lt hz1
   · exact lt h2
   · exact lt h3
   · obtain ⟨_,q,_⟩:=h4.ex;exact lt q
   · obtain ⟨_,q,_⟩:=h5.ex;exact lt q
  rw [Zh nf.2,Zh nf.1];exact (hf f hf').1
 done:=by
  intro X hP hw hK hc n pins s σ H E I hf st hg;subst hP hw hK;obtain ⟨⟨old,h0⟩,hz,h2,⟨c,d,h3⟩,h4,h5⟩:=st;obtain ⟨xs,ys,q1,q2,hl⟩:=hg;obtain ⟨us,ru,pu⟩:=q1.is I;obtain ⟨vs,rv,pv⟩:=q2.is I;have e1:=ru.length;have e2:=rv.length;refine Zm1 (I.ok.hd hc) D ne h0 hz h2 h3 h4 h5 pu pv ?_ fun g r=>⟨rfl,?_⟩
  · rcases hl with q|q
    · left;simp;omega
    · right;simp;omega
  · refine I.turnOnly (t':=s.toks) (ch:=[e,z,o,i,j]) (fun f o' nf q=>?_) (fun f hf'=>hf f ?_)
    · simp only [n9_,n10_,or_false,not_or] at nf;exact r f o' nf.1 nf.2.1 nf.2.2.1 nf.2.2.2.1 nf.2.2.2.2 q
    · simp only [n9_,n10_,or_false] at hf' ⊢
      rcases hf' with q|q|q|q|q<;>simp [q]
 self:=fun _ _ _ _ _ st h=>by obtain ⟨⟨old,h1⟩,_⟩:=st;exact wpAny_pyIter_enum h1 h
theorem Zix (z:Addr) (t o:Addr):Meets (Builtin.«enumerate.__new__» ⟨[.type "enumerate",.ref z],[]⟩) (fun _ R s=>IsZip s.heap z t o .none ∧
 R (.ok (.ret (.ref s.heap.objs.size))) { s with heap:=s.heap.push (Zal z) }) :=
 .of_wp fun prog w A R s h=>by
  obtain ⟨hp,g,d,tk,os⟩:=s;obtain ⟨hz,h⟩:=h;have hsub:=sub_enumerate;have r1:IsZip (Shared.heap ⟨hp,g,d,tk,os⟩) z t o .none:=hz
  wp_walk using wpAny_loadPart' hz
  refine wpAny_stack_any fun st=>n2_ ?_;split
  · rename_i c _ _ _ _ _
    cases (c == Value.type "enumerate")
    · (wp_walk using wpAny_loadPart' hz,wpAny_pyIter_zip r1);exact ⟨_,rfl,h⟩
    · (wp_walk using wpAny_loadPart' hz,wpAny_pyIter_zip r1);exact ⟨_,rfl,h⟩
  · (wp_walk using wpAny_loadPart' hz,wpAny_pyIter_zip r1);exact ⟨_,rfl,h⟩
section
variable {X:Cx} {es:List Expr} {x1:Nat} {tp:Pos}
inductive BxIEnumZip (k l:SK) (K:PySem.W.Frag) (R:It→?o) (vs:List V) (H1:Hp):Prop
 | mk (a:_) (b:_) (q1:vs=[.ref a,.ref b]) (q2:(∃ xs,k.Sq K H1 a xs)) (q3:(∃ ys,l.Sq K H1 b ys)) (q4:R (Itez k l K a b) H1):BxIEnumZip k l K R vs H1
def Zqy (k l:SK) (K:PySem.W.Frag) (ta:TA):TI:=fun σ H R=>ta σ H fun vs H1=>BxIEnumZip k l K R vs H1
theorem Zlw (k l:SK) {a b:Expr} {p p2 pos2:Pos} (hg:Gl X "enumerate") (hm:X.mg "enumerate" = none) (hg2:Gl X "zip") (hm2:X.mg "zip" = none) (ha:PA X [a,b] ta)
 (hs:starEach [a,b] X.env=[(false,eval a X.env),(false,eval b X.env)]:=by rfl) (hs2:starEach [b] X.env=[(false,eval b X.env)]:=by rfl)
 (he:starEach [Expr.Call (.Name "zip" p2) [a,b] [] pos2] X.env=[(false,eval (.Call (.Name "zip" p2) [a,b] [] pos2) X.env)]:=by rfl) :
 PI X (.Tuple es x1 tp) (.Call (.Name "enumerate" p) [.Call (.Name "zip" p2) [a,b] [] pos2] [] pos) (Zqy k l X.K ta):=by
 intro pins s σ H R I h;refine Call_ (Zbr I hg hm Ze0 (n58_ ?_ he rfl));rw [he];refine Calls.spliced_cons ?_;refine Call_ (Zbr I hg2 hm2 Zg5 (n58_ (thn (ha pos2 pins s σ H _ I h) fun us s1 ⟨vs,H1,I1,r1,q1⟩=>?_) (by rw [hs,hs2]) (by rw [hs2];rfl)));obtain ⟨a,b,e,⟨xs,hx⟩,⟨ys,hy⟩,q⟩:=q1;subst e;cases r1 with
 | cons r rr =>
   cases rr with
   | cons r' rr =>
     cases rr
     cases r
     cases r'
     obtain ⟨us,ru,pu⟩:=hx.is I1;obtain ⟨ws,rw',pw⟩:=hy.is I1;have la:a<s1.z:=by obtain ⟨_,_,e,_⟩:=pu.ex;exact n13_ e
     have lb:b<s1.z:=by obtain ⟨_,_,e,_⟩:=pw.ex;exact n13_ e
     refine Zjp pu pw fun h1 m1 m2 m3 m4 m5 m6 m7=>Calls.spliced_nil ?_;refine callType_new F.called_enumerate ?f (F.typeCall_enumerate_1 _) (F.newCall_enumerate_1 _) (fun obj=>F.args_object_init_2 obj _) F.entry_enumerate_new (Zix _ _ _) ⟨m1,?_⟩;have m8:(h1.push (Zal (s1.z+4))).get? h1.objs.size=some (Zal (s1.z+4)):=n8_ _ rfl;have up:∀ c o,h1.get? c=some o→(h1.push (Zal (s1.z+4))).get? c=some o:=fun c o e=>n3_ _ e;rw [m6] at m8;show _∧_
     rw [m6];refine ⟨⟨_,m8,rfl⟩,wpAny_pyIter_enum m8 ?_⟩;have I2:Inv X pins σ H1 { s1 with heap:=h1.push (Zal (s1.z+4)),toks:=s1.toks }:=I1.kept fun c o e=>up c o (m7 c o e);refine ⟨_,_,_,_,H1,rfl,I2,Zhv (e:=s1.z+5) (z:=s1.z+4) (t:=s1.z+2) (o:=s1.z+3) (i:=s1.z) (j:=s1.z+1) (k:=k) (l:=l) (a:=a) (b:=b) (Zq9 la lb) ?_,⟨⟨_,m8⟩,⟨_,_,up _ _ m1,.inl rfl⟩,up _ _ m2,⟨_,_,up _ _ m3⟩,m4.at fun u e=>up _ u e,m5.at fun u e=>up _ u e⟩,?_,q⟩
     · have la':@LT.lt Nat _ a s1.z:=la;have lb':@LT.lt Nat _ b s1.z:=lb;refine ⟨?_,?_,?_,?_,?_,?_,?_⟩<;>(intro h;have h':@Eq Nat _ _:=h;clear h;omega)
     · exact I1.fps (fp:=[s1.z+5,s1.z+4,s1.z+2,s1.z+3,s1.z,s1.z+1]) (by
        intro e he;simp only [n9_,n10_,or_false] at he
        rcases he with rfl|rfl|rfl|rfl|rfl|rfl<;>omega)
end
def Tk (H H':Hp):Prop:=∀ a xs,H a=some (.tup xs)→H' a=some (.tup xs)
theorem Tk.trans (a:Tk H H1) (b:Tk H1 H2):Tk H H2:=fun p xs e=>b p xs (a p xs e)
theorem Same.tk (s:Same H H'):Tk H H':=fun a xs e=>s a _ e
theorem Tk.of_keep {ys:List V} (k:Keep l H H') (e:H l=some (.lst ys)):Tk H H':=fun a xs q=>k a _ (Zim q e (by intro z;cases z)) q
theorem Tk.upd_lst {ys zs:List V} (e:H D=some (.lst ys)):Tk H (upd H D (.lst zs)):=fun a xs q=>by rw [Zh (Zim q e (by intro z;cases z))];exact q
def Al {α:Type} (R:V→α→Prop) (vs:List V) (xs:List α):Prop:=vs.length=xs.length∧∀ (i:Nat) (v:V) (x:α),vs[i]? = some v→xs[i]? = some x→R v x
theorem Al.nil {R:V→α→Prop}:Al R [] []:=⟨rfl,fun i v x e=>by simp at e⟩
theorem Al.snoc {R:V→α→Prop} {xs:List α} {x:α} (h:Al R vs xs) (r:R v x):Al R (vs++[v]) (xs++[x]):=by
 refine ⟨by simp [h.1],fun i w y e1 e2=>?_⟩
 by_cases hi:i<vs.length
 · rw [n41_ hi] at e1;rw [n41_ (by rw [← h.1];exact hi)] at e2;exact h.2 i w y e1 e2
 · have:i=vs.length:=by
    have:=(n12_.mp e1).1
    simp at this;omega
   subst this;rw [n34_ (n11_ _)] at e1;rw [h.1,n34_ (n11_ _)] at e2;simp at e1 e2;subst e1;subst e2;exact r
theorem Al.imp {R S:V→α→Prop} {xs:List α} (h:Al R vs xs) (f:∀ v x,R v x→S v x):Al S vs xs:=⟨h.1,fun i v x e1 e2=>f v x (h.2 i v x e1 e2)⟩
theorem Al.get {R:V→α→Prop} {xs:List α} (h:Al R vs xs) (e:vs[i]? = some v):∃ x,xs[i]? = some x∧R v x:=by
 have hi:i<xs.length:=by rw [← h.1];exact (n12_.mp e).1
 exact ⟨xs[i],n1_ hi,h.2 i v _ e (n1_ hi)⟩
theorem Al.got {R:V→α→Prop} {xs:List α} {x:α} (h:Al R vs xs) (e:xs[i]? = some x):∃ v,vs[i]? = some v∧R v x:=by
 have hi:i<vs.length:=by rw [h.1];exact (n12_.mp e).1
 exact ⟨vs[i],n1_ hi,h.2 i _ x (n1_ hi) e⟩
theorem Al.cons {R:V→α→Prop} {x:α} {xs:List α} (r:R v x) (h:Al R vs xs):Al R (v :: vs) (x :: xs):=by
 refine ⟨by simp [h.1],fun i w y e1 e2=>?_⟩;cases i with
 | zero=>simp at e1 e2;subst e1;subst e2;exact r
 | succ i=>exact h.2 i w y (by simpa using e1) (by simpa using e2)
theorem Al.bls {bs:List Bool} (h:Al (fun v b=>v=V.bl b) vs bs):vs=bs.map V.bl:=by
 refine List.ext_getElem? fun i=>?_;rw [n7_];cases e:bs[i]? with
 | none =>
   have:=List.getElem?_eq_none_iff.mp e
   rw [List.getElem?_eq_none (by rw [h.1];exact this)];rfl
 | some b =>
   obtain ⟨v,ev,rfl⟩:=h.got e;rw [ev];rfl
theorem Al.ints (h:Al (fun v n=>v=V.int n) vs ns):vs=ns.map V.int:=by
 refine List.ext_getElem? fun i=>?_;rw [n7_];cases e:ns[i]? with
 | none =>
   have:=List.getElem?_eq_none_iff.mp e
   rw [List.getElem?_eq_none (by rw [h.1];exact this)];rfl
 | some b =>
   obtain ⟨v,ev,rfl⟩:=h.got e;rw [ev];rfl
theorem Al.of_ints (ns:?e):Al (fun v n=>v=V.int n) (ns.map V.int) ns:=⟨by simp,fun i v n e1 e2=>by rw [n7_,e2] at e1;exact (Option.some.inj e1).symm⟩
theorem Znq {J:It} {σ0:St} {Q:VK} (R:Hp→V→α→Prop) (hR:∀ H1 H2 v x,Tk H1 H2→R H1 v x→R H2 v x) (ys_:List α) (hn:ys_.length=n) (hz:n≤1000) (ok:St→Prop) (h0:ok σ0) (hD:H D=none)
 (hgo:∀ i H2,Same H H2→i<n→J.go i H2) (hstop:∀ H2,Same H H2→J.stop n H2)
 (hs:∀ i x σ2 H2 H3 (C:St→V→?o),i<n→Same H H2→J.yld i H2 x H3→ok σ2→(∀ σ4 y H5 z,ok σ4→Same H2 H5→ys_[i]? = some z→R H5 y z→C σ4 y H5)→g x σ2 H3 fun σ4 H4=>te σ4 H4 (C σ4))
 (hd:∀ H2 vs,Same H H2→H2 D=some (.lst vs)→Al (R H2) vs ys_→Q (.ref D) H2):LcGo J g tYes te σ0 H D Q:=by
 refine Zhu (n:=n) (fun i σ H2=>Same H H2∧ok σ∧∃ vs,H2 D=some (.lst vs)∧Al (R H2) vs (ys_.take i)) ⟨Same.new hD,h0,[],Zc,by rw [List.take_zero];exact .nil⟩ (fun i σ H2 hi p=>hgo i H2 p.1 hi) (fun σ H2 p=>hstop H2 p.1) (fun i x σ2 H2 H3 hi y p=>?_) (fun σ2 H2 p=>?_)
 · obtain ⟨s2,o2,vs,e2,a2⟩:=p
   have:=hs i x σ2 H2 H3 (fun σ4 y H6=>∃ ys,H6 D=some (.lst ys)∧ys.length<sizeLine∧∃ m',m'<n-i∧LcN n (fun i σ H2=>Same H H2∧ok σ∧∃ vs,H2 D=some (.lst vs)∧Al (R H2) vs (ys_.take i)) (i+1) m' σ4 (upd H6 D (.lst (ys++[y])))) hi s2 y o2 ?_
   · exact this
   · intro σ4 v H5 z o4 s5 ez rz;have e5:H5 D=some (.lst vs):=s5 _ _ e2;refine ⟨vs,e5,?_,n-(i+1),?d,?d,rfl,fun b o e=>?_,o4,vs++[v],Zc,?_⟩
     · rw [a2.1,n59_,sizeLine_eq];omega
     · rw [Zh (Zi e hD)];exact s5 _ _ (s2 _ _ e)
     · have tk:Tk H5 (upd H5 D (.lst (vs++[v]))):=Tk.upd_lst e5;have hi':i<ys_.length:=?d
       rw [List.take_succ_eq_append_getElem hi'];rw [n1_ hi'] at ez;cases ez
       exact (a2.imp fun v x r=>hR _ _ v x tk (hR _ _ v x s5.tk r)).snoc (hR _ _ _ _ tk rz)
 · obtain ⟨s2,_,vs,e2,a2⟩:=p;rw [n45_ (?d)] at a2;exact hd H2 vs s2 e2 a2
def SK.At (H:Hp) (a:Addr) (vs:List V):SK→Prop
 | .l=>H a=some (.lst vs)
 | .t=>H a=some (.tup vs)
theorem SK.At.sq {k:SK} {K:PySem.W.Frag} (h:k.At H a vs):k.Sq K H a vs:=by
 cases k with
 | l=>exact SqL.of h
 | t=>exact SqT.of h
theorem SK.At.same {k:SK} (h:k.At H a vs) (s:Same H H'):k.At H' a vs:=by
 cases k with
 | l=>exact s _ _ h
 | t=>exact s _ _ h
def SK.Itk (K:PySem.W.Frag) (a:Addr):SK→L2.It
 | .l=>Itl K a
 | .t=>Itt K a
theorem Zkj {k:SK} {K:PySem.W.Frag} (h:k.At H a vs) (hi:i<vs.length):(k.Itk K a).go i H:=by
 cases k with
 | l=>exact ⟨vs,vs[i],SqL.of h,n1_ hi⟩
 | t=>exact ⟨vs,vs[i],SqT.of h,n1_ hi⟩
theorem Zdb {k:SK} {K:PySem.W.Frag} (h:k.At H a vs) (hi:vs.length≤i):(k.Itk K a).stop i H:=by
 cases k with
 | l=>exact ⟨vs,SqL.of h,hi⟩
 | t=>exact ⟨vs,SqT.of h,hi⟩
theorem Zgc {k:SK} {K:PySem.W.Frag} {x:V} (h:k.At H a vs) (y:(k.Itk K a).yld i H x H'):H'=H∧vs[i]? = some x:=by
 cases k with
 | l=>exact ⟨y.1,y.2 vs (SqL.of h)⟩
 | t=>exact ⟨y.1,y.2 vs (SqT.of h)⟩
theorem lc_T {k:SK} {K:PySem.W.Frag} {Q:VK} (R:Hp→V→α→Prop) (hR:∀ H1 H2 v x,Tk H1 H2→R H1 v x→R H2 v x) (ys:List α) (hn:ys.length=vs.length) (hz:vs.length≤1000) (hD:H D=none) (ha:k.At H a vs)
 (hs:∀ (i:Nat) (w:V) (H2:Hp) (C:V→?o),vs[i]? = some w→Same H H2→(∀ y H5 z,Same H2 H5→ys[i]? = some z→R H5 y z→C y H5)→te (some w :: rest) H2 C)
 (hd:∀ H2 us,Same H H2→H2 D=some (.lst us)→Al (R H2) us ys→Q (.ref D) H2):LcGo (k.Itk K a) (Zy 0) tYes te (u0 :: rest) H D Q:=by
 refine Znq R hR ys hn hz (fun σ=>∃ u,σ=u :: rest) ⟨_,rfl⟩ hD (fun i H2 s hi=>Zkj (ha.same s) hi) (fun H2 s=>Zdb (ha.same s) (n11_ _)) (fun i x σ2 H2 H3 C hi s y o c=>?_) hd;obtain ⟨u,rfl⟩:=o;obtain ⟨rfl,e⟩:=Zgc (ha.same s) y;exact hs i x H3 (C (some x :: rest)) e s fun y H5 z s5 ez rz=>c _ y H5 z ⟨_,rfl⟩ s5 ez rz
theorem lc_Z {k l:SK} {K:PySem.W.Frag} {ws:List V} {Q:VK} (R:Hp→V→α→Prop) (hR:∀ H1 H2 v x,Tk H1 H2→R H1 v x→R H2 v x) (ys:List α) (hn:ys.length=min vs.length ws.length) (hz:min vs.length ws.length≤1000) (hD:H D=none) (ha:k.At H a vs) (hb:l.At H b ws)
 (hs:∀ (i:Nat) (v w:V) (H2:Hp) (C:V→?o),vs[i]? = some v→ws[i]? = some w→Same H H2→(∀ y H5 z,Same H2 H5→ys[i]? = some z→R H5 y z→C y H5)→te (some v :: some w :: rest) H2 C)
 (hd:∀ H2 us,Same H H2→H2 D=some (.lst us)→Al (R H2) us ys→Q (.ref D) H2):LcGo (Itz k l K a b) ?C tYes te (u0 :: u1 :: rest) H D Q:=by
 refine Znq R hR ys hn hz (fun σ=>∃ u u',σ=u :: u' :: rest) ⟨_,_,rfl⟩ hD (fun i H2 s hi=>?_) (fun H2 s=>?_) (fun i x σ2 H2 H3 C hi s y o c=>?_) hd
 · have h1:i<vs.length:=?d
   have h2:i<ws.length:=?d
   exact ⟨vs,ws,vs[i],ws[i],(ha.same s).sq,(hb.same s).sq,n1_ h1,n1_ h2⟩
 · exact ⟨vs,ws,(ha.same s).sq,(hb.same s).sq,?d⟩
 · obtain ⟨u,u',rfl⟩:=o;obtain ⟨p,v,w,rfl,hp,rfl,y1,y2⟩:=y;have s3:Same H2 (upd H2 p (.tup [v,w])):=Same.new hp;refine ⟨p,[v,w],rfl,SqT.of Zc,rfl,v,[w],rfl,w,[],rfl,rfl,?_⟩;exact hs i v w _ (C (some v :: some w :: rest)) (y1 vs (ha.same s).sq) (y2 ws (hb.same s).sq) (s.trans s3) fun y H5 z s5 ez rz=>c _ y H5 z ⟨_,_,rfl⟩ (s3.trans s5) ez rz
theorem lc_E {k:SK} {K:PySem.W.Frag} {Q:VK} (R:Hp→V→α→Prop) (hR:∀ H1 H2 v x,Tk H1 H2→R H1 v x→R H2 v x) (f:Nat→Option α) (hz:vs.length≤1000) (hD:H D=none) (ha:k.At H a vs)
 (hs:∀ (i:Nat) (w:V) (H2:Hp) (C:V→?o) (N:?o),vs[i]? = some w→Same H H2→(∀ y H5 z,Same H2 H5→f i=some z→R H5 y z→C y H5)→(∀ H5,Same H2 H5→f i=none→N H5)→tt (some (.int i) :: some w :: rest) H2 fun b H5=>if b=true then te (some (.int i) :: some w :: rest) H5 C else N H5)
 (hd:∀ H2 us,Same H H2→H2 D=some (.lst us)→Al (R H2) us ((List.range vs.length).filterMap f)→Q (.ref D) H2):LcGo (Ite k K a) ?C tt te (u0 :: u1 :: rest) H D Q:=by
 refine Zhu (n:=vs.length) (fun i σ H2=>Same H H2∧(∃ u u',σ=u :: u' :: rest)∧∃ us,H2 D=some (.lst us)∧us.length≤i∧Al (R H2) us ((List.range i).filterMap f)) ⟨Same.new hD,⟨_,_,rfl⟩,[],Zc,n11_ _,.nil⟩ (fun i σ H2 hi p=>⟨vs,vs[i],(ha.same p.1).sq,n1_ hi⟩) (fun σ H2 p=>⟨vs,(ha.same p.1).sq,rfl⟩) (fun i x σ2 H2 H3 hi y p=>?_) (fun σ2 H2 p=>?_)
 · obtain ⟨s2,⟨u,u',rfl⟩,us,e2,l2,a2⟩:=p;obtain ⟨q,w,rfl,hq,rfl,y1⟩:=y;have s3:Same H2 (upd H2 q (.tup [.int i,w])):=Same.new hq
   have rg:(List.range (i+1)).filterMap f=(List.range i).filterMap f++(f i).toList:=by
    rw [List.range_succ,List.filterMap_append];cases e:f i<;>simp [e]
   refine ⟨q,[.int i,w],rfl,SqT.of Zc,rfl,_,_,rfl,_,_,rfl,rfl,?_⟩;refine hs i w _ _ _ (y1 vs (ha.same s2).sq) (s2.trans s3) (fun v H5 z s5 ez rz=>?_) (fun H5 s5 ez=>?_)
   · have e5:H5 D=some (.lst us):=s5 _ _ (s3 _ _ e2);refine ⟨us,e5,by rw [sizeLine_eq];omega,vs.length-(i+1),?d,?d,rfl,fun b o e=>?_,⟨_,_,rfl⟩,us++[v],Zc,by simp;omega,?_⟩
     · rw [Zh (Zi e hD)];exact s5 _ _ (s3 _ _ (s2 _ _ e))
     · have tk:Tk H5 (upd H5 D (.lst (us++[v]))):=Tk.upd_lst e5;rw [rg,ez];exact (a2.imp fun v x r=>hR _ _ v x tk (hR _ _ v x (s3.trans s5).tk r)).snoc (hR _ _ _ _ tk rz)
   · refine ⟨vs.length-(i+1),?d,?d,rfl,s2.trans (s3.trans s5),⟨_,_,rfl⟩,us,s5 _ _ (s3 _ _ e2),?d,?_⟩;rw [rg,ez];simp only [Option.toList_none,List.append_nil];exact a2.imp fun v x r=>hR _ _ v x (s3.trans s5).tk r
 · obtain ⟨s2,_,us,e2,_,a2⟩:=p;exact hd H2 us s2 e2 a2
abbrev Pnt:=Int×Int
theorem len3 {l:List α} (h:l.length=3):∃ x y z,l=[x,y,z]:=by
 cases l with
 | nil=>cases h
 | cons x l=>cases l with
   | nil=>cases h
   | cons y l=>cases l with
     | nil=>cases h
     | cons z l=>cases l with
       | nil=>exact ⟨x,y,z,rfl⟩
       | cons=>cases h
inductive BxIsI (H:Hp) (v:V) (ns:?e):Prop
 | mk (a:_) (q1:v=.ref a) (q2:H a=some (.tup (ns.map V.int))):BxIsI H v ns
def IsI (H:Hp) (v:V) (ns:?e):Prop:=BxIsI H v ns
def IsP (H:Hp) (v:V) (p:Pnt):Prop:=IsI H v [p.1,p.2]
theorem IsI.tk (t:Tk H H') (h:IsI H v ns):IsI H' v ns:=by obtain ⟨a,e,q⟩:=h;exact ⟨a,e,t _ _ q⟩
theorem IsP.tk {p:Pnt} (t:Tk H H') (h:IsP H v p):IsP H' v p:=IsI.tk t h
inductive BxIsTupq {α:Type} (R:Hp→V→α→Prop) (H:Hp) (v:V) (xs:List α):Prop
 | mk (a:_) (vs:_) (q1:v=.ref a) (q2:H a=some (.tup vs)) (q3:Al (R H) vs xs):BxIsTupq R H v xs
def IsTup' {α:Type} (R:Hp→V→α→Prop) (H:Hp) (v:V) (xs:List α):Prop:=BxIsTupq R H v xs
theorem IsTup'.tk {R:Hp→V→α→Prop} (hR:∀ H1 H2 v x,Tk H1 H2→R H1 v x→R H2 v x) {xs:List α} (t:Tk H H') (h:IsTup' R H v xs):IsTup' R H' v xs:=by obtain ⟨a,vs,e,q,r⟩:=h;exact ⟨a,vs,e,t _ _ q,r.imp fun v x=>hR _ _ v x t⟩
structure Pl where
 cs:List Pnt
 ps:List (?e)
 ts:?e
 l:Int
 m:Int
def IsCs (H:Hp) (v:V) (cs:List Pnt):Prop:=IsTup' IsP H v cs
def IsPs (H:Hp) (v:V) (ps:List (?e)):Prop:=IsTup' IsI H v ps
theorem IsCs.tk {cs:List Pnt} (t:Tk H H') (h:IsCs H v cs):IsCs H' v cs:=IsTup'.tk (R:=IsP) (fun _ _ _ _ t r=>IsP.tk t r) t h
theorem IsPs.tk (t:Tk H H') (h:IsPs H v ps):IsPs H' v ps:=IsTup'.tk (R:=IsI) (fun _ _ _ _ t r=>IsI.tk t r) t h
inductive BxIsPl (H:Hp) (v:V) (P:Pl):Prop
 | mk (a:_) (c:_) (p:_) (t:_) (s:_) (q1:v=.ref a) (q2:H a=some (.tup [c,p,t,s])) (q3:IsCs H c P.cs) (q4:IsPs H p P.ps) (q5:IsI H t P.ts) (q6:IsI H s [P.l,P.m]):BxIsPl H v P
def IsPl (H:Hp) (v:V) (P:Pl):Prop:=BxIsPl H v P
theorem IsPl.tk {P:Pl} (t:Tk H H') (h:IsPl H v P):IsPl H' v P:=by obtain ⟨a,c,p,q,s,e,h1,h2,h3,h4,h5⟩:=h;exact ⟨a,c,p,q,s,e,t _ _ h1,h2.tk t,h3.tk t,h4.tk t,h5.tk t⟩
def tn (a b c:Pnt):Int:=(b.1-a.1)*(c.2-a.2)-(c.1-a.1)*(b.2-a.2)
structure Tri where
 a:Pnt
 b:Pnt
 c:Pnt
def tri (a b c:Pnt):Tri:=if tn a b c<0 then ⟨a,c,b⟩ else ⟨a,b,c⟩
def Tri.pts (t:Tri):List Pnt:=[t.a,t.b,t.c]
def Tri.edges (t:Tri):List (Pnt×Pnt):=[(t.a,t.b),(t.b,t.c),(t.c,t.a)]
def Zbz (p:Pnt) (t:Tri):Bool:=(t.edges.map fun e=>decide (0≤tn e.1 e.2 p)).all id
def Zde (e:Pnt×Pnt) (u:Tri):Bool:=(u.pts.map fun q=>decide (tn e.1 e.2 q≤0)).all id
def Y9 (t u:Tri):Bool:=t.edges.any fun e=>Zde e u
def apart (t u:Tri):Bool:=Y9 t u||Y9 u t
inductive BxIsT (H:Hp) (v:V) (t:Tri):Prop
 | mk (a:_) (x:_) (y:_) (z:_) (q1:v=.ref a) (q2:H a=some (.tup [x,y,z])) (q3:IsP H x t.a) (q4:IsP H y t.b) (q5:IsP H z t.c):BxIsT H v t
def IsT (H:Hp) (v:V) (t:Tri):Prop:=BxIsT H v t
theorem IsT.tk {u:Tri} (t:Tk H H') (h:IsT H v u):IsT H' v u:=by obtain ⟨a,x,y,z,e,h1,h2,h3,h4⟩:=h;exact ⟨a,x,y,z,e,t _ _ h1,h2.tk t,h3.tk t,h4.tk t⟩
def near (p:Pnt):Prop:=(-100≤p.1∧p.1≤100)∧(-100≤p.2∧p.2≤100)
def Tri.near (t:Tri):Prop:=L2.near t.a∧L2.near t.b∧L2.near t.c
def cAt (cs:List Pnt) (i:Int):Pnt:=cs.getD i.toNat (0,0)
def trOf (cs:List Pnt) (p:?e):Tri:=tri (cAt cs (p.getD 0 0)) (cAt cs (p.getD 1 0)) (cAt cs (p.getD 2 0))
def dOf (cs:List Pnt) (p:?e):Int:=tn (cAt cs (p.getD 0 0)) (cAt cs (p.getD 1 0)) (cAt cs (p.getD 2 0))
def Zbb (q:(Int→Bool)×Nat) (k:Int):(Int→Bool)×Nat:=(fun k'=>q.1 k'||decide (k'=k),if q.1 k then q.2 else q.2+1)
def cntS (l:?e):Nat:=(l.foldl Zbb (fun _=>false,0)).2
structure PieceOk (cs:List Pnt) (p:?e):Prop where
 len:p.length=3
 bd:∀ i∈p,0≤i∧i≤(cs.length:Int)-1
 rise:p.getD 0 0<p.getD 1 0∧p.getD 1 0<p.getD 2 0
 d:dOf cs p≠0
structure PlOk (P:Pl):Prop where
 c3:3≤P.cs.length
 c30:P.cs.length≤30
 nr:∀ p∈P.cs,near p
 nd:P.cs.Nodup
 p1:1≤P.ps.length
 p40:P.ps.length≤40
 pc:∀ p∈P.ps,PieceOk P.cs p
 rise:∀ i:Nat,i+1<P.ps.length→HT.lexLt (P.ps.getD i []) (P.ps.getD (i+1) [])=true
 t1:P.ts.length=P.ps.length
 t9:∀ t∈P.ts,1≤t∧t≤9
 l9:0≤P.l∧P.l≤9
 m9:1≤P.m∧P.m≤9
 used:cntS P.ps.flatten=P.cs.length
 strange:∀ p∈P.ps,∀ j:Nat,j<P.cs.length→(j:Int)∉p→Zbz (P.cs.getD j (0,0)) (trOf P.cs p)=false
 apart:∀ i j:Nat,i<j→j<P.ps.length→L2.apart (trOf P.cs (P.ps.getD j [])) (trOf P.cs (P.ps.getD i []))=true
abbrev Nms:=List (Str×NameKind)
def relN (sc:Nms) (dn:Nms):Nms:=sc.map fun y=>if y.2 == .free&&dn.lookup y.1 == some .cell then (y.1,.cell) else y
def chk (sc dn:Nms) (N XN:List Str) (fr:List (Option Nat)):Bool :=
 sc.all (fun y=>y.2 != .free||dn.lookup y.1 == some .cell)&&sc.all (fun y=>y.2 != .local||sc.lookup y.1 == some .local)&&sc.all (fun y=>y.2 != .cell||sc.lookup y.1 == some .cell)&&(fr.length == N.length) &&
  (List.range fr.length).all fun i=>match fr[i]? with
    | some (some j)=>match N[i]? with
      | some x=>XN[j]? == some x&&dn.lookup x == some .cell&&(relN sc dn).lookup x == some .cell&&sc.all (fun y=>y.1 != x||y.2 != .cell)&&sc.any (fun y=>y.1 == x&&y.2 == .free)
      | none=>false
    | _=>true
theorem Zbk {cells:List (Str×Addr)} {sc:Nms} (key:(x,NameKind.free)∈sc):∃ c,(Yy cells sc).lookup x=some c:=by
 have hm:(x,(cells.lookup x).getD 0)∈Yy cells sc:=by
  unfold Yy;exact List.mem_reverse.mpr (n24_.mpr ⟨(x,.free),n72_.mpr ⟨key,rfl⟩,rfl⟩)
 cases q:(Yy cells sc).lookup x with
 | some c'=>exact ⟨c',rfl⟩
 | none =>
   have z:=(List.lookup_eq_none_iff.mp q) _ hm;simp at z
theorem Zf9 {sc dn:Nms} {k:NameKind} (hk:k=.cell∨k=.free) (h:(relN sc dn).lookup x=some k):(x,NameKind.free)∈sc∨(x,NameKind.cell)∈sc:=by
 have m:=n39_ h;obtain ⟨⟨n,k'⟩,hm,e⟩:=n24_.mp m
 by_cases hf:k'=.free
 · subst hf
   have:n=x:=by
    dsimp only at e;split at e<;>(injection e)
   subst this;exact .inl hm
 · have b:(k' == NameKind.free)=false:=by simpa using hf
   simp only [b,Bool.false_and,n20_,if_false] at e;injection e with e1 e2
   subst e1 e2
   rcases hk with rfl|rfl
   · exact .inr hm
   · exact absurd rfl hf
theorem Zbs {dn:Nms} (hn:env.scope.names=dn) (hk:env.scope.kind=.function):(relabel scope env).names=relN scope.names dn:=by
 unfold relabel relN;show scope.names.map _=scope.names.map _
 refine n78_ fun y _=>?_;obtain ⟨n,k⟩:=y;have e:(env.scope.kind == ScopeKind.function)=true:=by rw [hk];rfl
 have e2:env.kindOf n=dn.lookup n:=by rw [← hn];rfl
 simp only [e,e2,Bool.and_true]
theorem Yc {XN:List Str} (dn:Nms) (hn:X.env.scope.names=dn) (hk:X.env.scope.kind=.function) (hX:X.N=XN) (hc:∀ x,dn.lookup x=some .cell→∃ c,X.env.cells.lookup x=some c)
 (h:chk scope.names dn N XN fr=true) (hs:scope.kind=.function):LcO X scope (Yy X.env.cells scope.names) N fr:=by
 unfold chk at h;simp only [n40_] at h;obtain ⟨⟨⟨⟨h1,h2⟩,h3⟩,h4⟩,h5⟩:=h
 have hf:∀ y∈scope.names,y.2=.free→∃ c,X.env.cells.lookup y.1=some c:=fun y hy e=>by
  have:=n44_.mp h1 y hy
  rw [e] at this;exact hc _ (by simpa using this)
 refine ⟨Zc4 hf,fun x c e=>?_,fun x e=>?_,hs,fun y hy e=>?_,by simpa using h4,fun i j e=>?_⟩
 · have m:=n39_ e;unfold Yy at m;obtain ⟨⟨n,k⟩,hm,e2⟩:=n24_.mp (List.mem_reverse.mp m);obtain ⟨h1',h2'⟩:=n72_.mp hm;obtain ⟨c',hc'⟩:=hf _ h1' (by simpa using h2');injection e2 with e3 e4
   subst e3;rw [hc'] at e4;rw [hc',← e4];rfl
 · rw [Zbs hn hk] at e
   have:(x,NameKind.free)∈scope.names∨(x,NameKind.cell)∈scope.names:=e.elim (Zf9 (.inl rfl)) (Zf9 (.inr rfl))
   rcases this with m|m
   · exact .inr (Zbk m)
   · have:=n44_.mp h3 _ m
     exact .inl (by simpa using this)
 · have:=n44_.mp h2 y hy
   rw [e] at this
   simpa using this
 · have hi:i<fr.length:=(n12_.mp e).1
   have:=n44_.mp h5 i (n35_.mpr hi)
   rw [e] at this;cases hx:N[i]? with
   | none=>rw [hx] at this;cases this
   | some x =>
     rw [hx] at this;simp only [n40_,beq_iff_eq] at this;obtain ⟨⟨⟨⟨t1,t2⟩,t3⟩,t4⟩,t5⟩:=this;obtain ⟨⟨z1,z2⟩,m1,m2⟩:=List.any_eq_true.mp t5;simp only [n40_,beq_iff_eq] at m2;obtain ⟨rfl,rfl⟩:=m2;refine ⟨z1,rfl,by rw [hX];exact t1,.inl (by rw [hn];exact t2),.inl (by rw [Zbs hn hk];exact t3),Zbk m1,fun m=>?_⟩
     have:=n44_.mp t4 _ m
     simp at this
theorem Zot {cells:List (Str×Addr)} {sc dn:Nms} (hc:sc.all (fun y=>y.2 != .cell||sc.lookup y.1 == some .cell)=true) (h:(relN sc dn).lookup x=some .cell):∃ c,(cellsFrom n sc (Yy cells sc)).lookup x=some c:=by
 refine Option.isSome_iff_exists.mp (PySem.W.cellsFrom_some sc n _ ?_)
 rcases Zf9 (.inl rfl) h with m|m
 · obtain ⟨c,e⟩:=Zbk (cells:=cells) m;exact .inr (by rw [e];rfl)
 · have:=n44_.mp hc _ m
   exact .inl (by simpa using this)
theorem Ye (h:scope.names.all (fun y=>y.2 != .cell&&y.2 != .free)=true) (hk:scope.kind=.function)
 (hn:∀ y∈scope.names,y.2=.local→scope.names.lookup y.1=some .local) (hl:fr.length=N.length) (hf:fr.all (·.isNone)=true):LcO X scope [] N fr:=by
 have no:∀ y∈scope.names,y.2≠.cell∧y.2≠.free:=fun y hy=>by
  have:=n44_.mp h y hy
  rw [n40_] at this
  simpa using this
 refine ⟨closureFor_none fun x hx=>(no x hx).2,fun x c e=>by simp at e,fun x e=>?_,hk,hn,hl,fun i j e=>?_⟩
 · exfalso
   have key:∀ k,(relabel scope X.env).names.lookup x=some k→k≠.cell∧k≠.free:=fun k e=>by
    obtain ⟨⟨n,k'⟩,hm,e2⟩:=n24_.mp (n39_ e);have b:(k' == NameKind.free)=false:=by simpa using (no _ hm).2
    simp only [b,Bool.false_and,n20_,if_false] at e2;cases e2
    exact no _ hm
   rcases e with e|e
   · exact (key _ e).1 rfl
   · exact (key _ e).2 rfl
 · have:=n44_.mp hf _ (n6_ e)
   cases this
theorem Zsd {sp:Sp} {p:Pos} (C:Cal X.prog X.w X.K X.mg X.base x k [] sp) (hr:Room j X.A) (hj:k≤j) (hg:Gl X x) (hdb:(x == ("__debug__" : Str))=false:=by decide) :
 PE X (.Call (.Name x p) [] [] pos) (fun _ H Q=>sp [] H Q E0):=by
 obtain ⟨f,fd,F,hm,hk,hb⟩:=C.ex;have h:=Zpv (dvs:=[]) (E:=E0) (p:=p) (pos:=pos) F (hr.mono hj) hg hm hk hb .nil Zv7 hdb;exact h
inductive BxRNeL (K:PySem.W.Frag) (x y:V) (H:Hp) (Q:VK):Prop
 | mk (a:_) (b:_) (xs:_) (q1:x=.ref a) (q2:y=.ref b) (q3:SqL K H a xs) (q4:SqL K H b []) (q5:Q (.bl (!decide (xs=[]))) H):BxRNeL K x y H Q
def rNeL (K:PySem.W.Frag):R2:=fun x y H Q=>BxRNeL K x y H Q
theorem Zu9 (hu:X.A.units<cLine):OpR X (compareOp .NotEq) (rNeL X.K):=by
 intro pins s σ H x y v u Q I rx ry h;obtain ⟨a,b,xs,rfl,rfl,h1,h2,q⟩:=h;cases rx;cases ry
 obtain ⟨us,r1,p1,_⟩:=I.list h1;obtain ⟨ws,r2,p2,_⟩:=I.list h2;have l1:=r1.length;have e:ws=[]:=r2.nil_iff.mpr rfl;subst e;cases hx:xs with
 | nil =>
   subst hx;have e:us=[]:=r1.nil_iff.mpr rfl;subst e;exact SeqAt.RcNeAt.lists (e:=fun j=>true) p1.isList p2.isList rfl hu (fun j h1 h2=>absurd h2 ?g) _ _ _ _ ⟨.bl _,H,I,rfl,q⟩
 | cons y ys =>
   subst hx;exact SeqAt.RcNeAt.lists_lengths p1.isList p2.isList (by simp at l1;simp [← l1]) hu _ _ _ _ ⟨.bl _,H,I,rfl,q⟩
theorem Zkc (K:PySem.W.Frag) (h:X.K=K):IxR X (rIxL K):=h ▸ Yz
theorem Yb (K:PySem.W.Frag) (h:X.K=K):IxR X (rIxT K):=h ▸ Z7
theorem X3 (K:PySem.W.Frag) (h:X.K=K):OpR X (compareOp .In) (rIn K false):=h ▸ Zna
theorem Zfv (K:PySem.W.Frag) (h:X.K=K):OpR X (compareOp .NotIn) (rIn K true):=h ▸ Zhc
theorem Zaf (K:PySem.W.Frag) (h:X.K=K):Yv X (.builtin "len") (Za5 K):=h ▸ Zp
theorem Zd7 (K:PySem.W.Frag) (h:X.K=K):Yv X (.type "tuple") (Xj K):=h ▸ Zx
theorem Zfw (K:PySem.W.Frag) (h:X.K=K):Yv X (.builtin "sorted") (Ze1 K):=h ▸ Zcy
theorem Zpw (K:PySem.W.Frag) {l:Expr} (h:X.K=K) (hl:PE X l tl):PI X tg l (Znj K tl):=h ▸ Yo hl
theorem Zi4 (K:PySem.W.Frag) {l:Expr} (h:X.K=K) (hl:PE X l tl):PI X tg l (iTup K tl):=h ▸ Y0 hl
theorem Zok {k:SK} {K:PySem.W.Frag} {Q:VK} (R:Hp→V→α→Prop) (hR:∀ H1 H2 v x,Tk H1 H2→R H1 v x→R H2 v x) (ys:List α) (hn:ys.length=vs.length) (hz:vs.length≤1000) (hD:H D=none) (ha:k.At H a vs)
 (hp:∀ (i:Nat) (w:V),vs[i]? = some w→∃ p x y,w=.ref p∧H p=some (.tup [x,y]))
 (hs:∀ (i:Nat) (p:Addr) (x y:V) (H2:Hp) (C:V→?o),vs[i]? = some (.ref p)→H p=some (.tup [x,y])→Same H H2→(∀ y H5 z,Same H2 H5→ys[i]? = some z→R H5 y z→C y H5)→te (some x :: some y :: rest) H2 C)
 (hd:∀ H2 us,Same H H2→H2 D=some (.lst us)→Al (R H2) us ys→Q (.ref D) H2):LcGo (k.Itk K a) ?C tYes te (u0 :: u1 :: rest) H D Q:=by
 refine Znq R hR ys hn hz (fun σ=>∃ u u',σ=u :: u' :: rest) ⟨_,_,rfl⟩ hD (fun i H2 s hi=>Zkj (ha.same s) hi) (fun H2 s=>Zdb (ha.same s) (n11_ _)) (fun i x σ2 H2 H3 C hi s y o c=>?_) hd;obtain ⟨u,u',rfl⟩:=o;obtain ⟨rfl,e⟩:=Zgc (ha.same s) y;obtain ⟨p,x1,y1,rfl,e2⟩:=hp i x e;exact ⟨p,[x1,y1],rfl,SqT.of (s _ _ e2),rfl,x1,[y1],rfl,y1,[],rfl,rfl,hs i p x1 y1 H3 (C (some x1 :: some y1 :: rest)) e e2 s fun y H5 z s5 ez rz=>c _ y H5 z ⟨_,_,rfl⟩ s5 ez rz⟩
theorem Zsx {K:PySem.W.Frag} {Q:VK} (ha:H a=some (.tup vs)) (al:Al (IsI H) vs ps) (hl:ps.flatten.length<1000) (hD:H D=none)
 (hd:∀ S,Q (.ref D) (upd H D (.set S (cntS ps.flatten)))) :
 ScGo (Itt K a) (Zy 0) (iTup K (tVar 0)) (Zy 1) (tVar 1) (u0 :: u1 :: rest) H D Q:=by
 have hsz:∀ l:?e,(l.foldl Zbb (fun _=>false,0)).2≤l.length:=by
  intro l
  have:∀ (l:?e) q,(l.foldl Zbb q).2≤q.2+l.length:=by
   intro l
   induction l with
   | nil=>intro q;simp
   | cons x l ih =>
     intro q
     have:=ih (Zbb q x)
     rw [n73_,n18_];have h2:(Zbb q x).2≤q.2+1:=by unfold Zbb;dsimp only;split<;>omega
     omega
  have:=this l (fun _=>false,0)
  simpa using this
 have sb:∀ n,n<1001→n+1<scanBound:=fun n h=>Nat.lt_trans (show n+1<1002 by omega) ?f
 let f:?e→(Int→Bool)×Nat:=fun l=>l.foldl Zbb (fun _=>false,0)
 refine ⟨fun i m σ H2=>m=vs.length-i∧i≤vs.length∧(∃ u u',σ=u :: u' :: rest)∧H2=upd H D (.set (f (ps.take i).flatten).1 (f (ps.take i).flatten).2),⟨_,rfl,n42_ _,⟨_,_,rfl⟩,by simp [f]⟩,?_⟩;rintro i m σ2 H2 ⟨rfl,hi,⟨u,u',rfl⟩,rfl⟩
 have e0:upd H D (.set (f (ps.take i).flatten).1 (f (ps.take i).flatten).2) a=some (.tup vs):=by rw [Zh (Zi ha hD)];exact ha
 by_cases hlt:i<vs.length
 · refine .inr ⟨⟨vs,vs[i],SqT.of e0,n1_ hlt⟩,fun x H3 y=>?_⟩;obtain ⟨rfl,y2⟩:=y;have ex:=y2 vs (SqT.of e0);obtain ⟨p,ep,b,rfl,hb⟩:=al.get ex;have hip:i<ps.length:=(n12_.mp ep).1;have tk:ps.take (i+1)=ps.take i++[p]:=by rw [n61_,ep];rfl
   have fl:(ps.take (i+1)).flatten=(ps.take i).flatten++p:=by rw [tk];simp
   have le1:(ps.take (i+1)).flatten.length≤ps.flatten.length:=by
    have:=congrArg (fun l:List (?e)=>l.flatten.length) (List.take_append_drop (i+1) ps)
    rw [List.flatten_append,n21_] at this;omega
   have eb:∀ o,upd H D o b=some (.tup (p.map V.int)):=fun o=>by rw [Zh (Zi hb hD)];exact hb
   refine ⟨.ref b,rfl,b,rfl,⟨_,SqT.of (eb _)⟩,?_⟩;refine ⟨fun i1 m1 σ6 H6=>m1=p.length-i1∧i1≤p.length∧(∃ u',σ6=some (.ref b) :: u' :: rest)∧H6=upd H D (.set (f ((ps.take i).flatten++p.take i1)).1 (f ((ps.take i).flatten++p.take i1)).2),⟨_,rfl,n42_ _,⟨_,rfl⟩,by simp⟩,?_⟩;rintro i1 m1 σ6 H6 ⟨rfl,hi1,⟨u2,rfl⟩,rfl⟩
   by_cases hl1:i1<p.length
   · refine .inr ⟨⟨p.map V.int,V.int p[i1],SqT.of (eb _),by simp [hl1]⟩,fun y H7 yy=>?_⟩;obtain ⟨rfl,y3⟩:=yy;have ey:=y3 _ (SqT.of (eb _));rw [n7_,n1_ hl1] at ey;cases ey
     have len:(ps.take i).flatten.length+p.length≤ps.flatten.length:=by rw [fl,n21_] at le1;exact le1
     refine ⟨_,rfl,p[i1],_,_,rfl,Zc,sb _ ?_,_,(?d:p.length-(i1+1)<_),rfl,?d,⟨_,rfl⟩,?_⟩
     · have:=hsz ((ps.take i).flatten++p.take i1)
       simp only [f];rw [n21_,n59_] at this;omega
     · have e5:p.take (i1+1)=p.take i1++[p[i1]]:=List.take_succ_eq_append_getElem hl1;rw [Zty,e5,← n49_];simp only [f,List.foldl_append,n73_,List.foldl_nil];rfl
   · refine .inl ⟨⟨_,SqT.of (eb _),by simp;omega⟩,_,(?d:vs.length-(i+1)<_),rfl,?d,⟨_,_,rfl⟩,?_⟩;rw [fl,show p.take i1=p from n45_ (?d)]
 · have e:i=vs.length:=?d
   subst e;refine .inl ⟨⟨vs,SqT.of e0,n11_ _⟩,?_⟩;rw [n45_ (by rw [al.1];exact n11_ _)];exact hd _
theorem Zo2:Yv X (.builtin "len") (fun xs H Q=>∃ D S n,xs=[.ref D]∧H D=some (.set S n)∧Q (.int n) H):=by
 intro pins s σ H xs us Q I r h;obtain ⟨D,S,n,rfl,hS,q⟩:=h;cases r with
 | cons rx r =>
   cases r
   cases (show _=Value.ref D from rx)
   obtain ⟨o,es,ep,t,e,ex,d,_,_,sz,f,en⟩:=(show ObjOk X.prog X.w H s.heap D (.set S n) from I.hok D _ hS);have hl:=Zdl
   have:(4096:Nat)=scanBound:=rfl
   refine call_len_set e ex d f (?d) ⟨.int n,H,I.tok _,⟨_,by rw [en]⟩,q⟩
theorem Zef {pos' spos:Pos} {g':TG}
 (hw:swapsWith (.ListComp elt [⟨tg,iter,ifs,0⟩] scope pos) (some (.Name x pos')) spos.line X.env=pure true)
 (hc:X.calm=true) (hg':PG X (.Name x pos') g') (L:LcO X scope cl N fr) (hi:PI X tg iter wi) (hg:∀ C s3 H3 fp,PG ?B tg g)
 (ht:∀ C s3 H3 fp,PIfs ?B ifs tt) (he:∀ C s3 H3 fp,PE ?B elt te)
 (hs:∀ x,foldedSetIterable iter X.env x=pure x:=by intro _;rfl):PS X (.Assign [.Name x pos'] (.ListComp elt [⟨tg,iter,ifs,0⟩] scope pos) spos) (tAsg (tLC wi g tt te fr) g'):=by
 intro pins s σ H D I h;rw [exec_Assign_Name_used _ _ _ _ hw];refine n0_ (wpAny_standAt (n0_ ?_));rw [arm_evalThenUse_ListComp];refine n0_ (wpAny_comprehension_free (Q:=fun _ s'=>wpAny ?t X.A (pure ()) (fun _ s''=>wpAny ?t X.A (pure Flow.next) (SP X pins D) X.xe s'') X.xe s') (use:=some (assign (.Name x pos') X.env)) rfl hs L.clos L.kind L.names (thn (hi pins s σ H _ I h) fun v s1 h1=>thn h1 fun itv s2 h2=>?_));obtain ⟨it,fp,tn,J,H2,e,I2,T,st2,f2,h⟩:=h2;subst e;obtain ⟨W,⟨m0,w0⟩,turn⟩:=h s2.z (I2.hok.fresh (n11_ _));refine wpAny_newObj_type ?_;generalize hs3:({ s2 with heap:=s2.heap.push { cls:=.type "list",dict:=none,data:=.seq ([]:?q).toArray } }:Shared)=s3;refine Zbu (ac:=.lst []) hs3.symm hc L hg I2 T st2 f2 ⟨n42_ _,[],_,.nil,n8_ _ rfl⟩ w0 turn (fun _ _ a b=>codeAny_compStart_list a (b _)) (fun LI s4 t n h=>Zcq LI t n h) (fun H6 s7 qn I3 fr7 c=>?_) (Zom ht he);obtain ⟨m7,hn7,c7⟩:=c;have I8:Inv X pins σ H6 s7:=c7 s7.heap (Heap.SameBut.refl ..)
 have fpC:∀ {H6:Hp},H6 s3.z=none→∀ b∈[s3.z],FpOk X pins H6 b:=fun fr b hb=>by
  rw [n25_] at hb;subst hb;exact I3.fpOk (n11_ _) fr
 obtain ⟨oC,esC,epC,geC,dC,skC,nfC⟩:=hn7
 have I9:=I8.pinned (fpC fr7) (fun b hb=>by
  rw [n25_] at hb;subst hb;exact ⟨oC,geC,fun v z=>by rw [dC] at z;cases z⟩)
 refine thn (hg' _ s7 σ H6 (.ref s2.z) (.ref s2.z) _ I9 rfl qn) fun _ s9 ⟨σ9,H9,I10,q9⟩=>?_;have pC:=I10.pin (s3.z,oC) (n29_ _ (n29_ _ (Y3 (n25_.mpr rfl) geC)));refine ⟨m7,⟨oC,esC,epC,pC.1,dC,skC,nfC⟩,fun h' sb=>?_⟩;refine n2_ (n2_ ?_);exact ⟨σ9,H9,I10.unpinned.turnGen (t':=s9.toks) (ch:=[s3.z]) (fun b u nb e=>(sb.2 b (fun z=>nb (by rw [z];exact n25_.mpr rfl))).trans e) (fpC pC.2.1) (fun _ _ e=>e) (fun _ _ _ e=>e) (fun b u e1 e2=>by rw [e1] at e2;cases e2),q9⟩
def tD (a b c x y q:Pnt):Int:=tn a b c*tn x y q
def inS (a b c q:Pnt):Prop:=0≤tD a b c a b q∧0≤tD a b c b c q∧0≤tD a b c c a q
def bey (a b c x y u v w:Pnt):Prop:=tD a b c x y u≤0∧tD a b c x y v≤0∧tD a b c x y w≤0
def sepS (a b c u v w:Pnt):Prop:=bey a b c a b u v w∨bey a b c b c u v w∨bey a b c c a u v w
instance {a b c q:Pnt}:Decidable (inS a b c q):=by unfold inS;infer_instance
instance {a b c x y u v w:Pnt}:Decidable (bey a b c x y u v w):=by unfold bey;infer_instance
instance {a b c u v w:Pnt}:Decidable (sepS a b c u v w):=by unfold sepS;infer_instance
theorem Zbj (a b q:Pnt):tn b a q =-tn a b q:=by unfold tn;grind
theorem Zrr (a b c:Pnt):tn b c a=tn a b c:=by unfold tn;grind
theorem Zti (a b c x y q:Pnt):tD b a c x y q=tD a b c y x q:=by
 unfold tD;rw [Zbj a b c,Zbj x y q];grind
theorem Zrz (a b c x y q:Pnt):tD b c a x y q=tD a b c x y q:=by unfold tD;rw [Zrr]
theorem Znp (a b c x y q:Pnt):tD b a c y x q=tD a b c x y q:=Zti a b c y x q
theorem Zsi {a b c q:Pnt} (h:inS a b c q):inS b c a q:=by
 unfold inS at *;simp only [Zrz];exact ⟨h.2.1,h.2.2,h.1⟩
theorem Zuf {a b c q:Pnt} (h:inS a b c q):inS b a c q:=by
 unfold inS at *;simp only [Znp];exact ⟨h.1,h.2.2,h.2.1⟩
theorem Zsc {a b c x y u v w:Pnt}:bey b c a x y u v w=bey a b c x y u v w:=by unfold bey;simp only [Zrz]
theorem Zu6 {a b c x y u v w:Pnt}:bey b a c y x u v w=bey a b c x y u v w:=by unfold bey;simp only [Znp]
theorem Zsv {a b c u v w:Pnt} (h:sepS a b c u v w):sepS b c a u v w:=by
 unfold sepS at *;simp only [Zsc];rcases h with h|h|h
 · exact .inr (.inr h)
 · exact .inl h
 · exact .inr (.inl h)
theorem Zuq {a b c u v w:Pnt} (h:sepS a b c u v w):sepS b a c u v w:=by
 unfold sepS at *;simp only [Zu6];rcases h with h|h|h
 · exact .inl h
 · exact .inr (.inr h)
 · exact .inr (.inl h)
theorem Zql {a b c u v w:Pnt} (h:sepS a b c u v w):sepS a b c v w u:=by
 unfold sepS bey at *;rcases h with ⟨h1,h2,h3⟩|⟨h1,h2,h3⟩|⟨h1,h2,h3⟩
 · exact .inl ⟨h2,h3,h1⟩
 · exact .inr (.inl ⟨h2,h3,h1⟩)
 · exact .inr (.inr ⟨h2,h3,h1⟩)
theorem Ztw {a b c u v w:Pnt} (h:sepS a b c u v w):sepS a b c v u w:=by
 unfold sepS bey at *;rcases h with ⟨h1,h2,h3⟩|⟨h1,h2,h3⟩|⟨h1,h2,h3⟩
 · exact .inl ⟨h2,h1,h3⟩
 · exact .inr (.inl ⟨h2,h1,h3⟩)
 · exact .inr (.inr ⟨h2,h1,h3⟩)
theorem Zp8 [DecidableEq α] {x y z a b c:α} (h:[x,y,z].Perm [a,b,c]) (P:α→α→α→Prop) (rot:∀ a b c,P a b c→P b c a) (sw:∀ a b c,P a b c→P b a c) (p:P a b c):P x y z:=by
 have hx:x∈[a,b,c]:=h.mem_iff.mp ?g;simp only [n9_,n10_,or_false] at hx
 have two:∀ {y z b c:α},[y,z].Perm [b,c]→(y=b∧z=c)∨(y=c∧z=b):=by
  intro y z b c h;have hy:y∈[b,c]:=h.mem_iff.mp ?g;simp only [n9_,n10_,or_false] at hy
  rcases hy with rfl|rfl
  · have:=List.perm_cons y |>.mp h
    exact .inl ⟨rfl,by simpa using this⟩
  · have:=List.perm_cons y |>.mp (h.trans (List.Perm.swap y b []))
    exact .inr ⟨rfl,by simpa using this⟩
 rcases hx with rfl|rfl|rfl
 · rcases two ((List.perm_cons x).mp h) with ⟨rfl,rfl⟩|⟨rfl,rfl⟩
   · exact p
   · exact sw _ _ _ (rot _ _ _ (rot _ _ _ p))
 · rcases two ((List.perm_cons x).mp (h.trans (List.Perm.swap x a [c]))) with ⟨rfl,rfl⟩|⟨rfl,rfl⟩
   · exact sw _ _ _ p
   · exact rot _ _ _ p
 · have h2:[x,y,z].Perm [x,a,b]:=h.trans (((List.Perm.swap x b []).cons a).trans (List.Perm.swap x a [b]))
   rcases two ((List.perm_cons x).mp h2) with ⟨rfl,rfl⟩|⟨rfl,rfl⟩
   · exact rot _ _ _ (rot _ _ _ p)
   · exact sw _ _ _ (rot _ _ _ p)
theorem Zln {a b c q:Pnt} (hd:tn a b c≠0):Zbz q (tri a b c)=true↔inS a b c q:=by
 unfold Zbz tri inS tD
 by_cases h:tn a b c<0
 · rw [if_pos h];have e1:tn a c q =-tn c a q:=Zbj c a q;have e2:tn c b q =-tn b c q:=Zbj b c q;have e3:tn b a q =-tn a b q:=Zbj a b q;simp only [Tri.edges,n31_,List.map_nil,List.all_cons,List.all_nil,id,Bool.and_true,n40_,decide_eq_true_eq,e1,e2,e3]
   have k:∀ t:Int,(0≤tn a b c*t↔0≤-t):=fun t=>by
    constructor
    · intro g
      by_cases ht:0<t
      · have:=Int.mul_neg_of_neg_of_pos h ht
        omega
      · omega
    · intro g;exact Int.mul_nonneg_of_nonpos_of_nonpos (?d) (?d)
   rw [k,k,k];constructor
   · rintro ⟨h1,h2,h3⟩;exact ⟨h3,h2,h1⟩
   · rintro ⟨h1,h2,h3⟩;exact ⟨h3,h2,h1⟩
 · rw [if_neg h];have hp:0<tn a b c:=?d
   simp only [Tri.edges,n31_,List.map_nil,List.all_cons,List.all_nil,id,Bool.and_true,n40_,decide_eq_true_eq]
   have k:∀ t:Int,(0≤tn a b c*t↔0≤t):=fun t=>by
    constructor
    · intro g
      by_cases ht:t<0
      · have:=Int.mul_neg_of_pos_of_neg hp ht
        omega
      · omega
    · intro g;exact Int.mul_nonneg (?d) g
   rw [k,k,k]
theorem Zeb {e:Pnt×Pnt} {u v w:Pnt} {t:Tri} (ht:t=tri u v w):Zde e t=true↔tn e.1 e.2 u≤0∧tn e.1 e.2 v≤0∧tn e.1 e.2 w≤0:=by
 subst ht;unfold Zde tri;split
 · simp only [Tri.pts,n31_,List.map_nil,List.all_cons,List.all_nil,id,Bool.and_true,n40_,decide_eq_true_eq];constructor
   · rintro ⟨h1,h2,h3⟩;exact ⟨h1,h3,h2⟩
   · rintro ⟨h1,h2,h3⟩;exact ⟨h1,h3,h2⟩
 · simp only [Tri.pts,n31_,List.map_nil,List.all_cons,List.all_nil,id,Bool.and_true,n40_,decide_eq_true_eq]
theorem Zcp {a b c u v w:Pnt} (hd:tn a b c≠0) (h:sepS a b c u v w):Y9 (tri a b c) (tri u v w)=true:=by
 unfold Y9
 have k:∀ x y:Pnt,bey a b c x y u v w→(tn a b c<0→Zde (y,x) (tri u v w)=true)∧(¬ tn a b c<0→Zde (x,y) (tri u v w)=true):=by
  intro x y g;unfold bey tD at g;refine ⟨fun hn=>(Zeb rfl).mpr ?_,fun hn=>(Zeb rfl).mpr ?_⟩
  · have kk:∀ q:Pnt,tn a b c*tn x y q≤0→tn y x q≤0:=fun q hq=>by
     rw [Zbj x y q]
     by_cases ht:tn x y q<0
     · have:=Int.mul_pos_of_neg_of_neg hn ht
       omega
     · omega
    exact ⟨kk _ g.1,kk _ g.2.1,kk _ g.2.2⟩
  · have hp:0<tn a b c:=?d
    have kk:∀ q:Pnt,tn a b c*tn x y q≤0→tn x y q≤0:=fun q hq=>by
     by_cases ht:0<tn x y q
     · have:=Int.mul_pos hp ht
       omega
     · omega
    exact ⟨kk _ g.1,kk _ g.2.1,kk _ g.2.2⟩
 rw [List.any_eq_true];generalize tri u v w=T at k ⊢;unfold tri
 by_cases hn:tn a b c<0
 · rw [if_pos hn]
   rcases h with h|h|h
   · exact ⟨(b,a),by simp [Tri.edges],(k _ _ h).1 hn⟩
   · exact ⟨(c,b),by simp [Tri.edges],(k _ _ h).1 hn⟩
   · exact ⟨(a,c),by simp [Tri.edges],(k _ _ h).1 hn⟩
 · rw [if_neg hn]
   rcases h with h|h|h
   · exact ⟨(a,b),by simp [Tri.edges],(k _ _ h).2 hn⟩
   · exact ⟨(b,c),by simp [Tri.edges],(k _ _ h).2 hn⟩
   · exact ⟨(c,a),by simp [Tri.edges],(k _ _ h).2 hn⟩
structure Aff where
 a:Int
 b:Int
 c:Int
 d:Int
 s:Int
 t:Int
def Aff.at (A:Aff) (p:Pnt):Pnt:=(A.a*p.1+A.b*p.2+A.s,A.c*p.1+A.d*p.2+A.t)
def Aff.det (A:Aff):Int:=A.a*A.d-A.b*A.c
theorem Aff.tn (A:Aff) (p q r:Pnt):L2.tn (A.at p) (A.at q) (A.at r)=A.det*L2.tn p q r:=by
 unfold L2.tn Aff.at Aff.det;dsimp only
 grind
theorem Aff.tD (A:Aff) (a b c x y q:Pnt):L2.tD (A.at a) (A.at b) (A.at c) (A.at x) (A.at y) (A.at q)=A.det*A.det*L2.tD a b c x y q:=by
 unfold L2.tD;rw [A.tn,A.tn]
 grind
theorem Aff.sq {A:Aff} (h:A.det≠0):0<A.det*A.det:=by
 by_cases g:0<A.det
 · exact Int.mul_pos g g
 · exact Int.mul_pos_of_neg_of_neg (?d) (?d)
theorem Aff.nn {A:Aff} (h:A.det≠0) (t:Int):0≤A.det*A.det*t↔0≤t:=by
 have hp:=A.sq h;constructor
 · intro g
   by_cases ht:t<0
   · have:=Int.mul_neg_of_pos_of_neg hp ht
     omega
   · omega
 · intro g;exact Int.mul_nonneg (?d) g
theorem Aff.np {A:Aff} (h:A.det≠0) (t:Int):A.det*A.det*t≤0↔t≤0:=by
 have hp:=A.sq h;constructor
 · intro g
   by_cases ht:0<t
   · have:=Int.mul_pos hp ht
     omega
   · omega
 · intro g
   have:=Int.mul_nonneg (a:=A.det*A.det) (b:=-t) (?d) (?d)
   rw [Int.mul_neg] at this;omega
theorem Aff.inS {A:Aff} (h:A.det≠0) {a b c q:Pnt}:L2.inS (A.at a) (A.at b) (A.at c) (A.at q)↔L2.inS a b c q:=by
 unfold L2.inS;rw [A.tD,A.tD,A.tD,A.nn h,A.nn h,A.nn h]
theorem Aff.bey {A:Aff} (h:A.det≠0) {a b c x y u v w:Pnt}:L2.bey (A.at a) (A.at b) (A.at c) (A.at x) (A.at y) (A.at u) (A.at v) (A.at w)↔L2.bey a b c x y u v w:=by
 unfold L2.bey;rw [A.tD,A.tD,A.tD,A.np h,A.np h,A.np h]
theorem Aff.sep {A:Aff} (h:A.det≠0) {a b c u v w:Pnt}:L2.sepS (A.at a) (A.at b) (A.at c) (A.at u) (A.at v) (A.at w)↔L2.sepS a b c u v w:=by
 unfold L2.sepS;rw [A.bey h,A.bey h,A.bey h]
theorem Aff.inj {A:Aff} (h:A.det≠0) {p q:Pnt} (e:A.at p=A.at q):p=q:=by
 unfold Aff.at at e;have e1:=congrArg Prod.fst e;have e2:=congrArg Prod.snd e;dsimp only at e1 e2;unfold Aff.det at h;have f1:(A.a*A.d-A.b*A.c)*(p.1-q.1)=0:=by grind
 have f2:(A.a*A.d-A.b*A.c)*(p.2-q.2)=0:=by grind
 have g1:=(Int.mul_eq_zero.mp f1).resolve_left h;have g2:=(Int.mul_eq_zero.mp f2).resolve_left h;exact Prod.ext (?d) (?d)
def Zk1 (pts:List Pnt):?e→Bool
 | [i,j,k]=>decide (0≤i∧i<(pts.length:Int))&&decide (0≤j∧j<(pts.length:Int))&&decide (0≤k∧k<(pts.length:Int))&&decide (i≠j∧i≠k∧j≠k)&&decide (tn (cAt pts i) (cAt pts j) (cAt pts k)≠0) &&
    (List.range pts.length).all fun x=>decide ((x:Int)=i∨(x:Int)=j∨(x:Int)=k)||!decide (inS (cAt pts i) (cAt pts j) (cAt pts k) (cAt pts x))
 | _=>false
def sepB (pts:List Pnt):?e→?e→Bool
 | [i,j,k],[u,v,w]=>decide (sepS (cAt pts i) (cAt pts j) (cAt pts k) (cAt pts u) (cAt pts v) (cAt pts w))||decide (sepS (cAt pts u) (cAt pts v) (cAt pts w) (cAt pts i) (cAt pts j) (cAt pts k))
 | _,_=>false
def Zqj (N M:Nat) (pts:List Pnt) (pcs:List (?e)):Bool :=
 decide (3≤pts.length∧pts.length≤N)&&decide (1≤pcs.length∧pcs.length≤M)&&decide pts.Nodup&&pcs.all (Zk1 pts) &&
  ((List.range pts.length).all fun k=>pcs.any fun p=>decide ((k:Int)∈p)) &&
  (List.range pcs.length).all fun i=>(List.range pcs.length).all fun j=>decide (i=j)||(sepB pts (pcs.getD i []) (pcs.getD j [])&&(pcs.getD i []).any fun x=>decide (x∉pcs.getD j []))
structure BaseG (N M:Nat) (pts:List Pnt) (pcs:List (?e)):Prop where
 n3:3≤pts.length
 n6:pts.length≤N
 p1:1≤pcs.length
 p4:pcs.length≤M
 nd:pts.Nodup
 pc:∀ p∈pcs,Zk1 pts p=true
 us:∀ k:Nat,k<pts.length→∃ p∈pcs,(k:Int)∈p
 sep:∀ i j:Nat,i<pcs.length→j<pcs.length→i≠j→sepB pts (pcs.getD i []) (pcs.getD j [])=true∧∃ x∈pcs.getD i [],x∉pcs.getD j []
theorem Zcj {N M:Nat} {pts:List Pnt} {pcs:List (?e)} (h:Zqj N M pts pcs=true):BaseG N M pts pcs:=by
 unfold Zqj at h;simp only [n40_,decide_eq_true_eq,n44_,List.any_eq_true,n35_,Bool.or_eq_true] at h;obtain ⟨⟨⟨⟨⟨⟨h1,h2⟩,h3,h4⟩,h6⟩,h7⟩,h8⟩,h9⟩:=h;exact ⟨h1,h2,h3,h4,h6,h7,h8,fun i j hi hj ne=>(h9 i hi j hj).resolve_left ne⟩
structure Base (pts:List Pnt) (pcs:List (?e)):Prop extends BaseG 6 4 pts pcs where
 bd:∀ p∈pts,p.1.natAbs≤6∧p.2.natAbs≤6
structure CoOrd (n:Nat) (o:?e):Prop where
 len:o.length=n
 bd:∀ j:Nat,j<n→0≤o.getD j 0∧o.getD j 0<n
 inj:∀ i j:Nat,i<n→j<n→o.getD i 0=o.getD j 0→i=j
 sur:∀ k:Nat,k<n→∃ j:Nat,j<n∧o.getD j 0=k
theorem Zuc {o:?e} (h:o.Perm ((List.range n).map fun i:Nat=>(i:Int))):CoOrd n o:=by
 have hl:o.length=n:=by rw [h.length_eq];simp
 have nd:o.Nodup:=h.symm.nodup (List.Pairwise.map _ (fun a b ne e=>ne (Int.ofNat.inj e)) List.nodup_range);have g:∀ j:Nat,(hj:j<n)→o.getD j 0=o[j]'(?d):=fun j hj=>by rw [n4_,n1_ (?d)];rfl
 refine ⟨hl,fun j hj=>?_,fun i j hi hj e=>?_,fun k hk=>?_⟩
 · rw [g j hj]
   have:o[j]'(?d)∈(List.range n).map fun i:Nat=>(i:Int):=h.mem_iff.mp (n51_ _)
   obtain ⟨k,hk,e⟩:=n24_.mp this
   have:=n35_.mp hk
   omega
 · rw [g i hi,g j hj] at e;exact (n60_ nd).mp e
 · have:(k:Int)∈o:=h.mem_iff.mpr (n24_.mpr ⟨k,n35_.mpr hk,rfl⟩)
   obtain ⟨j,hj,e⟩:=n48_ this;exact ⟨j,?d,by rw [g j (?d)];exact e⟩
def oAt (o:?e) (i:Int):Int:=o.getD i.toNat 0
theorem Zop {pts:List Pnt} (h:Zk1 pts p=true):∃ i j k,p=[i,j,k]∧(0≤i∧i<(pts.length:Int))∧(0≤j∧j<(pts.length:Int))∧(0≤k∧k<(pts.length:Int))∧(i≠j∧i≠k∧j≠k)∧tn (cAt pts i) (cAt pts j) (cAt pts k)≠0 ∧
 ∀ x:Nat,x<pts.length→(x:Int)∉p→¬ inS (cAt pts i) (cAt pts j) (cAt pts k) (cAt pts x):=by
 unfold Zk1 at h;split at h
 · rename_i i j k
   simp only [n40_,decide_eq_true_eq,n44_,n35_,Bool.or_eq_true,Bool.not_eq_true',decide_eq_false_iff_not] at h;obtain ⟨⟨⟨⟨⟨h1,h2⟩,h3⟩,h4⟩,h5⟩,h6⟩:=h;refine ⟨i,j,k,rfl,h1,h2,h3,h4,h5,fun x hx nm=>(h6 x hx).resolve_left fun z=>nm ?_⟩
   simpa using z
 · cases h
theorem Zhh:∀ r:?e,HT.lexLt r r=false:=by
 intro r
 induction r with
 | nil=>rfl
 | cons x r ih=>simp [HT.lexLt,ih]
theorem Zns (l:?e) (hb:∀ x∈l,0≤x∧x<n) (hs:∀ k:Nat,k<n→(k:Int)∈l):cntS l=n:=by
 have key:∀ (l:?e),(∀ x∈l,0≤x∧x<n)→∀ q:(Int→Bool)×Nat,q.2=(List.range n).countP (fun k:Nat=>q.1 k)→(l.foldl Zbb q).2=(List.range n).countP (fun k:Nat=>(l.foldl Zbb q).1 k)∧∀ x,(l.foldl Zbb q).1 x=(q.1 x||decide (x∈l)):=by
  intro l
  induction l with
  | nil=>intro _ q h;exact ⟨h,fun x=>by simp⟩
  | cons y l ih =>
    intro hb q h;rw [n73_];have hy:=hb y n19_
    have step:(Zbb q y).2=(List.range n).countP (fun k:Nat=>(Zbb q y).1 k):=by
     unfold Zbb;dsimp only
     by_cases g:q.1 y=true
     · rw [if_pos g,h];refine congrArg (fun f=>List.countP f (List.range n)) (funext fun k=>?_)
       by_cases e:(k:Int)=y
       · rw [e,g];rfl
       · simp [e]
     · rw [if_neg g,h];have g':q.1 y=false:=by simpa using g
       obtain ⟨m,rfl⟩:∃ m:Nat,y=m:=⟨y.toNat,?d⟩;have hm:m<n:=?d
       have:∀ r:Nat,(List.range r).countP (fun k:Nat=>q.1 k||decide ((k:Int)=(m:Int)))=(List.range r).countP (fun k:Nat=>q.1 k)+(if m<r then 1 else 0):=by
        intro r
        induction r with
        | zero=>rfl
        | succ r ihr =>
          rw [List.range_succ,List.countP_append,List.countP_append,ihr];simp only [List.countP_singleton]
          by_cases e:r=m
          · subst e;rw [g']
            simp
          · have e2:¬ (r:Int)=(m:Int):=?d
            simp only [e2,decide_false,Bool.or_false];have e3:(m<r+1)↔(m<r):=?d
            simp only [e3];omega
       rw [this n,if_pos hm]
    obtain ⟨i1,i2⟩:=ih (fun x hx=>hb x (n16_ _ hx)) (Zbb q y) step;refine ⟨i1,fun x=>?_⟩;rw [i2];unfold Zbb;dsimp only
    by_cases e:x=y
    · subst e;simp
    · simp [e]
 obtain ⟨k1,k2⟩:=key l hb (fun _=>false,0) ?g;unfold cntS;rw [k1]
 have:(List.range n).countP (fun k:Nat=>(l.foldl Zbb (fun _=>false,0)).1 k)=(List.range n).length:=by
  rw [List.countP_eq_length];intro k hk;rw [k2];simp [hs k (n35_.mp hk)]
 rw [this,n76_]
structure Small (A:Aff):Prop where
 a:A.a.natAbs≤3
 b:A.b.natAbs≤3
 c:A.c.natAbs≤3
 d:A.d.natAbs≤3
 s:A.s.natAbs≤30
 t:A.t.natAbs≤30
theorem Ztl {A:Aff} (S:Small A) {p:Pnt} (h:p.1.natAbs≤6∧p.2.natAbs≤6):near (A.at p):=by
 have h1:(A.a*p.1).natAbs≤3*6:=by rw [Int.natAbs_mul];exact Nat.mul_le_mul S.a h.1
 have h2:(A.b*p.2).natAbs≤3*6:=by rw [Int.natAbs_mul];exact Nat.mul_le_mul S.b h.2
 have h3:(A.c*p.1).natAbs≤3*6:=by rw [Int.natAbs_mul];exact Nat.mul_le_mul S.c h.1
 have h4:(A.d*p.2).natAbs≤3*6:=by rw [Int.natAbs_mul];exact Nat.mul_le_mul S.d h.2
 have r:∀ {u v w:Int},u.natAbs≤3*6→v.natAbs≤3*6→w.natAbs≤30→(u+v+w).natAbs≤100:=fun a b c=>n53_ (Int.natAbs_add_le _ _) (n53_ (Nat.add_le_add (n53_ (Int.natAbs_add_le _ _) (Nat.add_le_add a b)) c) ?f);have k:∀ {z:Int},z.natAbs≤100→-100≤z∧z≤100:=fun h=>?d
 exact ⟨k (r h1 h2 S.s),k (r h3 h4 S.t)⟩
structure DrawnG (N M:Nat) (pts:List Pnt) (pcs:List (?e)) (A:Aff) (o:?e) (cs:List Pnt) (kl:List (?e)) (q:List Nat):Prop where
 base:BaseG N M pts pcs
 det:A.det≠0
 nr:∀ p∈pts,near (A.at p)
 ord:CoOrd pts.length o
 len:cs.length=pts.length
 at_:∀ j:Nat,j<pts.length→cs[(o.getD j 0).toNat]? = some (A.at (pts.getD j (0,0)))
 klen:kl.length=pcs.length
 key:∀ i:Nat,i<pcs.length→(kl.getD i []).Perm ((pcs.getD i []).map (oAt o))∧(kl.getD i []).Pairwise (·≤·)
 perm:q.Perm (List.range pcs.length)
structure Drawn (pts:List Pnt) (pcs:List (?e)) (A:Aff) (o:?e) (cs:List Pnt) (kl:List (?e)) (q:List Nat):Prop extends DrawnG 6 4 pts pcs A o cs kl q where
 bd:∀ p∈pts,p.1.natAbs≤6∧p.2.natAbs≤6
 small:Small A
theorem Drawn.of {pts:List Pnt} {pcs:List (?e)} {A:Aff} {o:?e} {cs:List Pnt} {kl:List (?e)} {q:List Nat} (b:Base pts pcs) (d:A.det≠0) (S:Small A) (ord:CoOrd pts.length o) (len:cs.length=pts.length)
 (at_:∀ j:Nat,j<pts.length→cs[(o.getD j 0).toNat]? = some (A.at (pts.getD j (0,0)))) (klen:kl.length=pcs.length) (key:∀ i:Nat,i<pcs.length→(kl.getD i []).Perm ((pcs.getD i []).map (oAt o))∧(kl.getD i []).Pairwise (·≤·))
 (perm:q.Perm (List.range pcs.length)):Drawn pts pcs A o cs kl q:=⟨⟨b.toBaseG,d,fun p hp=>Ztl S (b.bd p hp),ord,len,at_,klen,key,perm⟩,b.bd,S⟩
section
variable {N M:Nat} {pts:List Pnt} {pcs:List (?e)} {A:Aff} {o:?e} {cs:List Pnt} {kl:List (?e)} {q:List Nat}
theorem DrawnG.corner (D:DrawnG N M pts pcs A o cs kl q) {i:Int} (h:0≤i∧i<pts.length):cAt cs (oAt o i)=A.at (cAt pts i):=by
 obtain ⟨n,rfl⟩:∃ n:Nat,i=n:=⟨i.toNat,?d⟩
 have:=D.at_ n (?d)
 unfold cAt oAt;rw [show ((n:Int)).toNat=n from rfl,n4_ (i:=(o.getD n 0).toNat),this];rfl
theorem DrawnG.piece (D:DrawnG N M pts pcs A o cs kl q) (hn:n<pcs.length):∃ i j k x y z,pcs.getD n []=[i,j,k]∧kl.getD n []=[x,y,z]∧[x,y,z].Perm [oAt o i,oAt o j,oAt o k]∧(x<y∧y<z)∧(0≤i∧i<(pts.length:Int))∧(0≤j∧j<(pts.length:Int))∧(0≤k∧k<(pts.length:Int))∧tn (cAt pts i) (cAt pts j) (cAt pts k)≠0 ∧
 ∀ x:Nat,x<pts.length→(x:Int)∉[i,j,k]→¬ inS (cAt pts i) (cAt pts j) (cAt pts k) (cAt pts x):=by
 have hm:pcs.getD n []∈pcs:=by rw [n4_,n1_ hn];exact n51_ hn
 obtain ⟨i,j,k,e,hi,hj,hk,⟨n1,n2,n3⟩,hd,hs⟩:=Zop (D.base.pc _ hm);obtain ⟨pm,so⟩:=D.key n hn;rw [e] at pm hs;have l3:(kl.getD n []).length=3:=by rw [pm.length_eq];rfl
 generalize hr:kl.getD n []=r at *
 match r,l3 with
 | [x,y,z],_ =>
   have io:∀ {a b:Int},(0≤a∧a<(pts.length:Int))→(0≤b∧b<(pts.length:Int))→a≠b→oAt o a≠oAt o b:=fun {a b} ha hb ne z=>ne (by
    have:=D.ord.inj a.toNat b.toNat (?d) (?d) z
    omega)
   have nd:[x,y,z].Nodup:=pm.symm.nodup (by simp [io hi hj n1,io hi hk n2,io hj hk n3]);simp only [n71_,n9_,n10_,or_false,not_or,List.pairwise_cons] at nd so;have s1:=so.1 y ?g;have s2:=so.2.1 z ?g;exact ⟨i,j,k,x,y,z,e,rfl,pm,⟨?d,?d⟩,hi,hj,hk,hd,hs⟩
theorem DrawnG.knd (D:DrawnG N M pts pcs A o cs kl q):kl.Nodup:=by
 rw [n26_,n65_];intro i j hi hj lt e;rw [D.klen] at hi hj;obtain ⟨_,x,hx,nx⟩:=D.base.sep i j hi hj (?d);have g:∀ n,(h:n<pcs.length)→kl.getD n []=kl[n]'(by rw [D.klen];exact h):=fun n h=>by rw [n4_,n1_ (by rw [D.klen];exact h)];rfl
 have m1:oAt o x∈kl.getD i []:=(D.key i hi).1.mem_iff.mpr (n24_.mpr ⟨x,hx,rfl⟩);rw [g i hi,e,← g j hj] at m1;obtain ⟨y,hy,ey⟩:=n24_.mp ((D.key j hj).1.mem_iff.mp m1)
 have bdm:∀ n,n<pcs.length→∀ x∈pcs.getD n [],0≤x∧x<(pts.length:Int):=fun n hn x hx=>by
  obtain ⟨i,j,k,_,_,_,e,_,_,_,hi,hj,hk,_⟩:=D.piece hn;rw [e] at hx;simp only [n9_,n10_,or_false] at hx
  rcases hx with rfl|rfl|rfl<;>assumption
 have b1:=bdm i hi x hx;have b2:=bdm j hj y hy
 have:=D.ord.inj y.toNat x.toNat (?d) (?d) ey
 have:x=y:=?d
 exact nx (this ▸ hy)
theorem DrawnG.ok (D:DrawnG N M pts pcs A o cs kl q) {ts:?e} {l m:Int} (rise:(q.map fun i=>kl.getD i []).Pairwise fun a b=>HT.lexLt a b=true) (tl:ts.length=pcs.length) (t9:∀ t∈ts,1≤t∧t≤9) (l9:0≤l∧l≤9) (m9:1≤m∧m≤9) (hN:N≤30) (hM:M≤40) :
 PlOk ⟨cs,q.map fun i=>kl.getD i [],ts,l,m⟩:=by
 have n3:=D.base.n3;have n6:=D.base.n6;have p1:=D.base.p1;have p4:=D.base.p4;have hl:=D.len;have qlen:q.length=pcs.length:=by rw [D.perm.length_eq,n76_]
 have qlt:∀ i∈q,i<pcs.length:=fun i hi=>n35_.mp (D.perm.mem_iff.mp hi);have qnd:q.Nodup:=D.perm.symm.nodup List.nodup_range
 have whence:∀ k:Nat,k<cs.length→∃ j:Nat,j<pts.length∧o.getD j 0=k∧cs[k]? = some (A.at (pts.getD j (0,0))):=fun k hk=>by
  obtain ⟨j,hj,e⟩:=D.ord.sur k (?d)
  have:=D.at_ j hj
  rw [e] at this;exact ⟨j,hj,e,this⟩
 have ptm:∀ j:Nat,j<pts.length→pts.getD j (0,0)∈pts:=fun j hj=>by rw [n4_,n1_ hj];exact n51_ hj
 have pieceOk:∀ n,n<pcs.length→PieceOk cs (kl.getD n []):=fun n hn=>by
  obtain ⟨i,j,k,x,y,z,e,e2,pm,lt,hi,hj,hk,hd,hs⟩:=D.piece hn;rw [e2]
  have bo:∀ a∈[oAt o i,oAt o j,oAt o k],0≤a∧a≤(cs.length:Int)-1:=fun a ha=>by
   simp only [n9_,n10_,or_false] at ha;have b1:=D.ord.bd i.toNat (?d);have b2:=D.ord.bd j.toNat (?d);have b3:=D.ord.bd k.toNat (?d);unfold oAt at ha
   rcases ha with rfl|rfl|rfl<;>omega
  refine ⟨rfl,fun a ha=>bo a (pm.mem_iff.mp ha),lt,?_⟩;refine Zp8 pm (fun x y z=>tn (cAt cs x) (cAt cs y) (cAt cs z)≠0) (fun a b c h=>by rw [Zrr];exact h) (fun a b c h=>by rw [Zbj];omega) ?_;rw [D.corner hi,D.corner hj,D.corner hk,A.tn];exact Int.mul_ne_zero D.det hd
 have strange:∀ n,n<pcs.length→∀ j:Nat,j<cs.length→(j:Int)∉kl.getD n []→Zbz (cs.getD j (0,0)) (trOf cs (kl.getD n []))=false:=fun n hn jj hjj nm=>by
  have ok:=pieceOk n hn;obtain ⟨i,j,k,x,y,z,e,e2,pm,lt,hi,hj,hk,hd,hs⟩:=D.piece hn;rw [e2] at nm ok ⊢;have hne:=ok.d;refine Bool.eq_false_iff.mpr fun h=>?_;have h2:inS (cAt cs x) (cAt cs y) (cAt cs z) (cs.getD jj (0,0)):=(Zln hne).mp h;have h3:inS (cAt cs (oAt o i)) (cAt cs (oAt o j)) (cAt cs (oAt o k)) (cs.getD jj (0,0)):=Zp8 pm.symm (fun x y z=>inS (cAt cs x) (cAt cs y) (cAt cs z) (cs.getD jj (0,0))) (fun a b c h=>Zsi h) (fun a b c h=>Zuf h) h2;obtain ⟨j0,hj0,ej,ec⟩:=whence jj hjj;rw [D.corner hi,D.corner hj,D.corner hk,n4_,ec] at h3;have h4:=(A.inS D.det).mp h3;refine hs j0 hj0 (fun z=>nm (pm.mem_iff.mpr ?_)) (by unfold cAt at h4 ⊢;exact h4)
  have:oAt o (j0:Int)=jj:=ej
  rw [← this];have m2:oAt o (j0:Int)∈[i,j,k].map (oAt o):=n24_.mpr ⟨_,z,rfl⟩;exact m2
 refine ⟨by show 3≤cs.length;omega,by show cs.length≤30;omega,fun p hp=>?_,?_,by simp;omega,by simp;omega,fun p hp=>?_,fun i hi=>?_,by simp [tl,qlen],t9,l9,m9,?_,fun p hp=>?_,fun i j hij hj=>?_⟩
 · obtain ⟨k,hk,e⟩:=n48_ (show p∈cs from hp);obtain ⟨j,hj,_,ec⟩:=whence k hk;rw [n1_ hk,e] at ec;cases ec
   exact D.nr _ (ptm j hj)
 · show cs.Nodup
   rw [n26_,n65_];intro k1 k2 h1 h2 lt e;obtain ⟨j1,hj1,e1,c1⟩:=whence k1 h1;obtain ⟨j2,hj2,e2,c2⟩:=whence k2 h2;rw [n1_ h1,e] at c1;rw [n1_ h2] at c2;rw [c1] at c2
   have:=A.inj D.det (Option.some.inj c2)
   have gd:∀ j,(h:j<pts.length)→pts.getD j (0,0)=pts[j]:=fun j h=>by rw [n4_,n1_ h];rfl
   rw [gd j1 hj1,gd j2 hj2] at this;have e3:=(n60_ D.base.nd).mp this;subst e3;omega
 · obtain ⟨n,hn,rfl⟩:=n24_.mp (show p∈q.map _ from hp);exact pieceOk n (qlt n hn)
 · have hi':i+1<(q.map fun i=>kl.getD i []).length:=hi
   have:=n65_.mp rise i (i+1) (?d) hi' (?d)
   show HT.lexLt ((q.map fun i=>kl.getD i []).getD i []) ((q.map fun i=>kl.getD i []).getD (i+1) [])=true
   rw [n4_,n4_,n1_ (?d),n1_ hi'];exact this
 · show cntS (q.map fun i=>kl.getD i []).flatten=cs.length
   refine Zns _ (fun x hx=>?_) (fun k hk=>?_)
   · obtain ⟨r,hr,hxr⟩:=List.mem_flatten.mp hx;obtain ⟨n,hn,rfl⟩:=n24_.mp hr
     have:=(pieceOk n (qlt n hn)).bd x hxr
     omega
   · obtain ⟨j,hj,e⟩:=D.ord.sur k (?d);obtain ⟨p,hp,hjp⟩:=D.base.us j hj;obtain ⟨n,hn,rfl⟩:=n48_ hp;have g:pcs.getD n []=pcs[n]:=by rw [n4_,n1_ hn];rfl
     refine List.mem_flatten.mpr ⟨kl.getD n [],n24_.mpr ⟨n,D.perm.mem_iff.mpr (n35_.mpr hn),rfl⟩,(D.key n hn).1.mem_iff.mpr ?_⟩;rw [g,← e];exact n24_.mpr ⟨_,hjp,rfl⟩
 · obtain ⟨n,hn,rfl⟩:=n24_.mp (show p∈q.map _ from hp);exact strange n (qlt n hn)
 · have hj':j<(q.map fun i=>kl.getD i []).length:=hj;have hjq:j<q.length:=by simpa using hj'
   have hiq:i<q.length:=?d
   show apart (trOf cs ((q.map fun i=>kl.getD i []).getD j [])) (trOf cs ((q.map fun i=>kl.getD i []).getD i []))=true
   have gq:∀ i,(h:i<q.length)→(q.map fun i=>kl.getD i []).getD i []=kl.getD q[i] []:=fun i h=>by
    rw [n4_,n7_,n1_ h];rfl
   rw [gq j hjq,gq i hiq];have h1:=qlt q[j] (n51_ _);have h2:=qlt q[i] (n51_ _);have ne:q[j]≠q[i]:=fun z=>by have:=(n60_ qnd).mp z;omega
   generalize q[j]=n1 at *;generalize q[i]=n2 at *;have sb:=(D.base.sep n1 n2 h1 h2 ne).1;have ok1:=pieceOk n1 h1;have ok2:=pieceOk n2 h2;obtain ⟨i1,j1,k1,x1,y1,z1,e1,f1,pm1,lt1,hi1,hj1,hk1,hd1,hs1⟩:=D.piece h1;obtain ⟨i2,j2,k2,x2,y2,z2,e2,f2,pm2,lt2,hi2,hj2,hk2,hd2,hs2⟩:=D.piece h2;rw [f1] at ok1 ⊢;rw [f2] at ok2 ⊢;rw [e1,e2] at sb;unfold sepB at sb;simp only [Bool.or_eq_true,decide_eq_true_eq] at sb
   have tr:∀ {i1 j1 k1 x1 y1 z1 i2 j2 k2 x2 y2 z2:Int},[x1,y1,z1].Perm [oAt o i1,oAt o j1,oAt o k1]→[x2,y2,z2].Perm [oAt o i2,oAt o j2,oAt o k2]→(0≤i1∧i1<(pts.length:Int))→(0≤j1∧j1<(pts.length:Int))→(0≤k1∧k1<(pts.length:Int))→(0≤i2∧i2<(pts.length:Int))→(0≤j2∧j2<(pts.length:Int))→(0≤k2∧k2<(pts.length:Int)) →
    sepS (cAt pts i1) (cAt pts j1) (cAt pts k1) (cAt pts i2) (cAt pts j2) (cAt pts k2)→sepS (cAt cs x1) (cAt cs y1) (cAt cs z1) (cAt cs x2) (cAt cs y2) (cAt cs z2):=by
    intro i1 j1 k1 x1 y1 z1 i2 j2 k2 x2 y2 z2 pm1 pm2 a1 a2 a3 b1 b2 b3 h;refine Zp8 pm1 (fun x y z=>sepS (cAt cs x) (cAt cs y) (cAt cs z) (cAt cs x2) (cAt cs y2) (cAt cs z2)) (fun a b c h=>Zsv h) (fun a b c h=>Zuq h) ?_;refine Zp8 pm2 (fun x y z=>sepS (cAt cs (oAt o i1)) (cAt cs (oAt o j1)) (cAt cs (oAt o k1)) (cAt cs x) (cAt cs y) (cAt cs z)) (fun a b c h=>Zql h) (fun a b c h=>Ztw h) ?_;rw [D.corner a1,D.corner a2,D.corner a3,D.corner b1,D.corner b2,D.corner b3];exact (A.sep D.det).mpr h
   unfold apart;rw [Bool.or_eq_true]
   rcases sb with sb|sb
   · exact .inl (Zcp ok1.d (tr pm1 pm2 hi1 hj1 hk1 hi2 hj2 hk2 sb))
   · exact .inr (Zcp ok2.d (tr pm2 pm1 hi2 hj2 hk2 hi1 hj1 hk1 sb))
theorem Drawn.ok (D:Drawn pts pcs A o cs kl q) {ts:?e} {l m:Int} (rise:(q.map fun i=>kl.getD i []).Pairwise fun a b=>HT.lexLt a b=true) (tl:ts.length=pcs.length) (t9:∀ t∈ts,1≤t∧t≤9) (l9:0≤l∧l≤9) (m9:1≤m∧m≤9) :
 PlOk ⟨cs,q.map fun i=>kl.getD i [],ts,l,m⟩:=D.toDrawnG.ok rise tl t9 l9 m9 ?f ?f
end
def Zbt:List (List Pnt×List (?e)) :=
 [([(0,0),(2,0),(0,3)],[[0,1,2]]),
  ([(0,0),(3,0),(3,2),(0,2)],[[0,1,2],[0,2,3]]),
  ([(0,0),(2,1),(2,-1),(-2,1),(-3,-1)],[[0,1,2],[0,3,4]]),
  ([(0,0),(2,0),(0,2),(4,0),(6,1),(4,3)],[[0,1,2],[3,4,5]]),
  ([(0,0),(6,0),(0,6),(2,1)],[[0,1,3],[0,2,3],[1,2,3]]),
  ([(0,0),(0,2),(2,0),(3,2),(5,0)],[[0,1,2],[1,2,3],[2,3,4]]),
  ([(0,0),(1,2),(2,0),(3,2),(4,0),(5,3)],[[0,1,2],[2,3,4],[3,4,5]]),
  ([(0,0),(2,0),(0,3),(-2,0),(0,-1)],[[0,1,2],[0,2,3],[0,3,4],[0,1,4]])]
theorem Zm9:Zbt.all (fun s=>Zqj 6 4 s.1 s.2&&s.1.all fun p=>decide (p.1.natAbs≤6∧p.2.natAbs≤6))=true:=?j
theorem Zlo {s:List Pnt×List (?e)} (h:s∈Zbt):Base s.1 s.2:=by
 have:=n44_.mp Zm9 s h
 rw [n40_] at this;exact ⟨Zcj this.1,fun p hp=>n52_ (n44_.mp this.2 p hp)⟩
theorem PE.weak {t t':TE} (h:PE X e t) (w:∀ σ H Q,t' σ H Q→t σ H Q):PE X e t':=fun pins s σ H Q I q=>h pins s σ H Q I (w σ H Q q)
theorem PA.weak {t t':TA} (h:PA X es t) (w:∀ σ H Q,t' σ H Q→t σ H Q):PA X es t':=fun pos pins s σ H Q I q=>h pos pins s σ H Q I (w σ H Q q)
theorem nS {x:α} {P:Prop} (h:(none:Option α)=some x):P:=by cases h
def tupE:Expr→Option (List Expr)
 | .Tuple es _ _=>some es
 | _=>none
theorem Ziz (h:tupE e=some es):∃ c p,e=.Tuple es c p:=by
 cases e with
 | Tuple es' c p=>cases h;exact ⟨_,_,rfl⟩
 | _=>exact nS h
def cI:Const→Option Int
 | .int i=>some i
 | _=>none
def cE:Expr→Option Const
 | .Constant c _ _=>some c
 | _=>none
theorem Zv6 {i:Int} (h:(cE e).bind cI=some i):∃ k p,e=.Constant (.int i) k p:=by
 cases e with
 | Constant c k p =>
   cases c with
   | int j=>cases h;exact ⟨_,_,rfl⟩
   | _=>exact nS h
 | _=>exact nS h
def negE:Expr→Option Expr
 | .UnaryOp o e _=>if o=.USub then some e else none
 | _=>none
theorem Zr3 {e':Expr} (h:negE e=some e'):∃ p,e=.UnaryOp .USub e' p:=by
 cases e with
 | UnaryOp o e p =>
   by_cases c:o=.USub
   · subst c;cases h;exact ⟨_,rfl⟩
   · rw [negE,if_neg c] at h;cases h
 | _=>exact nS h
def Zr5 (e:Expr):Option Int:=((cE e).bind cI).orElse fun _=>((negE e).bind fun x=>(cE x).bind cI).map fun i=>-i
theorem Zta {i:Int} (h:Zr5 e=some i):PE X e (fun _ H Q=>Q (.int i) H)∧∀ es env,starEach (e :: es) env=(false,eval e env) :: starEach es env:=by
 unfold Zr5 at h;cases h1:(cE e).bind cI with
 | some j =>
   rw [h1] at h;cases h
   obtain ⟨k,p,rfl⟩:=Zv6 h1;exact ⟨Zg,?l⟩
 | none =>
   rw [h1] at h;obtain ⟨j,h2,rfl⟩:=n14_.mp (show _=some i from h);obtain ⟨x,h3,h4⟩:=n67_.mp h2;obtain ⟨p,rfl⟩:=Zr3 h3;obtain ⟨k,q,rfl⟩:=Zv6 h4;exact ⟨PE.weak (Zux Zrw Zg) fun σ H Q q=>⟨_,rfl,q⟩,?l⟩
def Zi2 {α:Type} (f:Expr→Option α):List Expr→Option (List α)
 | []=>some []
 | e :: es=>(f e).bind fun i=>(Zi2 f es).map (i :: ·)
theorem Zab {f:Expr→Option α} {is:List α} (h:Zi2 f (e :: es)=some is):∃ i js,is=i :: js∧f e=some i∧Zi2 f es=some js:=by
 obtain ⟨i,h1,h2⟩:=n67_.mp (show ((f e).bind fun i=>(Zi2 f es).map (i :: ·))=some is from h);obtain ⟨js,h3,rfl⟩:=n14_.mp h2;exact ⟨i,js,rfl,h1,h3⟩
def few {α:Type} (l:List α):Option (List α):=if l.length≤1000 then some l else none
theorem Zq0 {l m:List α} (h:few l=some m):l=m∧m.length≤1000:=by
 by_cases c:l.length≤1000
 · rw [few,if_pos c] at h;cases h;exact ⟨rfl,c⟩
 · rw [few,if_neg c] at h;cases h
abbrev Zra:List Expr→Option (?e):=Zi2 Zr5
theorem Zqb (es:List Expr) (is:?e) (h:Zra es=some is):PA X es (fun _ H Q=>Q (is.map V.int) H):=by
 induction es generalizing is with
 | nil=>cases h;exact PA.weak Zb fun σ H Q q=>q
 | cons e es ih =>
   obtain ⟨i,js,rfl,h1,h2⟩:=Zab h;obtain ⟨p1,p2⟩:=Zta (X:=X) h1;exact PA.weak (Za p1 (ih js h2) (p2 _ _)) fun σ H Q q=>q
def Zvk (e:Expr):Option (?e):=(tupE e).bind fun es=>(Zra es).bind few
theorem Zto {is:?e} (h:Zvk e=some is):PE X e (fun _ H Q=>∀ H' v,Same H H'→IsI H' v is→Q v H')∧∀ es env,starEach (e :: es) env=(false,eval e env) :: starEach es env:=by
 obtain ⟨es,h1,h2⟩:=n67_.mp h;obtain ⟨c,p,rfl⟩:=Ziz h1;obtain ⟨l,h3,h4⟩:=n67_.mp h2;obtain ⟨rfl,hz⟩:=Zq0 h4;exact ⟨PE.weak (Zz (Zqb _ _ h3)) fun σ H Q q=>⟨by rw [n5_,sizeLine_eq];omega,fun p np=>q _ _ (Same.new np) ⟨p,rfl,Zc⟩⟩,?l⟩
abbrev Zro:List Expr→Option (List (?e)):=Zi2 Zvk
theorem Zps (es:List Expr) (is:List (?e)) (h:Zro es=some is):PA X es (fun _ H Q=>∀ H' vs,Same H H'→Al (IsI H') vs is→Q vs H'):=by
 induction es generalizing is with
 | nil=>cases h;exact PA.weak Zb fun σ H Q q=>q _ _ (Same.refl _) .nil
 | cons e es ih =>
   obtain ⟨i,js,rfl,h1,h2⟩:=Zab h;obtain ⟨p1,p2⟩:=Zto (X:=X) h1;exact PA.weak (Za p1 (ih js h2) (p2 _ _)) fun σ H Q q H1 v s1 i1 H2 vs s2 i2=>q _ _ (s1.trans s2) (.cons (i1.tk s2.tk) i2)
def Zv3 (e:Expr):Option (List (?e)):=(tupE e).bind fun es=>(Zro es).bind few
theorem Znr {is:List (?e)} (h:Zv3 e=some is):PE X e (fun _ H Q=>∀ H' v,Same H H'→IsPs H' v is→Q v H')∧∀ es env,starEach (e :: es) env=(false,eval e env) :: starEach es env:=by
 obtain ⟨es,h1,h2⟩:=n67_.mp h;obtain ⟨c,p,rfl⟩:=Ziz h1;obtain ⟨l,h3,h4⟩:=n67_.mp h2;obtain ⟨rfl,hz⟩:=Zq0 h4;refine ⟨PE.weak (Zz (Zps _ _ h3)) fun σ H Q q H1 vs s1 a1=>⟨by rw [a1.1,sizeLine_eq];omega,fun p np=>?_⟩,?l⟩;have s2:Same H1 (upd H1 p (.tup vs)):=Same.new np;exact q _ _ (s1.trans s2) ⟨p,vs,rfl,Zc,a1.imp fun v x r=>r.tk s2.tk⟩
inductive BxIsSh (H:Hp) (v:V) (s:List Pnt×List (?e)):Prop
 | mk (a:_) (c:_) (p:_) (q1:v=.ref a) (q2:H a=some (.tup [c,p])) (q3:IsCs H c s.1) (q4:IsPs H p s.2):BxIsSh H v s
def IsSh (H:Hp) (v:V) (s:List Pnt×List (?e)):Prop:=BxIsSh H v s
theorem IsSh.tk {s:List Pnt×List (?e)} (t:Tk H H') (h:IsSh H v s):IsSh H' v s:=let ⟨a,c,p,e,h1,h2,h3⟩:=h;⟨a,c,p,e,t _ _ h1,h2.tk t,h3.tk t⟩
def shOf (e:Expr):Option (List (List (?e))):=(tupE e).bind (Zi2 Zv3)
theorem Zpc {cs:List Pnt} (h:IsPs H v (cs.map fun p=>[p.1,p.2])):IsCs H v cs:=by
 obtain ⟨a,vs,e,q,al⟩:=h;refine ⟨a,vs,e,q,by rw [al.1,n5_],fun i w p e1 e2=>?_⟩;exact al.2 i w _ e1 (by rw [n7_,e2];rfl)
theorem Xw {X:Cx} {e:Expr} {s:List Pnt×List (?e)} (h:shOf e=some [s.1.map (fun p=>[p.1,p.2]),s.2]):PE X e (fun _ H Q=>∀ H' v,Same H H'→IsSh H' v s→Q v H'):=by
 obtain ⟨es,h1,h2⟩:=n67_.mp h;obtain ⟨c,p,rfl⟩:=Ziz h1;cases es with
 | nil=>cases h2
 | cons a es =>
   obtain ⟨_,_,e1,h3,h4⟩:=Zab h2;cases e1
   cases es with
   | nil=>cases h4
   | cons b es =>
     obtain ⟨_,_,e1,h5,h6⟩:=Zab h4;cases e1
     cases es with
     | cons c es=>obtain ⟨_,_,e1,_⟩:=Zab h6;cases e1
     | nil =>
       obtain ⟨p1,s1⟩:=Znr (X:=X) h3;obtain ⟨p2,s2⟩:=Znr (X:=X) h5;refine PE.weak (Zz (Za p1 (Za p2 Zb (s2 _ _)) (s1 _ _))) fun σ H Q q H1 v s1 i1 H2 w s2 i2=>⟨z2_,fun p np=>?_⟩;have s3:Same H2 (upd H2 p (.tup [v,w])):=Same.new np;exact q _ _ (s1.trans (s2.trans s3)) ⟨p,v,w,rfl,Zc,Zpc (i1.tk (s2.trans s3).tk),i2.tk s3.tk⟩
theorem Zt5 {c:TT} {ta tb rest:TS} {D:Ends} (R:St→?o) (h:c σ H fun k H1=>if k=true then ta { D with nx:=R } σ H1 else tb { D with nx:=R } σ H1)
 (mc:∀ Q Q':Bool→?o,(∀ b H1,Q b H1→Q' b H1)→c σ H Q→c σ H Q') (ma:(∀ σ H,R σ H→rest D σ H)→∀ H1,ta { D with nx:=R } σ H1→ta { D with nx:=rest D } σ H1) (mb:(∀ σ H,R σ H→rest D σ H)→∀ H1,tb { D with nx:=R } σ H1→tb { D with nx:=rest D } σ H1)
 (key:∀ σ H,R σ H→rest D σ H):tSeq (tIfS c ta tb) rest D σ H:=mc _ _ (fun b H1 q=>by
 cases b with
 | true=>exact ma key H1 q
 | false=>exact mb key H1 q) h
open AutoSeq1 (wpAny_loadPart')
section
variable {X:Cx}
theorem Zte [DecidableEq α] [Inhabited α] (xs ys:List α):((List.range (min xs.length ys.length)).all (fun j=>decide (xs.getD j default=ys.getD j default))&&xs.length == ys.length)=decide (xs=ys):=by
 by_cases h:xs=ys
 · subst h
   simp
 · rw [n36_ h,Bool.and_eq_false_iff]
   by_cases hl:xs.length=ys.length
   · left
     rw [Bool.eq_false_iff];intro z;rw [n44_] at z;apply h
     apply n57_ hl
     intro i h1 h2
     have:=z i (by simp;omega)
     simpa [h1,h2] using this
   · right
     simpa using hl
end
theorem lc_F {k:SK} {K:PySem.W.Frag} {Q:VK} (R:Hp→V→α→Prop) (hR:∀ H1 H2 v x,Tk H1 H2→R H1 v x→R H2 v x) (f:Nat→Option α) (hz:vs.length≤1000) (hD:H D=none) (ha:k.At H a vs)
 (hs:∀ (i:Nat) (w:V) (H2:Hp) (C:V→?o) (N:?o),vs[i]? = some w→Same H H2→(∀ y H5 z,Same H2 H5→f i=some z→R H5 y z→C y H5)→(∀ H5,Same H2 H5→f i=none→N H5)→tt (some w :: rest) H2 fun b H5=>if b=true then te (some w :: rest) H5 C else N H5)
 (hd:∀ H2 us,Same H H2→H2 D=some (.lst us)→Al (R H2) us ((List.range vs.length).filterMap f)→Q (.ref D) H2):LcGo (k.Itk K a) (Zy 0) tt te (u0 :: rest) H D Q:=by
 refine Zhu (n:=vs.length) (fun i σ H2=>Same H H2∧(∃ u,σ=u :: rest)∧∃ us,H2 D=some (.lst us)∧us.length≤i∧Al (R H2) us ((List.range i).filterMap f)) ⟨Same.new hD,⟨_,rfl⟩,[],Zc,n11_ _,.nil⟩ (fun i σ H2 hi p=>Zkj (ha.same p.1) hi) (fun σ H2 p=>Zdb (ha.same p.1) (n11_ _)) (fun i x σ2 H2 H3 hi y p=>?_) (fun σ2 H2 p=>?_)
 · obtain ⟨s2,⟨u,rfl⟩,us,e2,l2,a2⟩:=p;obtain ⟨rfl,ex⟩:=Zgc (ha.same s2) y
   have rg:(List.range (i+1)).filterMap f=(List.range i).filterMap f++(f i).toList:=by
    rw [List.range_succ,List.filterMap_append];cases h:f i<;>simp [h]
   show tt (some x :: rest) H3 _
   refine hs i x H3 _ _ ex s2 (fun y H5 z s5 ef r=>?_) (fun H5 s5 ef=>?_)
   · have sD:∀ us',Tk H5 (upd H5 D (.lst us')):=fun us'=>Tk.upd_lst (s5 _ _ e2);refine ⟨us,s5 _ _ e2,by rw [sizeLine_eq];omega,_,n23_ (Nat.sub_succ_lt_self _ _ hi) (n11_ _),hi,rfl,fun b o e=>?_,⟨_,rfl⟩,_,Zc,by simp;omega,?_⟩
     · rw [Zh (Zi e hD)];exact s5 _ _ (s2 _ _ e)
     · rw [rg,ef];exact (a2.imp fun v x r=>hR _ _ v x (s5.tk.trans (sD _)) r).snoc (hR _ _ _ _ (sD _) r)
   · refine ⟨_,n23_ (Nat.sub_succ_lt_self _ _ hi) (n11_ _),hi,rfl,s2.trans s5,⟨_,rfl⟩,us,s5 _ _ e2,?d,?_⟩;rw [rg,ef]
     simpa using a2.imp fun v x r=>hR _ _ v x s5.tk r
 · obtain ⟨s2,⟨u,rfl⟩,us,e2,l2,a2⟩:=p;exact hd H2 us s2 e2 a2
section
variable {κ:Type} [DecidableEq κ]
def valV (kvs:List (κ×V)) (k:κ):Option V:=(kvs.find? fun kv=>decide (kv.1=k)).map (·.2)
def putK (kvs:List (κ×V)) (k:κ) (v:V):List (κ×V) :=
 if (kvs.any fun kv=>decide (kv.1=k))=true then kvs.map (fun kv=>if kv.1=k then (kv.1,v) else kv) else kvs++[(k,v)]
theorem Y7 {p:κ×V} {r:List (κ×V)} {k:κ} (e:p.1=k):valV (p :: r) k=some p.2:=by simp [valV,List.find?_cons,e]
theorem Y5 {p:κ×V} {r:List (κ×V)} {k:κ} (e:¬ p.1=k):valV (p :: r) k=valV r k:=by simp [valV,List.find?_cons,e]
theorem Zc8 (k:κ):∀ kvs:List (κ×V),(kvs.any fun kv=>decide (kv.1=k))=(valV kvs k).isSome
 | []=>rfl
 | p :: r=>by
   rw [List.any_cons]
   by_cases e:p.1=k
   · simp only [Y7 e,n32_ e,Bool.true_or,Option.isSome_some]
   · rw [Y5 e,n36_ e,Bool.false_or];exact Zc8 k r
theorem Zkn (k j:κ) (y:V):∀ kvs:List (κ×V),valV (kvs.map fun kv=>if kv.1=k then (kv.1,y) else kv) j=(valV kvs j).map fun x=>if j=k then y else x
 | []=>rfl
 | p :: r=>by
   have ih:=Zkn k j y r;rw [n31_]
   by_cases h:p.1=k
   · rw [if_pos h]
     by_cases e:p.1=j
     · rw [Y7 (p:=(p.1,y)) e,Y7 e,Option.map_some,if_pos (e.symm.trans h)]
     · rw [Y5 (p:=(p.1,y)) e,Y5 e,ih]
   · rw [if_neg h]
     by_cases e:p.1=j
     · rw [Y7 (p:=p) e,Y7 e,Option.map_some,if_neg (fun z=>h (e.trans z))]
     · rw [Y5 (p:=p) e,Y5 e,ih]
theorem Zgl (k j:κ) (y:V):∀ kvs:List (κ×V),valV kvs k=none→valV (kvs++[(k,y)]) j=if j=k then some y else valV kvs j
 | [],_=>by
   by_cases e:k=j
   · rw [if_pos e.symm];exact Y7 (p:=(k,y)) e
   · rw [if_neg (fun z=>e z.symm)];exact Y5 (p:=(k,y)) e
 | p :: r,hn=>by
   rw [List.cons_append];have hk:¬ p.1=k:=fun z=>by rw [Y7 z] at hn;cases hn
   rw [Y5 hk] at hn;have ih:=Zgl k j y r hn
   by_cases e:p.1=j
   · rw [Y7 e,Y7 e,if_neg (fun z=>hk (e.trans z))]
   · rw [Y5 e,Y5 e,ih]
theorem Zqe (kvs:List (κ×V)) (k j:κ) (y:V):valV (putK kvs k y) j=if j=k then some y else valV kvs j:=by
 unfold putK
 by_cases a:(kvs.any fun kv=>decide (kv.1=k))=true
 · rw [if_pos a,Zkn];rw [Zc8] at a
   by_cases e:j=k
   · obtain ⟨x,hx⟩:=Option.isSome_iff_exists.mp a;rw [if_pos e,e,hx,Option.map_some,if_pos rfl]
   · rw [if_neg e];cases valV kvs j with
     | none=>rfl
     | some x=>rw [Option.map_some,if_neg e]
 · rw [if_neg a];refine Zgl k j y kvs ?_;rw [Zc8] at a;cases q:valV kvs k with
   | none=>rfl
   | some x=>rw [q] at a;exact (a rfl).elim
theorem Yx (kvs:List (κ×V)) (k:κ) (v:V):(putK kvs k v).length≤kvs.length+1:=by
 unfold putK;split
 · rw [n5_];omega
 · rw [n21_,n18_,n79_];omega
theorem RelO.isSome_eq {o:Option V} {u:Option Value} (r:RelO o u):o.isSome=u.isSome:=by
 cases o with
 | none=>cases u with
   | none=>rfl
   | some _=>exact (show False from r).elim
 | some _=>cases u with
   | none=>exact (show False from r).elim
   | some _=>rfl
theorem KV.val {kvs:List (κ×V)} {vs:List (κ×Value)} (r:KV kvs vs) (k:κ):RelO (valV kvs k) (valueAt vs k):=by
 unfold KV at r
 induction r with
 | nil=>exact True.intro
 | @cons p q ps qs h t ih =>
   obtain ⟨h1,h2⟩:=h
   by_cases e:p.1=k
   · have e':q.1=k:=h1.symm.trans e;have b:valueAt (q :: qs) k=some q.2:=by simp [valueAt,List.find?_cons,e']
     rw [Y7 e,b];exact h2
   · have e':¬ q.1=k:=fun z=>e (h1.trans z);have b:valueAt (q :: qs) k=valueAt qs k:=by simp [valueAt,List.find?_cons,e']
     rw [Y5 e,b];exact ih
theorem KV.any {kvs:List (κ×V)} {vs:List (κ×Value)} (r:KV kvs vs) (k:κ):(kvs.any fun kv=>decide (kv.1=k))=vs.any fun kv=>decide (kv.1=k):=by
 unfold KV at r
 induction r with
 | nil=>rfl
 | cons h t ih=>rw [List.any_cons,List.any_cons,ih,h.1]
theorem KV.repl {kvs:List (κ×V)} {vs:List (κ×Value)} (r:KV kvs vs) (k:κ) (ry:RelV y u) :
 KV (kvs.map fun kv=>if kv.1=k then (kv.1,y) else kv) (vs.map fun kv=>if kv.1=k then (kv.1,u) else kv):=by
 unfold KV at r ⊢
 induction r with
 | nil=>exact .nil
 | @cons p q ps qs h t ih =>
   rw [n31_,n31_];refine .cons ?_ ih;obtain ⟨h1,h2⟩:=h
   by_cases e:p.1=k
   · rw [if_pos e,if_pos (h1.symm.trans e)];exact ⟨h1,ry⟩
   · rw [if_neg e,if_neg (fun z=>e (h1.trans z))];exact ⟨h1,h2⟩
theorem KV.put {kvs:List (κ×V)} {vs:List (κ×Value)} (r:KV kvs vs) (k:κ) (ry:RelV y u):KV (putK kvs k y) (stored vs k u):=by
 unfold putK stored;rw [r.any k]
 by_cases e:(vs.any fun kv=>decide (kv.1=k))=true
 · rw [if_pos e,if_pos e];exact r.repl k ry
 · rw [if_neg e,if_neg e];exact Paired.snoc r ⟨rfl,ry⟩
theorem KV.length {kvs:List (κ×V)} {vs:List (κ×Value)} (r:KV kvs vs):kvs.length=vs.length:=Paired.length r
end
theorem Zng {k:Key} (r:RelV (kV k) u):(Yi P w).is k u=true:=by
 cases k with
 | inl i=>obtain ⟨t,e⟩:=(show ∃ t,u=Value.int i t from r);subst e;exact Zjm P w i t
 | inr x=>obtain ⟨t,e⟩:=(show ∃ t,u=Value.str x t from r);subst e;exact Zje P w x t
theorem Zhb:∀ {ks:List Key} {us:?q},Vals (ks.map kV) us→ItemsAre (Yi P w) ks us
 | [],_,r=>by rw [List.map_nil] at r;cases r;exact .nil
 | k :: ks,_,r=>by
   rw [n31_] at r;cases r with
   | cons h t=>exact .cons (Zng h) (Zhb t)
abbrev KT (H:Hp):List (List Key×V)→List (List Key×Addr×Value)→Prop:=Paired fun p q=>p.1=q.1∧H q.2.1=some (.tup (p.1.map kV))∧RelV p.2 q.2.2
theorem KT.val {xs:List (List Key×Addr×Value)} (r:KT H kvs xs) (k:List Key):RelO (valV kvs k) ((atKey xs k).map (·.2)):=by
 induction r with
 | nil=>exact True.intro
 | @cons p q ps qs h t ih =>
   obtain ⟨h1,_,h2⟩:=h
   by_cases e:p.1=k
   · have e':q.1=k:=h1.symm.trans e;have b:atKey (q :: qs) k=some q.2:=by simp [atKey,List.find?_cons,e']
     rw [Y7 e,b];exact h2
   · have e':¬ q.1=k:=fun z=>e (h1.trans z);have b:atKey (q :: qs) k=atKey qs k:=by simp [atKey,List.find?_cons,e']
     rw [Y5 e,b];exact ih
theorem KT.repl {xs:List (List Key×Addr×Value)} (r:KT H kvs xs) (k:List Key) (ry:RelV y u) :
 KT H (kvs.map fun kv=>if kv.1=k then (kv.1,y) else kv) (xs.map (putAt k u)):=by
 induction r with
 | nil=>exact .nil
 | @cons p q ps qs h t ih =>
   rw [n31_,n31_];refine .cons ?_ ih;obtain ⟨h1,h2,h3⟩:=h;unfold putAt
   by_cases e:p.1=k
   · rw [if_pos e,if_pos (h1.symm.trans e)];exact ⟨h1,h2,ry⟩
   · rw [if_neg e,if_neg (fun z=>e (h1.trans z))];exact ⟨h1,h2,h3⟩
theorem KT.put {xs:List (List Key×Addr×Value)} (r:KT H kvs xs) (k:List Key) (hb:H b=some (.tup (k.map kV))) (ry:RelV y u) :
 KT H (putK kvs k y) (storedH xs k b u):=by
 have e:(kvs.any fun kv=>decide (kv.1=k))=(atKey xs k).isSome:=by
  rw [Zc8,(r.val k).isSome_eq,Option.isSome_map]
 unfold putK storedH;rw [e]
 by_cases q:(atKey xs k).isSome=true
 · rw [if_pos q,if_pos q];exact r.repl k ry
 · rw [if_neg q,if_neg q];exact Paired.snoc r ⟨rfl,hb,ry⟩
theorem KT.keeps {xs:List (List Key×Addr×Value)} (r:KT H kvs xs) (ht:∀ b ys,H b=some (.tup ys)→H' b=some (.tup ys)):KT H' kvs xs :=
 Paired.mapP r fun _ _ z=>⟨z.1,ht _ _ z.2.1,z.2.2⟩
section
variable {P:Program} {w:World} {H:Hp} {h:Heap} {a:Addr}
theorem Zv5 {u:HO} (ok:HOk P w H h) (e:Rd H a u):ObjOk P w H h a u:=e.ok ok
theorem Zor {kvs:List (Key×V)} (ok:HOk P w H h) (e:Rd H a (.dK kvs)):kvs.length≤sizeLine∧(a == sysModules)=false∧∃ vs,KV kvs vs∧h.DictOf (Yi P w) a vs :=
 show ObjOk P w H h a (.dK kvs) from Zv5 ok e
theorem Zud {kvs:List (Key×V)} (ok:HOk P w H h) (e:H a=some (.dK kvs)):kvs.length≤sizeLine∧(a == sysModules)=false∧∃ vs,KV kvs vs∧h.DictOf (Yi P w) a vs:=Zor ok (.inl e)
theorem Zd9 {ks:List Key} (ok:HOk P w H h) (e:H a=some (.tup (ks.map kV))):(tupleKind (Yi P w)).is h ks a:=by
 obtain ⟨_,its,r,o,h1,⟨h2,_⟩,n,h3⟩:=(show ObjOk P w H h a (.tup (ks.map kV)) from ok a _ e);exact ⟨o,its.toArray,n,h1,h2,h3,by simpa using Zhb r⟩
theorem Zmx (ok:HOk P w H h) (e:Rd H a (.dT kvs)):kvs.length≤sizeLine∧(a == sysModules)=false ∧
 ∃ xs,KT H kvs xs∧h.DictOfH (tupleKind (Yi P w)) a xs:=by
 obtain ⟨z,y,xs,r,o,es,ep,h1,h2,h3,h4,h5⟩:=(show ObjOk P w H h a (.dT kvs) from Zv5 ok e);refine ⟨z,y,xs,r,o,es,ep,h1,h2,h3,h4,fun x hx=>?_,h5⟩
 have all:∀ {l:List (List Key×V)} {m:List (List Key×Addr×Value)},KT H l m→∀ x∈m,(tupleKind (Yi P w)).is h x.1 x.2.1:=by
  intro l m q
  induction q with
  | nil=>intro x hx;exact nomatch hx
  | @cons p q ps qs hq t ih =>
    intro x hx
    rcases n9_.mp hx with e|hx
    · subst e;exact Zd9 ok (by rw [← hq.1];exact hq.2.1)
    · exact ih x hx
 exact all r x hx
theorem Ztg (ok:HOk P w H h) (e:H a=some (.dT kvs)):kvs.length≤sizeLine∧(a == sysModules)=false ∧
 ∃ xs,KT H kvs xs∧h.DictOfH (tupleKind (Yi P w)) a xs:=Zmx ok (.inl e)
end
def DGet (H:Hp) (a:Addr) (y:V) (r:Option V):Prop :=
 (∃ kvs k,Rd H a (.dK kvs)∧y=kV k∧r=valV kvs k)∨∃ kvs k b,Rd H a (.dT kvs)∧y=.ref b∧H b=some (.tup (k.map kV))∧r=valV kvs k
def DPut (H:Hp) (a:Addr) (y v:V) (H':Hp):Prop :=
 (∃ kvs k,H a=some (.dK kvs)∧y=kV k∧kvs.length<sizeLine∧H'=upd H a (.dK (putK kvs k v))) ∨
 ∃ kvs k b,H a=some (.dT kvs)∧y=.ref b∧H b=some (.tup (k.map kV))∧kvs.length<sizeLine∧H'=upd H a (.dT (putK kvs k v))
theorem DGet.kq {kvs:List (Key×V)} {k:Key} (e:H a=some (.dK kvs)):DGet H a (kV k) (valV kvs k):=.inl ⟨kvs,k,.inl e,rfl,rfl⟩
theorem DGet.tq {k:List Key} (e:H a=some (.dT kvs)) (eb:H b=some (.tup (k.map kV))):DGet H a (.ref b) (valV kvs k):=.inr ⟨kvs,k,b,.inl e,rfl,eb,rfl⟩
theorem DPut.kq {kvs:List (Key×V)} {k:Key} (e:H a=some (.dK kvs)) (hl:kvs.length<sizeLine):DPut H a (kV k) v (upd H a (.dK (putK kvs k v))):=.inl ⟨kvs,k,e,rfl,hl,rfl⟩
section
variable {X:Cx} {pins:?y} {σ:St} {H:Hp} {s:Shared} {a:Addr} {y v:V} {u r:Value} {o:Option V} {A:Around} {E:Value→?i}
theorem Inv.big (I:?k):sysModules<s.z:=by
 have h:mainGlobals<s.z:=(I.mod.glob.keeps I.bk).lt;exact Nat.lt_trans ?f h
theorem Zne (hu:A.units+1<cLine) (I:?k) (g:DGet H a y (some v)) (ry:RelV y u) (h:∀ w' s',Inv X pins σ H s'→RelV v w'→Q w' s') :
 wpAny ?t A (getItem (.ref a) u) Q E s:=by
 rcases g with ⟨kvs,k,e,ey,l⟩|⟨kvs,k,b,e,ey,eb,l⟩
 · subst ey;obtain ⟨z,hd,vs,rel,dd⟩:=Zor I.hok e;obtain ⟨w',hw,rw'⟩:=RelO.some_of (v:=v) (o:=valueAt vs k) (by rw [l];exact rel.val k);exact wpAny_getItem_of (Zng ry) dd.mapOf hw (h w' _ (I.tok _) rw')
 · subst ey;cases (show u=Value.ref b from ry)
   obtain ⟨z,hd,xs,rel,dd⟩:=Zmx I.hok e;obtain ⟨w',hw,rw'⟩:=RelO.some_of (v:=v) (o:=(atKey xs k).map (·.2)) (by rw [l];exact rel.val k);obtain ⟨p,hp,hp2⟩:=n14_.mp hw;refine wpAny_getItem_heap (tupleKind_room_in1 hu) (Zd9 I.hok eb) dd hp ?_;rw [hp2];exact h w' _ (I.tok _) rw'
theorem Zt0 (hu:A.units+1<cLine) (I:?k) (g:DGet H a y o) (ry:RelV y u) (h:∀ s',Inv X pins σ H s'→Q (.bool (!o.isSome)) s') :
 wpAny ?t A (compareOp .NotIn u (.ref a)) Q E s:=by
 rcases g with ⟨kvs,k,e,ey,l⟩|⟨kvs,k,b,e,ey,eb,l⟩
 · subst ey;obtain ⟨z,hd,vs,rel,dd⟩:=Zor I.hok e;refine wpAny_notIn_of (Zng ry) hd dd.mapOf ?_;rw [← (rel.val k).isSome_eq,← l];exact h _ (I.tok _)
 · subst ey;cases (show u=Value.ref b from ry)
   obtain ⟨z,hd,xs,rel,dd⟩:=Zmx I.hok e;refine wpAny_notIn_heap (tupleKind_room_in1 hu) (Zd9 I.hok eb) hd dd ?_;have q:=(rel.val k).isSome_eq;rw [Option.isSome_map] at q;rw [← q,← l];exact h _ (I.tok _)
theorem Zce {ob:HO} (I:?k) (mu:Mut (H a)) (hs:Heap.SameBut a s.heap h') (he:∃ q,h'.get? a=some q) (new:ObjOk X.prog X.w (upd H a ob) h' a ob) :
 Inv X pins σ (upd H a ob) { s with heap:=h',toks:=t' } :=
 I.write (x:=a) (e:=a) mu (.inl rfl) (fun b q hb z=>(hs.2 b hb).trans z) he new
theorem Zry {kvs:List (Key×V)} {vs:List (Key×Value)} (z:kvs.length≤sizeLine) (hd:(a == sysModules)=false) (rel:KV kvs vs) (dd:h'.DictOf (Yi P w) a vs) :
 ObjOk P w H' h' a (.dK kvs):=⟨z,hd,vs,rel,dd⟩
theorem Zmq {Q:Unit→?i} (hu:A.units+1<cLine) (I:?k) (g:DPut H a y v H') (ry:RelV y u) (rv:RelV v r) (h:∀ s',Inv X pins σ H' s'→Q () s') :
 wpAny ?t A (setItem (.ref a) u r) Q E s:=by
 rcases g with ⟨kvs,k,e,ey,l,eH⟩|⟨kvs,k,b,e,ey,eb,l,eH⟩
 · subst ey eH;obtain ⟨z,hd,vs,rel,dd⟩:=Zud I.hok e;have hz:vs.length≤sizeLine:=by rw [← rel.length];exact z
   have hl:(putK kvs k v).length≤sizeLine:=by have:=Yx kvs k v;omega
   refine wpAny_setItem_pairs (hsz:=hz) (Zng ry) dd fun h' dd' hs=>h _ ?_;have he:∃ q,h'.get? a=some q:=let ⟨q,_,_,hq,_⟩:=dd';⟨q,hq⟩;exact Zce I (by rw [e];exact True.intro) hs he (Zry hl hd (rel.put k rv) dd')
 · subst ey eH;cases (show u=Value.ref b from ry)
   obtain ⟨z,hd,xs,rel,dd⟩:=Ztg I.hok e;have hz:xs.length≤sizeLine:=by rw [← Paired.length rel];exact z
   have hl:(putK kvs k v).length≤sizeLine:=by have:=Yx kvs k v;omega
   refine wpAny_setItem_heap (hsz:=hz) (tupleKind_room_in1 hu) (Zd9 I.hok eb) dd fun h' dd' hs=>h _ ?_;obtain ⟨q,es,ep,hq,h2,h3,h4,_,h5⟩:=dd';refine Zce I (by rw [e];exact True.intro) hs ⟨q,hq⟩ ⟨hl,hd,_,(rel.put k eb rv).keeps fun c ys ec=>?_,q,es,ep,hq,h2,h3,h4,h5⟩;rw [Zh (Zim ec e (fun z=>nomatch z))];exact ec
end
section
variable {X:Cx} {pins:?y} {σ:St} {H:Hp} {s:Shared} {a:Addr} {kvs:List (Key×V)} {k:Key} {u:Value} {A:Around} {E:Value→?i}
end
def NoSl (i:Expr):Prop:=∀ ov iv,subscripted i false ov iv=operate [ov,iv] (getItem ov iv)
theorem Ztb {value slice:Expr} {T id:String}
 (hl:typeLookup (.type T) "__getitem__" = pure (some (.builtin id))) (hs:NoSl slice)
 (h:wpAny ?p A (eval value env) (fun o s₁=>wpAny ?p A (eval slice env) (fun i s₂=>s₂.TypeIs o T∧wpAny ?p A (getItem o i) Q E s₂) E s₁) E s) :
 wpAny ?p A (eval (.Subscript value slice pos) env) Q E s:=by
 refine Subscript_ (n38_ h (fun o s₁ h₁=>n38_ h₁ (fun i s₂ h₂=>?_) fun _ _ x=>x) fun _ _ x=>x);obtain ⟨hT,h₂⟩:=h₂;unfold subscriptTail;refine n0_ ?_;rw [getitemInPython_of_ne hT.not_modules];refine n0_ (wpAny_specialOf hT hl ?_)
 have fin:wpAny ?p A (subscripted slice false o i) (fun r s₃=>wpAny ?p A (letTemporaryGo value o r >>= fun _=>pure r) Q E s₃) E s₂:=by
  rw [hs o i];exact wpAny_operating (n38_ h₂ (fun r s₃ h₃=>n0_ (wpAny_letTemporaryGo (n2_ h₃))) fun _ _ x=>x)
 first
  | exact n2_ (n0_ fin)
  | exact n0_ (n2_ (n0_ fin))
  | exact n0_ fin
theorem Zjg {o:Option V} (I:?k) (g:DGet H a y o):s.TypeIs (.ref a) "dict" := by
 rcases g with ⟨kvs,k,e,_,_⟩|⟨kvs,k,b,e,_,_,_⟩
 · obtain ⟨_,_,vs,_,dd⟩:=Zor I.hok e;exact dd.typeIs
 · obtain ⟨_,_,xs,_,dd⟩:=Zmx I.hok e;exact dd.typeIs
inductive BxTDGet (Q:VK) (x y:V) (H2:Hp):Prop
 | mk (a:_) (v:_) (q1:x=.ref a) (q2:DGet H2 a y (some v)) (q3:Q v H2):BxTDGet Q x y H2
def Zu7 (td ty:TE):TE:=fun σ H Q=>td σ H fun x H1=>ty σ H1 fun y H2=>BxTDGet Q x y H2
inductive BxTDNotIn (Q:VK) (x y:V) (H2:Hp):Prop
 | mk (a:_) (o:_) (q1:x=.ref a) (q2:DGet H2 a y o) (q3:Q (.bl (!o.isSome)) H2):BxTDNotIn Q x y H2
def Ztc (ty td:TE):TE:=fun σ H Q=>ty σ H fun y H1=>td σ H1 fun x H2=>BxTDNotIn Q x y H2
inductive BxSDPut (D:Ends) (σ:St) (x y v:V) (H3:Hp):Prop
 | mk (a:_) (H4:_) (q1:x=.ref a) (q2:DPut H3 a y v H4) (q3:D.nx σ H4):BxSDPut D σ x y v H3
def Zw4 (td ty tv:TE):TS:=fun D σ H=>tv σ H fun v H1=>td σ H1 fun x H2=>ty σ H2 fun y H3=>BxSDPut D σ x y v H3
section
variable {X:Cx} {o i e value:Expr} {pos pos' tpos:Pos} {td ty tv:TE}
theorem Zip (hu:X.A.units+1<cLine) (ho:PE X o td) (hi:PE X i ty) (hs:NoSl i):PE X (.Subscript o i pos) (Zu7 td ty):=by
 intro pins s σ H Q I h;refine Ztb PySem.F.slot_dict_getitem.lookup hs (thn (ho pins s σ H _ I h) fun u s1 ⟨x,H1,I1,rx,q1⟩=>thn (hi pins s1 σ H1 _ I1 q1) fun iv s2 zq=>?_);obtain ⟨y,H2,I2,ry,a,v,ex,g,q2⟩:=zq;subst ex;obtain rfl:u=Value.ref a:=rx;exact ⟨Zjg I2 g,Zne hu I2 g ry fun w' s3 I3 rw'=>⟨v,H2,I3,rw',q2⟩⟩
theorem Zog (hu:X.A.units+1<cLine) (hi:PE X i ty) (ho:PE X o td):PC X .NotIn i o (Ztc ty td):=by
 intro pins s σ H Q I h;refine thn (hi pins s σ H _ I h) fun iv s1 ⟨y,H1,I1,ry,q1⟩=>thn (ho pins s1 σ H1 _ I1 q1) fun u s2 zq=>?_;obtain ⟨x,H2,I2,rx,a,ov,ex,g,q2⟩:=zq;subst ex;obtain rfl:u=Value.ref a:=rx;exact Zt0 hu I2 g ry fun s3 I3=>⟨.bl (!ov.isSome),H2,I3,rfl,q2⟩
theorem Zst (hu:X.A.units+1<cLine) (ho:PE X o td) (hi:PE X i ty) (hv:PE X value tv) (hs:swapsWith value (some (.Subscript o i pos')) pos.line X.env=pure false) :
 PS X (.Assign [.Subscript o i pos'] value pos) (Zw4 td ty tv):=by
 intro pins s σ H D I h;refine wpAny_Assign_Subscript (thn (hv pins s σ H _ I h) fun r s1 ⟨v,H1,I1,rv,q1⟩=>thn (ho pins s1 σ H1 _ I1 q1) fun u s2 ⟨x,H2,I2,rx,q2⟩=>thn (hi pins s2 σ H2 _ I2 q2) fun iv s3 zq=>?_) hs;obtain ⟨y,H3,I3,ry,a,H4,ex,g,q3⟩:=zq;subst ex;obtain rfl:u=Value.ref a:=rx;exact Zmq hu I3 g ry rv fun s4 I4=>⟨σ,H4,I4,q3⟩
end
theorem Zp0 (h:Heap) (hb:sysModules<h.objs.size):ObjOk P w H (h.push { cls:=.type "dict",data:=.dict #[] }) h.objs.size (.dK []) :=
 ⟨n42_ _,beq_eq_false_iff_ne.mpr (Ne.symm (n27_ hb)),[],.nil,Heap.DictOf.new h⟩
theorem Zf1 (h:Heap) (hb:sysModules<h.objs.size):ObjOk P w H (h.push { cls:=.type "dict",data:=.dict #[] }) h.objs.size (.dT []) :=
 ⟨n42_ _,beq_eq_false_iff_ne.mpr (Ne.symm (n27_ hb)),[],.nil,_,#[],0,n8_ _ rfl,⟨rfl,rfl,rfl⟩,rfl,rfl,List.nodup_nil⟩
def Zun:TE:=fun _ H Q=>∀ p,H p=none→Q (.ref p) (upd H p (.dT []))
section
variable {X:Cx} {pos:Pos}
theorem Zp9:PE X (.Dict [] [] pos) Zun:=fun pins s σ H Q I h =>
 wpAny_Dict_empty ⟨.ref s.z,_,I.laid (a:=s.z) (o:=.dT []) (t':=s.toks) (fun _ _ q=>n3_ _ q) (n11_ _) (Zf1 s.heap I.big),rfl,h _ (I.hok.fresh (n11_ _))⟩
end
def Zm8:List (TE×TE)→St→Hp→(List (V×V)→?o)→Prop
 | [],_,H,Q=>Q [] H
 | (tk,tv) :: r,σ,H,Q=>tk σ H fun x H1=>tv σ H1 fun y H2=>Zm8 r σ H2 fun ps H3=>Q ((x,y) :: ps) H3
abbrev VV:List (V×V)→List (Value×Value)→Prop:=Paired fun p q=>RelV p.1 q.1∧RelV p.2 q.2
def PPs (X:Cx) (pos:Pos) (keys:List (Option Expr)) (values:List Expr) (trs:List (TE×TE)):Prop :=
 ∀ (pins:?y) (s:Shared) (σ:St) (H:Hp) (Q:List (V×V)→?o),?k→Zm8 trs σ H Q →
   wpAny ?t X.A (evalPairs (pairTrees keys values X.env pos)) (fun vs s'=>∃ ps H',Inv X pins σ H' s'∧VV ps vs∧Q ps H') X.xe s
theorem Zsz:PPs X pos [] [] []:=fun pins s σ H Q I h=>pairTrees_nil_walk ⟨[],H,I,.nil,h⟩
theorem Zpr {k v:Expr} {ks:List (Option Expr)} {vs:List Expr} {tk tv:TE} {trs:List (TE×TE)} (hk:PE X k tk) (hv:PE X v tv) (hr:PPs X pos ks vs trs) :
 PPs X pos (some k :: ks) (v :: vs) ((tk,tv) :: trs):=fun pins s σ H Q I h =>
 pairTrees_cons_walk (thn (hk pins s σ H _ I h) fun u s1 ⟨x,H1,I1,rx,q1⟩=>thn (hv pins s1 σ H1 _ I1 q1) fun w2 s2 ⟨y,H2,I2,ry,q2⟩ =>
  thn (hr pins s2 σ H2 _ I2 q2) fun ws s3 ⟨ps,H3,I3,rel,q3⟩=>⟨(x,y) :: ps,H3,I3,.cons ⟨rx,ry⟩ rel,q3⟩)
def Zcv (kvs more:List (Key×V)):List (Key×V):=more.foldl (fun acc kv=>putK acc kv.1 kv.2) kvs
theorem KV.merge:∀ {more:List (Key×V)} {rs:List (Key×Value)} {kvs:List (Key×V)} {vs:List (Key×Value)},KV more rs→KV kvs vs→KV (Zcv kvs more) (merged vs rs):=by
 intro more rs kvs vs r;unfold KV at r
 induction r generalizing kvs vs with
 | nil=>intro q;exact q
 | @cons p q ps qs h t ih =>
   intro r0
   have e:KV (putK kvs p.1 p.2) (stored vs q.1 q.2):=by
    have:=r0.put p.1 h.2
    rw [← h.1];exact this
   exact ih e
theorem Zbv:∀ (more kvs:List (Key×V)),(Zcv kvs more).length≤kvs.length+more.length
 | [],kvs=>by show kvs.length≤kvs.length+0;omega
 | p :: r,kvs=>by
   have h1:=Zbv r (putK kvs p.1 p.2);have h2:=Yx kvs p.1 p.2;show (Zcv (putK kvs p.1 p.2) r).length≤_
   rw [n18_];omega
theorem Zeu:∀ {kvs:List (Key×V)} {ws:List (Value×Value)},VV (kvs.map fun kv=>(kV kv.1,kv.2)) ws→∃ rs,Carries (Yi P w) ws rs∧KV kvs rs
 | [],_,r=>by rw [List.map_nil] at r;cases r;exact ⟨[],True.intro,.nil⟩
 | p :: kvs,_,r=>by
   rw [n31_] at r;cases r with
   | @cons a b as bs h t =>
     obtain ⟨rs,c,q⟩:=Zeu t;obtain ⟨b1,b2⟩:=b;exact ⟨(p.1,b2) :: rs,⟨Zng h.1,rfl,c⟩,.cons ⟨rfl,h.2⟩ q⟩
def Zws (trs:List (TE×TE)):TE:=fun σ H Q=>∀ p,H p=none→Zm8 trs σ (upd H p (.dK [])) fun ps H2=>H2 p=some (.dK [])∧∃ kvs:List (Key×V),ps=kvs.map (fun kv=>(kV kv.1,kv.2))∧kvs.length≤15∧Q (.ref p) (upd H2 p (.dK (Zcv [] kvs)))
theorem Zr0 {keys:List (Option Expr)} {values:List Expr} {trs:List (TE×TE)} (h:PPs X pos keys values trs) (hall:keys.all (·.isSome)=true) (hl:keys.length=values.length) (h0:keys≠[])
 (h15:keys.length≤15):PE X (.Dict keys values pos) (Zws trs):=by
 intro pins s σ H Q I q;have hn:=I.hok.fresh (n11_ s.z);have I1:=I.laid (a:=s.z) (o:=.dK []) (h':=s.heap.push { cls:=.type "dict",data:=.dict #[] }) (t':=s.toks) (fun _ _ q=>n3_ _ q) (n11_ _) (Zp0 s.heap I.big);refine wpAny_Dict_walk (knd:=Yi X.prog X.w) hall hl h0 h15 (thn (h pins _ σ _ _ I1 (q _ hn)) fun ws s2 zq=>?_);obtain ⟨ps,H2,I2,rel,e,kvs,ep,lk,q2⟩:=zq;subst ep;obtain ⟨rs,c,rk⟩:=Zeu (P:=X.prog) (w:=X.w) rel;obtain ⟨z,hd,vs0,r0,dd⟩:=Zud I2.hok e;cases r0
 refine ⟨rs,c,dd,fun h' dd' hs=>⟨.ref s.z,_,?_,rfl,q2⟩⟩
 have hz:(Zcv [] kvs).length≤sizeLine:=by
  have h1:=Zbv kvs [];rw [n79_] at h1;rw [sizeLine_eq];omega
 have he:∃ q,h'.get? s.z=some q:=let ⟨q,_,_,hq,_⟩:=dd';⟨q,hq⟩;exact Zce I2 (by rw [e];exact True.intro) hs he (Zry hz hd (rk.merge .nil) dd')
def IsD (H:Hp) (a:Addr):Prop:=(∃ kvs,Rd H a (.dK kvs))∨∃ kvs,Rd H a (.dT kvs)
theorem Zjw (I:?k) (d:IsD H a) :
 s.TypeIs (.ref a) "dict" ∧ (∀ b,Value.ref a=.ref b→∃ ob,s.heap.get? b=some ob∧ob.dict=none)∧(a == sysModules)=false:=by
 rcases d with ⟨kvs,e⟩|⟨kvs,e⟩
 · obtain ⟨_,hd,vs,_,dd⟩:=Zor I.hok e;refine ⟨dd.typeIs,fun b q=>?_,hd⟩;cases q
   obtain ⟨ob,_,_,h1,h2,_⟩:=dd;exact ⟨ob,h1,h2.2.1⟩
 · obtain ⟨_,hd,xs,_,dd⟩:=Zmx I.hok e;refine ⟨dd.typeIs,fun b q=>?_,hd⟩;cases q
   obtain ⟨ob,_,_,h1,h2,_⟩:=dd;exact ⟨ob,h1,h2.2.1⟩
section
variable {X:Cx} {pins:?y} {σ:St} {H:Hp} {s:Shared} {a:Addr} {y d:V} {u r:Value} {o:Option V} {A:Around} {E:Value→?i}
end
section
variable {X:Cx} {o e f:Expr} {apos cpos:Pos} {td ty tx:TE}
end
section
variable {X:Cx} {pins:?y} {σ:St} {H:Hp} {s:Shared} {a:Addr} {kvs:List (Key×V)} {A:Around} {E:Value→?i}
end
section
variable {X:Cx} {pins:?y} {σ:St} {H:Hp} {s:Shared} {a:Addr} {y:V} {u:Value} {A:Around} {E:Value→?i}
end
end L2
namespace PySem
section
variable {prog:Program} {w:World} {A:Around} {E:Value→?i} {s:Shared} {it d:Addr} {i ep:Nat} {es:Array DictEntry} {ok ov:Value}
def EntAt (h:Heap) (d:Addr) (es:Array DictEntry) (ep:Nat):Prop:=∃ o:Obj,h.get? d=some o∧o.data=.dict es ep
theorem EntAt.at {h h':Heap} (x:EntAt h d es ep) (k:∀ o,h.get? d=some o→h'.get? d=some o):EntAt h' d es ep:=let ⟨o,e,q⟩:=x;⟨o,k o e,q⟩
end
end PySem
namespace L2
open PySem PySem.Spec PyProof.Rows
variable {D:Addr} {A:Around} {X:Cx} {env:Env} {iter tg:Expr} {h:Heap} {H:Hp} {kvs:List (List Key×V)} {fr:List (Option Nat)} {cl:List (Str×Addr)} {N:List Str} {ep:Nat} {o:Obj} {pos:Pos} {P prog:Program} {R:Result→?i} {scope:Scope} {s:Shared} {g:TG} {wi:TI} {w:World}
theorem Zo4 {d:Addr} {es:Array DictEntry} (x:HOk P w H h) (e:H d=some (.frz o (.dT kvs))) (od:o.data=.dict es ep) :
 EntAt h d es ep∧es.size=kvs.length∧∀ (i:Nat) (k:List Key) (y:V),kvs[i]? = some (k,y)→∃ (b:Addr) (u:Value) (t:Int),es[i]? = some ⟨t,.ref b,u⟩∧H b=some (.tup (k.map kV))∧RelV y u:=by
 obtain ⟨g,z,_,xs,rel,o2,es2,ep2,g2,_,d2,q,_⟩:=x d _ e;rw [g] at g2;cases g2
 rw [od] at d2;cases d2
 have l1:es.size=xs.length:=by rw [← Array.length_toList,q,n5_]
 have l2:=Paired.length rel;refine ⟨⟨o,g,od⟩,?d,fun i k y hi=>?_⟩
 have get:∀ (l1:List (List Key×V)) (l2:List (List Key×Addr×Value)),Paired (fun (p:List Key×V) (q:List Key×Addr×Value)=>p.1=q.1∧H q.2.1=some (.tup (p.1.map kV))∧RelV p.2 q.2.2) l1 l2→∀ i:Nat,l1[i]? = some (k,y)→∃ (b:Addr) (u:Value),l2[i]? = some (k,b,u)∧H b=some (.tup (k.map kV))∧RelV y u:=by
  intro l1 l2 r
  induction r with
  | nil=>intro i h;simp at h
  | cons r t ih =>
    intro i h;cases i with
    | zero =>
      cases h
      rename_i _ b _ _
      obtain ⟨b1,b2,b3⟩:=b;obtain ⟨r1,r2,r3⟩:=r;cases r1
      exact ⟨b2,b3,rfl,r2,r3⟩
    | succ i=>exact ih i h
 obtain ⟨b,u,e1,e2,e3⟩:=get _ _ rel i hi;refine ⟨b,u,(tupleKind (Yi P w)).hash k,?_,e2,e3⟩;rw [← Array.getElem?_toList,q,n7_,e1];rfl
section
variable {X:Cx} {pins:?y} {σ:St} {H:Hp} {s:Shared}
theorem Inv.freeze {d:Addr} (I:?k) (e:H d=some (.dT kvs)):∃ o es ep,o.data=.dict es ep∧(d == sysModules)=false∧EntAt s.heap d es ep∧Inv X pins σ (upd H d (.frz o (.dT kvs))) s:=by
 have ok:=I.hok d _ e;obtain ⟨z,hd,xs,rel,o,es,ep,g,c,dd,q,nd⟩:=id ok;refine ⟨o,es,ep,dd,hd,⟨o,g,dd⟩,?_⟩;refine Zce (t':=s.toks) I (by rw [e];exact True.intro) (Heap.SameBut.refl _ _) ⟨o,g⟩ ⟨g,z,hd,xs,Paired.mapP rel fun p r h=>⟨h.1,by rw [Zh (Zim h.2.1 e (fun z=>nomatch z))];exact h.2.1,h.2.2⟩,o,es,ep,g,c,dd,q,nd⟩
end
theorem Zm4 {kx vx target:Expr} {it:Value} (I:Nat→?i)
 (turn:∀ n s,I n s→wpAny ?p A (pyNext it) (fun r s₁=>match r with
   | none=>R (.ok .next) s₁
   | some v=>wpAny ?p A (letOwnedTupleGo target it v) (fun _ s₀=>wpAny ?p A (assign target env v) (fun _ s₂ =>
      wpAny ?p A (eval kx env) (fun k s₃=>wpAny ?p A (eval vx env) (fun y s₄=>wpAny ?p A (dictSet D k y) (fun _ s₅=>∃ m,m<n∧I m s₅) (fun _ _=>False) s₄) (fun _ _=>False) s₃) (fun _ _=>False) s₂) (fun _ _=>False) s₀) (fun _ _=>False) s₁) (fun _ _=>False) s)
 (n:Nat) (h:I n s):codeAny ?p A (.compLoop (.DictComp kx vx [⟨target,iter,[],0⟩] scope pos) 0 it (.ref D) env) R s:=by
 refine codeAny_loop rfl I (fun n s hI=>?_) n h;show wpAny _ A ((compTurn (.DictComp kx vx [⟨target,iter,[],0⟩] scope pos) 0 it (.ref D) env).onRaise (fun x=>do noteFrame x env;theTreesLotGoes x)) _ _ s
 refine wpAny_noted ?_;rw [compTurn_dict];have no:∀ {α:Type} {m:Sem α} {Q Q':α→?i} {E:Value→?i} {s:Shared},wpAny ?p A m Q (fun _ _=>False) s→(∀ x s,Q x s→Q' x s)→wpAny ?p A m Q' E s:=fun h f=>n38_ h f fun _ _ z=>z.elim;refine n0_ (wpAny_standAt (n0_ (no (turn n s hI) fun r s₁ h₁=>?_)));cases r with
 | none=>exact n2_ h₁
 | some v =>
   refine n0_ (no h₁ fun _ s₀ h₀=>n0_ (no h₀ fun _ s₂ h₂=>?_));simp only [List.forIn_nil];refine n0_ (n2_ ?_);simp only [if_true];exact n0_ (n0_ (no h₂ fun k s₃ h₃=>n0_ (n30_ (no h₃ fun y s₄ h₄=>n0_ (wpAny_standAt (n30_ (no h₄ fun _ s₅ h₅=>n2_ ⟨rfl,h₅⟩)))))))
section
variable {X:Cx} {pins:?y} {σ:St} {H:Hp} {s:Shared} {A:Around} {E:Value→?i} {a b:Addr} {kvs:List (List Key×V)} {k:List Key} {r:Value} {v:V}
theorem Zgf {Q:Unit→?i} (hu:A.units<cLine) (I:?k) (e:H a=some (.dT kvs)) (eb:H b=some (.tup (k.map kV))) (rv:RelV v r) (hl:kvs.length<sizeLine) (h:∀ s',Inv X pins σ (upd H a (.dT (putK kvs k v))) s'→Q () s') :
 wpAny ?t A (dictSet a (.ref b) r) Q E s:=by
 obtain ⟨z,hd,xs,rel,dd⟩:=Ztg I.hok e;have hl':(putK kvs k v).length≤sizeLine:=by have:=Yx kvs k v;omega
 refine wpAny_dictSet_heap (knd:=tupleKind (Yi X.prog X.w)) (hsz:=by rw [← Paired.length rel];exact z) hu (Zd9 I.hok eb) dd fun h' dd' hs=>h _ ?_;obtain ⟨q,es,ep,hq,c2,c3,c4,_,c5⟩:=dd';refine Zce I (by rw [e];exact True.intro) hs ⟨q,hq⟩ ⟨hl',hd,_,(rel.put k eb rv).keeps fun c ys ec=>?_,q,es,ep,hq,c2,c3,c4,c5⟩;rw [Zh (Zim ec e (fun z=>nomatch z))];exact ec
end
def DcGo (J:It) (g:TG) (tk tv:TE) (σ0:St) (H1:Hp) (D:Addr) (Q:VK):Prop:=∃ W:Nat→Nat→St→?o,(∃ m,W 0 m σ0 (upd H1 D (.dT []))) ∧
 ∀ i m σ2 H2,W i m σ2 H2→(J.stop i H2∧Q (.ref D) H2)∨(J.go i H2∧∀ x H3,J.yld i H2 x H3→g x σ2 H3 fun σ4 H4=>tk σ4 H4 fun k H5=>tv σ4 H5 fun y H6=>∃ kvs key b,H6 D=some (.dT kvs)∧k=.ref b∧H6 b=some (.tup (key.map kV))∧kvs.length<sizeLine ∧
   ∃ m',m'<m∧W (i+1) m' σ4 (upd H6 D (.dT (putK kvs key y))))
def tDC (wi:TI) (g:TG) (tk tv:TE) (fr:List (Option Nat)):TE:=fun σ H Q=>wi σ H fun J H1=>∀ D,H1 D=none→DcGo J g tk tv (Xz fr σ) H1 D Q
theorem Zwg {kx vx:Expr} {tk tv:TE}
 (hu:X.A.units<cLine) (hc:X.calm=true) (L:LcO X scope cl N fr) (hi:PI X tg iter wi) (hg:∀ C s3 H3 fp,PG ?B tg g)
 (hk:∀ C s3 H3 fp,PE ?B kx tk) (hv:∀ C s3 H3 fp,PE ?B vx tv)
 (hs:∀ x,foldedSetIterable iter X.env x=pure x:=by intro _;rfl):PE X (.DictComp kx vx [⟨tg,iter,[],0⟩] scope pos) (tDC wi g tk tv fr):=by
 intro pins s σ H Q I h;rw [show eval (.DictComp kx vx [⟨tg,iter,[],0⟩] scope pos) X.env=comprehension (.DictComp kx vx [⟨tg,iter,[],0⟩] scope pos) scope X.env (firstIterPos [⟨tg,iter,[],0⟩] pos) newDict (firstAsync [⟨tg,iter,[],0⟩]) (firstIter [⟨tg,iter,[],0⟩] X.env) from rfl];refine wpAny_comprehension_free (use:=none) rfl hs L.clos L.kind L.names (thn (hi pins s σ H _ I h) fun v s1 h1=>thn h1 fun itv s2 h2=>?_);obtain ⟨it,fp,tn,J,H2,e,I2,T,st2,f2,h⟩:=h2;subst e;obtain ⟨W,⟨m0,w0⟩,turn⟩:=h s2.z (I2.hok.fresh (n11_ _));refine wpAny_newObj_type ?_;refine Zbu (ac:=.dT []) rfl hc L hg I2 T st2 f2 (Zf1 s2.heap I2.big) w0 turn (fun _ _ a b=>codeAny_compStart_dict a (b _)) (fun LI s4 t n h=>Zm4 LI t n h) (fun H7 s7 qn _ _ c=>Zfh qn c) fun LI n i σ9 H9 s9 ps I9 q9 again=>?_;refine thn (hk _ _ _ _ ps s9 σ9 H9 _ I9 q9) fun ku s10 ⟨kx',H10,I10,r10,q10⟩=>?_;refine thn (hv _ _ _ _ ps s10 σ9 H10 _ I10 q10) fun vu s11 ⟨vx',H11,I11,r11,kvs,key,b,hD11,ek,hb,hz,m',hm,w11⟩=>?_;subst ek;cases (show ku=Value.ref b from r10)
 exact Zgf (X:=blk X scope cl _ N _ _ fp) hu I11 hD11 hb r11 hz fun s12 I12=>again I12 hm w11
end L2
namespace L2
open PySem PySem.Spec PyProof.Rows PySem.W
def kok {α:Type} (n:Nat) (f:Nat→Nat→Bool) (P:α→Prop):KasT α→Prop
 | .ret a=>P a
 | .ask i j k=>i<n∧j<n∧kok n f P (k (f i j))
variable {α β:Type} {i j k m n:Nat}
theorem Za8 {f:Nat→Nat→Bool} {P:β→Prop} {g:α→KasT β}:∀ (t:KasT α),kok n f (fun a=>kok n f P (g a)) t→kok n f P (t.bind g)
 | .ret a,h=>h
 | .ask i j k,h=>⟨h.1,h.2.1,Za8 (k (f i j)) h.2.2⟩
theorem Zn4 {f:Nat→Nat→Bool} {P:α→Prop}:∀ (t:KasT α),kok n f P t→kin n f t=true∧P (krun f t)
 | .ret a,h=>⟨rfl,h⟩
 | .ask i j k,h=>by
   obtain ⟨a,b⟩:=Zn4 (k (f i j)) h.2.2;refine ⟨?_,b⟩;unfold kin;rw [n32_ h.1,n32_ h.2.1,a];rfl
section
variable {n:Nat} {f:Nat→Nat→Bool}
def Pm (n:Nat) (p:Array Nat):Prop:=p.toList.Perm (List.range n)
theorem Pm.size {p:Array Nat} (h:Pm n p):p.size=n:=by have:=h.length_eq;simpa using this
theorem Pm.lt {p:Array Nat} (h:Pm n p) (hi:i<n):p.getD i 0<n:=by
 have hs:=h.size
 have:p.getD i 0∈p.toList:=by
  rw [Array.getD_eq_getD_getElem?,Array.getElem?_eq_getElem (show i<p.size by omega)];simp
 exact n35_.mp (h.mem_iff.mp this)
theorem Pm.ne {p:Array Nat} (h:Pm n p) (hi:i<n) (hj:j<n) (ne:i≠j):p.getD i 0≠p.getD j 0:=fun z=>by
 have hs:=h.size;have nd:p.toList.Nodup:=h.nodup_iff.mpr List.nodup_range;rw [Array.getD_eq_getD_getElem?,Array.getElem?_eq_getElem (show i<p.size by omega),Array.getD_eq_getD_getElem?,Array.getElem?_eq_getElem (show j<p.size by omega)] at z;exact ne ((n60_ (xs:=p.toList) (h₀:=by simpa using (show i<p.size by omega)) (h₁:=by simpa using (show j<p.size by omega)) nd).mp (by simpa using z))
theorem Pm.perm {p q:Array Nat} (h:Pm n p) (e:q.Perm p):Pm n q:=(Array.perm_iff_toList_perm.mp e).trans h
abbrev at' (p:Array Nat) (i:Nat):Nat:=p.getD i 0
theorem Zc9 {p q:Array Nat} (h:p[i]? = q[j]?):at' p i=at' q j:=by simp only [at',Array.getD_eq_getD_getElem?,h]
def Asc (f:Nat→Nat→Bool) (p:Array Nat) (k:Nat):Prop:=∀ i j,i<j→j<k→f (at' p i) (at' p j)=true
def Dsc (f:Nat→Nat→Bool) (p:Array Nat) (k:Nat):Prop:=∀ i j,i<j→j<k→f (at' p j) (at' p i)=true
theorem Ord.flip (o:Ord n f) {p:Array Nat} (h:Pm n p) (hi:i<n) (hj:j<n) (ne:i≠j) (z:f (at' p i) (at' p j)=false):f (at' p j) (at' p i)=true:=by
 have:=o.ant _ _ (h.lt hi) (h.lt hj) (h.ne hi hj ne)
 rw [this,show f (p.getD i 0) (p.getD j 0)=false from z];rfl
theorem Zqm (o:Ord n f) {p:Array Nat} (h:Pm n p) (k1:1≤k) (hk:k<n) (a:Asc f p k) (z:f (at' p (k-1)) (at' p k)=true):Asc f p (k+1):=fun i j hij hj=>by
 by_cases e:j=k
 · subst e
   by_cases e2:i=j-1
   · rw [e2];exact z
   · exact o.tr _ _ _ (h.lt (?d)) (h.lt (?d)) (h.lt hk) (a i (j-1) (?d) (?d)) z
 · exact a i j hij (?d)
theorem Zjt (o:Ord n f) {p:Array Nat} (h:Pm n p) (k1:1≤k) (hk:k<n) (a:Dsc f p k) (z:f (at' p k) (at' p (k-1))=true):Dsc f p (k+1):=fun i j hij hj=>by
 by_cases e:j=k
 · subst e
   by_cases e2:i=j-1
   · rw [e2];exact z
   · exact o.tr _ _ _ (h.lt hk) (h.lt (?d)) (h.lt (?d)) z (a i (j-1) (?d) (?d))
 · exact a i j hij (?d)
theorem Zjf (o:Ord n f) {p:Array Nat} (h:Pm n p) {P:Nat→Prop}:∀ (u k:Nat),1≤k→k+u≤n→Asc f p k→(∀ m,k≤m→m≤k+u→Asc f p m→(m<k+u→f (at' p m) (at' p (m-1))=true)→P m)→kok n f P (kas_asc p u k)
 | 0,k,k1,hu,a,q=>q k (n11_ _) (n11_ _) a (?d)
 | u+1,k,k1,hu,a,q=>by
   refine ⟨h.lt (?d),h.lt (?d),?_⟩;cases c:f (p.getD k 0) (p.getD (k-1) 0) with
   | true=>dsimp only;rw [if_pos rfl];exact q k (n11_ _) (?d) a fun _=>c
   | false =>
     dsimp only;rw [if_neg ?g];exact Zjf o h u (k+1) (?d) (?d) (Zqm o h k1 (?d) a (o.flip h (?d) (?d) (?d) c)) fun m m1 m2 am z=>q m (?d) (?d) am fun hm=>z (?d)
theorem Zj8 (o:Ord n f) {p:Array Nat} (h:Pm n p) {P:Array Nat×Nat×Nat→Prop}:∀ (u k:Nat),1≤k→k+u≤n→Dsc f p k→(∀ m,k≤m→m≤k+u→Dsc f p m→P (p,m,0))→kok n f P (kas_desc u p k 0)
 | 0,k,k1,hu,a,q=>q k (n11_ _) (n11_ _) a
 | u+1,k,k1,hu,a,q=>by
   refine ⟨h.lt (?d),h.lt (?d),?_⟩;cases c:f (p.getD k 0) (p.getD (k-1) 0) with
   | true =>
     dsimp only;rw [if_pos rfl,if_neg (?d)];exact Zj8 o h u (k+1) (?d) (?d) (Zjt o h k1 (?d) a c) fun m m1 m2 am=>q m (?d) (?d) am
   | false =>
     dsimp only;rw [if_neg ?g];refine ⟨h.lt (?d),h.lt (?d),?_⟩;dsimp only;rw [show f (p.getD (k-1) 0) (p.getD k 0)=true from o.flip h (?d) (?d) (?d) c,if_pos rfl];exact q k (n11_ _) (?d) a
theorem Zrh {p:Array Nat} (hm:m≤p.size) (k:Nat) (hk:k<m):at' (kas_rev p 0 m) k=at' p (m-1-k):=by
 have e:=getElem?_mirror_all (xs:=p) (i:=0) hm k;rw [if_pos ⟨n42_ _,hk⟩] at e;exact Zc9 (e.trans (by rw [Nat.zero_add]))
theorem Zmi (o:Ord n f) {p:Array Nat} (h:Pm n p) (h2:2≤n) {P:Nat×Array Nat→Prop} (q:∀ m p',1≤m→m≤n→Pm n p'→Asc f p' m→P (m,p')):kok n f P (kas_count n p):=by
 unfold kas_count;refine Za8 _ (Zjf o h (n-1) 1 (n11_ _) (?d) (fun i j _ _=>?d) fun m m1 m2 am z=>?_)
 by_cases e:m=n
 · rw [if_pos (by simp [e])];exact q m p m1 (?d) h am
 rw [if_neg (by simp [e])]
 by_cases g:m>1
 · rw [if_pos g];refine ⟨h.lt (?d),h.lt (?d),?_⟩;dsimp only;rw [show f (p.getD 0 0) (p.getD (m-1) 0)=true from am 0 (m-1) (?d) (?d),if_pos rfl];exact q m p m1 (?d) h am
 rw [if_neg g];have em:m=1:=?d
 subst em;unfold kas_descPart;refine Za8 _ (Zj8 o h (n-2) 2 (?d) (?d) (Zjt o h (n11_ _) (?d) (fun i j _ _=>?d) (z (?d))) fun m m1 m2 dm=>?_);show kok n f P (if 0>0 then _ else kas_tail3 m n p)
 rw [if_neg (?d)];unfold kas_tail3;have hs:=h.size;have hr:Pm n (kas_rev p 0 m):=h.perm (mirror_perm _ _ _ _);refine Za8 _ (Zjf o hr (n-m) m (?d) (?d) (fun i j hij hj=>?_) fun m' m1' m2' am' _=>q m' _ (?d) (?d) hr am');rw [Zrh (?d) i (?d),Zrh (?d) j hj];exact dm (m-1-j) (m-1-i) (?d) (?d)
theorem Zdj (o:Ord n f) {p:Array Nat} (h:Pm n p) (hk:k<n) (a:Asc f p k) {P:Nat→Prop} (q:∀ l,l≤k→(∀ i,i<l→f (at' p i) (at' p k)=true)→(∀ i,l≤i→i<k→f (at' p k) (at' p i)=true)→P l) :
 ∀ (u l r:Nat),l≤r→r≤k→r-l≤u→(∀ i,i<l→f (at' p i) (at' p k)=true)→(∀ i,r≤i→i<k→f (at' p k) (at' p i)=true)→kok n f P (kas_place p k u l r)
 | 0,l,r,lr,rk,hu,b1,b2=>q l (?d) b1 fun i h1 h2=>b2 i (?d) h2
 | u+1,l,r,lr,rk,hu,b1,b2=>by
   unfold kas_place
   by_cases g:l ≥ r
   · rw [if_pos g];exact q l (?d) b1 fun i h1 h2=>b2 i (?d) h2
   rw [if_neg g];refine ⟨h.lt hk,h.lt (?d),?_⟩;cases c:f (p.getD k 0) (p.getD ((l+r)/2) 0) with
   | true =>
     dsimp only;rw [if_pos rfl];refine Zdj o h hk a q u l ((l+r)/2) (?d) (?d) (?d) b1 fun i h1 h2=>?_
     by_cases e:i=(l+r)/2
     · rw [e];exact c
     · exact o.tr _ _ _ (h.lt hk) (h.lt (show (l+r)/2<n by omega)) (h.lt (?d)) c (a _ i (?d) h2)
   | false =>
     dsimp only;rw [if_neg ?g];have c':=o.flip h hk (show (l+r)/2<n by omega) (?d) c;refine Zdj o h hk a q u ((l+r)/2+1) r (?d) rk (?d) (fun i h1=>?_) b2
     by_cases e:i=(l+r)/2
     · rw [e];exact c'
     · exact o.tr _ _ _ (h.lt (?d)) (h.lt (show (l+r)/2<n by omega)) (h.lt hk) (a i _ (?d) (?d)) c'
theorem Zq5 {p:Array Nat} {d:Nat} (hk:k<p.size) (hd:d≤k) (j:Nat):at' (bubble p k d) j=if j=k-d then at' p k else if k-d<j∧j≤k then at' p (j-1) else at' p j:=by
 have e:=getElem?_bubble hk d hd j
 by_cases h1:j=k-d
 · rw [if_pos h1] at e ⊢;exact Zc9 e
 · rw [if_neg h1] at e ⊢
   by_cases h2:k-d<j∧j≤k
   · rw [if_pos h2] at e ⊢;exact Zc9 e
   · rw [if_neg h2] at e ⊢;exact Zc9 e
theorem Znn (o:Ord n f) {P:Array Nat→Prop} (q:∀ p,Pm n p→Asc f p n→P p):∀ (u:Nat) (p:Array Nat) (k:Nat),k+u=n→Pm n p→Asc f p k→kok n f P (kas_bin u p k)
 | 0,p,k,e,h,a=>q p h (by rw [← e];exact a)
 | u+1,p,k,e,h,a=>by
   have hk:k<n:=?d
   have hs:=h.size;unfold kas_bin;refine Za8 _ (Zdj o h hk a (fun l lk b1 b2=>?_) k 0 k (n42_ _) (n11_ _) (?d) (fun i hi=>?d) (fun i h1 h2=>?d));refine Znn o q u _ (k+1) (?d) (h.perm (bubble_perm _ _ _)) fun i j hij hj=>?_;rw [Zq5 (?d) (?d) i,Zq5 (?d) (?d) j];have el:k-(k-l)=l:=?d
   rw [el]
   by_cases i1:i=l
   · rw [if_pos i1,if_neg (?d),if_pos (?d)];exact b2 (j-1) (?d) (?d)
   rw [if_neg i1]
   by_cases i2:l<i∧i≤k
   · rw [if_pos i2,if_neg (?d),if_pos (?d)];exact a (i-1) (j-1) (?d) (?d)
   rw [if_neg i2]
   by_cases j1:j=l
   · rw [if_pos j1];exact b1 i (?d)
   rw [if_neg j1]
   by_cases j2:l<j∧j≤k
   · rw [if_pos j2]
     by_cases e3:i=j-1
     · omega
     · exact a i (j-1) (?d) (?d)
   · rw [if_neg j2];exact a i j hij (?d)
theorem Zia (o:Ord n f) (h2:2≤n):kin n f (kas_sort n)=true∧(krun f (kas_sort n)).toList.Perm (List.range n)∧(krun f (kas_sort n)).toList.Pairwise (fun i j=>f i j=true):=by
 have fin:∀ p:Array Nat,Pm n p→Asc f p n→p.toList.Perm (List.range n)∧p.toList.Pairwise (fun i j=>f i j=true):=fun p h a=>by
  refine ⟨h,n65_.mpr fun i j hi hj hij=>?_⟩;have hs:=h.size;have hj':j<p.size:=by simpa using hj
  have:=a i j hij (?d)
  simp only [at',Array.getD_eq_getD_getElem?] at this;rw [Array.getElem?_eq_getElem (show i<p.size by omega),Array.getElem?_eq_getElem hj'] at this
  simpa using this
 refine Zn4 (P:=fun p:Array Nat=>p.toList.Perm (List.range n)∧p.toList.Pairwise (fun i j=>f i j=true)) (kas_sort n) ?_;unfold kas_sort;have h0:Pm n (List.toArray (List.range n)):=by unfold Pm;simp
 refine Za8 _ (Zmi o h0 h2 fun m p' m1 m2 h a=>?_)
 by_cases g:m<n
 · rw [if_pos g];refine Znn o fin _ p' _ (by simp only [];omega) h ?_;rw [show max (m,p').1 1=m by simp only [];omega];exact a
 · rw [if_neg g]
   have:m=n:=?d
   subst this;exact fin p' h a
end
end L2
namespace L2
open PySem PySem.Spec PyProof.Rows PySem.W
variable {b l:Addr} {h:Heap} {ns:?e}
section
variable {prog:Program} {w:World} {A:Around} {E:Value→?i} {s:Shared}
theorem Zl8 {its its2:Array Value} {ms:?e} (hl:IsTup s.heap l its) (hb:IsTup s.heap b its2) (hi:IntsAre its.toList ns) (hj:IntsAre its2.toList ms) (hu:A.units<cLine):SeqAt.EqAt A s (.ref l) (.ref b) (decide (ns=ms)):=by
 by_cases e:l=b
 · subst e;obtain ⟨o,e1,_,n,d⟩:=hl;obtain ⟨o2,e2,_,n2,d2⟩:=hb;rw [e1] at e2;cases e2
   rw [d] at d2;cases d2
   rw [n32_ (hi.nums.symm.trans hj.nums)];exact SeqAt.EqAt.same _
 · have a1:=IntsAre.length hi;have a2:=IntsAre.length hj;rw [Array.length_toList] at a1 a2;have h:=SeqAt.RcAt.tuples (A:=A) (s:=s) (e:=fun j=>decide (ns.getD j default=ms.getD j default)) hl hb hu fun j z1 z2=>?_
   · rw [a1,a2,Zte] at h;exact SeqAt.EqAt.of_refs e h
   · have key:∀ {vs:?q} {ns:?e},IntsAre vs ns→∀ j (h:j<vs.length),∃ t,vs[j]=.int (ns.getD j default) t:=by
      intro vs ns h
      induction h with
      | nil=>intro j h;simp at h
      | cons n t r ih =>
        intro j h;cases j with
        | zero=>exact ⟨t,rfl⟩
        | succ j=>obtain ⟨t',e⟩:=ih j (by simpa using h);exact ⟨t',by simpa using e⟩
     obtain ⟨t1,e1⟩:=key hi j (by simpa using z1);obtain ⟨t2,e2⟩:=key hj j (by simpa using z2);rw [Array.getElem_toList] at e1 e2;rw [e1,e2,show decide (ns.getD j default=ms.getD j default)=(ns.getD j default == ms.getD j default) by rw [Bool.eq_iff_iff];simp];exact SeqAt.EqAt.int_int _ _ _ _
end
section
variable {X:Cx}
theorem Zea:∀ {vs:?q},(∀ v∈vs,∃ b o its n c o2,v=Value.ref b∧h.get? b=some o∧o.cls=.type "tuple" ∧ o.data=.seq its n∧its[0]? = some (.ref c)∧h.get? c=some o2∧o2.cls=.type "tuple")→∃ fs:?q,KatTups h vs fs∧fs.length=vs.length∧∀ v∈fs,∃ c o2,v=Value.ref c∧h.get? c=some o2∧o2.cls=.type "tuple"
 | [],_=>⟨[],.nil,rfl,fun v hv=>by simp at hv⟩
 | v :: vs,hh=>by
   obtain ⟨fs,h1,h2,h3⟩:=Zea (vs:=vs) fun u hu=>hh u (n16_ _ hu);obtain ⟨b,o,its,n,c,o2,rfl,g,cl,d,e,g2,c2⟩:=hh v ?g;refine ⟨_ :: fs,.cons g cl d e h1,by rw [n18_,n18_,h2],fun u hu=>?_⟩
   rcases n9_.mp hu with rfl|hu
   · exact ⟨_,_,rfl,g2,c2⟩
   · exact h3 u hu
end
end L2
namespace L2
open PySem PySem.Spec PyProof.Rows PySem.W
variable {a:Addr} {k:Nat} {o:Obj}
section
variable {prog:Program} {w:World} {A:Around} {E:Value→?i} {s:Shared}
theorem Zd8:typeLookup (.type "list") "keys" = pure none:=am_miss_of_fast ?w
theorem Zgi {xs:Array Value} {Q:Option Value→?i} (hx:s.heap.get? a=some o) (hc:o.cls=.type "list") (hdat:o.data=.seq xs k) (hd:o.dict=none) (hA:A.handled=none)
 (h:∀ h' tk,(∀ b o,s.heap.get? b=some o→h'.get? b=some o)→Q none { s with heap:=h',toks:=tk }):wpAny ?p A (getAttr? (.ref a) "keys") Q E s:=by
 obtain ⟨c,dct,dat,sl⟩:=o;simp only at hc hdat hd;subst hc hdat hd;obtain ⟨hp,g,d,tk,os⟩:=s;have hT:∀ tk',(⟨hp,g,d,tk',os⟩:Shared).TypeIs (.ref a) "list" := fun _=>⟨_,hx,rfl⟩;have f1:=sub_AttributeError;have f3:=F.slot_list_getattribute.lookup;have f4:=F.slot_list_getattribute.bind (.ref a);have f5:=am_list_getattr_none;unfold getAttr? getAttrBy? getAttrBy
 repeat (any_goals (first|assumption|exact hT _|((with_reducible show wpAny _ _ (call (Value.builtin "list.__getattribute__") _ _) _ _ _);refine call_meets F.slot_list_getattribute (hT _) am_entry_list_getattribute (F.args_list_getattribute_2 _ _) (meets_getattribute_miss_list a xs k sl "keys" _ Zd8 (?j) (?j)) ⟨hx,hA,fun h' tk' e hx'=>?_⟩)|wp_step))
 obtain ⟨t',u',he⟩:=hx'.there;show wpAny _ _ (getattributeRaised _ _ _ _ _ _ _) _ _ _
 unfold getattributeRaised
 repeat (any_goals (first|assumption|wp_step))
 exact h _ _ hx'.keeps
end
end L2
namespace L2
open PySem PySem.Spec PyProof.Rows PySem.W
theorem Xa:entryFor table "dict.update.loop" = some Builtin.«dict.update.loop»:=entryFor_of_tree ?w
theorem Z6:plainId "dict.update.loop" = true:=?j
section
variable {prog:Program} {w:World} {A:Around} {E:Value→?i} {s:Shared} {k l:SK}
end
structure PIt (X:Cx) (pins:?y) (σ:St) (H1:Hp) (D it:Addr) (fp:List Addr) (st:Nat→Heap→Prop) (ps:List (List Key×V)):Prop where
 obj:∀ i h,st i h→∀ b∈fp,∃ o,h.get? b=some o∧∀ v,o.data≠.cell v
 keep:∀ i h h',st i h→(∀ b∈fp,∀ o,h.get? b=some o→h'.get? b=some o)→st i h'
 fpk:∀ b∈fp,FpOk X pins H1 b∧b≠D
 item:∀ (A:Around) (i:Nat) (s:Shared) (kvs:List (List Key×V)) (k:List Key) (y:V) (Q:Option Value→?i) (E:Value→?i),A.handled=none→ps[i]? = some (k,y)→Inv X pins σ (upd H1 D (.dT kvs)) s→st i s.heap →
  (∀ T b u s',IsTup s'.heap T #[.ref b,u]→H1 b=some (.tup (k.map kV))→RelV y u→Inv X pins σ (upd H1 D (.dT kvs)) s'→st (i+1) s'.heap→Q (some (.ref T)) s')→wpAny ?t A (pyNext (.ref it)) Q E s
 done:∀ (A:Around) (s:Shared) (kvs:List (List Key×V)) (Q:Option Value→?i) (E:Value→?i),A.handled=none→Inv X pins σ (upd H1 D (.dT kvs)) s→st ps.length s.heap →
  (∀ s',Inv X pins σ (upd H1 D (.dT kvs)) s'→Q none s')→wpAny ?t A (pyNext (.ref it)) Q E s
def Zcn (kvs ps:List (List Key×V)):List (List Key×V):=ps.foldl (fun d p=>putK d p.1 p.2) kvs
variable {D it:Addr} {A:Around} {X:Cx} {H1:Hp} {pins:?y} {fp:List Addr} {R:Result→?i} {σ:St}
theorem Zpl {st:Nat→Heap→Prop} {ps:List (List Key×V)} (hu:A.units+1<cLine) (hh:A.handled=none) (hD:H1 D=none) (hz:ps.length≤1000) (P:PIt X pins σ H1 D it fp st ps) :
 ∀ (m i:Nat) (s:Shared) (kvs:List (List Key×V)),ps.length-i=m→i≤ps.length→Inv X pins σ (upd H1 D (.dT kvs)) s→st i s.heap→kvs.length≤i→(∀ s',Inv X pins σ (upd H1 D (.dT (Zcn kvs (ps.drop i)))) s'→R (.ok (.ret .none)) s') →
   codeAny ?t A (.builtin "dict.update.loop" ⟨[.ref D,.ref it,rawInt i,.none],[]⟩) R s:=by
 intro m
 induction m with
 | zero =>
   intro i s kvs hm hi I st0 hk hR;have e:i=ps.length:=?d
   subst e;refine codeAny_builtin Xa ?_;rw [Around.under_plainId Z6 _];show wpAny _ A.in1 (pyNext (.ref it) >>= _) _ _ s
   refine n0_ (P.done A.in1 s kvs _ _ hh I st0 fun s' I'=>?_);show wpAny _ A.in1 (Builtin.Dict.addKeywords D [] >>= _) _ _ s'
   refine n0_ (n2_ (n2_ (hR s' ?_)));rw [List.drop_length];exact I'
 | succ m ih =>
   intro i s kvs hm hi I st0 hk hR;have hlt:i<ps.length:=?d
   obtain ⟨⟨k,y⟩,ek⟩:∃ p,ps[i]? = some p:=⟨ps[i],n1_ hlt⟩;refine codeAny_builtin Xa ?_;rw [Around.under_plainId Z6 _];show wpAny _ A.in1 (pyNext (.ref it) >>= _) _ _ s
   refine n0_ (P.item A.in1 i s kvs k y _ _ hh ek I st0 fun T b u s' hT hb ru I' st1=>?_);have hTi:s'.TypeIs (.ref T) "tuple" := let ⟨o,e,c,_⟩:=hT;⟨o,e,c⟩;have bD:b≠D:=fun z=>by rw [z,hD] at hb;cases hb
   have hf:∀ c∈fp,FpOk X pins (upd H1 D (.dT kvs)) c:=fun c hc=>by
    obtain ⟨⟨f0,f1⟩,ne⟩:=P.fpk c hc;exact ⟨by rw [Zh ne];exact f0,f1⟩
   have Ip:=I'.pinned hf (P.obj _ _ st1);show wpAny _ A.in1 (holding [.ref T] (tryCatch (Builtin.Dict.pairItems (.ref T)) _ >>= _) >>= _) _ _ s'
   refine n0_ (n30_ (n0_ (wpAny_tryCatch ?_)));unfold Builtin.Dict.pairItems;refine n0_ (wpAny_typeOf hTi ?_);rw [if_pos ?f];obtain ⟨o,e1,_,n1,d1⟩:=hT;refine n0_ (wpAny_seqItems e1 d1 (n2_ ?_));show wpAny _ A.in1 (holding [.ref b,u] (dictSet D (.ref b) u)) _ _ s'
   refine n30_ (Zgf (k:=k) (v:=y) (by rw [Around.in1_units];omega) Ip Zc (by rw [Zh bD];exact hb) ru (by rw [sizeLine_eq];omega) fun s2 I2=>?_)
   have eH:upd (upd H1 D (.dT kvs)) D (.dT (putK kvs k y))=upd H1 D (.dT (putK kvs k y)):=by
    funext c
    by_cases z:c=D
    · subst z;rw [Zc,Zc]
    · rw [Zh z,Zh z,Zh z]
   rw [eH] at I2;have st2:st (i+1) s2.heap:=P.keep _ _ _ st1 fun c hc o e=>(I2.pin (c,o) (n29_ _ (n29_ _ (Y3 hc e)))).1;refine n2_ ⟨plainId_quiet Z6 _,?_⟩;refine ih (i+1) s2 _ (?d) hlt I2.unpinned st2 ?_ fun s3 I3=>hR s3 ?_
   · have:=Yx kvs k y;omega
   · rw [List.drop_eq_getElem_cons hlt,show ps[i]=(k,y) by rw [n1_ hlt] at ek;exact Option.some.inj ek];exact I3
end L2
namespace L2
open PySem PySem.Spec PyProof.Rows PySem.W
variable {a:Addr} {H H':Hp} {xs:List V}
theorem Same.sqT {K:PySem.W.Frag} (e:Same H H') (h:SqT K H a xs):SqT K H' a xs:=by
 rcases h with h|h
 · left
   rcases h with h|⟨o,h⟩
   · exact .inl (e _ _ h)
   · exact .inr ⟨o,e _ _ h⟩
 · exact .inr h
section
variable {X:Cx} {pins:?y} {σ:St} {H:Hp} {s:Shared}
end
end L2
namespace L2
open PySem PySem.Spec PyProof.Rows PySem.W
variable {Q:Value→?i}
section
variable {prog:Program} {w:World} {A:Around} {E:Value→?i} {s:Shared}
theorem Zmf {x:Addr} {T:String} (hT:s.TypeIs (.ref x) T) (hne:(Value.type T != Value.type "dict")=true)
 (h:wpAny ?p A.in1.in1 (getAttr? (.ref x) "keys") (fun r s2=>r=none∧wpAny ?p A.in1.in1 (pyIter (.ref x)) (fun it s3=>codeAny ?p A.in1 (.builtin "dict.update.loop" ⟨[.ref s.z,it,rawInt 0,.none],[]⟩) (wants (fun r s₂=>r=.none∧Q (.ref s.z) s₂) E) s3) (fun _ _=>False) s2) (fun _ _=>False) { s with heap:=s.heap.push { cls:=.type "dict",data:=.dict #[] } }) :
 wpAny ?p A (call (.type "dict") [.ref x]) Q E s:=by
 refine callType_codes (Q₁:=fun obj s₁=>obj=.ref s.z∧s₁={ s with heap:=s.heap.push { cls:=.type "dict",data:=.dict #[] } }) F.kt_called_dict (F.kt_typeCall_dict_1 _) F.entry_dict_init (kt_code_dict_new _ ⟨rfl,rfl⟩) ?_;rintro obj s₁ ⟨rfl,rfl⟩
 have hd:({ s with heap:=s.heap.push { cls:=.type "dict",data:=.dict #[] } }:Shared).TypeIs (.ref s.z) "dict" := ⟨_,n8_ _ rfl,rfl⟩
 have hT':({ s with heap:=s.heap.push { cls:=.type "dict",data:=.dict #[] } }:Shared).TypeIs (.ref x) T:=by
  obtain ⟨o,e,c⟩:=hT;exact ⟨o,n3_ _ e,c⟩
 refine ⟨hd,F.args_dict_init_2 _ _,?_⟩;unfold Builtin.«dict.__init__»;refine n0_ ?_;unfold Builtin.Dict.selfAndRest;refine n0_ (wpAny_notOrdered_dict hd ?_);show wpAny _ _ (pure (s.z,[Value.ref x])) _ _ _
 refine n2_ ?_;show wpAny _ _ (Builtin.Dict.updateFrom "dict.__init__" s.z (.ref x) [] .none) _ _ _
 unfold Builtin.Dict.updateFrom;refine n0_ (wpAny_typeOf hT' ?_);rw [if_pos hne];refine n0_ (n38_ h (fun r s2 h2=>?_) fun _ _ z=>z.elim);obtain ⟨rfl,h2⟩:=h2;rw [if_pos (show (none:Option Value).isNone=true from rfl)];refine n0_ (wpAny_rule (n0_ (n38_ h2 (fun it s3 h3=>?_) fun _ _ z=>z.elim)));exact n2_ ⟨plainId_quiet Z6 _,h3⟩
end
section
variable {X:Cx}
end
end L2
namespace L2
open PySem PySem.Spec PyProof.Rows PySem.W
variable {D it:Addr} {X:Cx} {elt i0 i1 t0 t1:Expr} {H1:Hp} {fr:List (Option Nat)} {cl:List (Str×Addr)} {N:List Str} {pos:Pos} {prog:Program} {scope:Scope} {te:TE} {wi:TI} {w:World}
section
variable {X:Cx} {pins:?y} {σ:St}
theorem Zqt {h0:Heap} {L:Addr} {us:List V} {ps:List (List Key×V)} (hc:X.calm=true) (hD:H1 D=none) (hn:it≠D) (hf:FpOk X pins H1 it) (hL:H1 L=some (.lst us))
 (al:Al (fun v (p:List Key×V)=>∃ c b,v=.ref c∧H1 c=some (.tup [.ref b,p.2])∧H1 b=some (.tup (p.1.map kV))) us ps) :
 PIt X pins σ H1 D it [it] (fun n h=>h.IsListIter it L n) ps:=by
 have sm:∀ kvs,Same H1 (upd H1 D (.dT kvs)):=fun kvs=>Same.new hD;have nL:L≠it:=fun z=>by rw [z,hf.1] at hL;cases hL
 have hf':∀ kvs,∀ c∈[it],FpOk X pins (upd H1 D (.dT kvs)) c:=fun kvs c hc=>by
  rw [n25_.mp hc];exact ⟨by rw [Zh hn];exact hf.1,hf.2⟩
 refine ⟨fun n h st e he=>?_,fun n h h' st f=>?_,fun b hb=>?_,fun A n s kvs key y Q E hh hp I st q=>?_,fun A s kvs Q E hh I st q=>?_⟩
 · rw [n25_.mp he];obtain ⟨o,e,_,d⟩:=st;exact ⟨o,e,fun v q=>by rw [d] at q;cases q⟩
 · exact st.at fun o e=>f it ?g o e
 · rw [n25_.mp hb];exact ⟨hf,hn⟩
 · obtain ⟨its,rv,pl,_⟩:=I.list (SqL.of (sm kvs _ _ hL));obtain ⟨v,ev,c,b,rfl,hc',hb⟩:=al.got hp;obtain ⟨u,eu,ru⟩:=rv.get ev;cases ru
   refine wpAny_pyNext_list_item st pl.isList (x:=.ref c) (by simpa using eu) fun h' hit' hs'=>?_;obtain ⟨jt,rj,pt,_⟩:=I.tuple (SqT.of (sm kvs _ _ hc'));cases rj with
   | cons r1 rj=>cases rj with
     | cons r2 rj =>
       cases rj
       cases r1
       have I':Inv X pins σ (upd H1 D (.dT kvs)) { s with heap:=h',toks:=s.toks }:=I.turnOnly (ch:=[it]) (fun e o' ne q=>hs'.extBut _ _ (fun z=>ne (by simp [z])) q) (hf' kvs);obtain ⟨jt',rj',pt',_⟩:=I'.tuple (SqT.of (sm kvs _ _ hc'));cases rj' with
       | cons r1' rj'=>cases rj' with
         | cons r2' rj' =>
           cases rj'
           cases r1'
           exact q c b _ _ pt' hb r2' I' hit'
 · obtain ⟨its,rv,pl,_⟩:=I.list (SqL.of (sm kvs _ _ hL));have e1:=rv.length;have e2:=al.1;refine wpAny_pyNext_list_end hh st pl.isList (by simp;omega) fun h' he'=>?_;exact q { s with heap:=h' } (I.turnOnly (t':=s.toks) (ch:=[it]) (fun e o' ne q=>he' _ _ (fun z=>ne (by simp [z])) q) (hf' kvs))
theorem Zk9 (hc:X.calm=true) (hu:X.A.units+4<cLine):Yv X (.type "dict") (fun xs H Q=>∃ (L:Addr) (us:List V) (ps:List (List Key×V)),xs=[.ref L]∧H L=some (.lst us)∧us.length≤1000∧Al (fun v (p:List Key×V)=>∃ c b,v=.ref c∧H c=some (.tup [.ref b,p.2])∧H b=some (.tup (p.1.map kV))) us ps ∧
 ∀ D,H D=none→Q (.ref D) (upd H D (.dT (Zcn [] ps)))):=by
 intro pins s σ H xs vs Q I r h;obtain ⟨L,us,ps,rfl,hL,hz,al,q⟩:=h;obtain ⟨u,rfl,ru⟩:=Zh0 r;cases (show _=Value.ref L from ru)
 have hh:X.A.handled=none:=I.ok.hd hc;obtain ⟨its,rv,⟨ob,n,e0,c0,d0,dt0⟩,_⟩:=I.list (SqL.of hL);refine Zmf (T := "list") ⟨_,e0,c0⟩ ?f ?_;have hD:H s.z=none:=I.hok.fresh (n11_ _)
 have I2:Inv X pins σ (upd H s.z (.dT [])) { s with heap:=s.heap.push { cls:=.type "dict",data:=.dict #[] } } :=
  I.laid (t':=s.toks) (fun b o e=>n3_ _ e) (n11_ _) (Zf1 s.heap I.big)
 refine Zgi (n3_ _ e0) c0 dt0 d0 hh fun h' tk k'=>⟨rfl,?_⟩;have I3:Inv X pins σ (upd H s.z (.dT [])) { s with heap:=h',toks:=tk }:=I2.kept k';have hL':upd H s.z (.dT []) L=some (.lst us):=Same.new (o:=.dT []) hD _ _ hL;obtain ⟨its',rv',pl',_⟩:=I3.list (SqL.of hL');refine wpAny_pyIter_list (s:={ s with heap:=h',toks:=tk }) pl'.isList ?_;have lt:s.z<h'.objs.size:=n13_ (k' _ _ (n8_ _ rfl));have hit:H h'.objs.size=none:=I.hok.fresh (Nat.le_of_lt lt);have fI:FpOk X pins H h'.objs.size:=I.fpOk (Nat.le_of_lt lt) hit;have P:=Zqt (X:=X) (pins:=pins) (σ:=σ) (h0:=h') (D:=s.z) (it:=h'.objs.size) hc hD (n70_ lt) fI hL al;have n2:ps.length≤1000:=by have:=al.1;omega
 refine Zpl (A:=X.A.in1) (by rw [Around.in1_units];omega) hh hD n2 P _ 0 _ [] rfl (n42_ _) (I3.kept (t':=tk) fun b o e=>n3_ _ e) ⟨_,n8_ _ rfl,rfl,rfl⟩ (n11_ _) fun s' I'=>?_;exact ⟨rfl,.ref s.z,_,I',rfl,q _ hD⟩
end
abbrev lc2 (elt t0 i0 t1 i1:Expr) (scope:Scope) (pos:Pos):Expr:=.ListComp elt [⟨t0,i0,[],0⟩,⟨t1,i1,[],0⟩] scope pos
theorem Zvq:C2Ok prog w (lc2 elt t0 i0 t1 i1 scope pos) t0 i0 t1 i1 elt "list.append" (fun acc v=>do let _ ← call (.builtin "list.append") [acc,v]):=by
 refine ⟨fun _ _ _ _ _=>rfl,fun _ _ _ _=>rfl,fun _ _ _ _=>rfl,fun _ _ _=>rfl,fun _ _ _=>rfl,fun A acc x s P E h=>n0_ (n38_ h (fun _ s5 h5=>n2_ h5) fun _ _ h'=>h'.elim),fun A k hk it acc env R s4 h0 h=>?_⟩;refine codeAny_of_tree ?_;show wpAny _ _ ((compStart (lc2 elt t0 i0 t1 i1 scope pos) k it acc env).onRaise (fun x=>do noteFrame x env;standAt theWindowsPlace)) _ _ s4
 refine wpAny_notedAt ?_;have hk':k=0∨k=1:=?d
 rcases hk' with rfl|rfl <;>
 · unfold compStart;show wpAny _ _ (ask >>= _) _ _ s4
   refine n0_ (wpAny_askSetting (wpAny_ite ?_));split
   · first
      | exact n0_ (n2_ (n2_ (And.intro rfl h0)))
      | exact n2_ (And.intro rfl h0)
   · first
      | exact n0_ (wpAny_rule (n0_ (wpAny_standAt (n0_ (n38_ (h NoX) (fun it' s' h'=>n2_ (And.intro rfl h')) fun _ _ x=>x.elim)))))
      | (refine n0_ (wpAny_rule ?_);show wpAny _ _ (standAt _ >>= _) _ _ s4;exact n0_ (wpAny_standAt (n0_ (n38_ (h NoX) (fun it' s' h'=>n2_ (And.intro rfl h')) fun _ _ x=>x.elim))))
abbrev Zsb:=C2Go adL (.lst [])
def tLC2 (wi:TI) (g0:TG) (wi1:TI) (g1:TG) (te:TE) (fr:List (Option Nat)):TE:=fun σ H Q=>wi σ H fun J H1=>∀ D,H1 D=none→Zsb J g0 wi1 g1 te (Xz fr σ) H1 D Q
theorem Zq4 {wi1:TI} {g0 g1:TG}
 (hc:X.calm=true) (L:LcO X scope cl N fr) (hi:PI X t0 i0 wi) (hg:∀ C s3 H3 fp,PG ?B t0 g0) (hi1:∀ C s3 H3 fp,PI ?B t1 i1 wi1) (hg1:∀ C s3 H3 fp,PG ?B t1 g1)
 (he:∀ C s3 H3 fp,PE ?B elt te)
 (hs:∀ x,foldedSetIterable i0 X.env x=pure x:=by intro _;rfl) (hs1:∀ env x,foldedSetIterable i1 env x=pure x:=by intro _ _;rfl):PE X (lc2 elt t0 i0 t1 i1 scope pos) (tLC2 wi g0 wi1 g1 te fr):=by
 intro pins s σ H Q I h;rw [eval_ListComp];refine wpAny_comprehension_free (use:=none) rfl hs L.clos L.kind L.names (thn (hi pins s σ H _ I h) fun v s1 h1=>thn h1 fun itv s2 h2=>?_);obtain ⟨it,fp,tn,J,H2,e,I2,T,st2,f2,h⟩:=h2;subst e;refine wpAny_newObj_type ?_;exact Zoz (ac:=.lst []) rfl hc L hg hi1 hg1 he Zw3 I2 T st2 f2 ⟨n42_ _,[],0,.nil,n8_ _ rfl⟩ (h _ (I2.hok.fresh (n11_ _))) hs1 Zvq
end L2
namespace PySem
section
variable {prog:Program} {w:World} {A:Around} {E:Value→?i} {s:Shared} {it d:Addr} {i ep:Nat} {es:Array DictEntry}
theorem Zqk {x:DictEntry} {Q:Option Value→?i} (hit:s.heap.IsKeyIter it d i es.size ep) (hm:EntAt s.heap d es ep) (hx:es[i]? = some x)
 (hQ:∀ h',h'.IsKeyIter it d (i+1) es.size ep→Heap.SameBut it s.heap h'→Q (some x.key) { s with heap:=h' }):wpAny ?p A (pyNext (.ref it)) Q E s:=by
 obtain ⟨o,ho,hc,hd⟩:=id hit;obtain ⟨od,e0,q0⟩:=hm;obtain ⟨li,rfl⟩:=Array.getElem?_eq_some_iff.mp hx;unfold pyNext;refine n0_ <| wpAny_attempt <| wpAny_callSpecial?_slot (name:=Str.ofString "__next__") hit.typeIs F.slot_dict_keyiterator_next <| wpAny_call_entry F.slot_dict_keyiterator_next hit.typeIs F.entry_dict_keyiterator_next ?_ (F.args_dict_keyiterator_next_1 _);refine n0_ <| n2_ <| n0_ <| n0_ <| n0_ <| wpAny_typeNameOfWhole_keyiter hit.typeIs <| n2_ <| n0_ <| wpAny_fieldsOf ho hd ?_;have own:Builtin.Dict_items.ownsTuple "dict_keyiterator" = false:=by decide
 simp only [own,n20_,if_false];show wpAny _ _ (if (Value.ref d == Value.none)=true then _ else _) _ _ _
 rw [if_neg (by intro z;cases z)];refine n0_ <| n2_ <| n0_ <| wpAny_dictEntries e0 q0 ?_;rw [if_neg ?g];refine n0_ <| n2_ <| n0_ <| wpAny_dictEpoch e0 q0 ?_;rw [if_neg ?g];refine n2_ ?_;have nn:¬ ((i:Int)<0):=?d
 simp only [nn,if_false,n63_,hx];refine n0_ <| n0_ <| wpAny_typeNameOfWhole_keyiter hit.typeIs <| n2_ <| n0_ <| wpAny_isOneOf_keyiter hit.typeIs ?_;show wpAny _ _ (setField (.ref it) 1 (rawInt ((i:Int)+1)) >>= _) _ _ s
 refine n0_ (wpAny_setField ho hd ?g ?_)
 have hit':(s.heap.update it (Obj.mapFields (·.setIfInBounds 1 (rawInt ((i:Int)+1))))).IsKeyIter it d (i+1) es.size ep :=
  ⟨_,n56_ _ ho (Obj.isFreed_of_fields (Obj.data_mapFields hd _)),(Obj.cls_mapFields ..).trans hc,by rw [Obj.data_mapFields hd];simp [rawInt]⟩
 refine n0_ (n30_ ?_);refine n0_ (wpAny_isOneOf_keyiter (s:={ s with heap:=s.heap.update it (Obj.mapFields (·.setIfInBounds 1 (rawInt ((i:Int)+1)))) }) hit'.typeIs ?_);show wpAny _ _ (pure es[i].key) _ _ _
 exact n2_ (n2_ ⟨_,rfl,n2_ (hQ _ hit' (Heap.SameBut.update ..))⟩)
theorem Ztv {Q:Option Value→?i} (hh:A.handled=none) (hit:s.heap.IsKeyIter it d i es.size ep) (hm:EntAt s.heap d es ep) (hx:es[i]? = none)
 (hQ:∀ h',Heap.ExtBut it s.heap h'→Q none { s with heap:=h' }):wpAny ?p A (pyNext (.ref it)) Q E s:=by
 obtain ⟨o,ho,hc,hd⟩:=id hit;obtain ⟨od,e0,q0⟩:=hm;unfold pyNext;refine n0_ <| wpAny_attempt <| wpAny_callSpecial?_slot (name:=Str.ofString "__next__") hit.typeIs F.slot_dict_keyiterator_next <| wpAny_call_entry F.slot_dict_keyiterator_next hit.typeIs F.entry_dict_keyiterator_next ?_ (F.args_dict_keyiterator_next_1 _);refine n0_ <| n2_ <| n0_ <| n0_ <| n0_ <| wpAny_typeNameOfWhole_keyiter hit.typeIs <| n2_ <| n0_ <| wpAny_fieldsOf ho hd ?_;have own:Builtin.Dict_items.ownsTuple "dict_keyiterator" = false:=by decide
 simp only [own,n20_,if_false];show wpAny _ _ (if (Value.ref d == Value.none)=true then _ else _) _ _ _
 rw [if_neg (by intro z;cases z)];refine n0_ <| n2_ <| n0_ <| wpAny_dictEntries e0 q0 ?_;rw [if_neg ?g];refine n0_ <| n2_ <| n0_ <| wpAny_dictEpoch e0 q0 ?_;rw [if_neg ?g];refine n2_ ?_;have nn:¬ ((i:Int)<0):=?d
 simp only [nn,if_false,n63_,hx];refine n0_ <| n0_ <| wpAny_typeNameOfWhole_keyiter hit.typeIs <| n2_ ?_;show wpAny _ _ (setField (.ref it) 0 .none >>= _) _ _ s
 refine n0_ (wpAny_setField ho hd ?g ?_);show wpAny _ _ (newExc (.type "StopIteration") [] >>= _) _ _ _
 refine n0_ ?_;simp only [newExc,newTuple];refine n0_ (wpAny_newObj_type ?_ (by size_fits));refine n0_ (m:=firstArgMember _ _) (wpAny_of_eq (a:=Value.none) (by first|rfl|(simp only [firstArgMember];rfl)) ?_);refine wpAny_newObj_type ?_ (by size_fits);simp only [raiseNew];refine n0_ (wpAny_handled ?_);rw [show A.in1.handled=none from hh];refine n0_ (n2_ (wpAny_throw ?_));refine n0_ (wpAny_isInstance (T := "StopIteration") (b:=true) ⟨_,n8_ _ rfl,rfl⟩ isSubtype_stop ?_);exact n2_ (hQ _ (((Heap.SameBut.update ..).extBut.push _).push _))
theorem Zkz {Q:Value→?i} (hT:s.TypeIs (.ref d) "dict") (hd:(d == sysModules)=false) (hm:EntAt s.heap d es ep)
 (hQ:Q (.ref s.z) { s with heap:=s.heap.push { cls:=.type "dict_keyiterator",data:=.fields #[.ref d,.int 0 0,.int es.size 0,.int ep 0] } }):wpAny ?p A (pyIter (.ref d)) Q E s:=by
 obtain ⟨o,ho,hdat⟩:=hm;refine wpAny_pyIter_slot hT F.slot_dict_iter (wpAny_call_entry F.slot_dict_iter hT F.entry_dict_iter ?_ (F.args_dict_iter_1 _));unfold Builtin.«dict.__iter__»;refine n0_ ?_;unfold Builtin.Dict.dictSlotNone;refine n0_ (wpAny_notOrdered_dict hT ?_);show wpAny _ _ (pure (Value.ref d)) _ _ s
 refine n2_ ?_;show wpAny _ _ (Builtin.Dict.showsAll d >>= _) _ _ s
 unfold Builtin.Dict.showsAll;rw [if_neg (by rw [hd];exact n17_)];refine n0_ (n2_ ?_);refine n0_ (wpAny_dictEntries ho hdat (n0_ (wpAny_dictEpoch ho hdat ?_)));refine n0_ (wpAny_newObj_type (n2_ ⟨_,rfl,"dict_keyiterator",_,⟨_,n8_ _ rfl,rfl⟩,F.slot_dict_keyiterator_next.lookup,?_⟩))
 simpa [rawInt] using hQ
end
end PySem
namespace L2
open PySem PySem.Spec PyProof.Rows
section
variable {X:Cx} {tg:Expr}
end
end L2
namespace L2
open PySem PySem.Spec PyProof.Rows PySem.W
section
variable {X:Cx}
end
def srtI (ns:?e):?e:=ns.mergeSort (fun a b=>decide (a≤b))
theorem X8 (ns:?e):(srtI ns).Perm ns:=List.mergeSort_perm _ _
theorem Zjl (ns:?e):(srtI ns).Pairwise (·≤·):=by
 have:=List.pairwise_mergeSort (le:=fun a b:Int=>decide (a≤b)) (fun a b c h1 h2=>n32_ (Int.le_trans (n52_ h1) (n52_ h2))) (fun a b=>by
  rcases Int.le_total a b with h|h
  · rw [n32_ h];rfl
  · rw [n32_ h];simp) ns
 exact this.imp fun h=>n52_ h
variable {α:Type} {ns:?e}
theorem Zbo {ms:?e} (h:ms.Perm ns) (p:ms.Pairwise (·≤·)):ms=srtI ns:=lks_uniq (h.trans (X8 ns).symm) p (Zjl ns)
theorem Zbi [DecidableEq α]:∀ (xs ys:List α),xs.Nodup→(∀ x∈xs,x∈ys)→ys.length≤xs.length→xs.Perm ys
 | [],ys,_,_,hl=>by
   have:ys=[]:=List.length_eq_zero_iff.mp (by simpa using hl)
   subst this;exact .nil
 | x :: xs,ys,nd,sub,hl=>by
   have hx:x∈ys:=sub x ?g;have p:=List.perm_cons_erase hx
   have hl':(ys.erase x).length≤xs.length:=by
    have:=p.length_eq
    simp only [n18_] at this hl;omega
   refine (List.Perm.cons x (Zbi xs (ys.erase x) (n71_.mp nd).2 (fun y hy=>?_) hl')).trans p.symm;have ne:y≠x:=fun z=>(n71_.mp nd).1 (z ▸ hy);exact (List.mem_erase_of_ne ne).mpr (sub y (n16_ _ hy))
end L2
namespace L2
open PySem PySem.Spec PyProof.Rows PySem.W
variable {X:Cx} {N:List Str} {j:Nat}
theorem fsc {P:List Str} {sc:Scope} (h:sc.kind=.function∧sc.isCoroutine=false∧sc.isGenerator=false∧N.Nodup∧N.take P.length=P∧(∀ x∈P,sc.names.lookup x=some .local∨sc.names.lookup x=some .cell)∧∀ y∈sc.names,y.2≠.free):FnScope N P sc:=let ⟨a,b,c,d,e,f,g⟩:=h;⟨a,b,c,d,e,f,g⟩
theorem Zem (hr:Room j X.A):Yv X (.builtin "repr") (fun xs H Q=>∃ (N:Addr→Prop) (k:Nat) (l:Addr) (us:List V) (ds:List PyData),xs=[.ref l]∧H l=some (.lst us)∧Dts N H k us ds∧PyData.hasDictAll ds=false∧k<1920∧PyData.depthAll ds≤19∧Zbp ds≤7999∧Q (.str (PyData.list ds).shown) H):=by
 intro pins s σ H xs us' Q I r h;obtain ⟨N,k,l,us,ds,rfl,hl,rd,h2,hk,h3,h4,q⟩:=h;obtain ⟨u,rfl,ru⟩:=Zh0 r;cases ru
 obtain ⟨_,its,n,rv,e⟩:=(show ObjOk X.prog X.w H s.heap l (.lst us) from I.hok l _ hl);obtain ⟨as,ra,na⟩:=Dts.reads I rd rv
 have hz:(PyData.list ds).shown.length≤sizeLine:=by
  have:=Dts.shownLen hk rd
  have z:=listText_len_le (PyData.shownAll ds);rw [Zb3] at z;have e:sizeLine=16777216:=sizeLine_eq;show (listText (PyData.shownAll ds)).length≤_
  omega
 have hu:=hr.un;exact repr_of_reads' (.list e rfl rfl (by simpa using ra)) (show (PyData.list ds).showable=true from Dts.showable hk rd) (fun z=>by rw [show (PyData.list ds).hasDict=PyData.hasDictAll ds from rfl,h2] at z;cases z) hr.gd (by show X.A.units+(PyData.depthAll ds+1+1)<_;omega) (fun _ _ e=>e) (fun h' u tk hk=>⟨.str _,H,I.kept hk,⟨_,rfl⟩,q⟩) hz
end L2
namespace STb
open PySem
structure TW (bt:Bool) (t:SetTable):Prop where
 led:t.led = !bt
 ris:t.place.toList.Pairwise (·<·)
 dum:t.dummies=#[]
theorem Zey {l:List Nat} (h:l.Pairwise (·<·)) {i j x y:Nat} (hi:l[i]? = some x) (hj:l[j]? = some y) (hij:i<j):x<y:=by
 obtain ⟨h1,rfl⟩:=n12_.mp hi;obtain ⟨h2,rfl⟩:=n12_.mp hj;exact n65_.mp h i j h1 h2 hij
theorem Zfg {xs:Array Nat} {j:Nat} (hp:xs.toList.Pairwise (·<·)):∀ (fuel lo hi:Nat),hi-lo≤fuel→lo≤hi→hi≤xs.size→(∀ (i x:Nat),i<lo→xs.toList[i]? = some x→x<j)→(∀ (i x:Nat),hi≤i→xs.toList[i]? = some x→j≤x) →
 (∀ (i x:Nat),i<SetTable.below.go xs j fuel lo hi→xs.toList[i]? = some x→x<j)∧(∀ (i x:Nat),SetTable.below.go xs j fuel lo hi≤i→xs.toList[i]? = some x→j≤x)∧SetTable.below.go xs j fuel lo hi≤xs.size
 | 0,lo,hi,hf,hl,hz,h1,h2=>by
   have:hi=lo:=?d
   subst this;exact ⟨h1,h2,hz⟩
 | fuel+1,lo,hi,hf,hl,hz,h1,h2=>by
   unfold SetTable.below.go
   by_cases c:lo<hi
   · rw [if_pos c];have m1:(lo+hi)/2<hi:=?d
     have m2:lo≤(lo+hi)/2:=?d
     generalize (lo+hi)/2=mid at m1 m2;have hm:mid<xs.size:=?d
     have em:xs.toList[mid]? = some xs[mid]:=by rw [Array.getElem?_toList];exact Array.getElem?_eq_getElem hm
     have eg:xs.getD mid j=xs[mid]:=by simp [Array.getD,hm]
     dsimp only;rw [eg]
     by_cases c2:xs[mid]<j
     · rw [if_pos c2];refine Zfg hp fuel (mid+1) hi (?d) (?d) hz (fun i x hi' e=>?_) h2
       by_cases ci:i=mid
       · subst ci;rw [em] at e;cases e;exact c2
       · have:=Zey hp e em (?d);omega
     · rw [if_neg c2];refine Zfg hp fuel lo mid (?d) m2 (?d) h1 (fun i x hi' e=>?_)
       by_cases ci:i=mid
       · subst ci;rw [em] at e;cases e;omega
       · have:=Zey hp em e (?d);omega
   · rw [if_neg c]
     have:hi=lo:=?d
     subst this;exact ⟨h1,h2,hz⟩
theorem X9 {xs:Array Nat} (j:Nat) (hp:xs.toList.Pairwise (·<·)):(∀ (i x:Nat),i<SetTable.below xs j→xs.toList[i]? = some x→x<j)∧(∀ (i x:Nat),SetTable.below xs j≤i→xs.toList[i]? = some x→j≤x)∧SetTable.below xs j≤xs.size :=
 Zfg hp xs.size 0 xs.size (?d) (?d) (n11_ _) (fun i x h=>absurd h (?d)) (fun i x h e=>by
  have:=(n12_.mp e).1
  rw [Array.length_toList] at this;omega)
theorem below_next {xs:Array Nat} (hp:xs.toList.Pairwise (·<·)) {k x:Nat} (e:xs.toList[k]? = some x):SetTable.below xs (x+1)=k+1:=by
 obtain ⟨h1,h2,h3⟩:=X9 (x+1) hp;have lk:=(n12_.mp e).1;rw [Array.length_toList] at lk
 by_cases c:SetTable.below xs (x+1)≤k
 · have:=h2 k x c e;omega
 · by_cases c2:k+1<SetTable.below xs (x+1)
   · have lt:k+1<xs.toList.length:=by rw [Array.length_toList];omega
     have e2:xs.toList[k+1]? = some xs.toList[k+1]:=n1_ lt;have a:=h1 (k+1) _ c2 e2;have b:=Zey hp e e2 (?d);omega
   · omega
theorem below_zero {xs:Array Nat} (hp:xs.toList.Pairwise (·<·)):SetTable.below xs 0=0:=by
 obtain ⟨h1,h2,h3⟩:=X9 0 hp
 by_cases c:SetTable.below xs 0=0
 · exact c
 · have lt:0<xs.toList.length:=by rw [Array.length_toList];omega
   have:=h1 0 _ (?d) (n1_ lt)
   omega
theorem Zgj {t:SetTable} {j:Nat} (hp:t.place.toList.Pairwise (·<·)) (h:t.slot j=.empty):j∉t.place.toList:=fun hm=>by
 obtain ⟨i,hi,e⟩:=n48_ hm;have e':t.place.toList[i]? = some j:=by rw [n1_ hi,e]
 obtain ⟨h1,h2,h3⟩:=X9 j hp
 have c1:SetTable.below t.place j≤i:=by
  by_cases c:i<SetTable.below t.place j
  · have:=h1 i j c e';omega
  · omega
 have c2:SetTable.below t.place j=i:=by
  by_cases c:SetTable.below t.place j=i
  · exact c
  · have lt:SetTable.below t.place j<t.place.toList.length:=?d
    have e2:=n1_ lt;have a:=h2 _ _ (n11_ _) e2;have b:=Zey hp e2 e' (?d);omega
 have:t.place[SetTable.below t.place j]? = some j:=by rw [c2,← Array.getElem?_toList];exact e'
 unfold SetTable.slot at h;simp only [this,beq_self_eq_true,if_true] at h;cases h
theorem insertAt_list {α:Type} (xs:Array α) (p:Nat) (x:α):(SetTable.insertAt xs p x).toList=xs.toList.take p++x :: xs.toList.drop p:=by
 unfold SetTable.insertAt;simp [Array.toList_extract,List.extract_eq_take_drop];exact n45_ ?g
theorem TW.put {bt:Bool} {t:SetTable} {j:Nat} (w:TW bt t) (h:t.slot j=.empty):TW bt (t.put j).1:=by
 obtain ⟨h1,h2,h3⟩:=X9 j w.ris;have nj:=Zgj w.ris h;refine ⟨w.led,?_,?_⟩
 · show (SetTable.insertAt t.place (SetTable.below t.place j) j).toList.Pairwise (·<·)
   rw [insertAt_list,List.pairwise_append];refine ⟨w.ris.sublist (List.take_sublist ..),List.pairwise_cons.mpr ⟨fun y hy=>?_,w.ris.sublist (List.drop_sublist ..)⟩,fun a ha b hb=>?_⟩
   · obtain ⟨i,hi,e⟩:=n48_ hy;rw [List.getElem_drop] at e;have e':t.place.toList[SetTable.below t.place j+i]? = some y:=by rw [← e];exact n1_ _
     have:=h2 _ _ (Nat.le_add_right _ _) e'
     have:y≠j:=fun z=>nj (z ▸ n6_ e')
     omega
   · obtain ⟨i,hi,e⟩:=n48_ ha;rw [n59_] at hi;rw [List.getElem_take] at e;have e':t.place.toList[i]? = some a:=by rw [← e];exact n1_ _
     have aj:=h1 i a (?d) e'
     rcases n9_.mp hb with rfl|hb
     · exact aj
     · obtain ⟨i2,hi2,e2⟩:=n48_ hb;rw [List.getElem_drop] at e2;have e2':t.place.toList[SetTable.below t.place j+i2]? = some b:=by rw [← e2];exact n1_ _
       have:=h2 _ _ (Nat.le_add_right _ _) e2'
       omega
 · have h2:SetTable.has t.dummies j=false:=by
    rw [w.dum];unfold SetTable.has;simp
   show (if SetTable.has t.dummies j=true then _ else t.dummies)=#[]
   rw [h2];exact w.dum
theorem TW.laid {bt:Bool} {mask finger moves:Nat} {led plain:Bool} {hs:Array Int} {t':SetTable} {order:Array Nat} (hl:led = !bt) (e:SetTable.laid mask finger moves led plain hs=some (t',order)):TW bt t':=by
 unfold SetTable.laid at e;cases q:SetTable.layClean mask hs with
 | none=>rw [q] at e;cases e
 | some owner =>
   rw [q] at e;have e:=Option.some.inj e;have e1:=(Prod.mk.inj e).1;rw [← e1];refine ⟨hl,?_,rfl⟩;show (List.map (·.1) (List.filterMap (fun j=>(owner.getD j none).map (j,·)) (List.range (mask+1)))).Pairwise (·<·)
   rw [List.map_filterMap];refine List.Pairwise.filterMap _ (fun a b hab x hx y hy=>?_) List.pairwise_lt_range
   have ex:x=a:=by
    cases z:owner.getD a none with
    | none=>simp [z] at hx
    | some i=>simp [z] at hx;exact hx.symm
   have ey:y=b:=by
    cases z:owner.getD b none with
    | none=>simp [z] at hy
    | some i=>simp [z] at hy;exact hy.symm
   rw [ex,ey];exact hab
end STb
namespace STb
open PySem
def vals (owner:Array (Option Nat)):List Nat:=owner.toList.filterMap id
theorem Zf7 (n:Nat):∀ (l:List (Option Nat)) (j:Nat),l[j]? = some none→((l.set j (some n)).filterMap id).Perm (n :: l.filterMap id)
 | [],j,h=>by simp at h
 | z :: l,0,h=>by
   have:z=none:=by simpa using h
   subst this;exact .refl _
 | none :: l,j+1,h=>Zf7 n l j (by simpa using h)
 | some k :: l,j+1,h=>((Zf7 n l j (by simpa using h)).cons k).trans (.swap ..)
theorem Zp6 {owner:Array (Option Nat)} {j n:Nat} (h:owner[j]? = some none):(vals (owner.setIfInBounds j (some n))).Perm (n :: vals owner):=by
 unfold vals;rw [Array.toList_setIfInBounds];exact Zf7 n _ j (by simpa using h)
theorem Zgu {M:Nat} (hm:masks M):∀ (hs:?e) (n:Nat) (owner:Array (Option Nat)),Own M n owner→(vals owner).Perm (List.range n)→n+hs.length<M+1→∃ owner',hs.foldl (Y6 M) (some (owner,n))=some (owner',n+hs.length)∧Own M (n+hs.length) owner'∧(vals owner').Perm (List.range (n+hs.length))
 | [],n,owner,o,p,_=>⟨owner,rfl,o,p⟩
 | h :: hs,n,owner,o,p,hl=>by
   rw [n18_] at hl;obtain ⟨j,r1,r2⟩:=o.free hm (?d) h
   have e:Y6 M (some (owner,n)) h=some (owner.setIfInBounds j (some n),n+1):=by
    unfold Y6;show (SetTable.layClean.free M owner (SetTable.turns M) (SetTable.bits h % (M+1)) (SetTable.bits h)).bind _=_
    rw [r1];rfl
   have p2:(vals (owner.setIfInBounds j (some n))).Perm (List.range (n+1)):=by
    rw [List.range_succ];exact (Zp6 r2).trans ((p.cons n).trans (List.perm_append_singleton n _).symm)
   obtain ⟨owner',e2,o2,p3⟩:=Zgu hm hs (n+1) _ (o.put r2) p2 (?d);refine ⟨owner',?_,?_,?_⟩
   · rw [n73_,e,e2,n18_];congr 2;omega
   · rw [n18_,show n+(hs.length+1)=n+1+hs.length by omega];exact o2
   · rw [n18_,show n+(hs.length+1)=n+1+hs.length by omega];exact p3
theorem Zfp {M:Nat} (hm:masks M) (hs:Array Int) (hl:hs.size<M+1):∃ owner,SetTable.layClean M hs=some owner∧Own M hs.size owner∧(vals owner).Perm (List.range hs.size):=by
 obtain ⟨owner,e,o,p⟩:=Zgu hm hs.toList 0 _ (own0 M) (by
  unfold vals;rw [Array.toList_replicate,List.filterMap_eq_nil_iff.mpr fun x hx=>by rw [List.eq_of_mem_replicate hx];rfl];exact .refl _) (by simpa using hl)
 refine ⟨owner,?_,by simpa using o,by simpa using p⟩;unfold SetTable.layClean;rw [← Array.foldl_toList]
 have:(hs.toList.foldl (Y6 M) (some (Array.replicate (M+1) none,0)))=some (owner,0+hs.toList.length):=e
 show (List.foldl (Y6 M) (some (Array.replicate (M+1) none,0)) hs.toList).map (·.1)=some owner
 rw [this];rfl
theorem Zl5 {M n:Nat} {owner:Array (Option Nat)} (o:Own M n owner):(List.map (·.2) ((List.range (M+1)).filterMap fun j=>(owner.getD j none).map (j,·)))=vals owner:=by
 have e2:owner.toList=(List.range owner.size).map (fun j=>owner.getD j none):=by
  refine n57_ ?g fun i h1 h2=>?_;have hi:i<owner.size:=by simpa using h1
  simp [Array.getD,hi]
 unfold vals;rw [e2,o.size,List.filterMap_map,List.map_filterMap];refine congrArg (fun f=>List.filterMap f (List.range (M+1))) (funext fun j=>?_);show Option.map (·.2) ((owner.getD j none).map (j,·))=owner.getD j none
 cases owner.getD j none<;>rfl
theorem relaid_perm {t:SetTable} {hs:Array Int} {wanted M:Nat} (hM:SetTable.sizeAbove wanted-1=M) (hm:masks M) (hl:hs.size<M+1):∃ (t':SetTable) (order:Array Nat),t.relaid hs wanted=some (t',order)∧t'.mask=M∧t'.dummies=#[]∧t'.place.size=hs.size∧t'.plain=t.plain∧order.toList.Perm (List.range hs.size):=by
 obtain ⟨owner,e,o,p⟩:=Zfp hm hs hl;unfold SetTable.relaid SetTable.laid;rw [hM,e];refine ⟨_,_,rfl,rfl,rfl,?_,rfl,?_⟩
 · simp only [n15_,n5_];exact Zpf o
 · show (List.map (·.2) ((List.range (M+1)).filterMap fun j=>(owner.getD j none).map (j,·))).Perm _
   rw [Zl5 o];exact p
structure TP (bt:Bool) (n:Nat) (t:SetTable):Prop where
 tw:TW bt t
 pl:t.plain=true
 msk:masks t.mask
 sz:t.place.size=n
 few:n*5<t.mask*3
theorem fits_of {t:SetTable} {n:Nat} (sz:t.place.size=n) (dum:t.dummies=#[]) (h:n≤t.mask):t.fits n=true:=by
 unfold SetTable.fits SetTable.fill;rw [dum,sz]
 simp
 exact h
theorem TP.fits {bt:Bool} {n:Nat} {t:SetTable} (w:TP bt n t):t.fits n=true:=fits_of w.sz w.tw.dum (by have:=w.few;omega)
theorem TP.fresh (bt:Bool):TP bt 0 (.fresh 0 0 (!bt)):=⟨⟨rfl,.nil,rfl⟩,rfl,.inl rfl,rfl,show 0*5<7*3 by decide⟩
end STb
namespace L2
open PySem PySem.Spec PyProof.Rows
def Xb (w:World):Bool:=w.params.followText "set-order"
theorem Zjn:∀ {vs:?q} {ns:?e},IntsAre vs ns→vs.length=ns.length
 | _,_,.nil=>rfl
 | _,_,.cons n t r=>by simp [Zjn r]
section
variable {P:Program} {w:World} {bt:Bool} {A:Around} {E:Value→?i} {s:Shared}
end
variable {α:Type} {S:Addr} {h h':Heap} {ep i n:Nat} {s:Shared} {Q:Value→?i} {w:World}
theorem X2:∀ {l:List α} {i:Nat} (h:i<l.length),(l[i] :: l.eraseIdx i).Perm l
 | x :: l,0,h=>.refl _
 | x :: l,i+1,h=>(List.Perm.swap ..).trans ((X2 (l:=l) (i:=i) (by simpa using h)).cons x)
theorem Zo8 (next:Nat→Nat):∀ (fuel k:Nat) (left:List α) (out:Array α),left.length=fuel→(pickOrder.go next fuel k left out).toList.Perm (out.toList++left)
 | 0,k,left,out,h=>by
   have:left=[]:=List.eq_nil_of_length_eq_zero h
   subst this;unfold pickOrder.go
   simp
 | fuel+1,k,left,out,h=>by
   have hp:0<left.length:=?d
   have hi:next k % left.length<left.length:=Nat.mod_lt _ hp
   unfold pickOrder.go;rw [n1_ hi];dsimp only;refine (Zo8 next fuel (k+1) _ _ (by rw [List.length_eraseIdx_of_lt hi];omega)).trans ?_;rw [Array.toList_push,n49_];exact List.Perm.append_left _ (X2 hi)
theorem Zg6 (next:Nat→Nat) (xs:Array α):(pickOrder next xs).toList.Perm xs.toList:=by
 have:=Zo8 next xs.size 0 xs.toList #[] ?g
 simpa [pickOrder] using this
def Zaz (w:World) (S:Addr) (ep:Nat) (es:Array (Int×Value)):?q:=(if Xb w=true then (pickOrder (w.params.setOrder S ep) es).toList else es.toList).map (·.2)
theorem Zgt (w:World) (S:Addr) (ep:Nat) (es:Array (Int×Value)):(Zaz w S ep es).Perm (es.toList.map (·.2)):=by
 unfold Zaz;split
 · exact (Zg6 _ es).map _
 · exact .refl _
def Xn (w:World) (t:SetTable):Nat→Nat
 | 0=>0
 | i+1=>if Xb w=true then 0 else t.place.getD i 0+1
theorem Zi7 {t:SetTable} (h:Xb w=true):∀ i,Xn w t i=0
 | 0=>rfl
 | i+1=>if_pos h
structure SetAt (w:World) (h:Heap) (S:Addr) (es:Array (Int×Value)) (ep:Nat) (t:SetTable):Prop where
 get:∃ o,h.get? S=some o∧o.ExactSet∧o.data=.set es ep t
 tp:STb.TP (Xb w) es.size t
theorem SetAt.stay {es:Array (Int×Value)} {t:SetTable} (x:SetAt w h S es ep t) (e:∀ o,h.get? S=some o→h'.get? S=some o):SetAt w h' S es ep t:=⟨let ⟨o,a,b⟩:=x.get;⟨o,e _ a,b⟩,x.tp⟩
section
variable {P:Program} {w:World} {A:Around} {E:Value→?i} {s:Shared}
theorem Zb6 {Q:Bool→?i} (h:Q (Xb w) s):wpAny (model P w) A setsByText Q E s:=n0_ (wpAny_askSetting (n2_ h))
theorem Zcx {es:Array (Int×Value)} {t:SetTable} {Q:Array (Int×Value)→?i} (x:SetAt w s.heap S es ep t) (ht:Xb w=true) (h:Q (pickOrder (w.params.setOrder S ep) es) s):wpAny (model P w) A (setWalk S) Q E s:=by
 obtain ⟨o,g,ex,d⟩:=x.get;unfold setWalk;refine n0_ (wpAny_setState_of g d x.tp.fits ?_);dsimp only;refine n0_ (Zb6 ?_);rw [ht];simp only [if_true];exact n0_ (wpAny_askSetting (n2_ h))
theorem Zl6 {es:Array (Int×Value)} {t:SetTable} {v:Value} {Q:Option (Value×Nat)→?i} (x:SetAt w s.heap S es ep t) (hv:(Zaz w S ep es)[i]? = some v) (h:Q (some (v,Xn w t (i+1))) s) :
 wpAny (model P w) A (setNext S (Xn w t i) i ep) Q E s:=by
 obtain ⟨o,g,ex,d⟩:=id x.get;unfold setNext;refine n0_ (wpAny_setState_of g d x.tp.fits ?_);dsimp only;refine n0_ (Zb6 ?_);cases ht:Xb w with
 | true =>
   simp only [if_true];rw [if_neg ?g];refine n0_ (Zcx x ht (n2_ ?_));unfold Zaz at hv;rw [if_pos ht,n7_,Array.getElem?_toList] at hv;cases q:(pickOrder (w.params.setOrder S ep) es)[i]? with
   | none=>rw [q] at hv;cases hv
   | some e =>
     rw [q] at hv;have hv:e.2=v:=by simpa using hv
     rw [Zi7 ht] at h ⊢;show Q (some (e.2,0)) s
     rw [hv];exact h
 | false =>
   simp only [n20_,if_false];rw [if_neg (by show ¬ ((!t.plain&&decide (es.size>1))=true);rw [x.tp.pl];simp)];have led:t.led=true:=by rw [x.tp.tw.led,ht];rfl
   refine n0_ ?_;show wpAny _ _ (if (!t.led&&!es.isEmpty)=true then _ else _) _ _ _
   rw [if_neg (by rw [led];simp)];refine n2_ (n2_ ?_)
   have hv':es[i]? = some (es.getD i default)∧(es.getD i default).2=v:=by
    unfold Zaz at hv;rw [if_neg (by rw [ht];decide),n7_,Array.getElem?_toList] at hv;cases q:es[i]? with
    | none=>rw [q] at hv;cases hv
    | some e =>
      rw [q] at hv
      have:es.getD i default=e:=by rw [Array.getD_eq_getD_getElem?,q];rfl
      rw [this];exact ⟨rfl,by simpa using hv⟩
   have hi:i<t.place.size:=by
    rw [x.tp.sz];exact (Array.getElem?_eq_some_iff.mp hv'.1).1
   have ej:t.place[i]? = some (t.place.getD i 0):=by rw [Array.getD_eq_getD_getElem?,Array.getElem?_eq_getElem hi];rfl
   have eb:SetTable.below t.place (Xn w t i)=i:=by
    cases i with
    | zero=>exact STb.below_zero x.tp.tw.ris
    | succ k =>
      show SetTable.below t.place (if Xb w=true then 0 else t.place.getD k 0+1)=k+1
      rw [if_neg (by rw [ht];decide)];have hk:k<t.place.size:=?d
      refine STb.below_next x.tp.tw.ris ?_;rw [Array.getElem?_toList,Array.getD_eq_getD_getElem?,Array.getElem?_eq_getElem hk];rfl
   rw [eb,hv'.1,ej];show Q (some ((es.getD i default).2,t.place.getD i 0+1)) s
   rw [hv'.2]
   have:Xn w t (i+1)=t.place.getD i 0+1:=if_neg (by rw [ht];decide)
   rw [this] at h;exact h
theorem Zp7 {es:Array (Int×Value)} {t:SetTable} {Q:Option (Value×Nat)→?i} (x:SetAt w s.heap S es ep t) (h:Q none s) :
 wpAny (model P w) A (setNext S (Xn w t es.size) es.size ep) Q E s:=by
 obtain ⟨o,g,ex,d⟩:=id x.get;unfold setNext;refine n0_ (wpAny_setState_of g d x.tp.fits ?_);dsimp only;refine n0_ (Zb6 ?_);cases ht:Xb w with
 | true =>
   simp only [if_true];rw [if_neg ?g];refine n0_ (Zcx x ht (n2_ ?_))
   have:(pickOrder (w.params.setOrder S ep) es)[es.size]? = none:=by
    refine Array.getElem?_eq_none ?_
    have:=(Zg6 (w.params.setOrder S ep) es).length_eq
    rw [Array.length_toList,Array.length_toList] at this;omega
   rw [this];exact h
 | false =>
   simp only [n20_,if_false];rw [if_neg (by show ¬ ((!t.plain&&decide (es.size>1))=true);rw [x.tp.pl];simp)];have led:t.led=true:=by rw [x.tp.tw.led,ht];rfl
   refine n0_ ?_;show wpAny _ _ (if (!t.led&&!es.isEmpty)=true then _ else _) _ _ _
   rw [if_neg (by rw [led];simp)];refine n2_ (n2_ ?_)
   have eb:es[SetTable.below t.place (Xn w t es.size)]? = none:=by
    have:SetTable.below t.place (Xn w t es.size)=es.size:=by
     have sz:=x.tp.sz;cases q:es.size with
     | zero=>exact STb.below_zero x.tp.tw.ris
     | succ k =>
       show SetTable.below t.place (if Xb w=true then 0 else t.place.getD k 0+1)=k+1
       rw [if_neg (by rw [ht];decide)];have hk:k<t.place.size:=?d
       refine STb.below_next x.tp.tw.ris ?_;rw [Array.getElem?_toList,Array.getD_eq_getD_getElem?,Array.getElem?_eq_getElem hk];rfl
    rw [this];exact Array.getElem?_eq_none (n11_ _)
   rw [eb];exact h
end
def IsSetIter (h:Heap) (I S:Addr) (n ep slot i:Nat):Prop:=∃ o,h.get? I=some o∧o.cls=.type "set_iterator" ∧ o.data=.fields #[.int slot 0,.int i 0,.ref S,.int n 0,.int ep 0]
theorem IsSetIter.typeIs {I:Addr} {slot:Nat} (x:IsSetIter s.heap I S n ep slot i):s.TypeIs (.ref I) "set_iterator" := let ⟨o,a,b,_⟩:=x;⟨o,a,b⟩
theorem IsSetIter.stay {I:Addr} {slot:Nat} (x:IsSetIter h I S n ep slot i) (e:∀ o,h.get? I=some o→h'.get? I=some o):IsSetIter h' I S n ep slot i:=let ⟨o,a,r⟩:=x;⟨o,e _ a,r⟩
theorem Zcw:Slot "set" "__iter__" "set.__iter__" :=
 .of (owner := "set") (n := "__iter__") (by rw [typeLookup_type,builtinLookup_eq_fast];kernel_rfl) (?j) (?j) (?j)
  (by first|exact .inl (?j)|exact .inr (?j)) (by rw [isSubtype_type];kernel_rfl)
theorem Y2:Slot "set_iterator" "__next__" "set_iterator.__next__" :=
 .of (owner := "set_iterator") (n := "__next__") (by rw [typeLookup_type,builtinLookup_eq_fast];kernel_rfl) (?j) (?j) (?j)
  (by first|exact .inl (?j)|exact .inr (?j)) (by rw [isSubtype_type];kernel_rfl)
theorem Zap:Slot "set_iterator" "__iter__" "set_iterator.__iter__" :=
 .of (owner := "set_iterator") (n := "__iter__") (by rw [typeLookup_type,builtinLookup_eq_fast];kernel_rfl) (?j) (?j) (?j)
  (by first|exact .inl (?j)|exact .inr (?j)) (by rw [isSubtype_type];kernel_rfl)
theorem Zfr:entryFor table "set.__iter__" = some Builtin.«frozenset.__iter__»:=entryFor_alias (id' := "frozenset.__iter__") ?w rfl (?j) ?w
theorem Zb8:entryFor table "set_iterator.__iter__" = some Builtin.«dict_keyiterator.__iter__»:=entryFor_alias (id' := "dict_keyiterator.__iter__") ?w rfl (?j) ?w
theorem Zc3 (a:Value):argsOk "set_iterator.__iter__" ⟨[a],[]⟩:=by unfold argsOk;kernel_rfl
theorem Zbq:entryFor table "set_iterator.__next__" = some Builtin.«set_iterator.__next__»:=entryFor_of_fast ?w
theorem Zgh (a:Value):argsOk "set.__iter__" ⟨[a],[]⟩:=by unfold argsOk;kernel_rfl
theorem Zcs (a:Value):argsOk "set_iterator.__next__" ⟨[a],[]⟩:=by unfold argsOk;kernel_rfl
section
variable {P:Program} {w:World} {A:Around} {E:Value→?i} {s:Shared} {I S:Addr} {es:Array (Int×Value)} {ep i:Nat} {t:SetTable}
theorem SetAt.typeIs (x:SetAt w s.heap S es ep t):s.TypeIs (.ref S) "set" := let ⟨o,a,b,_⟩:=x.get;⟨o,a,b.1⟩
theorem SetAt.ents {Q:Array (Int×Value)→?i} (x:SetAt w s.heap S es ep t) (h:Q es s):wpAny (model P w) A (setEntries S) Q E s:=by
 obtain ⟨o,g,ex,d⟩:=x.get;exact wpAny_setEntries_of g d x.tp.fits h
theorem Zpt (x:SetAt w s.heap S es ep t)
 (hQ:Q (.ref s.z) { s with heap:=s.heap.push { cls:=.type "set_iterator",data:=.fields #[.int (0:Nat) 0,.int (0:Nat) 0,.ref S,.int es.size 0,.int ep 0] } }) :
 wpAny (model P w) A (pyIter (.ref S)) Q E s:=by
 obtain ⟨o,g,ex,d⟩:=id x.get;refine wpAny_pyIter_slot x.typeIs Zcw (wpAny_call_entry Zcw x.typeIs Zfr ?_ (Zgh _));unfold Builtin.«frozenset.__iter__»;show wpAny _ _ (Builtin.Frozenset.sizeOf S >>= _) _ _ s
 unfold Builtin.Frozenset.sizeOf;refine n0_ (n0_ (x.ents (n2_ ?_)));refine n0_ ?_;unfold setDrawn;refine n0_ (wpAny_setState_of g d x.tp.fits ?_);dsimp only;refine n0_ (Zb6 (n2_ ?_));have nd:(!Xb w&&(!t.plain&&decide (es.size>1)))=false:=by rw [x.tp.pl];simp
 show wpAny _ _ (if (!Xb w&&(!t.plain&&decide (es.size>1)))=true then _ else _) _ _ s
 rw [nd];simp only [n20_,if_false];refine n0_ (n2_ ?_);unfold setEpoch;refine n0_ (n0_ (wpAny_setState_of g d x.tp.fits (n2_ ?_)));exact n0_ (wpAny_newObj_type (n2_ ⟨_,rfl,"set_iterator",_,⟨_,n8_ _ rfl,rfl⟩,Y2.lookup,hQ⟩))
theorem Zob {slot:Nat} (hit:IsSetIter s.heap I S n ep slot i) (h:Q (.ref I) s):wpAny (model P w) A (pyIter (.ref I)) Q E s:=by
 refine wpAny_pyIter_slot hit.typeIs Zap (wpAny_call_entry Zap hit.typeIs Zb8 ?_ (Zc3 _));show wpAny _ _ (ret (.ref I)) _ _ s
 exact n2_ ⟨_,rfl,"set_iterator",_,hit.typeIs,Y2.lookup,h⟩
theorem Zla {v:Value} {Q:Option Value→?i} (hne:S≠I) (hit:IsSetIter s.heap I S es.size ep (Xn w t i) i) (x:SetAt w s.heap S es ep t) (hv:(Zaz w S ep es)[i]? = some v)
 (hQ:∀ h',IsSetIter h' I S es.size ep (Xn w t (i+1)) (i+1)→Heap.SameBut I s.heap h'→Q (some v) { s with heap:=h' }):wpAny (model P w) A (pyNext (.ref I)) Q E s:=by
 obtain ⟨o,ho,hc,hd⟩:=id hit;unfold pyNext;refine n0_ (wpAny_attempt (wpAny_callSpecial?_slot (name:=Str.ofString "__next__") hit.typeIs Y2 (wpAny_call_entry Y2 hit.typeIs Zbq ?_ (Zcs _))));unfold Builtin.«set_iterator.__next__»;refine n0_ (n2_ ?_);refine n0_ (wpAny_fieldsOf ho hd ?_);dsimp only;refine n0_ (x.ents ?_);rw [if_neg ?g];simp only [n63_];refine n0_ (Zl6 x hv ?_);dsimp only;refine n0_ (wpAny_setField ho hd ?g ?_);have hd1:=Obj.data_mapFields hd (·.setIfInBounds 0 (rawInt (Xn w t (i+1))));have ho1:=n56_ (Obj.mapFields (·.setIfInBounds 0 (rawInt (Xn w t (i+1))))) ho (Obj.isFreed_of_fields hd1);refine n0_ (wpAny_setField ho1 hd1 ?g ?_);have hd2:=Obj.data_mapFields hd1 (·.setIfInBounds 1 (rawInt ((i:Int)+1)));have ho2:=n56_ (Obj.mapFields (·.setIfInBounds 1 (rawInt ((i:Int)+1)))) ho1 (Obj.isFreed_of_fields hd2);refine n2_ ⟨v,rfl,n2_ (hQ _ ⟨_,ho2,?_,?_⟩ ((Heap.SameBut.update ..).trans (Heap.SameBut.update ..)))⟩
 · exact (Obj.cls_mapFields ..).trans ((Obj.cls_mapFields ..).trans hc)
 · rw [hd2];simp [rawInt]
theorem Zfa {Q:Option Value→?i} (hh:A.handled=none) (hit:IsSetIter s.heap I S es.size ep (Xn w t es.size) es.size) (x:SetAt w s.heap S es ep t)
 (hQ:∀ h',Heap.ExtBut I s.heap h'→Q none { s with heap:=h' }):wpAny (model P w) A (pyNext (.ref I)) Q E s:=by
 obtain ⟨o,ho,hc,hd⟩:=id hit;unfold pyNext;refine n0_ (wpAny_attempt (wpAny_callSpecial?_slot (name:=Str.ofString "__next__") hit.typeIs Y2 (wpAny_call_entry Y2 hit.typeIs Zbq ?_ (Zcs _))));unfold Builtin.«set_iterator.__next__»;refine n0_ (n2_ ?_);refine n0_ (wpAny_fieldsOf ho hd ?_);dsimp only;refine n0_ (x.ents ?_);rw [if_neg ?g];simp only [n63_];refine n0_ (Zp7 x ?_);dsimp only;refine n0_ (wpAny_setField ho hd ?g ?_);show wpAny _ _ (newExc (.type "StopIteration") [] >>= _) _ _ _
 refine n0_ ?_;simp only [newExc,newTuple];refine n0_ (wpAny_newObj_type ?_ (by size_fits));refine n0_ (m:=firstArgMember _ _) (wpAny_of_eq (a:=Value.none) (by first|rfl|(simp only [firstArgMember];rfl)) ?_);refine wpAny_newObj_type ?_ (by size_fits);simp only [raiseNew];refine n0_ (wpAny_handled ?_);rw [show A.in1.handled=none from hh];refine n0_ (n2_ (wpAny_throw ?_));refine n0_ (wpAny_isInstance (T := "StopIteration") (b:=true) ⟨_,n8_ _ rfl,rfl⟩ isSubtype_stop ?_);exact n2_ (hQ _ (((Heap.SameBut.update ..).extBut.push _).push _))
end
section
variable {P:Program} {w:World} {A:Around} {E:Value→?i} {s:Shared} {S:Addr} {es:Array (Int×Value)} {ep:Nat} {t:SetTable}
theorem Zks:(Zaz w S ep es).length=es.size:=by rw [(Zgt w S ep es).length_eq,n5_,Array.length_toList]
theorem Zo0 (hh:A.handled=none) (I:Addr) (hne:S≠I) :
 Walks P w A I [I,S] [I] es.size (fun i v=>(Zaz w S ep es)[i]? = some v) (fun i h=>IsSetIter h I S es.size ep (Xn w t i) i∧SetAt w h S es ep t) where
 sub:=fun b hb=>by simp at hb;simp [hb]
 frame:=fun _ _ _ st hk=>⟨st.1.stay fun o e=>hk I ?g o e,st.2.stay fun o e=>hk S ?g o e⟩
 item:=fun i s Q E hi st hQ=>by
  have hl:i<(Zaz w S ep es).length:=by rw [Zks];exact hi
  have hv:=n1_ hl;exact Zla hne st.1 st.2 hv fun h' hit' hs'=>hQ _ h' s.toks hv ⟨hit',st.2.stay fun o e=>(hs'.2 S hne).trans e⟩ fun b o hb e=>(hs'.2 b (fun z=>hb (by simp [z]))).trans e
 done:=fun s Q E st hQ=>Zfa hh st.1 st.2 fun h' he'=>hQ h' s.toks fun b o hb e=>he' b o (fun z=>hb (by simp [z])) e
 self:=fun _ _ _ _ st hQ=>Zob st.1 hQ
theorem Ztp:typeLookup (.type "set") "__len__" = pure (some (.builtin "set.__len__")):=by rw [typeLookup_type,builtinLookup_eq_fast];kernel_rfl
theorem Zlg {vs:?q} {acc:Array Value} (h:ItemsOf (fun i v=>vs[i]? = some v) acc vs.length):acc.toList=vs:=by
 refine List.ext_getElem? fun j=>?_;rw [Array.getElem?_toList];cases e:acc[j]? with
 | some v=>exact (h.2 j v e).symm
 | none =>
   have:vs.length≤j:=by
    have:=Array.getElem?_eq_none_iff.mp e
    rw [h.1] at this;exact this
   exact (List.getElem?_eq_none this).symm
set_option maxHeartbeats 4000000 in
end
end L2
namespace L2
open PySem PySem.Spec PyProof.Rows PySem.W
theorem Zqw:typeLookup (.type "dict") "__len__" = pure (some (.builtin "dict.__len__")):=by rw [typeLookup_type,builtinLookup_eq_fast];kernel_rfl
variable {ep:Nat} {Q:Value→?i}
section
variable {P:Program} {w:World} {A:Around} {E:Value→?i} {s:Shared} {S:Addr}
theorem Zbh {T:String} {vs:?q} {it0:Obj} {St:Addr→Nat→Heap→Prop} {Q:?q→?i} (hh:A.handled=none) (hTT:T = "set" ∨ T = "dict") (x:s.TypeIs (.ref S) T) (hn:vs.length≤sizeLine)
 (iter:∀ (A:Around) (s1:Shared) (Q:Value→?i) (E:Value→?i),(∀ o,s.heap.get? S=some o→s1.heap.get? S=some o)→Q (.ref s1.z) { s1 with heap:=s1.heap.push it0 }→wpAny (model P w) A (pyIter (.ref S)) Q E s1) (hf:it0.isFreed=false)
 (W:∀ (A:Around) (I:Addr),A.handled=none→S≠I→Walks P w A I [I,S] [I] vs.length (fun i v=>vs[i]? = some v) (St I))
 (st0:∀ (h:Heap) (I:Addr),h.get? I=some it0→(∀ o,s.heap.get? S=some o→h.get? S=some o)→St I 0 h)
 (h:∀ h' tk,(∀ b o,s.heap.get? b=some o→h'.get? b=some o)→s.z≤h'.objs.size→Q vs { s with heap:=h',toks:=tk }):wpAny (model P w) A (collect (.ref S)) Q E s:=by
 obtain ⟨oS,gS,cS⟩:=id x;have hSz:S<s.z:=n13_ gS;unfold collect;refine n0_ (wpAny_runValue (codeAny_builtin F.entry_proto_collect ?_));rw [Around.under_plainId F.plain_proto_collect _];show wpAny _ A.in1 (newList [] >>= fun l=>again (.builtin "list.__iadd__" ⟨[l,.ref S],[]⟩)) _ _ s
 refine n0_ (wpAny_newObj_type ?_);refine n2_ ⟨plainId_quiet F.plain_list_iadd _,codeAny_builtin F.entry_list_iadd ?_⟩;rw [Around.under_plainId F.plain_list_iadd _];generalize hs1:({ s with heap:=s.heap.push { cls:=.type "list",data:=.seq ([]:?q).toArray } }:Shared)=s1;have k1:∀ b o,s.heap.get? b=some o→s1.heap.get? b=some o:=fun b o e=>by rw [← hs1];exact n3_ _ e
 have x1:s1.TypeIs (.ref S) T:=⟨oS,k1 _ _ gS,cS⟩;have g1:s1.heap.get? s.z=some { cls:=.type "list",data:=.seq ([]:?q).toArray }:=by rw [← hs1];exact n8_ _ rfl
 have z1:s1.z=s.z+1:=by rw [← hs1];exact n43_ ..
 show wpAny _ A.in1 (Builtin.List.listExtendWith (.ref s.z) (.ref S) (.ref s.z)) _ _ s1
 unfold Builtin.List.listExtendWith;refine n0_ (wpAny_typeOf x1 ?_);have h1:Builtin.List.listSameRef (.ref s.z) (.ref S)=false:=by simp [Builtin.List.listSameRef,n70_ hSz]
 have h2:(Value.type T == Value.type "list")=false:=by rcases hTT with rfl|rfl<;>decide
 have h3:(Value.type T == Value.type "tuple")=false:=by rcases hTT with rfl|rfl<;>decide
 simp only [h1,h2,h3,Bool.or_false,n20_,if_false];refine n0_ (iter _ s1 _ _ (fun o e=>k1 _ _ e) ?_);generalize hs2:({ s1 with heap:=s1.heap.push it0 }:Shared)=s2;have k2:∀ b o,s.heap.get? b=some o→s2.heap.get? b=some o:=fun b o e=>by rw [← hs2];exact n3_ _ (k1 b o e)
 have x2:s2.TypeIs (.ref S) T:=⟨oS,k2 _ _ gS,cS⟩;have it2:s2.heap.get? (s.z+1)=some it0:=by rw [← hs2,← z1];exact n8_ _ hf
 have g2:s2.heap.get? s.z=some { cls:=.type "list",data:=.seq ([]:?q).toArray }:=by rw [← hs2];exact n3_ _ g1
 refine n0_ (n30_ ?_);unfold Builtin.List.listLengthHint;have lk:typeLookup (.type T) "__len__" = pure (some (.builtin (T ++ ".__len__"))):=by rcases hTT with rfl|rfl<;>first|exact Ztp|exact Zqw
 have hsp:splitId (T ++ ".__len__")=some (T,"__len__"):=by rcases hTT with rfl|rfl<;>decide +kernel
 have sub:isSubtype (.type T) (.type T)=pure true:=by rcases hTT with rfl|rfl<;>first|exact sub_set_self|exact sub_dict_self
 refine n0_ (wpAny_specialOf x2 lk ?_);dsimp only;rw [hsp];dsimp only;refine n0_ (wpAny_isInstance (b:=true) x2 sub ?_);simp only [Bool.not_true,n20_,if_false];rw [if_pos (by rcases hTT with rfl|rfl<;>decide +kernel)];refine n0_ (wpAny_typeOf x2 ?_);dsimp only;refine n2_ ?_;rw [if_pos (by rcases hTT with rfl|rfl<;>decide +kernel)];refine n0_ (wpAny_rule ?_);refine n0_ ?_;show wpAny _ A.in1 (updateSeq s.z (·.push .none) >>= fun _=>updateSeq s.z (·.pop)) _ _ _
 refine n0_ (wpAny_updateSeq g2 rfl ?_);have g3:=n56_ (Obj.mapSeq (·.push Value.none)) g2 rfl;refine wpAny_updateSeq g3 rfl ?_;have g4:=n56_ (Obj.mapSeq (·.pop)) g3 rfl
 have oth:∀ b o,b≠s.z→s2.heap.get? b=some o→((s2.heap.update s.z (Obj.mapSeq (·.push Value.none))).update s.z (Obj.mapSeq (·.pop))).get? b=some o :=
  fun b o hb e=>(Heap.get?_update_other _ _ (Ne.symm hb)).trans ((Heap.get?_update_other _ _ (Ne.symm hb)).trans e)
 rw [z1];have hne:S≠s.z+1:=n27_ (n54_ hSz);have W2:=(W A.in1 (s.z+1) (by simp [hh]) hne).toS
 have hSf:s.z∉[s.z+1,S]:=by
  simp only [n9_,n10_,or_false,not_or];exact ⟨n27_ (Nat.lt_succ_self _),n70_ hSz⟩
 refine n2_ ⟨plainId_quiet F.plain_extend_loop _,codeAny_extend_loopS W2 hn _ hSf _ vs.length 0 _ _ _ rfl (n42_ _)
  (st0 _ _ (oth _ _ (n70_ (Nat.lt_succ_self _)) it2) fun o e=>oth _ o (n27_ hSz) (k2 _ _ e)) g4 (ItemsOf.nil _) fun s' acc' c' hm hS' hacc=>?_⟩
 show wpAny _ A (load s.z >>= _) _ _ s'
 refine n0_ (wpAny_load hS' ?_);have ea:=Zlg hacc;have em:=hm.eq_with;rw [em];show wpAny _ _ (pure acc'.toList) _ _ _
 rw [ea];refine n2_ ?_;subst hs2;subst hs1;refine h _ _ (fun b o e=>?_) ?_
 · have lb:=n13_ e;exact hm.heap b o (by simp only [n9_,n10_,or_false,not_or];exact ⟨n27_ lb,n27_ (n54_ lb)⟩) (oth b o (n27_ lb) (k2 b o e))
 · exact Nat.le_of_lt (n13_ hS')
theorem Zed {es:Array DictEntry} (A:Around) (I:Addr) (hh:A.handled=none) (hne:S≠I) :
 Walks P w A I [I,S] [I] (es.toList.map (·.key)).length (fun i v=>(es.toList.map (·.key))[i]? = some v) (fun i h=>h.IsKeyIter I S i es.size ep∧EntAt h S es ep) where
 sub:=fun b hb=>by simp at hb;simp [hb]
 frame:=fun _ _ _ st hk=>⟨st.1.at fun o e=>hk I ?g o e,st.2.at fun o e=>hk S ?g o e⟩
 item:=fun i s Q E hi st hQ=>by
  have hl:i<es.size:=by simpa using hi
  refine Zqk st.1 st.2 (Array.getElem?_eq_getElem hl) fun h' hit' hs'=>?_;exact hQ _ h' s.toks (by simp [hl]) ⟨hit',st.2.at fun o e=>(hs'.2 S hne).trans e⟩ fun b o hb e=>(hs'.2 b (fun z=>hb (by simp [z]))).trans e
 done:=fun s Q E st hQ=>by
  have e:(es.toList.map (·.key)).length=es.size:=by simp
  rw [e] at st;exact Ztv hh st.1 st.2 (Array.getElem?_eq_none (n11_ _)) fun h' he'=>hQ h' s.toks fun b o hb e=>he' b o (fun z=>hb (by simp [z])) e
 self:=fun _ _ _ _ st hQ=>wpAny_pyIter_keyiter st.1 hQ
theorem Zic {vs:?q} (good:List Nat→Prop) (g1:vs.length<2→good (List.range vs.length)) (h64:vs.length<64)
 (coll:∀ Q:?q→?i,(∀ h' tk,(∀ b o,s.heap.get? b=some o→h'.get? b=some o)→s.z≤h'.objs.size→Q vs { s with heap:=h',toks:=tk })→wpAny (model P w) A.in1 (collect (.ref S)) Q (fun _ _=>False) s)
 (ask:2≤vs.length→∀ h1 tk,(∀ b u,s.heap.get? b=some u→h1.get? b=some u)→wpAny (model P w) A.in1.in1 (keyKind' vs.toArray) (fun κ s1=>s1={ s with heap:=h1,toks:=tk }∧(kas_sort vs.length).kasWp (kas_ask P w A.in1.in1 κ vs) (fun p s2=>s2={ s with heap:=h1,toks:=tk }∧good p.toList) s1) (fun _ _=>False) { s with heap:=h1,toks:=tk })
 (h:∀ (p:List Nat) (L:Addr) (h':Heap) (tk e:Nat),good p→s.z≤L→(∀ b o,s.heap.get? b=some o→h'.get? b=some o)→h'.get? L=some (seqObj "list" (p.map fun i=>vs.getD i Value.none).toArray e)→Q (.ref L) { s with heap:=h',toks:=tk }) :
 wpAny (model P w) A (call (.builtin "sorted") [.ref S]) Q E s:=by
 refine Calls.call_function_entry kind_sorted plain_sorted entry_sorted (args_sorted1 _) ?_;unfold Builtin.«sorted»;refine n0_ (m:=checkCount "sorted" 1 1 _) (n2_ ?_);refine n0_ (n38_ (coll _ fun h' tk keep le=>?_) (fun _ _ z=>z) fun _ _ z=>z.elim);refine n0_ (wpAny_newList ?_ (by rw [sizeLine_eq];omega));have oL:(h'.push (seqObj "list" vs.toArray 0)).get? h'.objs.size=some (seqObj "list" vs.toArray 0):=n8_ _ rfl;refine n0_ (n30_ (wpAny_call_entry (s:={ s with heap:=h'.push (seqObj "list" vs.toArray 0),toks:=tk }) slot_list_sort ⟨_,oL,rfl⟩ entry_list_sort (Zo6 (s:={ s with heap:=h'.push (seqObj "list" vs.toArray 0),toks:=tk }) good g1 oL h64 (fun h2 h1 k1=>ask h2 h1 tk fun b u e=>k1 b u (n27_ (n13_ (keep b u e))) (n3_ _ (keep b u e))) fun p gp=>⟨_,rfl,?_⟩) (args_list_sort _)));obtain ⟨e,he⟩:=sortedHeap_at (out:=(p.map fun i=>vs.getD i Value.none).toArray) oL;refine n2_ ⟨_,rfl,h p _ _ _ e gp le (fun b o eb=>?_) he⟩;have hk:=keep b o eb;have hlt:=n13_ hk;rw [sortedHeap_old (n27_ hlt) (by rw [n43_];exact n54_ hlt)];exact n3_ _ hk
end
end L2
namespace STb
open PySem
theorem Zh8 {t u:SetTable} (h:u.mask=t.mask) (p:SetTable.Probe):u.advance p=t.advance p:=by
 unfold SetTable.advance;rw [h]
theorem Zj0 {t u:SetTable} (h:u.mask=t.mask):∀ (n:Nat) (p:SetTable.Probe),adv u n p=adv t n p
 | 0,_=>rfl
 | n+1,p=>by show adv u n (u.advance p)=adv t n (t.advance p);rw [Zh8 h,Zj0 h n]
theorem Zld {t u:SetTable} (h:u.mask=t.mask) (x:Int):u.probeStart x=t.probeStart x:=by
 unfold SetTable.probeStart;rw [h]
theorem Zfj (t:SetTable) (n:Nat) (p:SetTable.Probe):adv t (n+1) p=t.advance (adv t n p):=Zgb t n 1 p
def look (t:SetTable) (h:Int) (n:Nat):Nat:=(adv t n (t.probeStart h)).j
theorem Zh5 {t u:SetTable} (e:u.mask=t.mask) (h:Int) (n:Nat):look u h n=look t h n:=by
 unfold look;rw [Zld e,Zj0 e]
def Rch (t:SetTable) (h:Int) (j:Nat):Prop:=∃ m,m<10*SetTable.turns t.mask∧look t h m=j∧∀ m',m'<m→look t h m'∈t.place.toList
def RE {α:Type} (t:SetTable) (es:Array (Int×α)):Prop:=∀ (i:Nat) (e:Int×α) (j:Nat),es[i]? = some e→t.place[i]? = some j→Rch t e.1 j
def Trail (t:SetTable) (h:Int) (N:Nat→Prop) (m:Nat):Prop:=∀ m',m'<m→∃ i,t.place[i]? = some (look t h m')∧N i
theorem go_trail {t:SetTable} {f:Nat→Int} {h:Int} {N:Nat→Prop} (hd:t.dummies=#[]) (hN:∀ i,(f i == h)=false→N i):∀ (n fuel m:Nat),Trail t h N m→Near t n (adv t m (t.probeStart h))→n<fuel →
 (∃ m1,m1≤m+n∧SetTable.probe.go t f h fuel (adv t m (t.probeStart h))=some (.empty (look t h m1) none)∧t.slot (look t h m1)=.empty∧Trail t h N m1) ∨
 (∃ i m1,SetTable.probe.go t f h fuel (adv t m (t.probeStart h))=some (.candidate (look t h m1) i (adv t (m1+1) (t.probeStart h)))∧t.slot (look t h m1)=.live i∧t.place[i]? = some (look t h m1)∧(N i→Trail t h N (m1+1))∧∃ n',n'<n∧m1+1+n'≤m+n∧Near t n' (adv t (m1+1) (t.probeStart h)))
 | n,0,m,_,_,hf=>?d
 | n,fuel+1,m,ht,⟨k0,hk0,e⟩,hf=>by
   have hp:(adv t m (t.probeStart h)).dummy=none:=(Zhp t m _).trans rfl
   rcases Zl1 (j:=(adv t m (t.probeStart h)).j) hd with hs|⟨i,hs,hi⟩
   · left
     refine ⟨m,?d,?_,hs,ht⟩;unfold SetTable.probe.go;rw [hs,hp];rfl
   · have hm0:k0≠0:=by
      rintro rfl
      have:t.slot (adv t m (t.probeStart h)).j=.empty:=e
      rw [hs] at this;cases this
     obtain ⟨k,rfl⟩:∃ k,k0=k+1:=⟨k0-1,?d⟩;have e':t.slot (adv t k (adv t (m+1) (t.probeStart h))).j=.empty:=by rw [Zfj];exact e
     have tr:N i→Trail t h N (m+1):=fun ni m' hm'=>by
      by_cases c:m'=m
      · subst c;exact ⟨i,hi,ni⟩
      · exact ht m' (?d)
     by_cases hc:(f i == h)=true
     · right
       refine ⟨i,m,?_,hs,hi,tr,n-1,?d,?d,k,?d,e'⟩;unfold SetTable.probe.go;rw [hs];simp only [hc,if_true];rw [Zfj];rfl
     · have:=go_trail (f:=f) (h:=h) hd hN (n-1) fuel (m+1) (tr (hN i (by simpa using hc))) ⟨k,?d,e'⟩ (?d)
       have eq:SetTable.probe.go t f h (fuel+1) (adv t m (t.probeStart h))=SetTable.probe.go t f h fuel (adv t (m+1) (t.probeStart h)):=by
        conv=>lhs;unfold SetTable.probe.go
        rw [hs,Zfj];simp only [hc,if_false];rfl
       rw [eq]
       rcases this with ⟨m1,a,b,c,d⟩|⟨i',m1,r1,r2,r3,r4,n',r5,r6,r7⟩
       · exact .inl ⟨m1,?d,b,c,d⟩
       · exact .inr ⟨i',m1,r1,r2,r3,r4,n',?d,?d,r7⟩
theorem trail_end {t:SetTable} {h:Int} {N:Nat→Prop} {m j i:Nat} (hp:t.place.toList.Pairwise (·<·)) (tr:Trail t h N m) (em:t.slot (look t h m)=.empty) (r:Rch t h j) (hi:t.place[i]? = some j):N i:=by
 obtain ⟨k,_,ek,hk⟩:=r;have nm:=Zgj hp em;have mj:j∈t.place.toList:=by simpa using Array.mem_of_getElem? hi
 have lt:k<m:=by
  rcases Nat.lt_trichotomy k m with c|c|c
  · exact c
  · subst c;rw [ek] at nm;exact (nm mj).elim
  · exact (nm (hk m c)).elim
 obtain ⟨i',e',ni⟩:=tr k lt;rw [ek] at e'
 have:i'=i:=by
  rcases Nat.lt_trichotomy i' i with c|c|c
  · have:=Zey hp (by rw [Array.getElem?_toList];exact e') (by rw [Array.getElem?_toList];exact hi) c;omega
  · exact c
  · have:=Zey hp (by rw [Array.getElem?_toList];exact hi) (by rw [Array.getElem?_toList];exact e') c;omega
 exact this ▸ ni
theorem trail_rch {t:SetTable} {h:Int} {N:Nat→Prop} {m:Nat} (hm:m<10*SetTable.turns t.mask) (tr:Trail t h N m):Rch t h (look t h m) :=
 ⟨m,hm,rfl,fun m' c=>by obtain ⟨i,e,_⟩:=tr m' c;simpa using Array.mem_of_getElem? e⟩
theorem Rch.more {t u:SetTable} {h:Int} {j:Nat} (r:Rch t h j) (e:u.mask=t.mask) (hs:∀ x∈t.place.toList,x∈u.place.toList):Rch u h j:=by
 obtain ⟨m,a,b,c⟩:=r;exact ⟨m,by rw [e];exact a,by rw [Zh5 e];exact b,fun m' hm=>by rw [Zh5 e];exact hs _ (c m' hm)⟩
theorem Zgw {α β:Type} {xs:Array α} {ys:Array β} {p i:Nat} {x:α} {y:β} {a:α} {b:β} (hl:xs.size=ys.size) (hp:p≤xs.size) (ha:(SetTable.insertAt xs p x)[i]? = some a) (hb:(SetTable.insertAt ys p y)[i]? = some b) :
 (i=p∧a=x∧b=y)∨∃ i':Nat,xs[i']? = some a∧ys[i']? = some b:=by
 rw [← Array.getElem?_toList,insertAt_list] at ha hb;have l1:(xs.toList.take p).length=p:=by rw [n59_,Array.length_toList];omega
 have l2:(ys.toList.take p).length=p:=by rw [n59_,Array.length_toList];omega
 rcases Nat.lt_trichotomy i p with c|c|c
 · right
   refine ⟨i,?_,?_⟩
   · rw [n41_ (?d),List.getElem?_take_of_lt c] at ha;simpa using ha
   · rw [n41_ (?d),List.getElem?_take_of_lt c] at hb;simpa using hb
 · left
   subst c;rw [n34_ (?d),l1] at ha;rw [n34_ (?d),l2] at hb;simp at ha hb;exact ⟨rfl,ha.symm,hb.symm⟩
 · right
   obtain ⟨k,rfl⟩:∃ k,i=p+1+k:=⟨i-p-1,?d⟩;refine ⟨p+k,?_,?_⟩
   · rw [n34_ (?d),l1,show p+1+k-p=k+1 by omega,n75_,List.getElem?_drop] at ha;simpa using ha
   · rw [n34_ (?d),l2,show p+1+k-p=k+1 by omega,n75_,List.getElem?_drop] at hb;simpa using hb
theorem Zqi {xs:Array Nat} (j:Nat) (hp:xs.toList.Pairwise (·<·)):SetTable.below xs j≤xs.size:=(X9 j hp).2.2
theorem RE.put {α:Type} {t:SetTable} {es:Array (Int×α)} {h:Int} {x:α} {j:Nat} (r:RE t es) (hp:t.place.toList.Pairwise (·<·)) (sz:t.place.size=es.size) (rj:Rch t h j):RE (t.put j).1 (SetTable.insertAt es (t.put j).2 (h,x)):=by
 have sub:∀ y∈t.place.toList,y∈(t.put j).1.place.toList:=fun y hy=>by
  show y∈(SetTable.insertAt t.place (SetTable.below t.place j) j).toList
  rw [insertAt_list,n28_,n9_];rw [← List.take_append_drop (SetTable.below t.place j) t.place.toList,n28_] at hy
  rcases hy with hy|hy
  · exact .inl hy
  · exact .inr (.inr hy)
 intro i e k he hk
 rcases Zgw (xs:=es) (ys:=t.place) sz.symm (by rw [← sz];exact Zqi j hp) he hk with ⟨_,a,b⟩|⟨i',a,b⟩
 · subst a;subst b;exact rj.more rfl sub
 · exact (r i' e k a b).more rfl sub
theorem Zri (t:SetTable):∀ (k:Nat) (p:SetTable.Probe),k≤p.more→(adv t k p).j=p.j+k∧(adv t k p).more=p.more-k
 | 0,p,_=>⟨rfl,rfl⟩
 | k+1,p,h=>by
   have e:t.advance p={ p with j:=p.j+1,more:=p.more-1 }:=by
    unfold SetTable.advance;rw [if_pos (?d)]
   show (adv t k (t.advance p)).j=_∧(adv t k (t.advance p)).more=_
   rw [e];obtain ⟨a,b⟩:=Zri t k { p with j:=p.j+1,more:=p.more-1 } (by show k≤p.more-1;omega);exact ⟨by rw [a];show p.j+1+k=_;omega,by rw [b];show p.more-1-k=_;omega⟩
theorem Zkt {M i:Nat} (h:i≤M):SetTable.runEnd M i≤M:=by unfold SetTable.runEnd;split<;>omega
theorem Zmh (M i:Nat):i≤SetTable.runEnd M i:=by unfold SetTable.runEnd;split<;>omega
theorem Zrn (t:SetTable):∀ (n:Nat) (p:SetTable.Probe),p.j+p.more≤t.mask→(adv t n p).j+(adv t n p).more≤t.mask
 | 0,p,h=>h
 | n+1,p,h=>by
   refine Zrn t n (t.advance p) ?_;unfold SetTable.advance
   by_cases c:p.more>0
   · rw [if_pos c];show p.j+1+(p.more-1)≤_;omega
   · rw [if_neg c]
     have:(p.i*5+1+p.perturb/32) % (t.mask+1)≤t.mask:=Nat.le_of_lt_succ (Nat.mod_lt _ (Nat.succ_pos _))
     show (p.i*5+1+p.perturb/32) % (t.mask+1)+(SetTable.runEnd t.mask ((p.i*5+1+p.perturb/32) % (t.mask+1))-(p.i*5+1+p.perturb/32) % (t.mask+1))≤t.mask
     have r1:=Zkt this;have r2:=Zmh t.mask ((p.i*5+1+p.perturb/32) % (t.mask+1));omega
theorem Ztk (t:SetTable) (h:Int) (n:Nat):look t h n≤t.mask:=by
 have i0:SetTable.bits h % (t.mask+1)≤t.mask:=Nat.le_of_lt_succ (Nat.mod_lt _ (Nat.succ_pos _))
 have:=Zrn t n (t.probeStart h) (by
  show SetTable.bits h % (t.mask+1)+(SetTable.runEnd t.mask (SetTable.bits h % (t.mask+1))-SetTable.bits h % (t.mask+1))≤t.mask
  have r1:=Zkt i0;have r2:=Zmh t.mask (SetTable.bits h % (t.mask+1));omega)
 unfold look;omega
theorem Ze4 {t:SetTable} {owner:Array (Option Nat)}:∀ (fuel:Nat) (q:Nat×Nat) {j:Nat},SetTable.layClean.free t.mask owner fuel q.1 q.2=some j→∃ m,m<10*fuel∧(adv t m (start t q none)).j=j∧∀ m',m'<m→(owner.getD (adv t m' (start t q none)).j (some 0)).isSome=true
 | 0,q,j,h=>by unfold SetTable.layClean.free at h;cases h
 | fuel+1,q,j,h=>by
   unfold SetTable.layClean.free at h;have hr:=Zrp t.mask q.1;have hg:=Zmh t.mask q.1;have pos:∀ k,k≤SetTable.runEnd t.mask q.1-q.1→(adv t k (start t q none)).j=q.1+k:=fun k hk=>(Zri t k (start t q none) hk).1;cases hfi:(List.range (SetTable.runEnd t.mask q.1+1-q.1)).find? fun k=>(owner.getD (q.1+k) (some 0)).isNone with
   | some k =>
     rw [hfi] at h;have hj:q.1+k=j:=by simpa using h
     have hk:=n35_.mp (List.mem_of_find?_eq_some hfi);refine ⟨k,?d,by rw [pos k (?d)];exact hj,fun m' hm=>?_⟩;rw [pos m' (?d)];obtain ⟨_,as,bs,e1,e2⟩:=List.find?_eq_some_iff_append.mp hfi
     have la:as.length=k:=by
      have:(List.range (SetTable.runEnd t.mask q.1+1-q.1))[as.length]? = some k:=by rw [e1];simp
      rw [List.getElem?_range (by
       have:=congrArg List.length e1
       rw [n76_,n21_,n18_] at this;omega)] at this
      exact Option.some.inj this
     have mm:m'∈as:=by
      have:(List.range (SetTable.runEnd t.mask q.1+1-q.1))[m']? = some m':=List.getElem?_range (?d)
      rw [e1,n41_ (?d)] at this;exact n6_ this
     have:=e2 m' mm
     cases z:owner.getD (q.1+m') (some 0) with
     | none=>rw [z] at this;simp at this
     | some _=>rfl
   | none =>
     rw [hfi] at h;dsimp only at h;obtain ⟨m,a,b,c⟩:=Ze4 fuel (step t.mask q) h;have ar:=Zi1 t (SetTable.runEnd t.mask q.1-q.1) (start t q none) rfl;refine ⟨(SetTable.runEnd t.mask q.1-q.1)+1+m,?d,by rw [Zgb,ar];exact b,fun m' hm=>?_⟩
     by_cases c1:m'≤SetTable.runEnd t.mask q.1-q.1
     · rw [pos m' c1]
       have:=List.find?_eq_none.mp hfi m' (n35_.mpr (?d))
       cases z:owner.getD (q.1+m') (some 0) with
       | none=>rw [z] at this;simp at this
       | some _=>rfl
     · obtain ⟨d,rfl⟩:∃ d,m'=(SetTable.runEnd t.mask q.1-q.1)+1+d:=⟨m'-(SetTable.runEnd t.mask q.1-q.1)-1,?d⟩;rw [Zgb,ar];exact c d (?d)
def OR (t:SetTable) (hs:?e) (owner:Array (Option Nat)):Prop:=∀ (j k:Nat) (h:Int),owner[j]? = some (some k)→hs[k]? = some h→∃ m,m<10*SetTable.turns t.mask∧look t h m=j∧∀ m',m'<m→(owner.getD (look t h m') (some 0)).isSome=true
theorem Zk4 {owner:Array (Option Nat)} {j n x:Nat} (h:(owner.getD x (some 0)).isSome=true):((owner.setIfInBounds j (some n)).getD x (some 0)).isSome=true:=by
 rw [Array.getD_eq_getD_getElem?] at h ⊢;rw [Array.getElem?_setIfInBounds]
 by_cases c:j=x
 · rw [if_pos c];split<;>rfl
 · rw [if_neg c];exact h
theorem OR.put {t:SetTable} {hs:?e} {owner:Array (Option Nat)} (o:OR t hs owner) {j n:Nat} {h:Int} (hn:hs[n]? = some h) (e:SetTable.layClean.free t.mask owner (SetTable.turns t.mask) (SetTable.bits h % (t.mask+1)) (SetTable.bits h)=some j):OR t hs (owner.setIfInBounds j (some n)):=by
 intro j' k h' e1 e2;rw [Array.getElem?_setIfInBounds] at e1
 by_cases c:j=j'
 · rw [if_pos c] at e1;split at e1
   · have:n=k:=by simpa using e1
     subst this;rw [hn] at e2;cases e2
     obtain ⟨m,a,b,c2⟩:=Ze4 (t:=t) _ (SetTable.bits h % (t.mask+1),SetTable.bits h) e;exact ⟨m,a,b.trans c,fun m' hm=>Zk4 (c2 m' hm)⟩
   · cases e1
 · rw [if_neg c] at e1;obtain ⟨m,a,b,c2⟩:=o j' k h' e1 e2;exact ⟨m,a,b,fun m' hm=>Zk4 (c2 m' hm)⟩
theorem Zhm {t:SetTable} (hm:masks t.mask):∀ (hs pre:?e) (owner:Array (Option Nat)),Own t.mask pre.length owner→OR t (pre++hs) owner→pre.length+hs.length<t.mask+1→∀ o',hs.foldl (Y6 t.mask) (some (owner,pre.length))=some o'→OR t (pre++hs) o'.1
 | [],pre,owner,o,r,_,o',e=>by cases e;exact r
 | h :: hs,pre,owner,o,r,hl,o',e=>by
   rw [n18_] at hl;obtain ⟨j,r1,r2⟩:=o.free hm (?d) h
   have e1:Y6 t.mask (some (owner,pre.length)) h=some (owner.setIfInBounds j (some pre.length),pre.length+1):=by
    unfold Y6;show (SetTable.layClean.free t.mask owner (SetTable.turns t.mask) (SetTable.bits h % (t.mask+1)) (SetTable.bits h)).bind _=_
    rw [r1];rfl
   rw [n73_,e1] at e;have len:(pre++[h]).length=pre.length+1:=by simp
   have:=Zhm hm hs (pre++[h]) (owner.setIfInBounds j (some pre.length)) (by rw [len];exact o.put r2) (by
    rw [n49_];exact r.put ?g r1) (by rw [len];omega) o' (by rw [len];exact e)
   rwa [n49_] at this
theorem or0 (t:SetTable) (hs:?e):OR t hs (Array.replicate (t.mask+1) none):=fun j k h e _=>by
 rw [Array.getElem?_replicate] at e;split at e<;>cases e
theorem relaid_reach {α:Type} {t t':SetTable} {es:Array (Int×α)} {wanted:Nat} {order:Array Nat} (hm:masks (SetTable.sizeAbove wanted-1)) (hl:es.size<SetTable.sizeAbove wanted-1+1) (e:t.relaid (es.map (·.1)) wanted=some (t',order)) (ok:∀ k∈order.toList,k<es.size):RE t' (order.filterMap (es[·]?)):=by
 unfold SetTable.relaid SetTable.laid at e;cases q:SetTable.layClean (SetTable.sizeAbove wanted-1) (es.map (·.1)) with
 | none=>rw [q] at e;cases e
 | some owner =>
   rw [q] at e;have e:=Option.some.inj e;have e1:=(Prod.mk.inj e).1;have e2:=(Prod.mk.inj e).2;have mk:t'.mask=SetTable.sizeAbove wanted-1:=by rw [← e1]
   have ore:OR t' (es.map (·.1)).toList owner:=by
    unfold SetTable.layClean at q;rw [← Array.foldl_toList] at q;obtain ⟨ow,e3,_⟩:=Zfm hm (es.map (·.1)).toList 0 _ (own0 _) (by simpa using hl);have q':(List.foldl (Y6 (SetTable.sizeAbove wanted-1)) (some (Array.replicate (SetTable.sizeAbove wanted-1+1) none,0)) (es.map (·.1)).toList).map (·.1)=some owner:=q;rw [e3] at q';have eo:ow=owner:=by simpa using q'
    subst eo;rw [← mk] at e3 hm hl;exact Zhm (t:=t') hm (es.map (·.1)).toList [] _ (own0 _) (or0 t' _) (by simpa using hl) _ e3
   have pl:t'.place.toList=List.map (·.1) ((List.range (SetTable.sizeAbove wanted-1+1)).filterMap fun j=>(owner.getD j none).map (j,·)):=by rw [← e1]
   have od:order.toList=List.map (·.2) ((List.range (SetTable.sizeAbove wanted-1+1)).filterMap fun j=>(owner.getD j none).map (j,·)):=by rw [← e2]
   intro i en j he hj;rw [← Array.getElem?_toList,pl,n7_] at hj
   have fm:∀ (l:List Nat),(∀ k∈l,k<es.size)→∀ i:Nat,(l.filterMap (es[·]?))[i]? = l[i]?.bind (es[·]?):=by
    intro l
    induction l with
    | nil=>intro _ i;rfl
    | cons k l ih =>
      intro hk i;obtain ⟨x,hx⟩:∃ x,es[k]? = some x:=⟨_,Array.getElem?_eq_getElem (hk k n19_)⟩;rw [List.filterMap_cons_some hx];cases i with
      | zero=>simp [hx]
      | succ i=>rw [n75_,n75_];exact ih (fun y hy=>hk y (n16_ _ hy)) i
   rw [← Array.getElem?_toList,Array.toList_filterMap,fm _ ok i,od,n7_] at he;cases z:((List.range (SetTable.sizeAbove wanted-1+1)).filterMap fun j=>(owner.getD j none).map (j,·))[i]? with
   | none=>rw [z] at hj;cases hj
   | some jk =>
     rw [z] at hj he;obtain ⟨j0,k⟩:=jk;have ej:j0=j:=by simpa using hj
     subst ej;have ek:es[k]? = some en:=by simpa using he
     obtain ⟨x,hx,hx2⟩:=List.mem_filterMap.mp (n6_ z)
     have own:owner[j0]? = some (some k):=by
      rw [Array.getD_eq_getD_getElem?] at hx2;cases y:owner[x]? with
      | none=>rw [y] at hx2;simp at hx2
      | some v =>
        rw [y] at hx2;cases v with
        | none=>simp at hx2
        | some v=>simp at hx2;obtain ⟨rfl,rfl⟩:=hx2;exact y
     obtain ⟨m,a,b,c⟩:=ore j0 k en.1 own (by simp [ek]);refine ⟨m,a,b,fun m' hm'=>?_⟩;have lk:=Ztk t' en.1 m';have s:=c m' hm';rw [pl,n24_];rw [Array.getD_eq_getD_getElem?] at s
     have osz:owner.size=SetTable.sizeAbove wanted-1+1:=by
      obtain ⟨ow,e3,o3⟩:=Zja hm (es.map (·.1)) (by simpa using hl);rw [q] at e3;cases e3;exact o3.size
     have lt:look t' en.1 m'<owner.size:=by rw [osz,← mk];omega
     rw [Array.getElem?_eq_getElem lt] at s;obtain ⟨v,hv⟩:=Option.isSome_iff_exists.mp (show (owner[look t' en.1 m']).isSome=true from s);refine ⟨(look t' en.1 m',v),List.mem_filterMap.mpr ⟨look t' en.1 m',n35_.mpr (by rw [← osz];exact lt),?_⟩,rfl⟩;simp [Array.getD,lt,hv]
end STb
namespace L2
open PySem PySem.Spec PyProof.Rows
def Xg (k:?e):Int:=reduceHash (Builtin.Tuple.tupleHashOf (k.map hashInt))
def entU (x:Addr×?e):Int×Value:=(Xg x.2,Value.ref x.1)
structure IsU (bt:Bool) (kl:List (Addr×?e)) (es:Array (Int×Value)) (t:SetTable):Prop where
 pm:es.toList.Perm (kl.map entU)
 nd:(kl.map (·.2)).Nodup
 tw:STb.TP bt es.size t
 re:STb.RE t es
def SetU (bt:Bool) (h:Heap) (S:Addr) (kl:List (Addr×?e)):Prop:=∃ o es ep t,h.get? S=some o∧o.ExactSet∧o.data=.set es ep t∧IsU bt kl es t
def setU (bt:Bool) (S:Addr) (kl:List (Addr×?e)):HO:=.ext fun h=>SetU bt h S kl
variable {α:Type} {S a l:Addr} {A:Around} {items:Array Value} {bt:Bool} {X:Cx} {env:Env} {elt iter tg:Expr} {h h':Heap} {H:Hp} {al kl:List (Addr×?e)} {pins:?y} {fr:List (Option Nat)} {cl:List (Str×Addr)} {N:List Str} {its:?q} {ep j n:Nat} {o:Obj} {pos:Pos} {P prog:Program} {R:Result→?i} {scope:Scope} {s:Shared} {σ:St} {te:TE} {g:TG} {wi:TI} {Q:Value→?i} {w:World}
theorem SetU.stay (h1 h2:Heap) (s:SetU bt h1 a kl) (e:∀ o,h1.get? a=some o→h2.get? a=some o):SetU bt h2 a kl:=let ⟨o,es,ep,t,g,r⟩:=s;⟨o,es,ep,t,e _ g,r⟩
theorem Zfy (s:SetU bt h a kl):ObjOk P w H h a (setU bt a kl):=⟨s,let ⟨o,_,_,_,g,_⟩:=s;⟨o,g⟩,fun h1 h2 x e=>SetU.stay h1 h2 x e⟩
theorem Zi3 (x:ObjOk P w H h a (setU bt a kl)):SetU bt h a kl:=x.1
theorem IsU.len {es:Array (Int×Value)} {t:SetTable} (i:IsU bt kl es t):es.size=kl.length:=by
 rw [← Array.length_toList,i.pm.length_eq,n5_]
theorem IsU.mem {es:Array (Int×Value)} {t:SetTable} (i:IsU bt kl es t) {e:Int×Value} (h:e∈es.toList):∃ x∈kl,entU x=e:=n24_.mp (i.pm.mem_iff.mp h)
def addU (kl:List (Addr×?e)) (x:Addr×?e):List (Addr×?e):=if x.2∈kl.map (·.2) then kl else kl++[x]
section
variable {P:Program} {w:World} {bt:Bool} {A:Around} {E:Value→?i} {s:Shared}
theorem Zma {t:SetTable} (h:STb.masks t.mask):t.gaveWay=false:=by
 unfold SetTable.gaveWay
 rcases h with e|e|e<;>rw [e]<;>rfl
theorem Zs8 {es:Array (Int×Value)} {t:SetTable} {k:?e} {Q:SetFound→?i} (hu:A.units<cLine) (get:s.heap.get? S=some o) (dat:o.data=.set es ep t) (U:IsU bt kl es t)
 (hkl:∀ x∈kl,IsTupleKey (PySem.intKind P w) s.heap x.2 x.1) (hk:IsTupleKey (PySem.intKind P w) s.heap k a) (q1:k∈kl.map (·.2)→Q (.there none) s)
 (q2:k∉kl.map (·.2)→∀ j,t.slot j=.empty→STb.Rch t (Xg k) j→Q (.free j false) s):∀ (n fuel m:Nat) (stand:Option SetTable.Probe),n<fuel→n<10*SetTable.turns t.mask→m+n<10*SetTable.turns t.mask→stand.getD (t.probeStart (Xg k))=STb.adv t m (t.probeStart (Xg k)) →
 STb.Trail t (Xg k) (fun i=>∀ b,es[i]? = some (Xg k,.ref b)→¬ IsTupleKey (PySem.intKind P w) s.heap k b) m→STb.Near t n (STb.adv t m (t.probeStart (Xg k))) →
 wpAny (model P w) A (setSearchFrom S (.ref a) (Xg k) true fuel stand) Q E s:=by
 intro n
 induction n using Nat.strongRecOn with
 | ind n ih =>
   intro fuel m stand hf hn2 hmn hst tr hN;obtain ⟨f,rfl⟩:∃ f,fuel=f+1:=⟨fuel-1,?d⟩;have fit:=U.tw.fits;unfold setSearchFrom;refine n0_ (wpAny_setState_of get dat fit ?_);dsimp only;rw [Zma U.tw.msk];simp only [n20_,if_false];rw [hst]
   have cases':∀ {F:Nat→Int},(∀ i,F i=(es[i]?.map (·.1)).getD 0)→_:=fun {F} hF=>STb.go_trail (t:=t) (f:=F) (h:=Xg k) (N:=fun i=>∀ b,es[i]? = some (Xg k,.ref b)→¬ IsTupleKey (PySem.intKind P w) s.heap k b) U.tw.tw.dum (fun i hi b hb=>by
    rw [hF i,hb] at hi;simp at hi) n (10*SetTable.turns t.mask) m tr hN hn2
   split
   rotate_left
   · rename_i heq
     exact ((cases' (fun _=>rfl)).elim (fun ⟨m1,_,e,_⟩=>heq _ e) (fun ⟨i,m1,e,_⟩=>heq _ e)).elim
   rename_i met heq
   rcases cases' (fun _=>rfl) with ⟨m1,hm1,e,hj,tr1⟩|⟨i,m1,e,hs,hi,tr1,n',hn',hmn',hN'⟩
   · have e:=heq.symm.trans e;cases e
     dsimp only;refine n2_ ?_
     by_cases c:k∈kl.map (·.2)
     · obtain ⟨x,hx,ex⟩:=n24_.mp c;have hm:entU x∈es.toList:=U.pm.mem_iff.mpr (n24_.mpr ⟨x,hx,rfl⟩);obtain ⟨i,hi,ei⟩:=n48_ hm;have hi':i<es.size:=by simpa using hi
       have ei':es[i]? = some (entU x):=by rw [Array.getElem?_eq_getElem hi'];simpa using ei
       have hp:i<t.place.size:=by rw [U.tw.sz];exact hi'
       have rr:=U.re i _ _ ei' (Array.getElem?_eq_getElem hp);have eh:entU x=(Xg k,.ref x.1):=by unfold entU;rw [ex]
       rw [eh] at rr ei';exact (STb.trail_end U.tw.tw.ris tr1 hj rr (Array.getElem?_eq_getElem hp) x.1 ei' (ex ▸ hkl x hx)).elim
     · exact q2 c _ hj (STb.trail_rch (?d) tr1)
   · have e:=heq.symm.trans e;cases e
     dsimp only;have hi2:i<es.size:=by rw [← U.tw.sz];exact (Array.getElem?_eq_some_iff.mp hi).1
     obtain ⟨y,hy⟩:∃ y,es[i]? = some y:=⟨_,Array.getElem?_eq_getElem hi2⟩;obtain ⟨x,hx,ex⟩:=U.mem (e:=y) (by simpa using Array.mem_of_getElem? hy);subst ex;have hb:=hkl x hx
     have core:wpAny (model P w) A (do
      let some (_,y):=es[i]? | unsupported "internal:set-entry"
      let equal ← holding [y] (eqBool y (.ref a))
      let (es',_,t') ← setState S
      if true&&equal then return SetFound.there none
      let some same:=t'.sameMemory t.moves t.mask|unsupported "set.changed-during-lookup:is-the-new-block-at-the-old-address"
      let still ← match (if same then t'.slot (STb.look t (Xg k) m1) else .empty) with
       | .live i'=>match es'[i']? with
         | some (_,y')=>do pure (if ← isSame y' y then some i' else none)
         | none=>pure none
       | _=>pure none
      match still with
      | none=>rule "set.search.anew";setSearchFrom S (.ref a) (Xg k) true f none
      | some i'=>if equal then return .there (some i') else setSearchFrom S (.ref a) (Xg k) true f (some (STb.adv t (m1+1) (t.probeStart (Xg k))))) Q E s:=by
      rw [hy];dsimp only [entU];refine n0_ (n30_ (wpAny_eqBool_tuple hu hb hk ?_));refine n0_ (wpAny_setState_of get dat fit ?_);dsimp only
      by_cases c:x.2=k
      · rw [n32_ c];simp only [Bool.and_self,if_true];exact n2_ (q1 (n24_.mpr ⟨x,hx,c⟩))
      rw [n36_ c];simp only [Bool.and_false,n20_,if_false];have sm:t.sameMemory t.moves t.mask=some true:=by unfold SetTable.sameMemory;simp
      rw [sm];dsimp only;simp only [if_true,hs,hy];refine n0_ (wpAny_isSame_ref_self ?_);simp only [if_true];refine n0_ (n2_ ?_);dsimp only;refine ih n' hn' f (m1+1) (some _) (?d) (?d) (?d) rfl (tr1 fun b eb kb=>c ?_) hN';rw [hy] at eb
      have:x.1=b:=by unfold entU at eb;simpa using (Prod.mk.inj (Option.some.inj eb)).2
      subst this;exact hb.inj kb
     by_cases hl:t.led=true
     · rw [hl];simp only [Bool.not_true,n20_,if_false];exact core
     · have hl':t.led=false:=by simpa using hl
       rw [hl'];simp only [Bool.not_false,if_true];refine n0_ (Zvl hk _ (fun y hy=>?_) ?_)
       · obtain ⟨z,hz,rfl⟩:=n24_.mp hy
         obtain ⟨x',hx',e'⟩:=U.mem (e:=z) (by
          have hz':z∈es∧z.1=Xg k:=by simpa using hz
          simpa using hz'.1)
         subst e';exact ⟨x'.1,x'.2,rfl,hkl x' hx'⟩
       · simp only [n20_,if_false];exact core
theorem Zij {k:?e} {Q:Bool→?i} (hk:IsTupleKey (PySem.intKind P w) s.heap k a) (h:Q true s):wpAny (model P w) A (hashByValue (n+1) (.ref a)) Q E s:=by
 have hT:=hk.typeIs;obtain ⟨o,items,m,ho,_,hd,hi⟩:=hk
 have all:∀ v∈items.toList,∃ i u,v=.int i u:=by
  generalize items.toList=l at hi;clear hd ho
  induction hi with
  | nil=>intro v hv;cases hv
  | cons h1 _ ih =>
    intro v hv
    rcases n9_.mp hv with rfl|hv
    · obtain ⟨u,e⟩:=Value.isInt_shape h1;exact ⟨_,u,e⟩
    · exact ih v hv
 unfold hashByValue;refine n0_ (wpAny_specialOf hT F.slot_tuple_hash.lookup ?_);dsimp only;refine n0_ (wpAny_seqItems ho hd ?_);refine n0_ ?_;show wpAny _ _ (forIn items _ _) _ _ s
 rw [← Array.forIn_toList];refine wpAny_forIn_list _ (fun rest r s'=>r.1=none∧s'=s∧∀ v∈rest,∃ i u,v=.int i u) _ ?_ ?_ _ _ ⟨rfl,rfl,all⟩
 · rintro v rest r s' ⟨hr,rfl,hall⟩
   obtain ⟨i,u,rfl⟩:=hall v n19_;rw [hashByValue_scannable n (x:=.int i u) rfl];refine n0_ (n2_ ?_);show wpAny _ _ (if (!true)=true then _ else _) _ _ _
   simp only [Bool.not_true,n20_,if_false];exact n2_ ⟨rfl,rfl,fun u hu'=>hall u (n16_ _ hu')⟩
 · rintro ⟨r1,r2⟩ s' ⟨hr,rfl,_⟩
   simp only at hr;subst hr;exact n2_ h
theorem Zuj {M:Nat} (hn:n≤76) (hm:STb.masks M) (h:n*5 ≥ M*3) (h2:(n-1)*5<M*3):STb.masks (SetTable.sizeAbove (SetTable.grown n)-1)∧n<SetTable.sizeAbove (SetTable.grown n)-1+1∧n*5<(SetTable.sizeAbove (SetTable.grown n)-1)*3∧¬ SetTable.sizeAbove (SetTable.grown n)>sizeLine:=by
 rcases hm with rfl|rfl|rfl
 · have:n=5:=?d
   subst this;exact ⟨.inr (.inl (?j)),?j,?j,?j⟩
 · have:n=19:=?d
   subst this;exact ⟨.inr (.inr (?j)),?j,?j,?j⟩
 · omega
theorem Zeh {es:Array (Int×Value)} {t:SetTable} (es':Array (Int×Value)) (t':SetTable) (get:h.get? S=some o) (dat:o.data=.set es ep t):(h.update S (Obj.putSet es' t')).get? S=some { o with data:=.set es' (ep+1) t' }:=by
 have:=n56_ (Obj.putSet es' t') get (by rw [putSet_of es' t' dat];rfl)
 rw [putSet_of es' t' dat] at this;exact this
theorem Zd2 {es:Array α} {order:Array Nat} (h:order.toList.Perm (List.range es.size)):(order.filterMap (es[·]?)).toList.Perm es.toList:=by
 rw [Array.toList_filterMap];refine (h.filterMap _).trans ?_
 have:(List.range es.size).filterMap (es[·]?)=es.toList:=by
  refine List.ext_getElem? fun i=>?_
  have fm:∀ (l:List Nat),(∀ k∈l,k<es.size)→∀ i:Nat,(l.filterMap (es[·]?))[i]? = l[i]?.bind (es[·]?):=by
   intro l
   induction l with
   | nil=>intro _ i;rfl
   | cons k l ih =>
     intro hk i;obtain ⟨x,hx⟩:∃ x,es[k]? = some x:=⟨_,Array.getElem?_eq_getElem (hk k n19_)⟩;rw [List.filterMap_cons_some hx];cases i with
     | zero=>simp [hx]
     | succ i=>rw [n75_,n75_];exact ih (fun y hy=>hk y (n16_ _ hy)) i
  rw [fm _ (fun k hk=>n35_.mp hk) i]
  by_cases c:i<es.size
  · rw [List.getElem?_range c];simp
  · rw [List.getElem?_eq_none (by simpa using c),List.getElem?_eq_none (by simpa using c)];rfl
 rw [this]
theorem Zv4 {es:Array (Int×Value)} {t:SetTable} {Q:Unit→?i}
 (get:s.heap.get? S=some o) (ex:o.ExactSet) (dat:o.data=.set es ep t) (pm:es.toList.Perm (kl.map entU)) (nd:(kl.map (·.2)).Nodup) (tw:STb.TW bt t) (pln:t.plain=true) (sz:t.place.size=es.size) (msk:STb.masks t.mask)
 (hn:kl.length≤60) (full:es.size*5 ≥ t.mask*3) (h2:(es.size-1)*5<t.mask*3)
 (q:∀ h',Heap.SameBut S s.heap h'→SetU bt h' S kl→Q () { s with heap:=h' }):wpAny (model P w) A (setRelay S (SetTable.grown es.size)) Q E s:=by
 have len:es.size=kl.length:=by rw [← Array.length_toList,pm.length_eq,n5_]
 have fit:t.fits es.size=true:=STb.fits_of sz tw.dum (by rcases msk with e|e|e<;>rw [e] at h2 ⊢<;>omega);obtain ⟨g1,g2,g3,g4⟩:=Zuj (?d) msk full h2;have z:(es.map (·.1)).size=es.size:=by simp
 obtain ⟨t',order,e,r1,r2,r3,r4,r5⟩:=STb.relaid_perm (t:=t) (hs:=es.map (·.1)) (wanted:=SetTable.grown es.size) rfl g1 (by rw [z];exact g2);rw [z] at r3 r5;have os:order.size=es.size:=by rw [← Array.length_toList,r5.length_eq,n76_]
 have ok:∀ k∈order.toList,k<es.size:=fun k hk=>n35_.mp (r5.mem_iff.mp hk);have p1:=(STb.pick_size os ok).1;have U:IsU bt kl (order.filterMap (es[·]?)) t':=⟨(Zd2 r5).trans pm,nd,⟨STb.TW.laid tw.led e,by rw [r4,pln],by rw [r1];exact g1,by rw [r3,p1],by rw [r1,p1];exact g3⟩,STb.relaid_reach g1 g2 e ok⟩;unfold setRelay;refine n0_ (wpAny_setState_of get dat fit ?_);dsimp only;rw [if_neg g4];rw [e];have hb:((order.filterMap (es[·]?)).size != es.size)=false:=by rw [p1];simp
 refine n0_ ?_
 have red:wpAny (model P w) A (if ((order.filterMap (es[·]?)).size != es.size)=true then (unsupported "internal:set-table-lost-an-element" : Sem (Array (Int×Value)×SetTable)) else pure (order.filterMap (es[·]?),t')) (fun r s'=>wpAny (model P w) A (storeSet S r.1 r.2) Q E s') E s:=by
  rw [hb,if_neg ?f];refine n2_ ?_;exact wpAny_storeSet_of get dat (q _ (Heap.SameBut.update ..) ⟨_,_,_,_,Zeh _ _ get dat,ex,rfl,U⟩) (by rw [p1,sizeLine_eq];omega)
 first
  | exact red
  | (refine n0_ ?_;exact red)
  | trace_state
theorem Zeo {k:?e} {Q:Bool→?i} (hu:A.units<cLine) (hS:SetU bt s.heap S kl) (hkl:∀ x∈kl,IsTupleKey (PySem.intKind P w) s.heap x.2 x.1) (hk:IsTupleKey (PySem.intKind P w) s.heap k a) (hl:kl.length<60)
 (q:∀ b h',Heap.SameBut S s.heap h'→SetU bt h' S (addU kl (a,k))→Q b { s with heap:=h' }):wpAny (model P w) A (setAddHashed S (.ref a) (Xg k)) Q E s:=by
 obtain ⟨o,es,ep,t,get,ex,dat,U⟩:=hS;unfold setAddHashed setAddHashedIn;refine n30_ (n0_ (wpAny_setState_of get dat U.tw.fits ?_));dsimp only;rw [show byScan (.ref a) es=false from rfl];simp only [n20_,if_false];have few:=U.tw.few;have len:=U.len;have lt:t.place.size<t.mask+1:=by rw [U.tw.sz];omega
 refine n0_ (Zs8 hu get dat U hkl hk (fun c=>?_) (fun c j hj rj=>?_) (10*(t.mask+13)) 100000 0 none (by rcases U.tw.msk with e|e|e<;>rw [e]<;>decide) (by unfold SetTable.turns;omega) (by unfold SetTable.turns;omega) rfl (fun m' hm=>?d) (STb.near_start U.tw.msk U.tw.tw.dum lt))
 · dsimp only;refine n2_ ?_
   have:=q false s.heap (Heap.SameBut.refl S s.heap) ⟨o,es,ep,t,get,ex,dat,by rw [addU,if_pos c];exact U⟩
   have e:s={ s with heap:=s.heap }:=by cases s;rfl
   rw [e];exact this
 dsimp only;refine n0_ (wpAny_setState_of get dat U.tw.fits ?_);dsimp only;obtain ⟨u1,u2,u3⟩:=Zno t j;have tw1:=U.tw.tw.put hj;have re1:=U.re.put (x:=Value.ref a) U.tw.tw.ris U.tw.sz rj;have pl1:(t.put j).1.plain=true:=U.tw.pl;generalize hput:t.put j=tp at u1 u2 u3 tw1 re1 pl1;obtain ⟨t1,p⟩:=tp;dsimp only at u1 u2 u3 tw1 re1 pl1 ⊢;have sz1:(SetTable.insertAt es p (Xg k,Value.ref a)).size=es.size+1:=STb.insertAt_size _ _ _
 have pm1:(SetTable.insertAt es p (Xg k,Value.ref a)).toList.Perm ((kl++[(a,k)]).map entU):=by
  rw [STb.insertAt_list,n46_];refine (List.perm_middle).trans ?_;rw [List.take_append_drop];exact (List.perm_append_singleton _ _).symm.trans (U.pm.append_right _)
 have nd1:((kl++[(a,k)]).map (·.2)).Nodup:=by
  rw [n46_,n62_];exact ⟨U.nd,by simp,fun x hx y hy=>by rw [show y=k by simpa using hy];exact fun z=>c (z ▸ hx)⟩
 have ea:addU kl (a,k)=kl++[(a,k)]:=by rw [addU,if_neg c]
 rw [ea] at q;rw [pl1];simp only [if_true];refine n0_ (Zij hk ?_);simp only [if_true]
 have full:t1.tooFull=decide ((es.size+1)*5 ≥ t.mask*3):=by
  unfold SetTable.tooFull SetTable.fill;rw [u1,u3,tw1.dum,U.tw.sz];rfl
 refine n0_ (wpAny_storeSet_of get dat ?_ (by rw [sz1,sizeLine_eq,len];omega));have hg:=Zeh (SetTable.insertAt es p (Xg k,Value.ref a)) t1 get dat;have sb:=Heap.SameBut.update s.heap S (Obj.putSet (SetTable.insertAt es p (Xg k,Value.ref a)) t1)
 by_cases hf:(es.size+1)*5 ≥ t.mask*3
 · rw [full,n32_ hf];simp only [Bool.not_false,Bool.true_and,if_true];rw [show es.size+1=(SetTable.insertAt es p (Xg k,Value.ref a)).size from sz1.symm];refine n0_ (Zv4 (s:={ s with heap:=s.heap.update S (Obj.putSet (SetTable.insertAt es p (Xg k,Value.ref a)) t1) }) hg ex rfl pm1 nd1 tw1 pl1 (by rw [u1,sz1,U.tw.sz]) (by rw [u3];exact U.tw.msk) (by simp;omega) (by rw [sz1,u3];exact hf) (by rw [sz1,u3];simpa using few) fun h' r1 r2=>?_);exact n2_ (q _ h' (sb.trans r1) r2)
 · rw [full,n36_ hf];simp only [Bool.not_false,Bool.true_and,n20_,if_false];exact n2_ (q _ _ sb ⟨_,_,_,_,hg,ex,rfl,pm1,nd1,⟨tw1,pl1,by rw [u3];exact U.tw.msk,by rw [u1,sz1,U.tw.sz],by rw [sz1,u3];omega⟩,re1⟩)
theorem Zr6
 (h:∀ o0,SetU (Xb w) (s.heap.push o0) s.z []→Q (.ref s.z) { s with heap:=s.heap.push o0 }):wpAny (model P w) A (newSet (.type "set")) Q E s:=by
 unfold newSet setsByText;refine n0_ (n0_ (wpAny_askSetting (n2_ ?_)));dsimp only;simp only [newObj];exact n0_ (wpAny_alloc (n2_ (h _ ⟨_,#[],0,_,n8_ _ rfl,⟨rfl,rfl,rfl⟩,rfl,.refl _,.nil,STb.TP.fresh _,fun i e j he=>by simp at he⟩)))
end
abbrev set0 (w:World):Obj:={ cls:=.type "set",dict:=none,data:=.set #[] 0 (.fresh 0 0 (!Xb w)) }
section
variable {P:Program} {w:World} {A:Around} {E:Value→?i} {s:Shared}
theorem Zpb (a:Value) {Q₁:Value→?i} (h:Q₁ (.ref s.z) { s with heap:=s.heap.push (set0 w) }) :
 codeAny (model P w) A (.call (.builtin "set.__new__") ⟨[.type "set",a],[]⟩) (wants Q₁ E) s:=by
 refine codeAny_of_tree ?_;show wpAny _ A.in1 (do checkBuiltinCall "set.__new__" ⟨[.type "set",a],[]⟩;again (.builtin "set.__new__" ⟨[.type "set",a],[]⟩)) _ _ s
 refine n0_ (wpAny_of_eq (F.newCall_set_1 a) (n2_ ⟨plainId_quiet F.plain_set_new _,codeAny_builtin F.entry_set_new ?_⟩));rw [Around.under_plainId F.plain_set_new _];unfold Builtin.«set.__new__» Builtin.Frozenset.newClass;have hsub:=sub_set_self;obtain ⟨hp,g,d,tk,os⟩:=s;dsimp only
 wp_walk
 refine wpAny_askSetting (n2_ ?_);dsimp only;simp only [newObj];refine n0_ (wpAny_alloc (n2_ ?_));exact n2_ h
set_option maxHeartbeats 3200000 in
end
def metU (al:List (Addr×?e)):List (Addr×?e):=al.foldl addU []
theorem Zmc (al:List (Addr×?e)) (x:Addr×?e):metU (al++[x])=addU (metU al) x:=by unfold metU;rw [List.foldl_append];rfl
theorem Zjs {x y:Addr×?e} (h:y∈addU kl x):y∈kl∨y=x:=by
 unfold addU at h;split at h
 · exact .inl h
 · simpa using h
theorem Zgz {x:Addr×?e} {k:?e}:k∈(addU kl x).map (·.2)↔k∈kl.map (·.2)∨k=x.2:=by
 unfold addU;split
 · rename_i c
   exact ⟨.inl,fun h=>h.elim id fun e=>e ▸ c⟩
 · rw [n46_,n28_];simp
theorem Zk3 (kl:List (Addr×?e)) (x:Addr×?e):(addU kl x).length≤kl.length+1:=by
 unfold addU;split
 · omega
 · simp
theorem Zm2 {x:Addr×?e} (h:(kl.map (·.2)).Nodup):((addU kl x).map (·.2)).Nodup:=by
 unfold addU;split
 · exact h
 · rename_i c
   rw [n46_,n62_];exact ⟨h,by simp,fun a ha b hb=>by rw [show b=x.2 by simpa using hb];exact fun z=>c (z ▸ ha)⟩
theorem Zqx:∀ (al kl:List (Addr×?e)),(∀ y∈al.foldl addU kl,y∈kl∨y∈al)∧(∀ k,k∈(al.foldl addU kl).map (·.2)↔k∈kl.map (·.2)∨k∈al.map (·.2))∧(al.foldl addU kl).length≤kl.length+al.length∧((kl.map (·.2)).Nodup→((al.foldl addU kl).map (·.2)).Nodup)
 | [],kl=>⟨fun y h=>.inl h,fun k=>by simp,by simp,id⟩
 | x :: al,kl=>by
   obtain ⟨a,b,c,d⟩:=Zqx al (addU kl x);refine ⟨fun y h=>?_,fun k=>?_,?_,fun h=>d (Zm2 h)⟩
   · rcases a y h with h|h
     · rcases Zjs h with h|h
       · exact .inl h
       · exact .inr (by simp [h])
     · exact .inr (n16_ _ h)
   · rw [n73_,b k,Zgz,n31_,n9_,or_assoc]
   · have:=Zk3 kl x
     rw [n73_,n18_];omega
theorem Zc5 {y:Addr×?e} (h:y∈metU al):y∈al:=by rcases (Zqx al []).1 y h with h|h<;>first|exact h|cases h
theorem Zn0 {k:?e}:k∈(metU al).map (·.2)↔k∈al.map (·.2):=by rw [metU,(Zqx al []).2.1 k];simp
theorem Zjq (al:List (Addr×?e)):(metU al).length≤al.length:=by have:=(Zqx al []).2.2.1;simpa [metU] using this
section
variable {P:Program} {w:World} {bt:Bool} {A:Around} {E:Value→?i} {s:Shared}
theorem SetU.typeIs (h:SetU bt s.heap a kl):s.TypeIs (.ref a) "set" := by
 obtain ⟨o,es,ep,t,g,x,_⟩:=h;exact ⟨o,g,x.1⟩
theorem Zdi {k:?e} (t:IsTupleKey (PySem.intKind P w) h k a) (e:∀ o,h.get? a=some o→h'.get? a=some o):IsTupleKey (PySem.intKind P w) h' k a:=let ⟨o,items,n,g,r⟩:=t;⟨o,items,n,e _ g,r⟩
theorem Zsh {k:?e} (t:IsTupleKey (PySem.intKind P w) h k a) (hS:SetU bt h S kl):a≠S:=by
 rintro rfl
 obtain ⟨o,es,ep,tb,g,_,d,_⟩:=hS;obtain ⟨o',items,n,g',_,d',_⟩:=t;rw [g] at g';cases g';rw [d] at d';cases d'
theorem Zp1 {k:?e} (hu:A.units+8<cLine) (hS:SetU bt s.heap S kl) (hkl:∀ x∈kl,IsTupleKey (PySem.intKind P w) s.heap x.2 x.1) (hk:IsTupleKey (PySem.intKind P w) s.heap k a) (hl:kl.length<60)
 (h:∀ h' tk,Heap.SameBut S s.heap h'→SetU bt h' S (addU kl (a,k))→Q .none { s with heap:=h',toks:=tk }):wpAny (model P w) A (call (.builtin "set.add") [.ref S,.ref a]) Q E s:=by
 refine wpAny_call_entry F.slot_set_add hS.typeIs F.entry_set_add ?_ (F.args_set_add_2 _ _);unfold Builtin.«set.add» Builtin.Frozenset.oneOther;simp only [List.isEmpty_nil,bind_assoc];unfold Builtin.Frozenset.addrOf setAdd;refine n0_ (n2_ ?_)
 try dsimp only
 refine n0_ (n2_ ?_)
 try dsimp only
 refine n0_ ?_;refine n30_ ?_;refine n0_ (wpAny_pyHash_tuple (by simp;omega) hk ?_);refine Zeo (s:={ s with toks:=s.toks+(k.length+1) }) (by simp;omega) hS hkl hk hl fun b h' hsb hS'=>?_;show wpAny _ _ (ret Value.none) _ _ _
 exact n2_ ⟨_,rfl,h h' _ hsb hS'⟩
end
section
variable {P:Program} {w:World} {bt:Bool} {A:Around} {R:Result→?i} {I:Addr} {fp wr:List Addr} {G:Array GenState→Array GenState→Prop} {St:Nat→?i}
theorem Zhe {Pv:Nat→Value→Prop} (hu:A.in1.units+4<cLine) (W:WalksS P w A.in1 I fp wr G al.length Pv St) (S:Addr) (hSf:S∉fp) (hval:∀ i v,i<al.length→Pv i v→∃ x,al[i]? = some x∧v=.ref x.1) (hb:al.length≤60) :
 ∀ (k i:Nat) (s:Shared),al.length-i=k→i≤al.length→St i s→(∀ x∈al,x.1∉wr∧IsTupleKey (PySem.intKind P w) s.heap x.2 x.1)→SetU bt s.heap S (metU (al.take i)) →
   (∀ s',Moved (S :: wr) G s s'→SetU bt s'.heap S (metU al)→R (.ok (.ret .none)) s') →
   codeAny (model P w) A (.builtin "set.update.loop" ⟨[.ref S,.ref I],[]⟩) R s:=by
 have hSw:S∉wr:=fun h=>hSf (W.sub _ h);have hsub:∀ b∈wr,b∈S :: wr:=fun b hb=>n16_ _ hb;intro k
 induction k with
 | zero =>
   intro i s hk hi hst hal hS hR;obtain rfl:i=al.length:=?d
   rw [List.take_length] at hS;refine codeAny_builtin F.entry_set_update_loop ?_;rw [Around.under_plainId F.plain_set_update_loop _];show wpAny _ A.in1 (pyNext (.ref I) >>= _) _ _ s
   refine n0_ (W.done s _ _ hst fun s' hm=>?_);show wpAny _ A.in1 (ret Value.none) _ _ s'
   exact n2_ (hR s' (hm.mono hsub) (SetU.stay _ _ hS fun o e=>hm.heap S o hSw e))
 | succ k ih =>
   intro i s hk hi hst hal hS hR;have hlt:i<al.length:=?d
   refine codeAny_builtin F.entry_set_update_loop ?_;rw [Around.under_plainId F.plain_set_update_loop _];show wpAny _ A.in1 (pyNext (.ref I) >>= _) _ _ s
   refine n0_ (W.item i s _ _ hlt hst fun v s' hP hst' hm=>?_);obtain ⟨x,hx,rfl⟩:=hval i v hlt hP;have hal':∀ x∈al,x.1∉wr∧IsTupleKey (PySem.intKind P w) s'.heap x.2 x.1:=fun y hy=>⟨(hal y hy).1,Zdi (hal y hy).2 fun o e=>hm.heap _ o (hal y hy).1 e⟩;have hS':=SetU.stay _ s'.heap hS fun o e=>hm.heap S o hSw e;show wpAny _ A.in1 (holding [Value.ref x.1] (setAdd S (.ref x.1)) >>= _) _ _ s'
   refine n0_ (n30_ ?_);unfold setAdd;refine n30_ ?_;have hxm:=n6_ hx;refine n0_ (wpAny_pyHash_tuple (?d) (hal' x hxm).2 ?_)
   have hroom:(metU (al.take i)).length<60:=by
    have:=Zjq (al.take i)
    rw [n59_] at this;omega
   refine Zeo (s:={ s' with toks:=s'.toks+(x.2.length+1) }) (?d) hS' (fun y hy=>(hal' y (List.mem_of_mem_take (Zc5 hy))).2) (hal' x hxm).2 hroom fun bb h' hsb hS2=>?_
   have et:al.take (i+1)=al.take i++[x]:=by
    rw [List.take_succ_eq_append_getElem hlt];rw [n1_ hlt] at hx;rw [Option.some.inj hx]
   rw [← Zmc,← et] at hS2;refine n2_ ⟨plainId_quiet F.plain_set_update_loop _,ih (i+1) _ (?d) hlt (W.frame _ s' _ _ hst' (Nat.le_add_right _ _) fun b hb o e=>?_) (fun y hy=>⟨(hal y hy).1,Zdi (hal' y hy).2 fun o e=>(hsb.2 _ (Zsh (hal' y hy).2 hS')).trans e⟩) hS2 fun s'' hm'' hS''=>?_⟩
   · rw [hsb.2 b (fun h:b=S=>hSf (by rw [← h];exact hb))];exact e
   · refine hR s'' (Moved.trans W.gtrans ((hm.mono hsub).then_heap (Nat.le_add_right _ _) fun b o hb e=>?_) hm'') hS'';rw [hsb.2 b (fun h:b=S=>hb (by rw [h];exact n19_))];exact e
end
section
variable {P:Program} {w:World} {A:Around} {E:Value→?i} {s:Shared}
theorem Zvj (e:h.get? a=some (set0 w)):SetU (Xb w) h a [] :=
 ⟨_,#[],0,_,e,⟨rfl,rfl,rfl⟩,rfl,.refl _,.nil,STb.TP.fresh _,fun i e j he=>by simp at he⟩
set_option maxHeartbeats 3200000
theorem Zkl {T:String} {it0:Obj} {St:Addr→Nat→Heap→Prop}
 (hh:A.handled=none) (hu:A.units+12<cLine) (hl:s.TypeIs (.ref l) T) (hsls:isSubtype (.type T) (.type "set")=pure false) (hslf:isSubtype (.type T) (.type "frozenset")=pure false) (hne:(Value.type T == Value.type "dict")=false)
 (iter:∀ (A:Around) (s1:Shared) (Q:Value→?i) (E:Value→?i),(∀ o,s.heap.get? l=some o→s1.heap.get? l=some o)→Q (.ref s1.z) { s1 with heap:=s1.heap.push it0 }→wpAny (model P w) A (pyIter (.ref l)) Q E s1) (hf:it0.isFreed=false)
 (W:∀ (A:Around) (I:Addr),A.handled=none→l≠I→Walks P w A I [I,l] [I] al.length (fun i v=>items[i]? = some v) (St I))
 (st0:∀ (h:Heap) (I:Addr),h.get? I=some it0→(∀ o,s.heap.get? l=some o→h.get? l=some o)→St I 0 h) (hi:items.toList=al.map fun x=>Value.ref x.1) (hal:∀ x∈al,IsTupleKey (PySem.intKind P w) s.heap x.2 x.1) (hb:al.length≤60)
 (h:∀ (h':Heap) (tk:Nat),SetU (Xb w) h' s.z (metU al)→(∀ b o,b<s.z→s.heap.get? b=some o→h'.get? b=some o)→Q (.ref s.z) { s with heap:=h',toks:=tk }) :
 wpAny (model P w) A (call (.type "set") [.ref l]) Q E s:=by
 obtain ⟨c,tl,hmro⟩:=F.called_set.mro;have hmade:=F.called_set.made;have hsub:=F.called_set.sub;have hlen:items.size=al.length:=by rw [← Array.length_toList,hi,n5_]
 refine wpAny_call (codeAny_of_tree ?_);show wpAny _ _ (callAny (.type "set") _) _ _ _
 refine n2_ ⟨Code.quiet_builtin _ (?j),codeAny_builtin F.entry_type_call ?_⟩;rw [Around.under_plain (weight_type_call_type "set" [.ref l] []) rfl];have h1:=F.called_set.notType;have h2:=F.called_set.canCreate;have hct:=F.typeCall_set_1 (.ref l)
 repeat (any_goals (first|assumption|wp_step))
 refine codeAny_mono (Zpb (.ref l) (E:=E) (Q₁:=fun obj s₁=>obj=.ref s.z∧s₁={ s with heap:=s.heap.push (set0 w) }) ⟨rfl,rfl⟩) fun r s₁ hr=>?_;cases r with
 | error e=>exact hr
 | ok fl =>
   cases fl with
   | ret obj =>
     obtain ⟨rfl,rfl⟩:=hr;have hS:(s.heap.push (set0 w)).get? s.z=some (set0 w):=n8_ _ rfl;have hT:Shared.TypeIs { s with heap:=s.heap.push (set0 w) } (.ref s.z) "set" := ⟨_,hS,rfl⟩;have hli:=F.called_set.init.lookup;have hbi:=F.called_set.init.bind (.ref s.z)
     repeat (any_goals (first|assumption|wp_step))
     refine codeAny_mono (codeAny_call_builtin (R:=wants (fun r s₂=>r=.none∧∃ h' tk,s₂={ s with heap:=h',toks:=tk }∧SetU (Xb w) h' s.z (metU al)∧(∀ b o,b<s.z→s.heap.get? b=some o→h'.get? b=some o)) E) F.called_set.init.plain F.entry_set_init (check_set_init_1 hT ?_)) fun r₂ s₂ hr₂=>?_
     · obtain ⟨⟨ocls,odict,odata,oslots⟩,hol,hcl⟩:=hl;simp only at hcl;subst hcl;have hol':(s.heap.push (set0 w)).get? l=some { cls:=.type T,dict:=odict,data:=odata,slots:=oslots }:=n3_ _ hol;unfold Builtin.«set.__init__» noKeywords Builtin.Frozenset.updateFrom;generalize hPI:pyIter=PI
       wp_walk
       subst hPI;refine iter _ _ _ _ (fun o e=>n3_ _ e) ?_;refine n0_ (wpAny_runValue ?_);have hlS:l<s.z:=n13_ hol;have hh3:A.in1.in1.in1.handled=none:=by simp [hh]
       have hneI:l≠(s.heap.push (set0 w)).objs.size:=by
        rw [n43_];exact n27_ (n54_ hlS)
       have hSf:s.z∉[(s.heap.push (set0 w)).objs.size,l]:=by
        rw [n43_];simp only [n9_,n25_,n10_,or_false,not_or];exact ⟨n27_ (Nat.lt_succ_self _),n70_ hlS⟩
       have hval:∀ (i:Nat) (v:Value),i<al.length→items[i]? = some v→∃ x,al[i]? = some x∧v=.ref x.1:=fun i v _ hv=>by
        rw [← Array.getElem?_toList,hi,n7_] at hv;cases q:al[i]? with
        | none=>rw [q] at hv;cases hv
        | some x=>rw [q] at hv;exact ⟨x,rfl,(Option.some.inj hv).symm⟩
       have hW:=(W _ (s.heap.push (set0 w)).objs.size hh3 hneI).toS;have hal1:∀ x∈al,x.1<s.z:=fun x hx=>let ⟨o,_,_,g,_⟩:=hal x hx;n13_ g;refine Zhe (by simp;omega) hW s.z hSf hval (?d) (al.length-0) 0 _ rfl (n42_ _) (st0 _ _ (n8_ _ hf) fun o e=>n3_ _ (n3_ _ e)) (fun x hx=>⟨?_,Zdi (hal x hx) fun o e=>n3_ _ (n3_ _ e)⟩) (Zvj (n3_ _ hS)) ?hR
       · rw [n43_]
         have:=hal1 x hx
         simp only [n9_,n10_,or_false];exact n27_ (n54_ this)
       case hR =>
        intro s' hm hS';obtain ⟨h',g',d',tk',os'⟩:=s';have eg:g'=s.gens:=hm.gens;have ed:d'=s.drawn:=hm.drawn;have eo:os'=s.os:=hm.os;subst eg;subst ed;subst eo;show wpAny _ _ _ _ _ _
        refine n2_ ?_;show wpAny _ _ (ret Value.none) _ _ _
        refine n2_ ⟨rfl,h',tk',rfl,hS',fun b o hb e=>?_⟩;have hb1:b≠s.z:=n27_ hb
        have hb2:b≠(s.heap.push (set0 w)).objs.size:=by
         rw [n43_];exact n27_ (n54_ hb)
        exact hm.heap b o (by simp only [n9_,n25_,n10_,or_false,not_or];exact ⟨hb1,hb2⟩) (n3_ _ (n3_ _ e))
     · cases r₂ with
       | error e=>exact hr₂
       | ok fl₂ =>
         cases fl₂ with
         | ret r =>
           obtain ⟨rfl,h',tk,rfl,hS',hk'⟩:=hr₂
           repeat (any_goals (first|assumption|wp_step))
           exact h _ _ hS' hk'
         | _=>exact hr₂.elim
   | _=>exact hr.elim
end
abbrev tpl (H:Hp) (x:Addr×?e):Prop:=H x.1=some (.tup (x.2.map V.int))
theorem Zf3 {k:?e} (I:?k) (h:H a=some (.tup (k.map V.int))):IsTupleKey (PySem.intKind X.prog X.w) s.heap k a:=by
 obtain ⟨its2,rv2,⟨o2,g2,c2,n2,d2⟩,_⟩:=I.tuple (SqT.of h);exact ⟨o2,its2.toArray,n2,g2,c2,d2,by simpa using items_int rv2⟩
theorem Zjx (rv:Vals (al.map fun x=>V.ref x.1) its):its=al.map fun x=>Value.ref x.1:=by
 generalize hv:(al.map fun x=>V.ref x.1)=vs at rv
 induction rv generalizing al with
 | nil=>cases al with|nil=>rfl|cons x al=>cases hv
 | cons r1 _ ih =>
   cases al with
   | nil=>cases hv
   | cons x al =>
     rw [n31_] at hv ⊢;have hv1:=(List.cons.inj hv).1;have hv2:=(List.cons.inj hv).2;subst hv1;cases (show _=Value.ref x.1 from r1)
     rw [ih hv2]
theorem Zwf:isSubtype (.type "tuple") (.type "set")=pure false:=by rw [isSubtype_type];kernel_rfl
theorem Zwn:isSubtype (.type "tuple") (.type "frozenset")=pure false:=by rw [isSubtype_type];kernel_rfl
def Zvr (sq:Hp→Addr→List V→Prop) (bt:Bool):List V→Hp→VK→Prop:=fun xs H Q=>∃ (p:Addr) (al:List (Addr×?e)),xs=[.ref p]∧sq H p (al.map fun x=>V.ref x.1)∧(∀ x∈al,tpl H x)∧al.length≤60∧∀ S,H S=none→Q (.ref S) (upd H S (setU bt S (metU al)))
theorem Zmm (hc:X.calm=true) (hr:Room j X.A):Yv X (.type "set") (Zvr (SqL X.K) (Xb X.w)):=by
 intro pins s σ H xs us Q I r h;obtain ⟨p,al,rfl,hq,ht,hb,q⟩:=h;cases r with
 | cons rx r =>
   cases r
   cases (show _=Value.ref p from rx)
   obtain ⟨its,rv,pl,hz⟩:=I.list hq;have eits:=Zjx rv;subst eits;have hl:=pl.isList;have hn:(al.map fun x=>Value.ref x.1).toArray.size=al.length:=by simp
   refine Zkl (it0:={ cls:=.type "list_iterator",data:=.fields #[.ref p,.int 0 0] }) (St:=fun I i h=>h.IsListIter I p i∧h.IsList p (al.map fun x=>Value.ref x.1).toArray) (I.ok.hd hc) (by have:=hr.un;omega) hl.typeIs F.sub_list_set F.sub_list_frozenset ?f (fun A s1 Q E k q=>wpAny_pyIter_list (hl.at k) q) rfl (fun A I' hh hne=>by rw [← hn];exact Walks.list hh I' p hne _) (fun h I' e k=>⟨⟨_,e,rfl,rfl⟩,hl.at k⟩) ?g (fun x hx=>Zf3 I (ht x hx)) hb fun h' tk hS hk=>?_;exact ⟨.ref s.z,_,I.laid (o:=setU (Xb X.w) s.z (metU al)) (t':=tk) (fun b o e=>hk b o (n13_ e) e) (n11_ _) (Zfy hS),rfl,q _ (I.hok.fresh (n11_ _))⟩
theorem Zoj (hc:X.calm=true) (hr:Room j X.A):Yv X (.type "set") (Zvr (SqT X.K) (Xb X.w)):=by
 intro pins s σ H xs us Q I r h;obtain ⟨p,al,rfl,hq,ht,hb,q⟩:=h;cases r with
 | cons rx r =>
   cases r
   cases (show _=Value.ref p from rx)
   obtain ⟨its,rv,hl,hz⟩:=I.tuple hq;have eits:=Zjx rv;subst eits;have hat:∀ {h:Heap},(∀ o,s.heap.get? p=some o→h.get? p=some o)→h.IsTuple p (al.map fun x=>Value.ref x.1).toArray:=fun k=>let ⟨o,e,c,n,d⟩:=hl;⟨o,k _ e,c,n,d⟩;have hn:(al.map fun x=>Value.ref x.1).toArray.size=al.length:=by simp
   refine Zkl (it0:={ cls:=.type "tuple_iterator",data:=.fields #[.ref p,.int 0 0] }) (St:=fun I i h=>h.IsTupleIter I p i∧h.IsTuple p (al.map fun x=>Value.ref x.1).toArray) (I.ok.hd hc) (by have:=hr.un;omega) hl.typeIs Zwf Zwn ?f (fun A s1 Q E k q=>wpAny_pyIter_tuple (hat k) q) rfl (fun A I' hh hne=>by rw [← hn];exact Walks.tuple hh I' p hne _) (fun h I' e k=>⟨⟨_,e,rfl,rfl⟩,hat k⟩) ?g (fun x hx=>Zf3 I (ht x hx)) hb fun h' tk hS hk=>?_;exact ⟨.ref s.z,_,I.laid (o:=setU (Xb X.w) s.z (metU al)) (t':=tk) (fun b o e=>hk b o (n13_ e) e) (n11_ _) (Zfy hS),rfl,q _ (I.hok.fresh (n11_ _))⟩
theorem Zj3:∀ {al kl:List (Addr×?e)},((kl++al).map (·.2)).Nodup→al.foldl addU kl=kl++al
 | [],kl,_=>by simp
 | x :: al,kl,h=>by
   have e:addU kl x=kl++[x]:=by
    unfold addU;rw [if_neg];rw [n46_,n62_] at h;exact fun z=>h.2.2 _ z _ (n47_ n19_) rfl
   rw [n73_,e,Zj3 (by simpa using h)];simp
theorem Zg1 (h:(al.map (·.2)).Nodup):metU al=al:=by unfold metU;rw [Zj3 (by simpa using h)];rfl
theorem Znb:Yv X (.builtin "len") (fun xs H Q=>∃ bt S kl,xs=[.ref S]∧H S=some (setU bt S kl)∧kl.length≤1000∧Q (.int kl.length) H):=by
 intro pins s σ H xs us Q I r h;obtain ⟨bt,S,kl,rfl,hS,hn,q⟩:=h;cases r with
 | cons rx r =>
   cases r
   cases (show _=Value.ref S from rx)
   obtain ⟨o,es,ep,t,e,ex,d,U⟩:=Zi3 (I.hok _ _ hS);have hl:=Zdl;have hz:sizeLine=16777216:=sizeLine_eq;have hn':=U.len;refine call_len_set e ex d U.tw.fits (?d) ⟨.int kl.length,H,I.tok _,⟨_,by rw [hn']⟩,q⟩
abbrev sc1 (elt tg iter:Expr) (scope:Scope) (pos:Pos):Expr:=.SetComp elt [⟨tg,iter,[],0⟩] scope pos
theorem Zms {target:Expr} {it acc:Value} (I:Nat→?i)
 (turn:∀ n s,I n s→Zlp ?p A target it env R (fun n s₂=>wpAny ?p A (eval elt env) (fun x s₄ =>
   wpAny ?p A (call (.builtin "set.add") [acc,x]) (fun _ s₅=>∃ m,m<n∧I m s₅) NoX s₄) NoX s₂) n s)
 (n:Nat) (h:I n s):codeAny ?p A (.compLoop (sc1 elt target iter scope pos) 0 it acc env) R s:=by
 refine codeAny_loop rfl I (fun n s hI=>?_) n h;show wpAny _ A ((compTurn (sc1 elt target iter scope pos) 0 it acc env).onRaise (fun x=>do noteFrame x env;theTreesLotGoes x)) _ _ s
 refine wpAny_noted ?_
 rw [show compTurn (sc1 elt target iter scope pos) 0 it acc env=(do
  standAt iter.pos
  match ← pyNext it with
  | none=>pure (.done .next)
  | some v =>
    letOwnedTupleGo target it v
    assign target env v
    let mut ok:=true
    for c in ([]:List Expr) do
     if ok then ok ← isTrue c env (eval c env)
    if ok then
     (do let v ← eval elt env;standAt elt.pos;let _ ← call (.builtin "set.add") [acc,v])
    again (.compLoop (sc1 elt target iter scope pos) 0 it acc env)) from rfl]
 refine n0_ (wpAny_standAt (n0_ (n38_ (turn n s hI) (fun r s1 h1=>?_) fun _ _ h'=>h'.elim)));cases r with
 | none=>exact n2_ h1
 | some v =>
   refine n0_ (n38_ h1 (fun _ s2 h2=>n0_ (n38_ h2 (fun _ s3 h3=>n0_ (n2_ ?_)) fun _ _ h'=>h'.elim)) fun _ _ h'=>h'.elim);simp only [if_true];exact n0_ (n0_ (n38_ h3 (fun x s4 h4=>n0_ (wpAny_standAt (n0_ (n38_ h4 (fun _ s5 h5=>n2_ (n2_ ⟨rfl,h5⟩)) fun _ _ h'=>h'.elim)))) fun _ _ h'=>h'.elim))
theorem Zli {it acc:Value} {s4:Shared} (h0:codeAny ?p A (.compLoop (sc1 elt tg iter scope pos) 0 it acc env) R s4)
 (h:∀ E,wpAny ?p A (pyIter it) (fun it' s'=>codeAny ?p A (.compLoop (sc1 elt tg iter scope pos) 0 it' acc env) R s') E s4):codeAny ?p A (.compStart (sc1 elt tg iter scope pos) 0 it acc env) R s4:=by
 refine codeAny_of_tree ?_;show wpAny _ _ ((compStart (sc1 elt tg iter scope pos) 0 it acc env).onRaise (fun x=>do noteFrame x env;standAt theWindowsPlace)) _ _ s4
 refine wpAny_notedAt ?_;unfold compStart;show wpAny _ _ (ask >>= _) _ _ s4
 refine n0_ (wpAny_askSetting (wpAny_ite ?_));split
 · first
    | exact n0_ (n2_ (n2_ (And.intro rfl h0)))
    | exact n2_ (And.intro rfl h0)
 · first
    | exact n0_ (wpAny_rule (n0_ (wpAny_standAt (n0_ (n38_ (h NoX) (fun it' s' h'=>n2_ (And.intro rfl h')) fun _ _ x=>x.elim)))))
    | (refine n0_ (wpAny_rule ?_);show wpAny _ _ (standAt _ >>= _) _ _ s4;exact n0_ (wpAny_standAt (n0_ (n38_ (h NoX) (fun it' s' h'=>n2_ (And.intro rfl h')) fun _ _ x=>x.elim))))
def SuGo (bt:Bool) (J:It) (g:TG) (te:TE) (σ0:St) (H1:Hp) (D:Addr) (Q:VK):Prop:=∃ W:Nat→Nat→St→?o,(∃ m,W 0 m σ0 (upd H1 D (setU bt D []))) ∧
 ∀ i m σ2 H2,W i m σ2 H2→(J.stop i H2∧Q (.ref D) H2)∨(J.go i H2∧∀ x H3,J.yld i H2 x H3→g x σ2 H3 fun σ4 H5=>te σ4 H5 fun y H6=>∃ kl a k,H6 D=some (setU bt D kl)∧y=.ref a∧tpl H6 (a,k)∧(∀ x∈kl,tpl H6 x)∧kl.length<60 ∧
   ∃ m',m'<m∧W (i+1) m' σ4 (upd H6 D (setU bt D (addU kl (a,k)))))
def tSU (bt:Bool) (wi:TI) (g:TG) (te:TE) (fr:List (Option Nat)):TE:=fun σ H Q=>wi σ H fun J H1=>∀ D,H1 D=none→SuGo bt J g te (Xz fr σ) H1 D Q
theorem Zvh
 (hr:Room j X.A) (hc:X.calm=true) (L:LcO X scope cl N fr) (hi:PI X tg iter wi) (hg:∀ C s3 H3 fp,PG ?B tg g) (he:∀ C s3 H3 fp,PE ?B elt te)
 (hs:∀ x,foldedSetIterable iter X.env x=pure x:=by intro _;rfl):PE X (sc1 elt tg iter scope pos) (tSU (Xb X.w) wi g te fr):=by
 intro pins s σ H Q I h;rw [arm_eval_SetComp];dsimp only;refine wpAny_comprehension_free (use:=none) rfl hs L.clos L.kind L.names (thn (hi pins s σ H _ I h) fun v s1 h1=>thn h1 fun itv s2 h2=>?_);obtain ⟨it,fp,tn,J,H2,e,I2,T,st2,f2,h⟩:=h2;subst e;obtain ⟨W,⟨m0,w0⟩,turn⟩:=h s2.z (I2.hok.fresh (n11_ _));refine Zr6 fun o0 setOf=>?_;refine Zbu (ac:=setU (Xb X.w) s2.z []) rfl hc L hg I2 T st2 f2 (Zfy setOf) w0 turn (fun _ _ a b=>Zli a b) (fun LI s4 t n h=>Zms LI t n h) (fun H7 s7 qn _ _ c=>Zfh qn c) fun LI n i σ9 H9 s9 ps I9 q9 again=>?_;refine thn (he _ _ _ _ ps s9 σ9 H9 _ I9 q9) fun yu s10 zq=>?_;obtain ⟨y,H10,I10,r10,kl,a,k,hD,ey,hk,hkl,hl,m',hm,w11⟩:=zq;subst ey;cases (show yu=Value.ref a from r10)
 have hset:SetU (Xb X.w) s10.heap s2.z kl:=Zi3 (I10.hok _ _ hD);refine Zp1 (by have:=hr.un;show X.A.units+8<cLine;omega) hset (fun x hx=>by have:=Zf3 I10 (hkl x hx);exact this) (by have:=Zf3 I10 hk;exact this) hl fun h18 tk sb18 hset'=>?_;have I11:=I10.write (t':=tk) (e:=s2.z) (by rw [hD];trivial) (.inl rfl) (fun b o hb e=>(sb18.2 b hb).trans e) (by obtain ⟨o,_,_,_,e,_⟩:=hset';exact ⟨o,e⟩) (Zfy hset');exact again I11 hm w11
end L2
namespace L2
open PySem PySem.Spec PyProof.Rows PySem.W
theorem Ze9:∀ (a b:?e),a≠b→HT.lexLt b a = !HT.lexLt a b
 | [],[],h=>absurd rfl h
 | [],_ :: _,_=>rfl
 | _ :: _,[],_=>rfl
 | x :: a,y :: b,hn=>by
   rw [HT.lexLt_cons,HT.lexLt_cons]
   by_cases e:x=y
   · subst e;rw [if_pos rfl,if_pos rfl];exact Ze9 a b (fun z=>hn (by rw [z]))
   · rw [if_neg e,if_neg (Ne.symm e)]
     by_cases h:x<y
     · rw [n32_ h,n36_ (?d)];rfl
     · rw [n36_ h,n32_ (?d)];rfl
theorem Za1:∀ (a b c:?e),HT.lexLt a b=true→HT.lexLt b c=true→HT.lexLt a c=true
 | [],_,[],_,h=>by
   rename_i b _
   cases b<;>cases h
 | [],_,_ :: _,_,_=>rfl
 | _ :: _,[],_,h,_=>by cases h
 | _ :: _,_ :: _,[],_,h=>by cases h
 | x :: a,y :: b,z :: c,h3,h4=>by
   rw [HT.lexLt_cons] at h3 h4 ⊢
   by_cases e1:x=y
   · subst e1;rw [if_pos rfl] at h3
     by_cases e2:x=z
     · subst e2;rw [if_pos rfl] at h4 ⊢;exact Za1 a b c h3 h4
     · rw [if_neg e2] at h4 ⊢;exact h4
   · rw [if_neg e1] at h3;have l1:x<y:=n52_ h3
     by_cases e2:y=z
     · subst e2;rw [if_neg e1];exact h3
     · rw [if_neg e2] at h4;have l2:y<z:=n52_ h4;rw [if_neg (?d)];exact n32_ (?d)
variable {α β:Type} {S:Addr} {X:Cx} {H:Hp} {al:List (Addr×?e)} {pins:?y} {ns:?e} {s:Shared} {σ:St}
theorem Zdp {f:α→β} {l m:List β} (p:l.Perm m):∀ (al:List α),m=al.map f→∃ bl:List α,l=bl.map f∧bl.Perm al:=by
 induction p with
 | nil=>intro al e;cases al with|nil=>exact ⟨[],rfl,.nil⟩|cons _ _=>cases e
 | cons x _ ih =>
   intro al e;cases al with
   | nil=>cases e
   | cons y al =>
     obtain ⟨bl,b1,b2⟩:=ih al (List.cons.inj e).2;exact ⟨y :: bl,by rw [n31_,← b1,← (List.cons.inj e).1],b2.cons y⟩
 | swap x y l =>
   intro al e;cases al with
   | nil=>cases e
   | cons u al =>
     cases al with
     | nil=>cases e
     | cons v al =>
       obtain ⟨e1,e2⟩:=List.cons.inj e;obtain ⟨e2,e3⟩:=List.cons.inj e2;exact ⟨v :: u :: al,by rw [e1,e2,e3];rfl,.swap ..⟩
 | trans _ _ ih1 ih2 =>
   intro al e;obtain ⟨bl,b1,b2⟩:=ih2 al e;obtain ⟨cl,c1,c2⟩:=ih1 bl b1;exact ⟨cl,c1,c2.trans b2⟩
abbrev lexA (al:List (Addr×?e)) (i j:Nat):Bool:=HT.lexLt (al.getD i (0,[])).2 (al.getD j (0,[])).2
theorem Zpj (nd:(al.map (·.2)).Nodup):Ord al.length (lexA al):=by
 have e:∀ i (h:i<al.length),al.getD i (0,[])=al[i]:=fun i h=>by simp [n4_,h]
 refine ⟨fun i _=>Zad _,fun i j hi hj ne=>?_,fun i j k hi hj hk h1 h2=>Za1 _ _ _ h1 h2⟩;show HT.lexLt _ _ = !HT.lexLt _ _
 refine Ze9 _ _ fun z=>ne ?_;rw [e i hi,e j hj] at z;exact (n60_ (h₀:=by simpa using hi) (h₁:=by simpa using hj) nd).mp (by simpa using z)
section
variable {P:Program} {w:World} {A:Around} {E:Value→?i} {s:Shared} {S:Addr}
theorem Zl9 {b c:Bool} {Q:Bool→?i}:∀ {ms:?e} {us ws:?q} (i:Nat),IntsAre us ns→IntsAre ws ms→c=decide (ns.length<ms.length)→Q (HT.lexLt ns ms) s→KatLex P w A b c Q (us.zip ws) i s:=by
 induction ns with
 | nil =>
   intro ms us ws i hu hw hl h;cases hu
   refine kat_nil ?_;rw [hl];cases hw<;>exact h
 | cons x ns ih =>
   intro ms us ws i hu hw hl h;cases hu with
   | cons _ t hu =>
     cases hw with
     | nil=>refine kat_nil ?_;rw [hl];exact h
     | cons y u hw =>
       refine kat_cons (wpAny_eqBool_int ?_);rw [HT.lexLt_cons] at h
       by_cases e:x=y
       · subst e;rw [if_pos rfl] at h;rw [beq_self_eq_true];exact kat_yes (ih (i+1) hu hw (by rw [hl];simp) h)
       · rw [if_neg e] at h;rw [show (x == y)=false by simpa using e];exact kat_no (Zu4 h)
abbrev refs (al:List (Addr×?e)):List V:=al.map fun x=>V.ref x.1
abbrev Zl3 (al:List (Addr×?e)):Prop:=al.Pairwise fun x y=>HT.lexLt x.2 y.2=true
theorem Zgq:∀ (al:List (Addr×?e)),Vals (refs al) (al.map fun x=>Value.ref x.1)
 | []=>.nil
 | x :: al=>.cons rfl (Zgq al)
end
theorem Zdv {Q:VK} (I:?k)
 (coll:∀ Q:?q→?i,(∀ h' tk,(∀ b o,s.heap.get? b=some o→h'.get? b=some o)→s.z≤h'.objs.size→Q (al.map fun x=>Value.ref x.1) { s with heap:=h',toks:=tk })→wpAny ?t X.A.in1 (collect (.ref S)) Q (fun _ _=>False) s)
 (ht:∀ x∈al,tpl H x) (nd:(al.map (·.2)).Nodup) (hp:∀ x∈al,0<x.2.length) (h64:al.length<64)
 (q:∀ (l:Addr) (ql:List (Addr×?e)),H l=none→ql.Perm al→Zl3 ql→Q (.ref l) (upd H l (.lst (refs ql)))) :
 wpAny ?t X.A (call (.builtin "sorted") [.ref S]) (EP X pins σ Q) X.xe s:=by
 have o:=Zpj nd;have en:(al.map fun x=>Value.ref x.1).length=al.length:=by simp
 refine Zic (vs:=al.map fun x=>Value.ref x.1) (fun q=>q.Perm (List.range al.length)∧(q.map fun i=>al.getD i (0,[])).Pairwise (fun x y=>HT.lexLt x.2 y.2=true)) (fun h2=>?_) (by rw [en];exact h64) coll (fun h2 h1 tk k1=>?_) fun p' L h' tk e gp le keep he=>?_
 · rw [en] at h2 ⊢;refine ⟨.refl _,?_⟩
   have:al.length=0∨al.length=1:=?d
   rcases this with e|e<;>rw [e]
   · exact .nil
   · exact .cons ?g .nil
 · have tup:∀ x∈al,∃ ob jt n,h1.get? x.1=some ob∧ob.cls=.type "tuple" ∧ ob.data=.seq jt n∧IntsAre jt.toList x.2:=fun x hx=>by
    obtain ⟨jt,rj,⟨ob,g,c,n,d⟩,_⟩:=I.tuple (SqT.of (ht x hx));exact ⟨ob,jt.toArray,n,k1 _ _ g,c,d,by simpa using X6 rj⟩
   have prd:∀ (l:List (Addr×?e)),(∀ x∈l,x∈al)→Paired (fun v k=>∃ b o its n,v=Value.ref b∧h1.get? b=some o∧o.cls=.type "tuple" ∧ o.data=.seq its n∧IntsAre its.toList k∧0<k.length) (l.map fun x=>Value.ref x.1) (l.map (·.2)):=by
    intro l
    induction l with
    | nil=>intro _;exact .nil
    | cons x l ih =>
      intro hl;obtain ⟨ob,jt,n,a1,a2,a3,a4⟩:=tup x (hl x ?g);exact .cons ⟨x.1,ob,jt,n,rfl,a1,a2,a3,a4,hp x (hl x ?g)⟩ (ih fun y hy=>hl y (n16_ _ hy))
   obtain ⟨fs,f1,f2,f3⟩:=Zik (prd al fun _ h=>h);refine kat_kind (T:=.type "int") f1 (?d) (fun v hv=>?_) rfl ⟨rfl,?_⟩
   · obtain ⟨x,t,rfl⟩:=f3 v hv;exact Looks.of_pure rfl
   · rw [en] at h2 ⊢;obtain ⟨r1,r2,r3⟩:=Zia o (?d);refine Zji (n:=al.length) (f:=lexA al) (fun i j C hi hj hC=>?_) _ r1 ⟨rfl,r2,n50_.mpr r3⟩;have ev:∀ i (h:i<al.length),(al.map fun x=>Value.ref x.1).getD i Value.none=Value.ref al[i].1:=fun i h=>by simp [n4_,h]
     have ea:∀ i (h:i<al.length),al.getD i (0,[])=al[i]:=fun i h=>by simp [n4_,h]
     obtain ⟨ob,jt,n,a1,a2,a3,a4⟩:=tup al[i] (n51_ hi);obtain ⟨ob',jt',n',b1,b2,b3,b4⟩:=tup al[j] (n51_ hj);unfold kas_ask;rw [ev i hi,ev j hj];refine kat_lt a1 a3 b1 b3 ?_;have l1:=IntsAre.length a4;have l2:=IntsAre.length b4;rw [Array.length_toList] at l1 l2;refine Zl9 0 a4 b4 (by rw [l1,l2]) ?_;simp only [lexA] at hC;rw [ea i hi,ea j hj] at hC;exact hC
 · have fr:H L=none:=I.hok.fresh le;have lt:∀ i∈p',i<al.length:=fun i hi=>n35_.mp (gp.1.mem_iff.mp hi)
   have ep:(p'.map fun i=>al.getD i (0,[])).Perm al:=by
    refine (gp.1.map _).trans (.of_eq ?_);refine n57_ ?g fun i a1 a2=>?_;simp [n4_,a2]
   have ev:(p'.map fun i=>(al.map fun x=>Value.ref x.1).getD i Value.none)=(p'.map fun i=>al.getD i (0,[])).map fun x=>Value.ref x.1:=by
    rw [n64_];refine n78_ fun i hi=>?_
    have:=lt i hi
    simp [n4_,this]
   rw [ev] at he;refine ⟨.ref L,_,I.laid (o:=.lst (refs (p'.map fun i=>al.getD i (0,[])))) (t':=tk) keep le ⟨?_,_,e,Zgq _,he⟩,rfl,q L _ fr ep gp.2⟩;rw [n5_,ep.length_eq,sizeLine_eq];omega
section
variable {X:Cx}
theorem Zgx:Yv X (.builtin "sorted") (fun xs H Q=>∃ (p:Addr) (al:List (Addr×?e)),xs=[.ref p]∧SqL X.K H p (refs al)∧(∀ x∈al,tpl H x)∧(al.map (·.2)).Nodup∧(∀ x∈al,0<x.2.length)∧al.length<64 ∧
 ∀ (l:Addr) (ql:List (Addr×?e)),H l=none→ql.Perm al→Zl3 ql→Q (.ref l) (upd H l (.lst (refs ql)))):=by
 intro pins s σ H xs us Q I r h;obtain ⟨p,al,rfl,hq,ht,nd,hp,h64,q⟩:=h;cases r with
 | cons rx r =>
   cases r
   cases (show _=Value.ref p from rx)
   obtain ⟨its,rv,pl,hz⟩:=I.list hq
   have eits:its=al.map fun x=>Value.ref x.1:=by
    clear pl hz ht hq q nd hp h64;generalize hv:refs al=vs at rv
    induction rv generalizing al with
    | nil=>cases al with|nil=>rfl|cons x al=>cases hv
    | cons r1 _ ih =>
      cases al with
      | nil=>cases hv
      | cons x al =>
        have hv1:=(List.cons.inj hv).1;have hv2:=(List.cons.inj hv).2;subst hv1;cases (show _=Value.ref x.1 from r1)
        rw [ih al hv2];rfl
   subst eits;refine Zdv I (fun Q' hQ=>collect_list pl.isList (hQ _ _ (fun b o e=>?_) ?_) (by rw [n5_,sizeLine_eq];omega)) ht nd hp h64 q
   · rw [Heap.get?_update_ne _ _ _ _ (n27_ (n13_ e))];exact n3_ _ e
   · rw [Heap.size_update,n43_];exact Nat.le_succ _
theorem Zco (hc:X.calm=true):Yv X (.builtin "sorted") (fun xs H Q=>∃ (p:Addr) (al:List (Addr×?e)),xs=[.ref p]∧H p=some (setU (Xb X.w) p al)∧(∀ x∈al,tpl H x)∧(∀ x∈al,0<x.2.length)∧al.length<64 ∧
 ∀ (l:Addr) (ql:List (Addr×?e)),H l=none→ql.Perm al→Zl3 ql→Q (.ref l) (upd H l (.lst (refs ql)))):=by
 intro pins s σ H xs us Q I r h;obtain ⟨p,al,rfl,hq,ht,hp,h64,q⟩:=h;cases r with
 | cons rx r =>
   cases r
   cases (show _=Value.ref p from rx)
   obtain ⟨o,es,ep,t,g,ex,d,U⟩:=Zi3 (I.hok p _ hq);have sa:SetAt X.w s.heap p es ep t:=⟨⟨o,g,ex,d⟩,U.tw⟩;have pw:=(Zgt X.w p ep es).trans (U.pm.map (·.2));rw [n64_] at pw;obtain ⟨bl,eb,pb⟩:∃ bl:List (Addr×?e),Zaz X.w p ep es=bl.map (fun x=>Value.ref x.1)∧bl.Perm al:=Zdp pw al rfl;refine Zdv (al:=bl) I (fun Q' hQ=>?_) (fun x hx=>ht x (pb.mem_iff.mp hx)) ((pb.map (·.2)).nodup_iff.mpr U.nd) (fun x hx=>hp x (pb.mem_iff.mp hx)) (by rw [pb.length_eq];exact h64) fun l ql e1 e2 e3=>q l ql e1 (e2.trans pb) e3;have wl:(Zaz X.w p ep es).length=es.size:=Zks;refine Zbh (vs:=bl.map fun x=>Value.ref x.1) (it0:={ cls:=.type "set_iterator",data:=.fields #[.int (0:Nat) 0,.int (0:Nat) 0,.ref p,.int es.size 0,.int ep 0] }) (St:=fun I i h=>IsSetIter h I p es.size ep (Xn X.w t i) i∧SetAt X.w h p es ep t) (by simp [I.ok.hd hc]) (.inl rfl) sa.typeIs (by rw [n5_,pb.length_eq,sizeLine_eq];omega) (fun A s1 Q E k1 hQ=>Zpt (sa.stay k1) hQ) rfl (fun A I' hh hne=>?_) (fun h I' e k=>⟨⟨_,e,rfl,rfl⟩,sa.stay k⟩) hQ;have W:=Zo0 (P:=X.prog) (w:=X.w) (ep:=ep) (es:=es) (t:=t) hh I' hne;rw [← wl,eb] at W;have e2:es.size=(bl.map fun x=>Value.ref x.1).length:=by rw [← wl,eb]
   rw [e2];exact W
theorem Zwy:∀ {kvs:List (List Key×V)} {xs:List (List Key×Addr×Value)},Paired (fun (p:List Key×V) (q:List Key×Addr×Value)=>p.1=q.1∧H q.2.1=some (.tup (p.1.map kV))∧RelV p.2 q.2.2) kvs xs→∀ (kl:List (?e)),kvs.map (·.1)=kl.map (·.map Sum.inl) →
 ∃ al:List (Addr×?e),al.map (·.2)=kl∧xs.map (fun q=>Value.ref q.2.1)=al.map (fun x=>Value.ref x.1)∧∀ x∈al,tpl H x:=by
 intro kvs xs r
 induction r with
 | nil=>intro kl e;cases kl with|nil=>exact ⟨[],rfl,rfl,fun x hx=>by cases hx⟩|cons k kl=>cases e
 | cons r1 _ ih =>
   intro kl e;cases kl with
   | nil=>cases e
   | cons k kl =>
     rename_i p q l1 l2 _
     have e1:p.1=k.map Sum.inl:=(List.cons.inj e).1;obtain ⟨al,a1,a2,a3⟩:=ih kl (List.cons.inj e).2;refine ⟨(q.2.1,k) :: al,by rw [n31_,a1],by rw [n31_,n31_,a2],fun x hx=>?_⟩
     rcases n9_.mp hx with rfl|hx
     · show H q.2.1=_
       rw [r1.2.1,e1,n64_];rfl
     · exact a3 x hx
theorem Zh6 (hc:X.calm=true):Yv X (.builtin "sorted") (fun xs H Q=>∃ (p:Addr) (kvs:List (List Key×V)) (kl:List (?e)),xs=[.ref p]∧H p=some (.dT kvs)∧kvs.map (·.1)=kl.map (·.map Sum.inl)∧kl.Nodup∧(∀ k∈kl,0<k.length)∧kl.length<64 ∧
 ∀ (l:Addr) (ql:List (Addr×?e)),H l=none→(∀ x∈ql,tpl H x)→(ql.map (·.2)).Perm kl→Zl3 ql→Q (.ref l) (upd H l (.lst (refs ql)))):=by
 intro pins s σ H xs us Q I r h;obtain ⟨p,kvs,kl,rfl,hq,hk,nd,hp,h64,q⟩:=h;cases r with
 | cons rx r =>
   cases r
   cases (show _=Value.ref p from rx)
   obtain ⟨t1,_,nm⟩:=Zjw I (.inr ⟨kvs,.inl hq⟩);obtain ⟨z,_,xs,rel,o,es,ep,g,_,d,ees,_⟩:=(show ObjOk X.prog X.w H s.heap p (.dT kvs) from I.hok p _ hq);obtain ⟨al,a1,a2,a3⟩:=Zwy rel kl hk;have ent:EntAt s.heap p es ep:=⟨o,g,d⟩;have ek:es.toList.map (·.key)=al.map (fun x=>Value.ref x.1):=by rw [ees,n64_,← a2];rfl
   subst a1;have la:al.length<64:=by simpa using h64
   refine Zdv (al:=al) I (fun Q' hQ=>?_) a3 nd (fun x hx=>hp _ (n47_ hx)) la fun l ql e1 e2 e3=>q l ql e1 (fun x hx=>a3 x (e2.mem_iff.mp hx)) (e2.map _) e3;refine Zbh (vs:=al.map fun x=>Value.ref x.1) (it0:={ cls:=.type "dict_keyiterator",data:=.fields #[.ref p,.int 0 0,.int es.size 0,.int ep 0] }) (St:=fun I i h=>h.IsKeyIter I p i es.size ep∧EntAt h p es ep) (by simp [I.ok.hd hc]) (.inr rfl) t1 (by rw [n5_,sizeLine_eq];omega) (fun A s1 Q E k1 hQ=>Zkz (let ⟨o,a,b⟩:=t1;⟨o,k1 _ a,b⟩) nm (ent.at k1) hQ) rfl (fun A I' hh hne=>?_) (fun h I' e k=>⟨⟨_,e,rfl,rfl⟩,ent.at k⟩) hQ;have W:=Zed (P:=X.prog) (w:=X.w) (es:=es) (ep:=ep) A I' hh hne;rw [ek] at W;exact W
end
end L2
namespace L2
open PySem
variable {α:Type} {al:List (Addr×?e)} {ps:List (?e)} {p:?e} {i j k n:Nat}
theorem Zpm {R:α→α→Prop} (irr:∀ a,¬ R a a) (tr:∀ a b c,R a b→R b c→R a c):∀ {xs ys:List α},xs.Pairwise R→ys.Pairwise R→(∀ k,k∈xs↔k∈ys)→xs=ys
 | [],[],_,_,_=>rfl
 | [],y :: ys,_,_,h=>absurd ((h y).mpr n19_) ?g
 | x :: xs,[],_,_,h=>absurd ((h x).mp n19_) ?g
 | x :: xs,y :: ys,a,b,h=>by
   obtain ⟨a1,a2⟩:=List.pairwise_cons.mp a;obtain ⟨b1,b2⟩:=List.pairwise_cons.mp b
   have e:x=y:=by
    rcases n9_.mp ((h x).mp n19_) with e|h1
    · exact e
    rcases n9_.mp ((h y).mpr n19_) with e|h2
    · exact e.symm
    exact absurd (tr _ _ _ (b1 x h1) (a1 y h2)) (irr _)
   subst e;refine congrArg (x :: ·) (Zpm irr tr a2 b2 fun k=>⟨fun hk=>?_,fun hk=>?_⟩)
   · rcases n9_.mp ((h k).mp (n16_ _ hk)) with e|h1
     · subst e;exact absurd (a1 _ hk) (irr _)
     · exact h1
   · rcases n9_.mp ((h k).mpr (n16_ _ hk)) with e|h1
     · subst e;exact absurd (b1 _ hk) (irr _)
     · exact h1
theorem Zep [DecidableEq α]:∀ {xs ys:List α},xs.Nodup→(∀ x∈xs,x∈ys)→xs.length≤ys.length
 | [],_,_,_=>n42_ _
 | x :: xs,ys,nd,h=>by
   obtain ⟨n1,n2⟩:=n71_.mp nd;have h1:=h x n19_
   have:=Zep (ys:=ys.erase x) n2 fun y hy=>(List.mem_erase_of_ne (fun e=>n1 (by rw [← e];exact hy))).mpr (h y (n16_ _ hy))
   rw [List.length_erase_of_mem h1] at this
   have:0<ys.length:=List.length_pos_of_mem h1
   rw [n18_];omega
abbrev Zb5 (ks:List (?e)):Prop:=ks.Pairwise fun x y=>HT.lexLt x y=true
theorem Zba (h:Zl3 al):Zb5 (al.map (·.2)):=n50_.mpr h
theorem Zgn {xs ys:List (?e)} (a:Zb5 xs) (b:Zb5 ys) (h:∀ k,k∈xs↔k∈ys):xs=ys :=
 Zpm (fun a h=>by rw [Zad] at h;cases h) (fun a b c=>Za1 a b c) a b h
theorem Zbg {xs ys:?e} (a:xs.Pairwise (·<·)) (b:ys.Pairwise (·<·)) (h:∀ k,k∈xs↔k∈ys):xs=ys :=
 Zpm (fun a h=>?d) (fun a b c h1 h2=>?d) a b h
theorem Zdu {xs:?e} (a:xs.Pairwise (·≤·)) (n:xs.Nodup):xs.Pairwise (·<·):=by
 refine (a.and n).imp fun {x y} h=>?_
 have:x≠y:=h.2
 omega
def Zn (p:?e):List (?e):=[[p.getD 0 0,p.getD 1 0],[p.getD 0 0,p.getD 2 0],[p.getD 1 0,p.getD 2 0]]
def Zs (ps:List (?e)):List (?e):=ps.flatMap Zn
theorem Zfc (ps:List (?e)) (p:?e):Zs (ps++[p])=Zs ps++Zn p:=by simp [Zs]
theorem Za2 (ps:List (?e)):(Zs ps).length=3*ps.length:=by
 induction ps with
 | nil=>rfl
 | cons p ps ih=>rw [Zs,List.flatMap_cons,n21_,← Zs,ih,n18_];simp [Zn];omega
theorem Zlf {s:?e} (h:s∈Zn p):s.length=2:=by
 simp only [Zn,n9_,n10_,or_false] at h
 rcases h with rfl|rfl|rfl<;>rfl
theorem Zcr {s:?e} (h:s∈Zs ps):s.length=2:=by
 obtain ⟨p,_,h⟩:=n55_.mp h;exact Zlf h
def Zat (ps:List (?e)) (n:Nat):List (?e×Int):=(List.range n).flatMap fun i=>(Zn (ps.getD i [])).map fun s=>(s,(i:Int))
theorem Zeq (ps:List (?e)) (n:Nat):Zat ps (n+1)=Zat ps n++(Zn (ps.getD n [])).map fun s=>(s,(n:Int)):=by
 unfold Zat;rw [List.range_succ,List.flatMap_append];simp
theorem Zgm (ps:List (?e)):(Zat ps ps.length).map (·.1)=Zs ps:=by
 unfold Zat Zs;rw [List.map_flatMap]
 have e:ps=(List.range ps.length).map fun i=>ps.getD i []:=by
  refine n57_ ?g fun i h1 h2=>?_;simp [n4_,h1]
 conv=>rhs;rw [e,List.flatMap_map]
 congr 1
theorem Zh4 {s:?e} {x:Int}:(s,x)∈Zat ps n↔∃ m:Nat,x=m∧m<n∧s∈Zn (ps.getD m []):=by
 unfold Zat;rw [n55_];constructor
 · rintro ⟨i,hi,h⟩
   obtain ⟨t,ht,e⟩:=n24_.mp h;cases e
   exact ⟨i,rfl,n35_.mp hi,ht⟩
 · rintro ⟨m,rfl,hm,h⟩
   exact ⟨m,n35_.mpr hm,n24_.mpr ⟨s,h,rfl⟩⟩
def ins (g:List (?e×?e)) (s:?e) (n:Int):List (?e×?e) :=
 if s∈g.map (·.1) then g.map (fun e=>if e.1=s then (e.1,e.2++[n]) else e) else g++[(s,[n])]
structure GI (g:List (?e×?e)) (qs:List (?e×Int)):Prop where
 nd:(g.map (·.1)).Nodup
 ks:∀ s,s∈g.map (·.1)↔s∈qs.map (·.1)
 vs:∀ e∈g,e.2=(qs.filter fun q=>decide (q.1=e.1)).map (·.2)
theorem GI.nil:GI [] []:=⟨by simp,by simp,by simp⟩
theorem GI.len {g:List (?e×?e)} {qs:List (?e×Int)} (h:GI g qs):g.length≤qs.length:=by
 have:=Zep h.nd fun s hs=>(h.ks s).mp hs
 simpa using this
theorem Zjo {g:List (?e×?e)} {s:?e} {n:Int}:(ins g s n).map (·.1)=if s∈g.map (·.1) then g.map (·.1) else g.map (·.1)++[s]:=by
 unfold ins;split
 · rw [n64_];refine n78_ fun e he=>?_;simp only [Function.comp];split<;>rfl
 · rw [n46_];rfl
theorem GI.ins {g:List (?e×?e)} {qs:List (?e×Int)} (h:GI g qs) (s:?e) (n:Int):GI (ins g s n) (qs++[(s,n)]):=by
 refine ⟨?_,fun t=>?_,fun e he=>?_⟩
 · rw [Zjo];split
   · exact h.nd
   · rename_i c
     rw [n62_];exact ⟨h.nd,by simp,fun a ha b hb=>by rw [n25_.mp hb];exact fun z=>c (z ▸ ha)⟩
 · rw [Zjo,n46_,n28_,← h.ks t];split
   · rename_i c
     constructor
     · exact .inl
     · rintro (z|z)
       · exact z
       · rw [show t=s by simpa using z];exact c
   · rw [n28_];rfl
 · rw [List.filter_append,n46_];unfold L2.ins at he;split at he
   · obtain ⟨e0,h0,rfl⟩:=n24_.mp he
     have:=h.vs e0 h0
     split
     · rename_i c
       simp [this,c]
     · rename_i c
       have c':¬ s=e0.1:=fun z=>c z.symm;simp [← this,c']
   · rename_i c
     rcases n28_.mp he with h0|h0
     · have:=h.vs e h0
       have ne:s≠e.1:=fun z=>c (z ▸ n47_ h0);simp [← this,ne]
     · rw [n25_.mp h0]
       have:(qs.filter fun q=>decide (q.1=s))=[]:=by
        rw [List.filter_eq_nil_iff];intro q hq z;exact c ((h.ks s).mpr (n24_.mpr ⟨q,hq,n52_ z⟩))
       simp [this]
theorem GI.mem {g:List (?e×?e)} (h:GI g (Zat ps n)) {e:?e×?e} (he:e∈g) {x:Int}:x∈e.2↔∃ m:Nat,x=m∧m<n∧e.1∈Zn (ps.getD m []):=by
 rw [h.vs e he,n24_,← Zh4];constructor
 · rintro ⟨q,hq,rfl⟩
   obtain ⟨h1,h2⟩:=n72_.mp hq;rw [← show q.1=e.1 by simpa using h2];exact h1
 · intro hq;exact ⟨_,n72_.mpr ⟨hq,by simp⟩,rfl⟩
theorem X4 (ps:List (?e)) (n:Nat):(Zat ps n).length=3*n:=by
 induction n with
 | zero=>rfl
 | succ n ih=>rw [Zeq,n21_,ih,n5_];simp [Zn];omega
theorem GI.le {g:List (?e×?e)} {qs:List (?e×Int)} (h:GI g qs) {e:?e×?e} (he:e∈g):e.2.length≤qs.length:=by
 rw [h.vs e he,n5_];exact List.length_filter_le ..
def Adj (ps:List (?e)) (i j:Nat):Prop:=∃ s,s∈Zn (ps.getD i [])∧s∈Zn (ps.getD j [])
theorem Adj.symm (h:Adj ps i j):Adj ps j i:=let ⟨s,a,b⟩:=h;⟨s,b,a⟩
theorem Adj.self:Adj ps i i:=⟨_,n19_,n19_⟩
def Conn (A:Nat→Nat→Prop) (k i j:Nat):Prop:=∀ p:Nat→Prop,(∀ a b,a<k→b<k→A a b→p a→p b)→p i→p j
theorem Conn.refl {A:Nat→Nat→Prop}:Conn A k i i:=fun _ _ h=>h
theorem Conn.trans {A:Nat→Nat→Prop} {l:Nat} (a:Conn A k i j) (b:Conn A k j l):Conn A k i l:=fun p h q=>b p h (a p h q)
theorem Conn.one {A:Nat→Nat→Prop} (hi:i<k) (hj:j<k) (a:A i j):Conn A k i j:=fun p h q=>h i j hi hj a q
structure PartOk (A:Nat→Nat→Prop) (n i:Nat) (l:?e):Prop where
 rise:l.Pairwise (·<·)
 mem:∀ x:Int,x∈l↔∃ m:Nat,x=m∧m<n∧Conn A n i m
theorem PartOk.eq {A:Nat→Nat→Prop} {l l':?e} (a:PartOk A n i l) (b:PartOk A n i l'):l=l':=Zbg a.rise b.rise fun x=>(a.mem x).trans (b.mem x).symm
structure PartsOk (A:Nat→Nat→Prop) (n:Nat) (ks:List (?e)):Prop where
 rise:Zb5 ks
 mem:∀ l,l∈ks↔∃ i,i<n∧PartOk A n i l
theorem Zoa {A:Nat→Nat→Prop} {ks l:?e} (hi:i<n) (nd:ks.Nodup) (st:(i:Int)∈ks) (co:∀ x∈ks,∃ m:Nat,x=m∧m<n∧Conn A n i m) (cl:∀ a b:Nat,(a:Int)∈ks→b<n→A a b→(b:Int)∈ks)
 (pm:l.Perm ks) (so:l.Pairwise (·≤·)):PartOk A n i l:=by
 refine ⟨Zdu so (pm.nodup_iff.mpr nd),fun x=>?_⟩;rw [pm.mem_iff];refine ⟨co x,?_⟩;rintro ⟨m,rfl,hm,c⟩
 exact c (fun j=>(j:Int)∈ks) (fun a b _ hb ab ha=>cl a b ha hb ab) st
theorem Zrs {ks:?e} (nd:ks.Nodup) (h:∀ x∈ks,∃ m:Nat,x=m∧m<n):ks.length≤n:=by
 have:=Zep (ys:=(List.range n).map fun (i:Nat)=>(i:Int)) nd fun x hx=>by
  obtain ⟨m,rfl,hm⟩:=h x hx;exact n24_.mpr ⟨m,n35_.mpr hm,rfl⟩
 simpa using this
end L2
namespace L2
open PySem PySem.Spec PyProof.Rows PySem.W
section
variable {P:Program} {w:World} {A:Around} {R:Result→?i} {I:Addr} {fp wr:List Addr} {n:Nat} {Pv:Nat→Value→Prop} {St:Nat→Heap→Prop}
end
section
variable {P:Program} {w:World} {A:Around} {E:Value→?i} {s:Shared}
end
section
variable {X:Cx}
theorem Zlx {es:List DictEntry} {vs:List (Key×Value)} (h:PySem.Pairs (Yi X.prog X.w) es vs):∀ (ns:?e),vs.map (·.1)=ns.map Sum.inl→IntsAre (es.map (·.key)) ns:=by
 induction h with
 | nil=>intro ns e;cases ns with|nil=>exact .nil|cons _ _=>cases e
 | cons h1 _ _ ih =>
   intro ns e;cases ns with
   | nil=>cases e
   | cons k ns =>
     have e1:=(List.cons.inj e).1;dsimp only at e1;rw [e1] at h1
     rcases Yg (show Zi6 (Sum.inl k) _=true from h1) with ⟨i,t,ek,ev⟩|⟨x,t,ek,_⟩
     · cases ek
       rw [n31_,ev];exact .cons _ t (ih ns (List.cons.inj e).2)
     · cases ek
theorem Zhr (hc:X.calm=true):Yv X (.builtin "sorted") (fun xs H Q=>∃ (p:Addr) (kvs:List (Key×V)) (ns:?e),xs=[.ref p]∧H p=some (.dK kvs)∧kvs.map (·.1)=ns.map Sum.inl∧ns.length<64 ∧
 ∀ (l:Addr) (ms:?e),H l=none→ms.Perm ns→ms.Pairwise (·≤·)→Q (.ref l) (upd H l (.lst (ms.map V.int)))):=by
 intro pins s σ H xs us Q I r h;obtain ⟨p,kvs,ns,rfl,hq,hk,h64,q⟩:=h;cases r with
 | cons rx r =>
   cases r
   cases (show _=Value.ref p from rx)
   obtain ⟨t1,_,nm⟩:=Zjw I (.inl ⟨kvs,.inl hq⟩);obtain ⟨z,_,vs,rel,o,es,ep,g,_,d,_,prs,nd⟩:=(show ObjOk X.prog X.w H s.heap p (.dK kvs) from I.hok p _ hq);have ent:EntAt s.heap p es ep:=⟨o,g,d⟩
   have kk:kvs.map (·.1)=vs.map (·.1):=by
    clear prs z hk hq q nd
    induction rel with
    | nil=>rfl
    | cons r1 _ ih=>rw [n31_,n31_,ih,r1.1]
   have ia:=Zlx (X:=X) prs ns (kk.symm.trans hk);have il:(es.toList.map (·.key)).length=ns.length:=Zjn ia;refine Calls.call_function_entry kind_sorted plain_sorted entry_sorted (args_sorted1 _) ?_;unfold Builtin.«sorted»;refine n0_ (m:=checkCount "sorted" 1 1 _) (n2_ ?_);refine n0_ (Zbh (vs:=es.toList.map (·.key)) (it0:={ cls:=.type "dict_keyiterator",data:=.fields #[.ref p,.int 0 0,.int es.size 0,.int ep 0] }) (St:=fun I i h=>h.IsKeyIter I p i es.size ep∧EntAt h p es ep) (by simp [I.ok.hd hc]) (.inr rfl) t1 (by rw [il,sizeLine_eq];omega) (fun A s1 Q E k1 hQ=>Zkz (let ⟨o,a,b⟩:=t1;⟨o,k1 _ a,b⟩) nm (ent.at k1) hQ) rfl (fun A I' hh hne=>Zed A I' hh hne) (fun h I' e k=>⟨⟨_,e,rfl,rfl⟩,ent.at k⟩) fun h' tk keep le=>?_);generalize es.toList.map (·.key)=ws at ia il;refine n0_ (wpAny_newList ?_ (by rw [sizeLine_eq];omega));have hoL:(h'.push (seqObj "list" ws.toArray 0)).get? h'.objs.size=some (seqObj "list" ws.toArray 0):=n8_ _ rfl;refine n0_ (n30_ (wpAny_call_entry (s:={ s with heap:=h'.push (seqObj "list" ws.toArray 0),toks:=tk }) slot_list_sort ⟨_,hoL,rfl⟩ entry_list_sort (list_sort_tree hoL ia (?d) fun out ns' a1 a2 a3=>⟨_,rfl,?_⟩) (args_list_sort _)));obtain ⟨e,he⟩:=sortedHeap_at (out:=out) hoL;refine n2_ ⟨_,rfl,.ref h'.objs.size,_,I.laid (o:=.lst (ns'.map V.int)) (t':=tk) (fun b o eb=>?_) le ⟨by rw [n5_,a2.length_eq,sizeLine_eq];omega,out.toList,e,Zdw a1,by simpa using he⟩,rfl,q _ ns' (I.hok.fresh le) a2 a3⟩;have hk:=keep b o eb;have hlt:=n13_ hk;rw [sortedHeap_old (n27_ hlt) (by rw [n43_];exact n54_ hlt)];exact n3_ _ hk
end
end L2
namespace L2
open PySem PySem.Spec PyProof.Rows PySem.W
variable {D a:Addr} {X:Cx} {H H' H0:Hp} {ads:List Addr} {i:Nat}
theorem Zoe:∀ {us:List V} {ks:List (?e)},Al (IsI H) us ks→∃ al,us=refs al∧(∀ x∈al,tpl H x)∧al.map (·.2)=ks
 | [],[],_=>⟨[],rfl,by simp,rfl⟩
 | [],_ :: _,a=>absurd a.1 ?g
 | _ :: _,[],a=>absurd a.1 ?g
 | v :: us,k :: ks,a=>by
   obtain ⟨al,h1,h2,h3⟩:=Zoe (us:=us) (ks:=ks) ⟨by simpa using a.1,fun i v x e1 e2=>a.2 (i+1) v x e1 e2⟩;obtain ⟨b,e,hb⟩:=a.2 0 v k rfl rfl;exact ⟨(b,k) :: al,by rw [h1,e];rfl,fun y hy=>(n9_.mp hy).elim (fun z=>by rw [z];exact hb) (h2 y),by rw [n31_,h3]⟩
theorem Zg2:Yv X (.builtin "sorted") (fun xs H Q=>∃ (p:Addr) (vs:List V) (kl:List (?e)) (m:Nat),xs=[.ref p]∧SqL X.K H p vs∧vs.length=kl.length∧(∀ (i:Nat) (v:V),vs[i]? = some v→∃ (b:Addr) (k:?e),v=.ref b∧kl[i]? = some k∧H b=some (.tup (k.map V.int)))∧kl.Nodup∧kl.length<64∧(∀ k∈kl,k.length=m)∧0<m ∧
 ∀ (l:Addr) (q:List Nat),H l=none→q.Perm (List.range kl.length)→(q.map fun i=>kl.getD i []).Pairwise (fun a b=>HT.lexLt a b=true)→Q (.ref l) (upd H l (.lst (q.map fun i=>vs.getD i .non)))):=by
 intro pins s σ H xs us Q I r h;obtain ⟨p,vs,kl,m,rfl,hq,hl,hk,nd,h4,hm,m0,q⟩:=h
 obtain ⟨al,rfl,tp,rfl⟩:=Zoe (H:=H) (us:=vs) (ks:=kl) ⟨hl,fun i v x e1 e2=>by
  obtain ⟨b,k,e,ek,hb⟩:=hk i v e1;rw [e2] at ek;cases ek
  exact ⟨b,e,hb⟩⟩
 refine Zgx pins s σ H _ us Q I r ⟨p,al,rfl,hq,tp,nd,fun x hx=>by rw [hm x.2 (n47_ hx)];exact m0,by simpa using h4,fun l ql nl pm rs=>?_⟩
 have er:al=(List.range al.length).map fun i=>al.getD i (0,[]):=by
  refine n57_ ?g fun i h1 h2=>?_;simp [n4_,h1]
 obtain ⟨ix,e1,e2⟩:=Zdp pm (List.range al.length) er;have hi:∀ i∈ix,i<al.length:=fun i hi=>n35_.mp (e2.mem_iff.mp hi)
 have ev:refs ql=ix.map fun i=>(refs al).getD i .non:=by
  rw [e1,refs,n64_];refine n78_ fun i h=>?_;simp [n4_,hi i h]
 rw [ev];refine q l ix nl (by rw [n5_];exact e2) ?_
 have ek:(ix.map fun i=>(al.map (·.2)).getD i [])=ql.map (·.2):=by
  rw [e1,n64_];refine n78_ fun i h=>?_;simp [n4_,hi i h]
 rw [ek];exact Zba rs
def absI (i:Int):Int:=if i<0 then -i else i
def Zht (P:Pl):Int:=(P.ps.map fun p=>absI (dOf P.cs p)).sum
abbrev kvO (g:List (?e×?e)) (ads:List Addr):List (List Key×V):=(g.zip ads).map fun x=>(x.1.1.map Sum.inl,V.ref x.2)
structure OwnA (H0 H:Hp) (D:Addr) (g:List (?e×?e)) (ads:List Addr):Prop where
 dt:H D=some (.dT (kvO g ads))
 len:ads.length=g.length
 nd:ads.Nodup
 nD:D∉ads
 at_:∀ (i:Nat) (a:Addr) (e:?e×?e),ads[i]? = some a→g[i]? = some e→H a=some (.lst (e.2.map V.int))
 fr:∀ a∈ads,H0 a=none
 frD:H0 D=none
theorem Zir {g:List (?e×?e)} (h:ads.length=g.length):(kvO g ads).length=g.length:=by simp [h]
theorem Zpi {g:List (?e×?e)} (h:ads.length=g.length):(kvO g ads).map (·.1)=(g.map (·.1)).map (·.map Sum.inl):=by
 refine n57_ (by simp [h]) fun i h1 h2=>?_
 simp
theorem Zif:∀ {s t:?e},s.map (Sum.inl:Int→Key)=t.map Sum.inl→s=t:=fun {s t} h=>(List.map_inj_right fun a b e=>by cases e;rfl).mp h
theorem valO:∀ {g:List (?e×?e)} {ads:List Addr},ads.length=g.length→∀ (s:?e),(∀ v,valV (kvO g ads) (s.map Sum.inl)=some v→∃ (i:Nat) (a:Addr) (e:?e×?e),ads[i]? = some a∧g[i]? = some e∧e.1=s∧v=.ref a)∧(valV (kvO g ads) (s.map Sum.inl)=none→s∉g.map (·.1))
 | [],[],_,s=>⟨fun v h=>(by cases h),fun _=>by simp⟩
 | e :: g,a :: ads,h,s=>by
   have ih:=valO (g:=g) (ads:=ads) (by simpa using h) s
   have st:valV (kvO (e :: g) (a :: ads)) (s.map Sum.inl)=if e.1=s then some (.ref a) else valV (kvO g ads) (s.map Sum.inl):=by
    unfold valV;rw [show kvO (e :: g) (a :: ads)=(e.1.map Sum.inl,V.ref a) :: kvO g ads from rfl,List.find?_cons]
    by_cases c:e.1=s
    · subst c;simp
    · have:¬ e.1.map (Sum.inl:Int→Key)=s.map Sum.inl:=fun z=>c (Zif z)
      rw [if_neg c,n36_ this]
   rw [st]
   by_cases c:e.1=s
   · rw [if_pos c];exact ⟨fun v hv=>⟨0,a,e,rfl,rfl,c,(Option.some.inj hv).symm⟩,fun z=>by cases z⟩
   · rw [if_neg c];refine ⟨fun v hv=>?_,fun hn=>?_⟩
     · obtain ⟨i,a',e',h1,h2,h3⟩:=ih.1 v hv;exact ⟨i+1,a',e',h1,h2,h3⟩
     · simp only [n31_,n9_,not_or];exact ⟨fun z=>c z.symm,ih.2 hn⟩
theorem putO {g:List (?e×?e)} (h:ads.length=g.length) {s:?e} (n:valV (kvO g ads) (s.map Sum.inl)=none) (L:Addr) (ns:?e):putK (kvO g ads) (s.map Sum.inl) (.ref L)=kvO (g++[(s,ns)]) (ads++[L]):=by
 unfold putK
 have hn:((kvO g ads).any fun kv=>decide (kv.1=s.map Sum.inl))=false:=by
  rw [List.any_eq_false];intro kv hkv z;have z:=n52_ z
  have hf:(kvO g ads).find? (fun kv=>decide (kv.1=s.map Sum.inl))=none:=by
   unfold valV at n;cases q:(kvO g ads).find? (fun kv=>decide (kv.1=s.map Sum.inl)) with
   | none=>rfl
   | some x=>rw [q] at n;cases n
  have:=List.find?_eq_none.mp hf kv hkv
  simp [z] at this
 rw [hn,if_neg n17_];show _=(((g++[(s,ns)]).zip (ads++[L])).map fun x=>(x.1.1.map (Sum.inl:Int→Key),V.ref x.2))
 rw [List.zip_append (by rw [h]),n46_];rfl
theorem OwnA.more {g:List (?e×?e)} (o:OwnA H0 H D g ads) (s:Same H H'):OwnA H0 H' D g ads :=
 ⟨s _ _ o.dt,o.len,o.nd,o.nD,fun i a e h1 h2=>s _ _ (o.at_ i a e h1 h2),o.fr,o.frD⟩
theorem OwnA.has {g:List (?e×?e)} (o:OwnA H0 H D g ads) (h:a∈ads):∃ x,H a=some x:=by
 obtain ⟨i,hi,e⟩:=n48_ h;have hg:i<g.length:=by rw [← o.len];exact hi
 exact ⟨_,o.at_ i a _ (by rw [n1_ hi,e]) (n1_ hg)⟩
theorem OwnA.old {g:List (?e×?e)} (o:OwnA H0 H D g ads) (nd:(g.map (·.1)).Nodup) {s:?e} (n:Int) {e:?e×?e} (h1:ads[i]? = some a) (h2:g[i]? = some e) (h3:e.1=s) :
 OwnA H0 (upd H a (.lst (e.2.map V.int++[.int n]))) D (ins g s n) ads:=by
 have ha:=n6_ h1;have hs:s∈g.map (·.1):=h3 ▸ n47_ (n6_ h2);have ei:ins g s n=g.map (fun e=>if e.1=s then (e.1,e.2++[n]) else e):=by unfold ins;rw [if_pos hs]
 have ek:kvO (ins g s n) ads=kvO g ads:=by
  rw [ei];refine n57_ ?g fun i h1 h2=>?_;simp only [List.getElem_map,List.getElem_zip];split<;>rfl
 refine ⟨?_,by rw [o.len,ei,n5_],o.nd,o.nD,fun j b e' k1 k2=>?_,o.fr,o.frD⟩
 · rw [Zh (fun z=>o.nD (by rw [z];exact ha)),ek];exact o.dt
 · rw [ei,n7_] at k2;obtain ⟨e0,k3,rfl⟩:=n14_.mp k2
   by_cases c:j=i
   · subst c;rw [h1] at k1;cases k1;rw [h2] at k3;cases k3;rw [Zc,if_pos h3]
     simp
   · have nb:b≠a:=fun z=>c (by
      subst z;obtain ⟨l1,x1⟩:=n12_.mp h1;obtain ⟨l2,x2⟩:=n12_.mp k1;exact (n60_ (h₀:=l2) (h₁:=l1) o.nd).mp (by rw [x1,x2]))
     have ne:¬ e0.1=s:=fun z=>c (by
      obtain ⟨l1,x1⟩:=n12_.mp h2;obtain ⟨l2,x2⟩:=n12_.mp k3;exact (n60_ (h₀:=by simpa using l2) (h₁:=by simpa using l1) nd).mp (by simp [x1,x2,z,h3]))
     rw [Zh nb,if_neg ne];exact o.at_ j b e0 k1 k3
theorem OwnA.new {L:Addr} {g:List (?e×?e)} (o:OwnA H0 H D g ads) {s:?e} (n:Int) (hn:valV (kvO g ads) (s.map Sum.inl)=none) (nL:L∉ads) (nD:L≠D) (fL:H0 L=none) :
 OwnA H0 (upd (upd H D (.dT (putK (kvO g ads) (s.map Sum.inl) (.ref L)))) L (.lst [.int n])) D (ins g s n) (ads++[L]):=by
 have hs:=(valO o.len s).2 hn;have ei:ins g s n=g++[(s,[n])]:=by unfold ins;rw [if_neg hs]
 rw [ei];refine ⟨?_,by simp [o.len],?_,?_,fun j b e k1 k2=>?_,fun a ha=>?_,o.frD⟩
 · rw [Zh nD.symm,Zc,putO o.len hn L [n]]
 · rw [n62_];exact ⟨o.nd,by simp,fun a ha b hb=>by rw [n25_.mp hb];exact fun z=>nL (by rw [← z];exact ha)⟩
 · rw [n28_];rintro (z|z)
   · exact o.nD z
   · exact nD (n25_.mp z).symm
 · by_cases c:j<ads.length
   · rw [n41_ c] at k1;rw [n41_ (by rw [← o.len];exact c)] at k2;have hb:=n6_ k1;rw [Zh (fun z=>nL (by rw [← z];exact hb)),Zh (fun z=>o.nD (by rw [← z];exact hb))];exact o.at_ j b e k1 k2
   · rw [n34_ (?d)] at k1;rw [n34_ (by rw [← o.len];omega),← o.len] at k2
     have:j-ads.length=0:=by have:=(n12_.mp k1).1;simp at this;omega
     rw [this] at k1 k2;cases k1;cases k2
     rw [Zc];rfl
 · rcases n28_.mp ha with ha|ha
   · exact o.fr a ha
   · rw [n25_.mp ha];exact fL
end L2
namespace L2
open PySem
variable {α:Type} {ps:List (?e)} {p:?e} {i n:Nat}
theorem Yk (h3:p.length=3) (up:p.getD 0 0<p.getD 1 0∧p.getD 1 0<p.getD 2 0) {s:?e}:s∈Zn p↔∃ x y,s=[x,y]∧x<y∧x∈p∧y∈p:=by
 match p,h3 with
 | [a,b,c],_ =>
   obtain ⟨u1,u2⟩:=up;have u1':a<b:=u1;have u2':b<c:=u2;simp only [Zn,List.getD_cons_zero,List.getD_cons_succ,n9_,n10_,or_false];constructor
   · rintro (h|h|h)
     · exact ⟨a,b,h,u1',by simp,by simp⟩
     · exact ⟨a,c,h,?d,by simp,by simp⟩
     · exact ⟨b,c,h,u2',by simp,by simp⟩
   · rintro ⟨x,y,rfl,hxy,hx,hy⟩
     have:(x=a∧y=b)∨(x=a∧y=c)∨(x=b∧y=c):=?d
     rcases this with ⟨rfl,rfl⟩|⟨rfl,rfl⟩|⟨rfl,rfl⟩
     · exact .inl rfl
     · exact .inr (.inl rfl)
     · exact .inr (.inr rfl)
structure Tri3 (p:?e):Prop where
 len:p.length=3
 up:p.getD 0 0<p.getD 1 0∧p.getD 1 0<p.getD 2 0
theorem Tri3.pw (t:Tri3 p):p.Pairwise (·<·):=by
 have h3:=t.len
 match p,h3 with
 | [a,b,c],_ =>
   obtain ⟨u1,u2⟩:=t.up;have u1':a<b:=u1;have u2':b<c:=u2
   simp;omega
theorem Ztt (h3:p.length=3) (h:p.Pairwise (·<·)):Tri3 p:=by
 refine ⟨h3,?_⟩
 match p,h3 with
 | [a,b,c],_ =>
   simp at h;exact ⟨h.1.1,h.2⟩
theorem Zgy (t:Tri3 p):(Zn p).Nodup:=by
 have h3:=t.len
 match p,h3 with
 | [a,b,c],_ =>
   obtain ⟨u1,u2⟩:=t.up;have u1':a<b:=u1;have u2':b<c:=u2;simp [Zn];omega
structure Ordr (n:Nat) (f:Int→Int):Prop where
 bd:∀ i:Int,0≤i∧i<n→0≤f i∧f i<n
 inj:∀ i j:Int,0≤i∧i<n→0≤j∧j<n→f i=f j→i=j
theorem Zsq {o:?e} (h:CoOrd n o):Ordr n (oAt o):=by
 refine ⟨fun i hi=>h.bd i.toNat (?d),fun i j hi hj e=>?_⟩
 have:=h.inj i.toNat j.toNat (?d) (?d) e
 omega
abbrev inR (n:Nat) (l:?e):Prop:=∀ i∈l,0≤i∧i<n
abbrev ph (f:Int→Int) (s:?e):?e:=srtI (s.map f)
section
variable {n:Nat} {f:Int→Int} (O:Ordr n f)
include O
theorem Zvd {s:?e} (nd:s.Nodup) (b:inR n s):(ph f s).Pairwise (·<·):=by
 refine Zdu (Zjl _) ((X8 _).nodup_iff.mpr ?_);rw [n26_,n50_];exact n66_ (fun {x y} hx hy ne e=>ne (O.inj x y (b x hx) (b y hy) e)) (n26_.mp nd)
theorem Xr {s:?e} {x:Int}:x∈ph f s↔∃ c∈s,f c=x:=by rw [(X8 _).mem_iff,n24_]
theorem Zj2 (t:Tri3 p) (b:inR n p):Tri3 (ph f p):=Ztt (by rw [(X8 _).length_eq,n5_,t.len]) (Zvd O (t.pw.imp fun {x y} h=>?d) b)
theorem Zha {s t:?e} (hs:s.Pairwise (·<·)) (ht:t.Pairwise (·<·)) (bs:inR n s) (bt:inR n t) (e:ph f s=ph f t):s=t:=by
 refine Zbg hs ht fun x=>⟨fun hx=>?_,fun hx=>?_⟩
 · have:f x∈ph f t:=by rw [← e];exact (Xr O).mpr ⟨x,hx,rfl⟩
   obtain ⟨c,hc,ec⟩:=(Xr O).mp this;rw [← O.inj c x (bt c hc) (bs x hx) ec];exact hc
 · have:f x∈ph f s:=by rw [e];exact (Xr O).mpr ⟨x,hx,rfl⟩
   obtain ⟨c,hc,ec⟩:=(Xr O).mp this;rw [← O.inj c x (bs c hc) (bt x hx) ec];exact hc
theorem Zaw {s:?e} (t:Tri3 p) (b:inR n p) (h:s∈Zn p):s.Pairwise (·<·)∧inR n s:=by
 obtain ⟨x,y,rfl,lt,hx,hy⟩:=(Yk t.len t.up).mp h;refine ⟨by simp [lt],fun i hi=>?_⟩;simp only [n9_,n10_,or_false] at hi
 rcases hi with rfl|rfl
 · exact b _ hx
 · exact b _ hy
theorem Zb0 (t:Tri3 p) (b:inR n p) (s':?e):s'∈Zn (ph f p)↔∃ s∈Zn p,s'=ph f s:=by
 have t':=Zj2 O t b;rw [Yk t'.len t'.up];constructor
 · rintro ⟨x,y,rfl,lt,hx,hy⟩
   obtain ⟨c,hc,rfl⟩:=(Xr O).mp hx;obtain ⟨d,hd,rfl⟩:=(Xr O).mp hy;have ne:c≠d:=fun e=>by rw [e] at lt;omega
   by_cases cd:c<d
   · exact ⟨[c,d],(Yk t.len t.up).mpr ⟨c,d,rfl,cd,hc,hd⟩,Zbo (.refl _) (by simp;omega)⟩
   · exact ⟨[d,c],(Yk t.len t.up).mpr ⟨d,c,rfl,?d,hd,hc⟩,Zbo (.swap ..) (by simp;omega)⟩
 · rintro ⟨s,hs,rfl⟩
   obtain ⟨c,d,rfl,cd,hc,hd⟩:=(Yk t.len t.up).mp hs;have l:=Zvd O (s:=[c,d]) (by simp;omega) (Zaw O t b hs).2;have h2:(ph f [c,d]).length=2:=by rw [(X8 _).length_eq];rfl
   have hm:∀ x∈ph f [c,d],x∈ph f p:=fun x hx=>by
    obtain ⟨e,he,rfl⟩:=(Xr O).mp hx;refine (Xr O).mpr ⟨e,?_,rfl⟩;simp only [n9_,n10_,or_false] at he
    rcases he with rfl|rfl<;>assumption
   match ph f [c,d],h2,l,hm with
   | [x,y],_,l,hm=>exact ⟨x,y,rfl,by simpa using l,hm x ?g,hm y ?g⟩
end
theorem Zb9 [DecidableEq α] {l m:List α} (a:l.Nodup) (b:m.Nodup) (h:∀ x,x∈l↔x∈m):l.Perm m :=
 Zbi l m a (fun x hx=>(h x).mp hx) (Zep b fun x hx=>(h x).mpr hx)
theorem Zny {A:Nat→Nat→Prop}:∃ l,PartOk A n i l:=by
 classical
 refine ⟨((List.range n).filter fun j=>decide (Conn A n i j)).map fun (j:Nat)=>(j:Int),?_,fun x=>?_⟩
 · rw [n50_];exact (List.pairwise_lt_range.sublist List.filter_sublist).imp fun {x y} h=>?d
 · rw [n24_];constructor
   · rintro ⟨j,hj,rfl⟩
     obtain ⟨h1,h2⟩:=n72_.mp hj;exact ⟨j,rfl,n35_.mp h1,n52_ h2⟩
   · rintro ⟨j,rfl,hj,cn⟩
     exact ⟨j,n72_.mpr ⟨n35_.mpr hj,n32_ cn⟩,rfl⟩
theorem getm (hi:i<ps.length):ps.getD i []∈ps:=by rw [n4_,n1_ hi];exact n51_ hi
structure Led (n:Nat) (f:Int→Int) (ps ps':List (?e)):Prop where
 ord:Ordr n f
 tri:∀ p∈ps,Tri3 p
 bd:∀ p∈ps,inR n p
 nd:ps.Nodup
 pm:ps'.Perm (ps.map (ph f))
section
variable {n:Nat} {f:Int→Int} {ps ps':List (?e)} (L:Led n f ps ps')
include L
theorem Led.row {s:?e} (hs:s∈Zs ps):s.Pairwise (·<·)∧inR n s:=by
 obtain ⟨p,hp,hs⟩:=n55_.mp hs;exact Zaw L.ord (L.tri p hp) (L.bd p hp) hs
theorem Led.rows:(Zs ps').Perm ((Zs ps).map (ph f)):=by
 have h1:(Zs ps').Perm (Zs (ps.map (ph f))):=L.pm.flatMap_right _;refine h1.trans ?_;unfold Zs;rw [List.flatMap_map,List.map_flatMap]
 have:∀ qs:List (?e),(∀ p∈qs,p∈ps)→(qs.flatMap fun p=>Zn (ph f p)).Perm (qs.flatMap fun p=>(Zn p).map (ph f)):=by
  intro qs
  induction qs with
  | nil=>intro _;exact .nil
  | cons p qs ih =>
    intro h;have hp:=h p n19_;have t:=L.tri p hp;have b:=L.bd p hp;rw [List.flatMap_cons,List.flatMap_cons];refine List.Perm.append (Zb9 (Zgy (Zj2 L.ord t b)) ?_ fun s'=>?_) (ih fun q hq=>h q (n16_ _ hq))
    · rw [n26_,n50_];exact n66_ (fun {x y} hx hy ne e=>ne (Zha L.ord (Zaw L.ord t b hx).1 (Zaw L.ord t b hy).1 (Zaw L.ord t b hx).2 (Zaw L.ord t b hy).2 e)) (n26_.mp (Zgy t))
    · rw [Zb0 L.ord t b,n24_];exact ⟨fun ⟨s,a,e⟩=>⟨s,a,e.symm⟩,fun ⟨s,a,e⟩=>⟨s,a,e.symm⟩⟩
 exact this ps fun p hp=>hp
theorem Led.rinj {s t:?e} (hs:s∈Zs ps) (ht:t∈Zs ps) (e:ph f s=ph f t):s=t:=Zha L.ord (L.row hs).1 (L.row ht).1 (L.row hs).2 (L.row ht).2 e
theorem Led.mem (k:?e):k∈Zs ps'↔∃ s∈Zs ps,ph f s=k:=by rw [L.rows.mem_iff,n24_]
theorem Led.mp_nd:(ps.map (ph f)).Nodup:=by
 rw [n26_,n50_];exact n66_ (fun {x y} hx hy ne e=>ne (Zha L.ord (L.tri x hx).pw (L.tri y hy).pw (L.bd x hx) (L.bd y hy) e)) (n26_.mp L.nd)
theorem Led.len:ps'.length=ps.length:=by rw [L.pm.length_eq,n5_]
end
section
variable {n:Nat} {f:Int→Int} {ps ps':List (?e)} (L:Led n f ps ps')
include L
end
end L2
namespace L2
open PySem
variable {α β:Type} {ks ps:List (?e)} {p q:?e} {i j k m n:Nat} {P2:Pl}
theorem Conn.sym {A:Nat→Nat→Prop} (s:∀ a b,A a b→A b a) (h:Conn A k i j):Conn A k j i :=
 h (fun x=>Conn A k x i) (fun a b ha hb ab c=>(Conn.one hb ha (s a b ab)).trans c) .refl
theorem Zmk [DecidableEq β] {xs:List α} {ys:List β} (S:α→β→Prop) (nd:xs.Nodup) (tot:∀ x∈xs,∃ y∈ys,S x y) (inj:∀ x x' y,S x y→S x' y→x=x'):xs.length≤ys.length:=by
 classical
 obtain ⟨g,hg⟩:∃ g:α→Option β,∀ x∈xs,∃ y∈ys,g x=some y∧S x y:=⟨fun x=>if h:∃ y∈ys,S x y then some h.choose else none,fun x hx=>⟨_,(tot x hx).choose_spec.1,dif_pos (tot x hx),(tot x hx).choose_spec.2⟩⟩
 have:=Zep (xs:=xs.map g) (ys:=ys.map some) ?_ fun z hz=>?_
 · simpa using this
 · rw [n26_,n50_];refine n66_ (fun {x x'} hx hx' ne e=>ne ?_) (n26_.mp nd);obtain ⟨y,_,e1,s1⟩:=hg x hx;obtain ⟨y',_,e2,s2⟩:=hg x' hx';rw [e1,e2] at e;cases e
   exact inj _ _ _ s1 s2
 · obtain ⟨x,hx,rfl⟩:=n24_.mp hz;obtain ⟨y,hy,e,_⟩:=hg x hx;exact n24_.mpr ⟨y,hy,e.symm⟩
theorem PartOk.self {A:Nat→Nat→Prop} {l:?e} (h:PartOk A n i l) (hi:i<n):(i:Int)∈l:=(h.mem _).mpr ⟨i,rfl,hi,.refl⟩
theorem PartOk.go {A:Nat→Nat→Prop} (s:∀ a b,A a b→A b a) {l:?e} (h:PartOk A n i l) (c:Conn A n i j):PartOk A n j l :=
 ⟨h.rise,fun x=>(h.mem x).trans ⟨fun ⟨m,e,hm,d⟩=>⟨m,e,hm,(c.sym s).trans d⟩,fun ⟨m,e,hm,d⟩=>⟨m,e,hm,c.trans d⟩⟩⟩
theorem Zos {A B:Nat→Nat→Prop} (sA:∀ a b,A a b→A b a) (sB:∀ a b,B a b→B b a) (rB:∀ a,B a a) {xs ys:List (?e)} (hx:PartsOk A n xs) (hy:PartsOk B m ys) (F:Nat→Nat→Prop)
 (tot:∀ a,a<n→∃ i,i<m∧F a i) (sur:∀ i,i<m→∃ a,a<n∧F a i)
 (up:∀ a b i j,a<n→b<n→i<m→j<m→F a i→F b j→A a b→B i j) (down:∀ a b i j,a<n→b<n→i<m→j<m→F a i→F b j→B i j→Conn A n a b) (rA:∀ a,A a a):xs.length=ys.length:=by
 have nx:xs.Nodup:=hx.rise.imp fun {a b} h e=>by rw [e,Zhh] at h;cases h
 have ny:ys.Nodup:=hy.rise.imp fun {a b} h e=>by rw [e,Zhh] at h;cases h
 have U:∀ a b i j,a<n→b<n→i<m→j<m→F a i→F b j→Conn A n a b→Conn B m i j:=fun a b i j ha hb hi hj fa fb c =>
  (c (fun b=>b<n∧∀ j,j<m→F b j→Conn B m i j) (fun x y _ hy' xy ⟨hx',p⟩=>⟨hy',fun j hj fy=>by
    obtain ⟨k,hk,fx⟩:=tot x hx';exact (p k hk fx).trans (.one hk hj (up x y k j hx' hy' hk hj fx fy xy))⟩) ⟨ha,fun j hj fa'=>.one hi hj (up a a i j ha ha hi hj fa fa' (rA a))⟩).2 j hj fb
 have D:∀ a b i j,a<n→b<n→i<m→j<m→F a i→F b j→Conn B m i j→Conn A n a b:=fun a b i j ha hb hi hj fa fb c =>
  (c (fun j=>j<m∧∀ b,b<n→F b j→Conn A n a b) (fun x y _ hy' xy ⟨hx',p⟩=>⟨hy',fun b hb fy=>by
    obtain ⟨k,hk,fx⟩:=sur x hx';exact (p k hk fx).trans (down k b x y hk hb hx' hy' fx fy xy)⟩) ⟨hi,fun b hb fb=>down a b i i ha hb hi hi fa fb (rB i)⟩).2 b hb fb
 let S:?e→?e→Prop:=fun x y=>∃ a i,a<n∧i<m∧F a i∧PartOk A n a x∧PartOk B m i y
 refine Nat.le_antisymm (Zmk S nx (fun x hx'=>?_) fun x x' y=>?_) (Zmk (fun y x=>S x y) ny (fun y hy'=>?_) fun y y' x=>?_)
 · obtain ⟨a,ha,p⟩:=(hx.mem x).mp hx';obtain ⟨i,hi,f⟩:=tot a ha;obtain ⟨y,q⟩:=Zny (A:=B) (n:=m) (i:=i);exact ⟨y,(hy.mem y).mpr ⟨i,hi,q⟩,a,i,ha,hi,f,p,q⟩
 · rintro ⟨a,i,ha,hi,f,p,q⟩ ⟨a',i',ha',hi',f',p',q'⟩
   obtain ⟨k,e,_,c⟩:=(q.mem _).mp (q'.self hi')
   have:k=i':=?d
   subst this;exact (p.go sA (D a a' i k ha ha' hi hi' f f' c)).eq p'
 · obtain ⟨i,hi,q⟩:=(hy.mem y).mp hy';obtain ⟨a,ha,f⟩:=sur i hi;obtain ⟨x,p⟩:=Zny (A:=A) (n:=n) (i:=a);exact ⟨x,(hx.mem x).mpr ⟨a,ha,p⟩,a,i,ha,hi,f,p,q⟩
 · rintro ⟨a,i,ha,hi,f,p,q⟩ ⟨a',i',ha',hi',f',p',q'⟩
   obtain ⟨k,e,_,c⟩:=(p.mem _).mp (p'.self ha')
   have:k=a':=?d
   subst this;exact (q.go sB (U a k i i' ha ha' hi hi' f f' c)).eq q'
def mdl (n:Nat) (ks:List (?e)) (s:?e):Int:=(n:Int)+(ks.idxOf s:Nat)
theorem Zax {s:?e} (h:s∈ks):ks.idxOf s<ks.length∧ks[ks.idxOf s]? = some s:=by
 have hl:=List.idxOf_lt_length_of_mem h;exact ⟨hl,by rw [n1_ hl,List.getElem_idxOf hl]⟩
theorem Zdy {s t:?e} (hs:s∈ks) (ht:t∈ks) (e:mdl n ks s=mdl n ks t):s=t:=by
 unfold mdl at e;have e':ks.idxOf s=ks.idxOf t:=?d
 have h:=(Zax hs).2;rw [e',(Zax ht).2] at h;exact (Option.some.inj h).symm
def Zr (n:Nat) (ks:List (?e)) (p:?e):List (?e) :=
 [[p.getD 0 0,mdl n ks [p.getD 0 0,p.getD 1 0],mdl n ks [p.getD 0 0,p.getD 2 0]],[p.getD 1 0,mdl n ks [p.getD 0 0,p.getD 1 0],mdl n ks [p.getD 1 0,p.getD 2 0]],
  [p.getD 2 0,mdl n ks [p.getD 0 0,p.getD 2 0],mdl n ks [p.getD 1 0,p.getD 2 0]],[mdl n ks [p.getD 0 0,p.getD 1 0],mdl n ks [p.getD 0 0,p.getD 2 0],mdl n ks [p.getD 1 0,p.getD 2 0]]]
def Xq (cs:List Pnt) (ks:List (?e)):List Pnt:=cs.map (fun p=>(2*p.1,2*p.2))++ks.map fun s=>((cAt cs (s.getD 0 0)).1+(cAt cs (s.getD 1 0)).1,(cAt cs (s.getD 0 0)).2+(cAt cs (s.getD 1 0)).2)
structure Edg (ps ks:List (?e)):Prop where
 rise:Zb5 ks
 mem:∀ k,k∈ks↔k∈Zs ps
theorem Edg.eq {ks':List (?e)} (a:Edg ps ks) (b:Edg ps ks'):ks=ks':=Zgn a.rise b.rise fun k=>(a.mem k).trans (b.mem k).symm
theorem Edg.side (E:Edg ps ks) {s:?e} (hp:p∈ps) (hs:s∈Zn p):s∈ks:=(E.mem s).mpr (n55_.mpr ⟨p,hp,hs⟩)
theorem Zq3 (r:Zb5 ks) {s t:?e} (hs:s∈ks) (ht:t∈ks) (lt:HT.lexLt s t=true):mdl n ks s<mdl n ks t:=by
 have h1:=Zax hs;have h2:=Zax ht;unfold mdl
 rcases Nat.lt_trichotomy (ks.idxOf s) (ks.idxOf t) with c|c|c
 · omega
 · rw [c] at h1;rw [h1.2] at h2;rw [Option.some.inj h2.2,Zad] at lt;cases lt
 · have:=n65_.mp r _ _ h2.1 h1.1 c
   rw [List.getElem_idxOf,List.getElem_idxOf] at this
   have:=Za1 _ _ _ lt this
   rw [Zad] at this;cases this
theorem lexP {a b c d:Int} (h:a<c∨a=c∧b<d):HT.lexLt [a,b] [c,d]=true:=by
 rw [HT.lexLt_cons]
 rcases h with h|⟨rfl,h⟩
 · rw [if_neg (?d)];exact n32_ h
 · rw [if_pos rfl,HT.lexLt_cons,if_neg (?d)];exact n32_ h
section
variable {n:Nat} {ps ks:List (?e)} (E:Edg ps ks)
include E
theorem Edg.abc (hp:p∈ps) (t:Tri3 p) (b:inR n p):∃ x y z l m h:Int,p=[x,y,z]∧(0≤x∧x<y∧y<z∧z<n)∧([x,y]∈ks∧[x,z]∈ks∧[y,z]∈ks)∧(l=mdl n ks [x,y]∧m=mdl n ks [x,z]∧h=mdl n ks [y,z])∧(n≤l∧l<m∧m<h∧h<((n+ks.length:Nat):Int)) ∧
 Zn p=[[x,y],[x,z],[y,z]]∧Zr n ks p=[[x,l,m],[y,l,h],[z,m,h],[l,m,h]]:=by
 obtain ⟨x,y,z,rfl⟩:=len3 t.len;have u1:x<y:=t.up.1;have u2:y<z:=t.up.2;have b1:=b x ?g;have b2:=b z ?g;have s1:[x,y]∈ks:=E.side hp (by simp [Zn]);have s2:[x,z]∈ks:=E.side hp (by simp [Zn]);have s3:[y,z]∈ks:=E.side hp (by simp [Zn]);have l1:=Zq3 (n:=n) E.rise s1 s2 (lexP (.inr ⟨rfl,u2⟩));have l2:=Zq3 (n:=n) E.rise s2 s3 (lexP (.inl u1));have h3:=(Zax s3).1;refine ⟨x,y,z,_,_,_,rfl,⟨b1.1,u1,u2,b2.2⟩,⟨s1,s2,s3⟩,⟨rfl,rfl,rfl⟩,⟨?_,l1,l2,?_⟩,rfl,rfl⟩
 · unfold mdl;omega
 · unfold mdl;omega
theorem Edg.tri (hp:p∈ps) (t:Tri3 p) (b:inR n p) (hq:q∈Zr n ks p):Tri3 q∧inR (n+ks.length) q:=by
 obtain ⟨x,y,z,l,m,h,rfl,u,_,_,v,_,e⟩:=E.abc hp t b;rw [e] at hq;simp only [n9_,n10_,or_false] at hq
 have r:∀ i j k:Int,0≤i∧i<j∧j<k∧k<((n+ks.length:Nat):Int)→Tri3 [i,j,k]∧inR (n+ks.length) [i,j,k]:=fun i j k w=>by
  refine ⟨⟨rfl,w.2.1,w.2.2.1⟩,fun a ha=>?_⟩;simp only [n9_,n10_,or_false] at ha;omega
 rcases hq with rfl|rfl|rfl|rfl<;>exact r _ _ _ (?d)
theorem Edg.end_ {s:?e} (hp:p∈ps) (t:Tri3 p) (b:inR n p) (hq:q∈Zr n ks p) (hs:s∈Zn q):∃ r∈Zn p,s.getD 1 0=mdl n ks r:=by
 obtain ⟨x,y,z,l,m,h,rfl,_,_,⟨rfl,rfl,rfl⟩,_,es,e⟩:=E.abc hp t b;rw [e] at hq;simp only [n9_,n10_,or_false] at hq;rw [es];have a1:[x,y]∈[[x,y],[x,z],[y,z]]:=by simp
 have a2:[x,z]∈[[x,y],[x,z],[y,z]]:=by simp
 have a3:[y,z]∈[[x,y],[x,z],[y,z]]:=by simp
 rcases hq with rfl|rfl|rfl|rfl<;>simp only [Zn,n9_,n10_,or_false] at hs<;>rcases hs with rfl|rfl|rfl
 all_goals first|exact ⟨_,a1,rfl⟩|exact ⟨_,a2,rfl⟩|exact ⟨_,a3,rfl⟩
theorem Edg.mid (hp:p∈ps) (t:Tri3 p) (b:inR n p) (hq:q∈Zr n ks p):∃ s,s∈Zn q∧s∈Zn ((Zr n ks p).getD 3 []):=by
 obtain ⟨x,y,z,l,m,h,rfl,_,_,_,_,_,e⟩:=E.abc hp t b;rw [e] at hq ⊢;simp only [n9_,n10_,or_false] at hq
 rcases hq with rfl|rfl|rfl|rfl
 · exact ⟨[l,m],by simp [Zn],by simp [Zn]⟩
 · exact ⟨[l,h],by simp [Zn],by simp [Zn]⟩
 · exact ⟨[m,h],by simp [Zn],by simp [Zn]⟩
 · exact ⟨[l,m],by simp [Zn],by simp [Zn]⟩
theorem Edg.half {s:?e} (hp:p∈ps) (t:Tri3 p) (b:inR n p) (hs:s∈Zn p):∃ q∈Zr n ks p,[s.getD 0 0,mdl n ks s]∈Zn q:=by
 obtain ⟨x,y,z,l,m,h,rfl,_,_,⟨rfl,rfl,rfl⟩,_,es,e⟩:=E.abc hp t b;rw [es] at hs;rw [e];simp only [n9_,n10_,or_false] at hs
 rcases hs with rfl|rfl|rfl
 · exact ⟨_,.head _,by simp [Zn]⟩
 · exact ⟨_,.head _,by simp [Zn]⟩
 · exact ⟨_,.tail _ (.head _),by simp [Zn]⟩
theorem Edg.parts (tr:∀ p∈ps,Tri3 p) (bd:∀ p∈ps,inR n p) {qs:List (?e)} (hq:∀ q,q∈qs↔∃ p∈ps,q∈Zr n ks p) {xs ys:List (?e)} (hx:PartsOk (Adj qs) qs.length xs) (hy:PartsOk (Adj ps) ps.length ys):xs.length=ys.length:=by
 have at_:∀ {l:List (?e)} {q:?e},q∈l→∃ a,a<l.length∧l.getD a []=q:=fun {l q} h=>by
  obtain ⟨a,ha,e⟩:=n48_ h;exact ⟨a,ha,by rw [n4_,n1_ ha,e];rfl⟩
 have con:∀ {a b:Nat} {s:?e},a<qs.length→b<qs.length→s∈Zn (qs.getD a [])→s∈Zn (qs.getD b [])→Conn (Adj qs) qs.length a b:=fun ha hb h1 h2=>.one ha hb ⟨_,h1,h2⟩;refine Zos (fun _ _ h=>h.symm) (fun _ _ h=>h.symm) (fun _=>.self) hx hy (fun a i=>qs.getD a []∈Zr n ks (ps.getD i [])) (fun a ha=>?_) (fun i hi=>?_) (fun a b i j ha hb hi hj fa fb=>?_) (fun a b i j ha hb hi hj fa fb=>?_) fun _=>.self
 · obtain ⟨p,hp,h⟩:=(hq _).mp (getm ha);obtain ⟨i,hi,e⟩:=at_ hp
   exact ⟨i,hi,by rw [e];exact h⟩
 · obtain ⟨a,ha,e⟩:=at_ ((hq ((Zr n ks (ps.getD i [])).getD 3 [])).mpr ⟨_,getm hi,by simp [Zr]⟩)
   exact ⟨a,ha,by rw [e];simp [Zr]⟩
 · rintro ⟨s,h1,h2⟩
   obtain ⟨r,hr,e1⟩:=E.end_ (getm hi) (tr _ (getm hi)) (bd _ (getm hi)) fa h1;obtain ⟨r',hr',e2⟩:=E.end_ (getm hj) (tr _ (getm hj)) (bd _ (getm hj)) fb h2
   have:r=r':=Zdy (E.side (getm hi) hr) (E.side (getm hj) hr') (e1.symm.trans e2)
   exact ⟨r,hr,this ▸ hr'⟩
 · rintro ⟨s,h1,h2⟩
   have mid:∀ {a i:Nat},a<qs.length→i<ps.length→qs.getD a []∈Zr n ks (ps.getD i [])→∃ c,c<qs.length∧qs.getD c []=(Zr n ks (ps.getD i [])).getD 3 []∧Conn (Adj qs) qs.length a c:=fun {a i} ha hi f=>by
    obtain ⟨c,hc,e⟩:=at_ ((hq ((Zr n ks (ps.getD i [])).getD 3 [])).mpr ⟨_,getm hi,by simp [Zr]⟩)
    obtain ⟨s,h1,h2⟩:=E.mid (getm hi) (tr _ (getm hi)) (bd _ (getm hi)) f;exact ⟨c,hc,e,con ha hc h1 (by rw [e];exact h2)⟩
   obtain ⟨c,hc,ec,c1⟩:=mid ha hi fa;obtain ⟨d,hd,ed,c2⟩:=mid hb hj fb;obtain ⟨q,mq,g1⟩:=E.half (getm hi) (tr _ (getm hi)) (bd _ (getm hi)) h1;obtain ⟨q',mq',g2⟩:=E.half (getm hj) (tr _ (getm hj)) (bd _ (getm hj)) h2;obtain ⟨u,hu,eu⟩:=at_ ((hq q).mpr ⟨_,getm hi,mq⟩)
   obtain ⟨v,hv,ev⟩:=at_ ((hq q').mpr ⟨_,getm hj,mq'⟩)
   obtain ⟨c',hc',ec',c3⟩:=mid hu hi (by rw [eu];exact mq);obtain ⟨d',hd',ed',c4⟩:=mid hv hj (by rw [ev];exact mq');have k1:Conn (Adj qs) qs.length c c':=.one hc hc' (by unfold Adj;rw [ec,ec'];exact ⟨_,n19_,n19_⟩);have k2:Conn (Adj qs) qs.length d' d:=.one hd' hd (by unfold Adj;rw [ed,ed'];exact ⟨_,n19_,n19_⟩);have sy:∀ a b,Adj qs a b→Adj qs b a:=fun _ _ h=>h.symm;exact (((c1.trans k1).trans (c3.sym sy)).trans (con hu hv (by rw [eu];exact g1) (by rw [ev];exact g2))).trans ((c4.trans k2).trans (c2.sym sy))
end
section
variable {n:Nat} {ps ks:List (?e)} (E:Edg ps ks)
include E
theorem Edg.cover (hp:p∈ps) (t:Tri3 p) (b:inR n p) (hq:q∈Zr n ks p) {c:Int} (hc:c∈p):∃ s∈Zn p,c∈s∧mdl n ks s∈q:=by
 obtain ⟨x,y,z,l,m,h,rfl,_,_,⟨rfl,rfl,rfl⟩,_,es,e⟩:=E.abc hp t b;rw [e] at hq;rw [es];simp only [n9_,n10_,or_false] at hq hc;have a1:[x,y]∈[[x,y],[x,z],[y,z]]:=by simp
 have a2:[x,z]∈[[x,y],[x,z],[y,z]]:=by simp
 have a3:[y,z]∈[[x,y],[x,z],[y,z]]:=by simp
 rcases hq with rfl|rfl|rfl|rfl<;>rcases hc with rfl|rfl|rfl
 all_goals first|(refine ⟨_,a1,?_,?_⟩<;>simp<;>done)|(refine ⟨_,a2,?_,?_⟩<;>simp<;>done)|(refine ⟨_,a3,?_,?_⟩<;>simp<;>done)
theorem Edg.same {p':?e} (hp:p∈ps) (t:Tri3 p) (b:inR n p) (hp':p'∈ps) (t':Tri3 p') (b':inR n p') (hq:q∈Zr n ks p) (hq':q∈Zr n ks p'):p=p':=by
 have sub:∀ {p p':?e},p∈ps→Tri3 p→inR n p→p'∈ps→Tri3 p'→inR n p'→q∈Zr n ks p→q∈Zr n ks p'→∀ c∈p,c∈p':=fun {p p'} hp t b hp' t' b' hq hq' c hc=>by
  obtain ⟨s,hs,cs,ms⟩:=E.cover hp t b hq hc;have hk:=E.side hp hs;obtain ⟨x,y,z,l,m,h,rfl,u,⟨k1,k2,k3⟩,⟨rfl,rfl,rfl⟩,_,es,e⟩:=E.abc hp' t' b';have ge:(n:Int)≤mdl n ks s:=by unfold mdl;omega
  rw [e] at hq'
  have in1:s=[x,y]∨s=[x,z]∨s=[y,z]:=by
   simp only [n9_,n10_,or_false] at hq'
   rcases hq' with rfl|rfl|rfl|rfl<;>simp only [n9_,n10_,or_false] at ms<;>rcases ms with ms|ms|ms
   all_goals first|(exfalso;omega)|exact .inl (Zdy hk k1 ms)|exact .inr (.inl (Zdy hk k2 ms))|exact .inr (.inr (Zdy hk k3 ms))
  rcases in1 with rfl|rfl|rfl<;>simp only [n9_,n10_,or_false] at cs ⊢<;>omega
 exact Zbg t.pw t'.pw fun c=>⟨sub hp t b hp' t' b' hq hq' c,sub hp' t' b' hp t b hq' hq c⟩
theorem Edg.nd4 (tr:∀ p∈ps,Tri3 p) (bd:∀ p∈ps,inR n p) (nd:ps.Nodup):(ps.flatMap (Zr n ks)).Nodup:=by
 have:∀ qs:List (?e),qs.Nodup→(∀ p∈qs,p∈ps)→(qs.flatMap (Zr n ks)).Nodup:=by
  intro qs
  induction qs with
  | nil=>intro _ _;exact List.nodup_nil
  | cons p qs ih =>
    intro nd h;obtain ⟨n1,n2⟩:=n71_.mp nd;have hp:=h p n19_;have hs:∀ r∈qs,r∈ps:=fun r hr=>h r (n16_ _ hr);rw [List.flatMap_cons,n62_];refine ⟨?_,ih n2 hs,fun q hq q' hq' e=>?_⟩
    · obtain ⟨x,y,z,l,m,h,rfl,u,_,_,w,_,e⟩:=E.abc hp (tr p hp) (bd p hp);rw [e];simp only [n71_,n9_,List.cons.injEq,n10_,or_false,not_false_eq_true,List.nodup_nil,and_true,not_or];omega
    · subst e;obtain ⟨r,hr,h2⟩:=n55_.mp hq'
      have:=E.same hp (tr p hp) (bd p hp) (hs r hr) (tr r (hs r hr)) (bd r (hs r hr)) hq h2
      exact n1 (this ▸ hr)
 exact this ps nd fun p hp=>hp
end
section
variable {n:Nat} {ps ks:List (?e)} (E:Edg ps ks)
include E
theorem Edg.own (tr:∀ p∈ps,Tri3 p) (hp:p∈ps):(ks.filter fun s=>decide (s.getD 0 0∈p)&&decide (s.getD 1 0∈p))=Zn p:=by
 have t:=tr p hp;refine Zgn (E.rise.sublist List.filter_sublist) ?_ fun s=>?_
 · obtain ⟨x,y,z,rfl⟩:=len3 t.len;have u1:x<y:=t.up.1;have u2:y<z:=t.up.2;have h1:=lexP (a:=x) (b:=y) (c:=x) (d:=z) (.inr ⟨rfl,u2⟩);have h2:=lexP (a:=x) (b:=z) (c:=y) (d:=z) (.inl u1);exact List.pairwise_cons.mpr ⟨by simp [h1,Za1 _ _ _ h1 h2],List.pairwise_cons.mpr ⟨by simp [h2],by simp⟩⟩
 · rw [n72_,n40_,decide_eq_true_eq,decide_eq_true_eq];constructor
   · rintro ⟨hk,h1,h2⟩
     obtain ⟨r,hr,hs⟩:=n55_.mp ((E.mem s).mp hk);obtain ⟨i,j,rfl,lt,_,_⟩:=(Yk (tr r hr).len (tr r hr).up).mp hs;exact (Yk t.len t.up).mpr ⟨i,j,rfl,lt,h1,h2⟩
   · intro hs;obtain ⟨i,j,rfl,lt,h1,h2⟩:=(Yk t.len t.up).mp hs;exact ⟨E.side hp hs,h1,h2⟩
theorem Edg.own3 (tr:∀ p∈ps,Tri3 p) (hp:p∈ps) (b:inR n p):∃ l m h:Int,l<m∧m<h∧(ks.filter fun s=>decide (s.getD 0 0∈p)&&decide (s.getD 1 0∈p)).map (mdl n ks)=[l,m,h]∧(Zr n ks p)[3]? = some [l,m,h]:=by
 obtain ⟨x,y,z,l,m,h,rfl,_,_,⟨rfl,rfl,rfl⟩,w,es,e⟩:=E.abc hp (tr p hp) b;exact ⟨_,_,_,w.2.1,w.2.2.1,by rw [E.own tr hp,es];rfl,by rw [e];rfl⟩
theorem Edg.own2 (tr:∀ p∈ps,Tri3 p) (hp:p∈ps) (b:inR n p) {c:Int} (hc:p[k]? = some c) :
 ∃ l m:Int,l<m∧(ks.filter fun s=>decide (c∈s)&&(decide (s.getD 0 0∈p)&&decide (s.getD 1 0∈p))).map (mdl n ks)=[l,m]∧(Zr n ks p)[k]? = some [c,l,m]:=by
 have ef:(ks.filter fun s=>decide (c∈s)&&(decide (s.getD 0 0∈p)&&decide (s.getD 1 0∈p)))=(Zn p).filter fun s=>decide (c∈s):=by
  rw [← E.own tr hp,List.filter_filter]
 rw [ef];obtain ⟨x,y,z,l,m,h,rfl,u,_,⟨el,em,eh⟩,w,es,e⟩:=E.abc hp (tr p hp) b;rw [es,e];have n1:x≠y:=?d
 have n2:x≠z:=?d
 have n3:y≠z:=?d
 match k,hc with
 | 0,hc =>
   have:=(Option.some.inj hc).symm
   subst this;exact ⟨l,m,w.2.1,by simp [List.filter_cons,n1,n2,el,em],rfl⟩
 | 1,hc =>
   have:=(Option.some.inj hc).symm
   subst this;exact ⟨l,h,?d,by simp [List.filter_cons,n1.symm,n3,el,eh],rfl⟩
 | 2,hc =>
   have:=(Option.some.inj hc).symm
   subst this;exact ⟨m,h,w.2.2.1,by simp [List.filter_cons,n2.symm,n3.symm,em,eh],rfl⟩
 | k+3,hc=>simp at hc
end
structure FinOk (P P2:Pl) (ks:List (?e)):Prop where
 edg:Edg P.ps ks
 cs:P2.cs=Xq P.cs ks
 rows:(P2.ps.zip P2.ts).Perm ((P.ps.zip P.ts).flatMap fun x=>(Zr P.cs.length ks x.1).map fun q=>(q,x.2))
 rise:Zb5 P2.ps
 len:P2.ts.length=P2.ps.length
 l:P2.l=P.l
 m:P2.m=P.m
theorem Zbn:∀ {xs:List α} {ys:List β},xs.length=ys.length→(xs.zip ys).map (·.1)=xs:=fun h=>List.map_fst_zip (Nat.le_of_eq h)
theorem FinOk.eq {P P3:Pl} {ks':List (?e)} (a:FinOk P P2 ks) (b:FinOk P P3 ks'):P2=P3:=by
 have e:=a.edg.eq b.edg;subst e
 have h2:(P2.ps.zip P2.ts).Pairwise fun x y=>HT.lexLt x.1 y.1=true:=by
  have:=a.rise
  rw [← Zbn a.len.symm] at this;exact n50_.mp this
 have h3:(P3.ps.zip P3.ts).Pairwise fun x y=>HT.lexLt x.1 y.1=true:=by
  have:=b.rise
  rw [← Zbn b.len.symm] at this;exact n50_.mp this
 have pm:=a.rows.trans b.rows.symm;have e:P2.ps.zip P2.ts=P3.ps.zip P3.ts:=Zpm (R:=fun x y:?e×Int=>HT.lexLt x.1 y.1=true) (fun x h=>by rw [Zad] at h;cases h) (fun x y z=>Za1 x.1 y.1 z.1) h2 h3 fun k=>pm.mem_iff;have e1:P2.ps=P3.ps:=by rw [← Zbn a.len.symm,e,Zbn b.len.symm]
 have e2:P2.ts=P3.ts:=by rw [← List.map_snd_zip (l₁:=P2.ps) (l₂:=P2.ts) (Nat.le_of_eq a.len),e,List.map_snd_zip (Nat.le_of_eq b.len)]
 have e3:=a.cs.trans b.cs.symm;have e4:=a.l.trans b.l.symm;have e5:=a.m.trans b.m.symm;cases P2;cases P3
 cases e1;cases e2;cases e3;cases e4;cases e5
 rfl
theorem FinOk.pieces {P:Pl} (F:FinOk P P2 ks) (t1:P.ts.length=P.ps.length):P2.ps.Perm (P.ps.flatMap (Zr P.cs.length ks)):=by
 have h:=F.rows.map (·.1);rw [Zbn F.len.symm,List.map_flatMap] at h;refine h.trans (List.Perm.of_eq ?_);have e:P.ps=(P.ps.zip P.ts).map (·.1):=(Zbn t1.symm).symm
 conv=>rhs;rw [e,List.flatMap_map]
 refine congrArg (fun f=>(P.ps.zip P.ts).flatMap f) (funext fun x=>?_);rw [n64_];exact List.map_id _
theorem FinOk.mem {P:Pl} (F:FinOk P P2 ks) (t1:P.ts.length=P.ps.length) (q:?e):q∈P2.ps↔∃ p∈P.ps,q∈Zr P.cs.length ks p:=by
 rw [(F.pieces t1).mem_iff,n55_]
theorem Zen {P:Pl} (ok:PlOk P):(∀ p∈P.ps,Tri3 p)∧∀ p∈P.ps,inR P.cs.length p :=
 ⟨fun p hp=>⟨(ok.pc p hp).len,(ok.pc p hp).rise⟩,fun p hp i hi=>by have:=(ok.pc p hp).bd i hi;omega⟩
theorem FinOk.parts {P:Pl} (F:FinOk P P2 ks) (ok:PlOk P) {xs ys:List (?e)} (hx:PartsOk (Adj P2.ps) P2.ps.length xs) (hy:PartsOk (Adj P.ps) P.ps.length ys):xs.length=ys.length :=
 F.edg.parts (Zen ok).1 (Zen ok).2 (F.mem ok.t1) hx hy
theorem Zhi {cs:List Pnt} {i:Int} (h:0≤i∧i<cs.length):cAt (Xq cs ks) i=(2*(cAt cs i).1,2*(cAt cs i).2):=by
 obtain ⟨n,rfl⟩:∃ n:Nat,i=n:=⟨i.toNat,?d⟩;have hn:n<cs.length:=?d
 unfold cAt Xq;simp [n4_,n41_,hn]
theorem Zdq {cs:List Pnt} {s:?e} (h:s∈ks):cAt (Xq cs ks) (mdl cs.length ks s)=((cAt cs (s.getD 0 0)).1+(cAt cs (s.getD 1 0)).1,(cAt cs (s.getD 0 0)).2+(cAt cs (s.getD 1 0)).2):=by
 obtain ⟨h1,h2⟩:=Zax h;have e:(mdl cs.length ks s).toNat=cs.length+ks.idxOf s:=by unfold mdl;omega
 conv=>lhs;unfold cAt Xq
 rw [e,n4_,n34_ ?g,n5_,Nat.add_sub_cancel_left,n7_,h2];rfl
theorem Zkk {u v:Int} (h:u=v∨u = -v):absI u=absI v:=by
 unfold absI;split<;>split<;>omega
theorem Zlh {cs:List Pnt} (E:Edg ps ks) (hp:p∈ps) (t:Tri3 p) (b:inR cs.length p):((Zr cs.length ks p).map fun q=>absI (dOf (Xq cs ks) q)).sum=4*absI (dOf cs p):=by
 obtain ⟨x,y,z,l,m,h,rfl,u,⟨k1,k2,k3⟩,⟨rfl,rfl,rfl⟩,_,_,e⟩:=E.abc hp t b;rw [e];have ex:=Zhi (cs:=cs) (ks:=ks) (i:=x) (?d);have ey:=Zhi (cs:=cs) (ks:=ks) (i:=y) (?d);have ez:=Zhi (cs:=cs) (ks:=ks) (i:=z) (?d);have m1:=Zdq (cs:=cs) k1;have m2:=Zdq (cs:=cs) k2;have m3:=Zdq (cs:=cs) k3;simp only [List.getD_cons_zero,List.getD_cons_succ] at m1 m2 m3;have dd:∀ (cs:List Pnt) (i j k:Int),dOf cs [i,j,k]=tn (cAt cs i) (cAt cs j) (cAt cs k):=fun _ _ _ _=>rfl;simp only [n31_,List.map_nil,List.sum_cons,List.sum_nil,dd,ex,ey,ez,m1,m2,m3];generalize cAt cs x=a;generalize cAt cs y=b;generalize cAt cs z=c;obtain ⟨a1,a2⟩:=a;obtain ⟨b1,b2⟩:=b;obtain ⟨c1,c2⟩:=c
 rw [Zkk (u:=tn (2*a1,2*a2) _ _) (v:=tn (a1,a2) (b1,b2) (c1,c2)) (.inl (by unfold tn;dsimp only;grind)),Zkk (u:=tn (2*b1,2*b2) _ _) (v:=tn (a1,a2) (b1,b2) (c1,c2)) (.inr (by unfold tn;dsimp only;grind)),
  Zkk (u:=tn (2*c1,2*c2) _ _) (v:=tn (a1,a2) (b1,b2) (c1,c2)) (.inl (by unfold tn;dsimp only;grind)),Zkk (u:=tn (a1+b1,a2+b2) _ _) (v:=tn (a1,a2) (b1,b2) (c1,c2)) (.inr (by unfold tn;dsimp only;grind))]
 omega
theorem Zqf {a b:?e} (h:a.Perm b):a.sum=b.sum:=by
 induction h with
 | nil=>rfl
 | cons x _ ih=>rw [List.sum_cons,List.sum_cons,ih]
 | swap x y l=>simp only [List.sum_cons];omega
 | trans _ _ a b=>rw [a,b]
theorem FinOk.room {P:Pl} (F:FinOk P P2 ks) (ok:PlOk P):Zht P2=4*Zht P:=by
 unfold Zht;rw [Zqf ((F.pieces ok.t1).map _),F.cs];obtain ⟨tr,bd⟩:=Zen ok
 have:∀ qs:List (?e),(∀ p∈qs,p∈P.ps)→((qs.flatMap (Zr P.cs.length ks)).map fun p=>absI (dOf (Xq P.cs ks) p)).sum=4*(qs.map fun p=>absI (dOf P.cs p)).sum:=by
  intro qs
  induction qs with
  | nil=>intro _;rfl
  | cons p qs ih =>
    intro h;have hp:=h p n19_;rw [List.flatMap_cons,n46_,List.sum_append,ih fun q hq=>h q (n16_ _ hq),Zlh F.edg hp (tr p hp) (bd p hp),n31_,List.sum_cons,Int.mul_add]
 exact this P.ps fun p hp=>hp
section
variable {n:Nat} {ps ks:List (?e)} (E:Edg ps ks)
include E
theorem Edg.qmem (hp:p∈ps) (t:Tri3 p) (b:inR n p) (q:?e):q∈Zr n ks p↔q.Pairwise (·<·)∧((∃ c∈p,∀ v,v∈q↔v=c∨∃ s∈Zn p,c∈s∧v=mdl n ks s)∨∀ v,v∈q↔∃ s∈Zn p,v=mdl n ks s):=by
 have T:=fun q=>E.tri (q:=q) hp t b;obtain ⟨x,y,z,l,m,h,rfl,u,_,⟨el,em,eh⟩,w,es,e⟩:=E.abc hp t b;rw [es,e];rw [e] at T
 have m1:∀ v,v∈[x,l,m]↔v=x∨∃ s∈[[x,y],[x,z],[y,z]],x∈s∧v=mdl n ks s:=fun v=>by
  have:¬ (x=y∨x=z):=?d
  simp [el,em,this]
 have m2:∀ v,v∈[y,l,h]↔v=y∨∃ s∈[[x,y],[x,z],[y,z]],y∈s∧v=mdl n ks s:=fun v=>by
  have:¬ (y=x∨y=z):=?d
  simp [el,eh,this]
 have m3:∀ v,v∈[z,m,h]↔v=z∨∃ s∈[[x,y],[x,z],[y,z]],z∈s∧v=mdl n ks s:=fun v=>by
  have:¬ (z=x∨z=y):=?d
  simp [em,eh,this]
 have m4:∀ v,v∈[l,m,h]↔∃ s∈[[x,y],[x,z],[y,z]],v=mdl n ks s:=fun v=>by simp [el,em,eh]
 constructor
 · intro hq;refine ⟨(T q hq).1.pw,?_⟩;simp only [n9_,n10_,or_false] at hq
   rcases hq with rfl|rfl|rfl|rfl
   · exact .inl ⟨x,by simp,m1⟩
   · exact .inl ⟨y,by simp,m2⟩
   · exact .inl ⟨z,by simp,m3⟩
   · exact .inr m4
 · rintro ⟨pw,⟨c,hc,hv⟩|hv⟩
   · simp only [n9_,n10_,or_false] at hc
     rcases hc with rfl|rfl|rfl
     · rw [Zbg pw (T [c,l,m] ?g).1.pw fun v=>(hv v).trans (m1 v).symm];simp
     · rw [Zbg pw (T [c,l,h] ?g).1.pw fun v=>(hv v).trans (m2 v).symm];simp
     · rw [Zbg pw (T [c,m,h] ?g).1.pw fun v=>(hv v).trans (m3 v).symm];simp
   · rw [Zbg pw (T [l,m,h] ?g).1.pw fun v=>(hv v).trans (m4 v).symm];simp
end
theorem Zwh {f:α→List β} {ps:List α} (nd:(ps.flatMap f).Nodup) {p:α} (hp:p∈ps):(f p).Nodup:=by
 obtain ⟨a,b,rfl⟩:=List.append_of_mem hp;rw [List.flatMap_append,List.flatMap_cons,n62_,n62_] at nd;exact nd.2.1.1
theorem Yq (h:Zb5 ks):ks.Nodup:=h.imp fun {a b} h e=>by rw [e,Zad] at h;cases h
section
variable {n:Nat} {f f2:Int→Int} {ps ps' ks0 ks:List (?e)} (L:Led n f ps ps') (E0:Edg ps ks0) (E:Edg ps' ks) (f1:∀ i:Int,0≤i∧i<n→f2 i=f i) (fm:∀ s∈ks0,f2 (mdl n ks0 s)=mdl n ks (ph f s))
include L E0 E
theorem Led.edges:ks.Perm (ks0.map (ph f)):=by
 refine Zb9 (Yq E.rise) ?_ fun k=>?_
 · rw [n26_,n50_];exact n66_ (fun {x y} hx hy ne e=>ne (L.rinj ((E0.mem x).mp hx) ((E0.mem y).mp hy) e)) (n26_.mp (Yq E0.rise))
 · rw [E.mem,L.mem,n24_];exact ⟨fun ⟨s,h,e⟩=>⟨s,(E0.mem s).mpr h,e⟩,fun ⟨s,h,e⟩=>⟨s,(E0.mem s).mp h,e⟩⟩
theorem Led.elen:ks.length=ks0.length:=by rw [(L.edges E0 E).length_eq,n5_]
theorem Led.ek {s:?e} (h:s∈ks0):ph f s∈ks:=(L.edges E0 E).mem_iff.mpr (n47_ h)
omit L E in
theorem Edg.low {i:Int} (h0:0≤i) (h:i<((n+ks0.length:Nat):Int)):(0≤i∧i<n)∨∃ s∈ks0,i=mdl n ks0 s:=by
 by_cases c:i<n
 · exact .inl ⟨h0,c⟩
 · have hk:i.toNat-n<ks0.length:=?d
   refine .inr ⟨ks0[i.toNat-n],n51_ _,?_⟩;unfold mdl;rw [List.Nodup.idxOf_getElem (Yq E0.rise)];omega
include f1 fm
theorem Led.ord2:Ordr (n+ks0.length) f2:=by
 have hl:=L.elen E0 E
 have md:∀ s∈ks0,(n:Int)≤mdl n ks (ph f s)∧mdl n ks (ph f s)<((n+ks0.length:Nat):Int):=fun s h=>by
  have:=(Zax (L.ek E0 E h)).1
  unfold mdl;omega
 refine ⟨fun i hi=>?_,fun i j hi hj e=>?_⟩
 · rcases E0.low (n:=n) hi.1 hi.2 with c|⟨s,hs,rfl⟩
   · rw [f1 i c];have:=L.ord.bd i c;omega
   · rw [fm s hs];have:=md s hs;omega
 · rcases E0.low (n:=n) hi.1 hi.2 with c|⟨s,hs,rfl⟩<;>rcases E0.low (n:=n) hj.1 hj.2 with d|⟨t,ht,rfl⟩
   · rw [f1 i c,f1 j d] at e;exact L.ord.inj i j c d e
   · rw [f1 i c,fm t ht] at e;have:=L.ord.bd i c;have:=md t ht;omega
   · rw [f1 j d,fm s hs] at e;have:=L.ord.bd j d;have:=md s hs;omega
   · rw [fm s hs,fm t ht] at e;rw [L.rinj ((E0.mem s).mp hs) ((E0.mem t).mp ht) (Zdy (L.ek E0 E hs) (L.ek E0 E ht) e)]
theorem Led.fin (nd:(ps.flatMap (Zr n ks0)).Nodup) {qs:List (?e)} (nq:qs.Nodup) (hq:∀ q,q∈qs↔∃ p∈ps',q∈Zr n ks p):Led (n+ks0.length) f2 (ps.flatMap (Zr n ks0)) qs:=by
 have O2:=L.ord2 E0 E f1 fm
 have tb:∀ q∈ps.flatMap (Zr n ks0),Tri3 q∧inR (n+ks0.length) q:=fun q hq=>by
  obtain ⟨p,hp,h⟩:=n55_.mp hq;exact E0.tri hp (L.tri p hp) (L.bd p hp) h
 refine ⟨O2,fun q hq=>(tb q hq).1,fun q hq=>(tb q hq).2,nd,Zb9 nq ?_ fun q'=>?_⟩
 · rw [n26_,n50_];exact n66_ (fun {x y} hx hy ne e=>ne (Zha O2 (tb x hx).1.pw (tb y hy).1.pw (tb x hx).2 (tb y hy).2 e)) (n26_.mp nd)
 have key:∀ p∈ps,∀ q∈Zr n ks0 p,ph f2 q∈Zr n ks (ph f p):=fun p hp q hq=>by
  have t:=L.tri p hp;have b:=L.bd p hp;have t':=Zj2 L.ord t b;have hp':ph f p∈ps':=L.pm.mem_iff.mpr (n47_ hp)
  have b':inR n (ph f p):=fun i hi=>by
   obtain ⟨c,hc,rfl⟩:=(Xr L.ord).mp hi;exact L.ord.bd c (b c hc)
  have tq:=E0.tri hp t b hq;rw [E.qmem hp' t' b'];refine ⟨(Zj2 O2 tq.1 tq.2).pw,?_⟩;have sd:∀ s∈Zn p,s∈ks0:=fun s hs=>E0.side hp hs
  rcases ((E0.qmem hp t b q).mp hq).2 with ⟨c,hc,hv⟩|hv
  · refine .inl ⟨f c,(Xr L.ord).mpr ⟨c,hc,rfl⟩,fun v=>?_⟩;rw [Xr O2];constructor
    · rintro ⟨w,hw,rfl⟩
      rcases (hv w).mp hw with rfl|⟨s,hs,hcs,rfl⟩
      · exact .inl (f1 _ (b _ hc))
      · exact .inr ⟨ph f s,(Zb0 L.ord t b _).mpr ⟨s,hs,rfl⟩,(Xr L.ord).mpr ⟨c,hcs,rfl⟩,fm s (sd s hs)⟩
    · rintro (rfl|⟨s',hs',hcs,rfl⟩)
      · exact ⟨c,(hv c).mpr (.inl rfl),f1 _ (b _ hc)⟩
      · obtain ⟨s,hs,rfl⟩:=(Zb0 L.ord t b _).mp hs';obtain ⟨d,hd,e⟩:=(Xr L.ord).mp hcs
        have:d=c:=L.ord.inj d c ((Zaw L.ord t b hs).2 d hd) (b c hc) e
        exact ⟨_,(hv _).mpr (.inr ⟨s,hs,this ▸ hd,rfl⟩),fm s (sd s hs)⟩
  · refine .inr fun v=>?_;rw [Xr O2];constructor
    · rintro ⟨w,hw,rfl⟩
      obtain ⟨s,hs,rfl⟩:=(hv w).mp hw;exact ⟨ph f s,(Zb0 L.ord t b _).mpr ⟨s,hs,rfl⟩,fm s (sd s hs)⟩
    · rintro ⟨s',hs',rfl⟩
      obtain ⟨s,hs,rfl⟩:=(Zb0 L.ord t b _).mp hs';exact ⟨_,(hv _).mpr ⟨s,hs,rfl⟩,fm s (sd s hs)⟩
 rw [hq,n24_];constructor
 · rintro ⟨p',hp',h⟩
   obtain ⟨p,hp,rfl⟩:=n24_.mp (L.pm.mem_iff.mp hp')
   have l4:((Zr n ks0 p).map (ph f2)).Perm (Zr n ks (ph f p)):=by
    have nd4:(Zr n ks0 p).Nodup:=Zwh nd hp;refine Zbi _ _ ?_ (fun x hx=>?_) (Nat.le_of_eq rfl)
    · rw [n26_,n50_];have mm:∀ x∈Zr n ks0 p,x∈ps.flatMap (Zr n ks0):=fun x hx=>n55_.mpr ⟨p,hp,hx⟩;exact n66_ (fun {x y} hx hy ne e=>ne (Zha O2 (tb x (mm x hx)).1.pw (tb y (mm y hy)).1.pw (tb x (mm x hx)).2 (tb y (mm y hy)).2 e)) (n26_.mp nd4)
    · obtain ⟨q,hq,rfl⟩:=n24_.mp hx;exact key p hp q hq
   obtain ⟨q,hq,e⟩:=n24_.mp (l4.mem_iff.mpr h);exact ⟨q,n55_.mpr ⟨p,hp,hq⟩,e⟩
 · rintro ⟨q,hq,rfl⟩
   obtain ⟨p,hp,h⟩:=n55_.mp hq;exact ⟨_,L.pm.mem_iff.mpr (n47_ hp),key p hp q h⟩
end
def insK (s:?e):List (?e)→List (?e)
 | []=>[s]
 | t :: ks=>if s=t then t :: ks else if HT.lexLt s t then s :: t :: ks else t :: insK s ks
def edgL (ps:List (?e)):List (?e):=(Zs ps).foldr insK []
def Zut (pts:List Pnt) (pcs:List (?e)):Bool :=
 decide (Zb5 (edgL pcs))&&((Zs pcs).all fun s=>decide (s∈edgL pcs))&&((edgL pcs).all fun s=>decide (s∈Zs pcs))&&(pcs.all fun p=>decide (p.length=3)&&decide (p.getD 0 0<p.getD 1 0∧p.getD 1 0<p.getD 2 0)) &&
  decide pcs.Nodup&&decide (pcs.flatMap (Zr pts.length (edgL pcs))).Nodup&&Zqj 30 40 (Xq pts (edgL pcs)) (pcs.flatMap (Zr pts.length (edgL pcs)))
structure Fine (pts:List Pnt) (pcs:List (?e)):Prop where
 edg:Edg pcs (edgL pcs)
 tri:∀ p∈pcs,Tri3 p
 nd1:pcs.Nodup
 nd:(pcs.flatMap (Zr pts.length (edgL pcs))).Nodup
 base:BaseG 30 40 (Xq pts (edgL pcs)) (pcs.flatMap (Zr pts.length (edgL pcs)))
theorem Zie:Zbt.all (fun s=>Zut s.1 s.2)=true:=?j
theorem Zlb {s:List Pnt×List (?e)} (h:s∈Zbt):Fine s.1 s.2:=by
 have:=n44_.mp Zie s h
 unfold Zut at this;simp only [n40_,decide_eq_true_eq,n44_] at this;obtain ⟨⟨⟨⟨⟨⟨h1,h2⟩,h3⟩,h4⟩,h5⟩,h6⟩,h7⟩:=this;exact ⟨⟨h1,fun k=>⟨h3 k,h2 k⟩⟩,fun p hp=>⟨(h4 p hp).1,(h4 p hp).2⟩,h5,h6,Zcj h7⟩
theorem Zs6 {xs ys:List (?e)} (nd:ys.Nodup) (h:xs.Perm ys):∃ q:List Nat,q.Perm (List.range ys.length)∧xs=q.map fun i=>ys.getD i []:=by
 refine ⟨xs.map fun x=>ys.idxOf x,(h.map _).trans (List.Perm.of_eq (n57_ ?g fun i h1 h2=>?_)),?_⟩
 · rw [List.getElem_map,List.getElem_range];exact List.Nodup.idxOf_getElem nd i _
 · rw [n64_]
   conv=>lhs;rw [← List.map_id xs]
   refine n78_ fun x hx=>?_;have hl:=List.idxOf_lt_length_of_mem (h.mem_iff.mp hx);show x=ys.getD (ys.idxOf x) []
   rw [n4_,n1_ hl,List.getElem_idxOf];rfl
section
variable {pts:List Pnt} {pcs:List (?e)} {A:Aff} {o:?e} {cs:List Pnt} {kl:List (?e)} {q:List Nat}
theorem Drawn.led (D:Drawn pts pcs A o cs kl q) (tri:∀ p∈pcs,Tri3 p) (nd:pcs.Nodup):Led pts.length (oAt o) pcs (q.map fun i=>kl.getD i []):=by
 have bd:∀ p∈pcs,inR pts.length p:=fun p hp i hi=>by
  obtain ⟨a,b,c,rfl,h1,h2,h3,_⟩:=Zop (D.base.pc p hp);simp only [n9_,n10_,or_false] at hi
  rcases hi with rfl|rfl|rfl<;>assumption
 refine ⟨Zsq D.ord,tri,bd,nd,?_⟩
 have e:kl=pcs.map (ph (oAt o)):=by
  refine n57_ (by rw [D.klen,n5_]) fun i h1 h2=>?_;have hi:i<pcs.length:=by rw [← D.klen];exact h1
  obtain ⟨p1,p2⟩:=D.key i hi
  have:=Zbo p1 p2
  rw [n4_,n1_ h1,n4_,n1_ hi] at this;rw [List.getElem_map];exact this
 refine (D.perm.map _).trans (List.Perm.of_eq ?_);rw [← e];exact n57_ (by simp [D.klen]) fun i h1 h2=>by simp [n4_,h2]
theorem Zu3 {P:Pl} (F:FinOk P P2 ks) (ok:PlOk P) (D:Drawn pts pcs A o P.cs kl q) (hps:P.ps=q.map fun i=>kl.getD i []) (S:Fine pts pcs) (wide:∀ p∈P.cs,(-50≤p.1∧p.1≤50)∧(-50≤p.2∧p.2≤50)):PlOk P2:=by
 have L:=D.led S.tri S.nd1;rw [← hps] at L;have hl:=D.len;have hel:=L.elen S.edg F.edg;generalize hk0:edgL pcs=ks0 at *;have E0:Edg pcs ks0:=hk0 ▸ S.edg;have E:=F.edg;have hol:=D.ord.len
 let o2:?e:=o++ks0.map fun s=>mdl pts.length ks (ph (oAt o) s)
 have f1:∀ i:Int,0≤i∧i<pts.length→oAt o2 i=oAt o i:=fun i hi=>by
  have:i.toNat<o.length:=?d
  show (o++_).getD i.toNat 0=o.getD i.toNat 0
  rw [n4_,n41_ this,n4_]
 have fm:∀ s∈ks0,oAt o2 (mdl pts.length ks0 s)=mdl pts.length ks (ph (oAt o) s):=fun s hs=>by
  obtain ⟨_,h2⟩:=Zax hs;show (o++_).getD (mdl pts.length ks0 s).toNat 0=_
  rw [show (mdl pts.length ks0 s).toNat=o.length+ks0.idxOf s by unfold mdl;omega,n4_,n34_ (?d),Nat.add_sub_cancel_left,n7_,h2];rfl
 have hb:=S.base;have nd4:=S.nd;rw [hk0] at hb nd4;have LF:=L.fin E0 E f1 fm nd4 (qs:=P2.ps) (Yq F.rise) fun x=>by rw [← hl];exact F.mem ok.t1 x
 have O2:=LF.ord;have n2:(Xq pts ks0).length=pts.length+ks0.length:=by simp [Xq]
 have c2:P2.cs.length=pts.length+ks0.length:=by rw [F.cs];simp [Xq,hl,hel]
 have CO:CoOrd (Xq pts ks0).length o2:=by
  rw [n2];refine ⟨by simp [o2,hol],fun j hj=>O2.bd j (?d),fun i j hi hj e=>?_,fun k hk=>?_⟩
  · have:=O2.inj i j (?d) (?d) e
    omega
  · by_cases c:k<pts.length
    · obtain ⟨j,hj,e⟩:=D.ord.sur k c;exact ⟨j,?d,(f1 j (?d)).trans e⟩
    · have hk2:k-pts.length<ks.length:=?d
      obtain ⟨s,hs,e⟩:=n24_.mp ((L.edges E0 E).mem_iff.mp (n51_ hk2));have hi:=(Zax hs).1;refine ⟨pts.length+ks0.idxOf s,?d,(show oAt o2 (mdl pts.length ks0 s)=k from ?_)⟩;rw [fm s hs,e];unfold mdl;rw [List.Nodup.idxOf_getElem (Yq E.rise)];omega
 let A2:Aff:=⟨A.a,A.b,A.c,A.d,2*A.s,2*A.t⟩
 have near2:∀ p∈P2.cs,near p:=fun p hp=>by
  rw [F.cs] at hp
  have w:∀ i:Int,(-50≤(cAt P.cs i).1∧(cAt P.cs i).1≤50)∧(-50≤(cAt P.cs i).2∧(cAt P.cs i).2≤50):=fun i=>by
   unfold cAt;rw [n4_];cases e:P.cs[i.toNat]? with
   | none=>decide
   | some p=>exact wide p (n6_ e)
  unfold near
  rcases n28_.mp hp with h|h
  · obtain ⟨x,hx,rfl⟩:=n24_.mp h
    have:=wide x hx
    dsimp only;omega
  · obtain ⟨s,_,rfl⟩:=n24_.mp h;have h1:=w (s.getD 0 0);have h2:=w (s.getD 1 0);dsimp only;omega
 have cor:∀ i:Int,0≤i∧i<pts.length→cAt P.cs (oAt o i)=A.at (cAt pts i):=fun i hi=>D.corner hi
 have at2:∀ j:Nat,j<(Xq pts ks0).length→P2.cs[(o2.getD j 0).toNat]? = some (A2.at ((Xq pts ks0).getD j (0,0))):=fun j hj=>by
  have hb2:0≤oAt o2 j∧oAt o2 j<((pts.length+ks0.length:Nat):Int):=O2.bd j (?d)
  have hlt:(o2.getD j 0).toNat<P2.cs.length:=by
   have:oAt o2 j=o2.getD j 0:=rfl
   omega
  have g:P2.cs[(o2.getD j 0).toNat]? = some (cAt P2.cs (oAt o2 j)):=by
   show _=some (P2.cs.getD (o2.getD j 0).toNat (0,0))
   rw [n1_ hlt,n4_ (l:=P2.cs),n1_ hlt];rfl
  rw [g];refine congrArg some ?_;show _=A2.at (cAt (Xq pts ks0) (j:Int))
  rw [F.cs]
  rcases E0.low (n:=pts.length) (i:=j) (?d) (?d) with c|⟨s,hs,e⟩
  · have hb:=D.ord.bd j (?d);rw [f1 j c,Zhi c,Zhi (cs:=P.cs) (i:=oAt o j) (by rw [hl];exact hb),cor j c];unfold Aff.at;refine Prod.ext ?_ ?_<;>(dsimp only [A2];grind)
  · have hsk:=L.ek E0 E hs;rw [e,fm s hs,Zdq hs,← hl,Zdq hsk];obtain ⟨p,hp,hsp⟩:=n55_.mp ((E0.mem s).mp hs);have si:=Zaw L.ord (L.tri p hp) (L.bd p hp) hsp;obtain ⟨a,b,rfl,lt,_,_⟩:=(Yk (L.tri p hp).len (L.tri p hp).up).mp hsp;have ca:=cor a (si.2 a ?g);have cb:=cor b (si.2 b ?g)
    have two:ph (oAt o) [a,b]=[oAt o a,oAt o b]∨ph (oAt o) [a,b]=[oAt o b,oAt o a]:=by
     by_cases c:oAt o a≤oAt o b
     · exact .inl (Zbo (.refl _) (by simp [c])).symm
     · exact .inr (Zbo (.swap ..) (by simp;omega)).symm
    show _=A2.at ((cAt pts a).1+(cAt pts b).1,(cAt pts a).2+(cAt pts b).2)
    rcases two with e2|e2<;>rw [e2]<;>simp only [List.getD_cons_zero,List.getD_cons_succ,ca,cb]<;>unfold Aff.at<;>refine Prod.ext ?_ ?_<;>(dsimp only [A2];grind)
 obtain ⟨q2,pq,eq2⟩:=Zs6 LF.mp_nd LF.pm
 have DG:DrawnG 30 40 (Xq pts ks0) (pcs.flatMap (Zr pts.length ks0)) A2 o2 P2.cs ((pcs.flatMap (Zr pts.length ks0)).map (ph (oAt o2))) q2:=by
  refine ⟨hb,D.det,fun p hp=>?_,CO,by rw [c2,n2],at2,by rw [n5_],fun i hi=>?_,by rw [n5_] at pq;exact pq⟩
  · obtain ⟨j,hj,e⟩:=n48_ hp
    have:=at2 j hj
    rw [n4_ (l:=Xq pts ks0),n1_ hj,e] at this;exact near2 _ (n6_ this)
  · rw [n4_,n7_,n4_,n1_ hi];exact ⟨X8 _,Zjl _⟩
 have r2:=F.rise;rw [eq2] at r2;have res:=DG.ok (ts:=P2.ts) (l:=P2.l) (m:=P2.m) r2 (by rw [F.len,LF.len]) (fun t ht=>?_) (by rw [F.l];exact ok.l9) (by rw [F.m];exact ok.m9) ?f ?f
 · rw [← eq2] at res;exact res
 · have h:=(F.rows.map (·.2)).mem_iff (a:=t);rw [List.map_snd_zip (Nat.le_of_eq F.len)] at h;obtain ⟨x,hx,rfl⟩:=n24_.mp (h.mp ht);obtain ⟨y,hy,hx⟩:=n55_.mp hx;obtain ⟨z,_,rfl⟩:=n24_.mp hx;exact ok.t9 _ (List.of_mem_zip hy).2
end
end L2
namespace L2
open PySem PySem.Spec PyProof.Rows PySem.W
structure PI2 where
 t:Addr
 a:Addr
 k:?e
 n:Int
abbrev pi2 (H:Hp) (x:PI2):Prop:=H x.t=some (.tup [.ref x.a,.int x.n])∧H x.a=some (.tup (x.k.map V.int))
abbrev pD:PI2:=⟨0,0,[],0⟩
abbrev Zai (al:List PI2):List V:=al.map fun x=>V.ref x.t
theorem Zp2 {al:List PI2} (nd:(al.map (·.k)).Nodup):Ord al.length (fun i j=>HT.lexLt (al.getD i pD).k (al.getD j pD).k):=by
 have e:∀ i (h:i<al.length),al.getD i pD=al[i]:=fun i h=>by simp [n4_,h]
 refine ⟨fun i _=>Zad _,fun i j hi hj ne=>?_,fun i j k hi hj hk h1 h2=>Za1 _ _ _ h1 h2⟩;show HT.lexLt _ _ = !HT.lexLt _ _
 refine Ze9 _ _ fun z=>ne ?_;rw [e i hi,e j hj] at z;exact (n60_ (h₀:=by simpa using hi) (h₁:=by simpa using hj) nd).mp (by simpa using z)
theorem Zho:∀ {al:List PI2} {its:?q},Vals (Zai al) its→its=al.map fun x=>Value.ref x.t
 | [],_,.nil=>rfl
 | x :: al,_,.cons r1 r=>by
   cases (show _=Value.ref x.t from r1)
   rw [Zho r];rfl
theorem Zew:∀ (al:List PI2),Vals (Zai al) (al.map fun x=>Value.ref x.t)
 | []=>.nil
 | x :: al=>.cons rfl (Zew al)
variable {X:Cx}
theorem Zcu (hu:X.A.units+3<cLine):Yv X (.builtin "sorted") (fun xs H Q=>∃ (p:Addr) (al:List PI2),xs=[.ref p]∧SqL X.K H p (Zai al)∧(∀ x∈al,pi2 H x)∧(al.map (·.k)).Nodup∧al.length<64 ∧
 ∀ (l:Addr) (ql:List PI2),H l=none→ql.Perm al→(ql.Pairwise fun x y=>HT.lexLt x.k y.k=true)→Q (.ref l) (upd H l (.lst (Zai ql)))):=by
 intro pins s σ H xs us Q I r h;obtain ⟨p,al,rfl,hq,ht,nd,h64,q⟩:=h;cases r with
 | cons rx r =>
   cases r
   cases (show _=Value.ref p from rx)
   obtain ⟨its,rv,pl,hz⟩:=I.list hq;have eits:=Zho rv;subst eits;have o:=Zp2 nd;have en:(al.map fun x=>Value.ref x.t).length=al.length:=by simp
   have ev:∀ i (h:i<al.length),(al.map fun x=>Value.ref x.t).getD i Value.none=Value.ref al[i].t:=fun i h=>by simp [n4_,h]
   have ea:∀ i (h:i<al.length),al.getD i pD=al[i]:=fun i h=>by simp [n4_,h]
   have tup:∀ x∈al,∃ tn,IsTup s.heap x.t #[.ref x.a,.int x.n tn]∧∃ ia,IsTup s.heap x.a ia∧IntsAre ia.toList x.k:=fun x hx=>by
    obtain ⟨h1,h2⟩:=ht x hx;obtain ⟨jt,rj,pt,_⟩:=I.tuple (SqT.of h1);obtain ⟨ja,ra,pa,_⟩:=I.tuple (SqT.of h2);cases rj with
    | cons r1 rj=>cases rj with
      | cons r2 rj =>
        cases rj
        cases r1
        obtain ⟨tn,rfl⟩:=r2;exact ⟨tn,pt,ja.toArray,pa,by simpa using X6 ra⟩
   have up:∀ {h1:Heap} {a:Addr} {it:Array Value},(∀ b u,s.heap.get? b=some u→h1.get? b=some u)→IsTup s.heap a it→IsTup h1 a it:=fun k1 ⟨ob,e,c⟩=>⟨ob,k1 _ _ e,c⟩;refine Zm7 (fun q=>q.Perm (List.range al.length)∧(q.map fun i=>al.getD i pD).Pairwise (fun x y=>HT.lexLt x.k y.k=true)) (fun h2=>?_) pl.isList (by rw [en];omega) (fun h2 h1 k1=>?_) fun p' gp=>?_
   · rw [en] at h2 ⊢;refine ⟨.refl _,?_⟩
     have:al.length=0∨al.length=1:=?d
     rcases this with e|e<;>rw [e]
     · exact .nil
     · exact .cons ?g .nil
   · rw [en] at h2 ⊢
     obtain ⟨fs,f1,f2,f3⟩:=Zea (h:=h1) (vs:=al.map fun x=>Value.ref x.t) fun v hv=>by
      obtain ⟨x,hx,rfl⟩:=n24_.mp hv;obtain ⟨tn,⟨ot,g1,c1,n1,d1⟩,ia,⟨oa,ga,ca,_⟩,_⟩:=tup x hx;exact ⟨x.t,ot,_,n1,x.a,oa,rfl,k1 _ _ g1,c1,d1,rfl,k1 _ _ ga,ca⟩
     refine kat_kind (T:=.type "tuple") f1 (by rw [f2,en];omega) (fun v hv=>?_) rfl ⟨rfl,?_⟩
     · obtain ⟨c,o2,rfl,g,cl⟩:=f3 v hv;rw [← cl];exact (Looks.ld g).andThen .now
     · obtain ⟨r1,r2,r3⟩:=Zia o (?d);refine Zji (n:=al.length) (f:=fun i j=>HT.lexLt (al.getD i pD).k (al.getD j pD).k) (fun i j C hi hj hC=>?_) _ r1 ⟨rfl,r2,n50_.mpr r3⟩;obtain ⟨tn,p1,ia,pa,na⟩:=tup al[i] (n51_ hi);obtain ⟨tn',p1',ia',pa',na'⟩:=tup al[j] (n51_ hj);replace p1:=up k1 p1;replace p1':=up k1 p1';replace pa:=up k1 pa;replace pa':=up k1 pa';unfold kas_ask;rw [ev i hi,ev j hj];obtain ⟨ot,g1,_,n1,d1⟩:=p1;obtain ⟨ot',g1',_,n1',d1'⟩:=p1';refine kat_lt g1 d1 g1' d1' ?_;have hu2:X.A.in1.in1.units<cLine:=by rw [Around.in1_units,Around.in1_units];omega
       rw [ea i hi,ea j hj] at hC;refine kat_cons (Zl8 (s:={ s with heap:=h1 }) pa pa' na na' hu2 _ _ _ _ ?_)
       by_cases e:al[i].k=al[j].k
       · have:i=j:=(n60_ (h₀:=by simpa using hi) (h₁:=by simpa using hj) nd).mp (by simpa using e)
         subst this;rw [n32_ rfl];rw [Zad] at hC;refine kat_yes (kat_cons (wpAny_eqBool_int ?_));rw [beq_self_eq_true];exact kat_yes (kat_nil hC)
       · rw [n36_ e];exact kat_no (kat_one _ _ (HT.lt_tupInts (s:={ s with heap:=h1 }) pa pa' na na' hu2 hC))
   · obtain ⟨e,he⟩:=sortedAll_at s.heap (al.map fun x=>Value.ref x.t) (p'.map fun i=>(al.map fun x=>Value.ref x.t).getD i Value.none).toArray;have fr:H (s.z+1)=none:=I.hok.fresh (Nat.le_succ _);have lt:∀ i∈p',i<al.length:=fun i hi=>n35_.mp (gp.1.mem_iff.mp hi)
     have ep:(p'.map fun i=>al.getD i pD).Perm al:=by
      refine (gp.1.map _).trans (.of_eq ?_);refine n57_ ?g fun i a1 a2=>?_;simp [n4_,a2]
     have ew:(p'.map fun i=>(al.map fun x=>Value.ref x.t).getD i Value.none)=(p'.map fun i=>al.getD i pD).map fun x=>Value.ref x.t:=by
      rw [n64_];refine n78_ fun i hi=>?_
      have:=lt i hi
      simp [n4_,this]
     rw [ew] at he;refine ⟨.ref (s.z+1),_,I.laid (o:=.lst (Zai (p'.map fun i=>al.getD i pD))) (t':=s.toks) (fun b u e=>sortedAll_old e) (Nat.le_succ _) ⟨?_,_,e,Zew _,by rw [ew];exact he⟩,rfl,q _ _ fr ep gp.2⟩;rw [n5_,ep.length_eq,sizeLine_eq];omega
end L2
namespace PySem
section
variable {prog:Program} {w:World} {A:Around} {E:Value→?i} {s:Shared} {it d:Addr} {i ep:Nat} {es:Array DictEntry}
theorem Zqv {x:DictEntry} {Q:Option Value→?i} (hit:s.heap.IsValIter it d i es.size ep) (hm:EntAt s.heap d es ep) (hx:es[i]? = some x)
 (hQ:∀ h',h'.IsValIter it d (i+1) es.size ep→Heap.SameBut it s.heap h'→Q (some x.val) { s with heap:=h' }):wpAny ?p A (pyNext (.ref it)) Q E s:=by
 obtain ⟨o,ho,hc,hd⟩:=id hit;obtain ⟨od,e0,q0⟩:=hm;obtain ⟨li,rfl⟩:=Array.getElem?_eq_some_iff.mp hx;unfold pyNext;refine n0_ <| wpAny_attempt <| wpAny_callSpecial?_slot (name:=Str.ofString "__next__") hit.typeIs F.slot_dict_valueiterator_next <| wpAny_call_entry F.slot_dict_valueiterator_next hit.typeIs F.entry_dict_valueiterator_next ?_ (F.args_dict_valueiterator_next_1 _);refine n0_ <| n2_ <| n0_ <| n0_ <| n0_ <| wpAny_typeNameOfWhole_valiter hit.typeIs <| n2_ <| n0_ <| wpAny_fieldsOf ho hd ?_;have own:Builtin.Dict_items.ownsTuple "dict_valueiterator" = false:=by decide
 simp only [own,n20_,if_false];show wpAny _ _ (if (Value.ref d == Value.none)=true then _ else _) _ _ _
 rw [if_neg (by intro z;cases z)];refine n0_ <| n2_ <| n0_ <| wpAny_dictEntries e0 q0 ?_;rw [if_neg ?g];refine n0_ <| n2_ <| n0_ <| wpAny_dictEpoch e0 q0 ?_;rw [if_neg ?g];refine n2_ ?_;have nn:¬ ((i:Int)<0):=?d
 simp only [nn,if_false,n63_,hx];refine n0_ <| n0_ <| wpAny_typeNameOfWhole_valiter hit.typeIs <| n2_ <| n0_ <| wpAny_isOneOf_valiter hit.typeIs ?_;show wpAny _ _ (setField (.ref it) 1 (rawInt ((i:Int)+1)) >>= _) _ _ s
 refine n0_ (wpAny_setField ho hd ?g ?_)
 have hit':(s.heap.update it (Obj.mapFields (·.setIfInBounds 1 (rawInt ((i:Int)+1))))).IsValIter it d (i+1) es.size ep :=
  ⟨_,n56_ _ ho (Obj.isFreed_of_fields (Obj.data_mapFields hd _)),(Obj.cls_mapFields ..).trans hc,by rw [Obj.data_mapFields hd];simp [rawInt]⟩
 refine n0_ (n30_ ?_);refine n0_ (wpAny_isOneOf_valiter (s:={ s with heap:=s.heap.update it (Obj.mapFields (·.setIfInBounds 1 (rawInt ((i:Int)+1)))) }) hit'.typeIs ?_);refine n0_ (wpAny_isOneOf_valiter (s:={ s with heap:=s.heap.update it (Obj.mapFields (·.setIfInBounds 1 (rawInt ((i:Int)+1)))) }) hit'.typeIs ?_);show wpAny _ _ (pure es[i].val) _ _ _
 exact n2_ (n2_ ⟨_,rfl,n2_ (hQ _ hit' (Heap.SameBut.update ..))⟩)
theorem Ztx {Q:Option Value→?i} (hh:A.handled=none) (hit:s.heap.IsValIter it d i es.size ep) (hm:EntAt s.heap d es ep) (hx:es[i]? = none)
 (hQ:∀ h',Heap.ExtBut it s.heap h'→Q none { s with heap:=h' }):wpAny ?p A (pyNext (.ref it)) Q E s:=by
 obtain ⟨o,ho,hc,hd⟩:=id hit;obtain ⟨od,e0,q0⟩:=hm;unfold pyNext;refine n0_ <| wpAny_attempt <| wpAny_callSpecial?_slot (name:=Str.ofString "__next__") hit.typeIs F.slot_dict_valueiterator_next <| wpAny_call_entry F.slot_dict_valueiterator_next hit.typeIs F.entry_dict_valueiterator_next ?_ (F.args_dict_valueiterator_next_1 _);refine n0_ <| n2_ <| n0_ <| n0_ <| n0_ <| wpAny_typeNameOfWhole_valiter hit.typeIs <| n2_ <| n0_ <| wpAny_fieldsOf ho hd ?_;have own:Builtin.Dict_items.ownsTuple "dict_valueiterator" = false:=by decide
 simp only [own,n20_,if_false];show wpAny _ _ (if (Value.ref d == Value.none)=true then _ else _) _ _ _
 rw [if_neg (by intro z;cases z)];refine n0_ <| n2_ <| n0_ <| wpAny_dictEntries e0 q0 ?_;rw [if_neg ?g];refine n0_ <| n2_ <| n0_ <| wpAny_dictEpoch e0 q0 ?_;rw [if_neg ?g];refine n2_ ?_;have nn:¬ ((i:Int)<0):=?d
 simp only [nn,if_false,n63_,hx];refine n0_ <| n0_ <| wpAny_typeNameOfWhole_valiter hit.typeIs <| n2_ ?_;show wpAny _ _ (setField (.ref it) 0 .none >>= _) _ _ s
 refine n0_ (wpAny_setField ho hd ?g ?_);show wpAny _ _ (newExc (.type "StopIteration") [] >>= _) _ _ _
 refine n0_ ?_;simp only [newExc,newTuple];refine n0_ (wpAny_newObj_type ?_ (by size_fits));refine n0_ (m:=firstArgMember _ _) (wpAny_of_eq (a:=Value.none) (by first|rfl|(simp only [firstArgMember];rfl)) ?_);refine wpAny_newObj_type ?_ (by size_fits);simp only [raiseNew];refine n0_ (wpAny_handled ?_);rw [show A.in1.handled=none from hh];refine n0_ (n2_ (wpAny_throw ?_));refine n0_ (wpAny_isInstance (T := "StopIteration") (b:=true) ⟨_,n8_ _ rfl,rfl⟩ isSubtype_stop ?_);exact n2_ (hQ _ (((Heap.SameBut.update ..).extBut.push _).push _))
theorem Zlj (d:Addr) (hd:(d == sysModules)=false):MeetsIn prog w (Builtin.«dict.values» ⟨[.ref d],[]⟩) (fun _ R s=>s.TypeIs (.ref d) "dict" ∧
 R (.ok (.ret (.ref s.z))) { s with heap:=s.heap.push { cls:=.type "dict_values",data:=.fields #[.ref d] } }) :=
 .of_wp fun A R s ⟨ty,h⟩=>by
  unfold Builtin.«dict.values»;refine n0_ ?_;unfold Builtin.Dict.noArgs;refine n0_ <| wpAny_notOrdered_dict ty ?_;show wpAny _ _ (pure d) _ _ s
  refine n2_ ?_;show wpAny _ _ (Builtin.Dict.showsAll d >>= _) _ _ s
  unfold Builtin.Dict.showsAll;rw [if_neg (by rw [hd];intro z;cases z)];exact n0_ <| n2_ <| n0_ <| wpAny_newObj_type <| n2_ ⟨_,rfl,h⟩
theorem Zqn {v:Addr} {Q:Value→?i} (hv:s.heap.IsValuesView v d) (hm:EntAt s.heap d es ep)
 (hQ:∀ h',h'.IsValIter s.z d 0 es.size ep→(∀ b o,s.heap.get? b=some o→h'.get? b=some o)→Q (.ref s.z) { s with heap:=h' }):wpAny ?p A (pyIter (.ref v)) Q E s:=by
 obtain ⟨o1,e1,c1,q1⟩:=id hv;obtain ⟨od,e0,q0⟩:=hm;refine wpAny_pyIter_slot hv.typeIs F.slot_dict_values_iter <| wpAny_call_entry F.slot_dict_values_iter hv.typeIs F.entry_dict_values_iter ?_ (F.args_dict_values_iter_1 _);unfold Builtin.«dict_values.__iter__»;refine n0_ <| n2_ <| n0_ ?_;unfold Builtin.Dict_items.dictOf;refine n0_ <| wpAny_field e1 q1 (x:=.ref d) rfl <| n2_ <| n0_ ?_;unfold Builtin.Dict_items.newIterator;refine n0_ <| wpAny_dictEntries e0 q0 <| n0_ <| wpAny_dictEpoch e0 q0 ?_;have own:Builtin.Dict_items.ownsTuple "dict_valueiterator" = false:=by decide
 simp only [own,n20_,if_false];refine wpAny_newObj_type <| n2_ ⟨_,rfl,"dict_valueiterator",_,⟨_,n8_ _ rfl,rfl⟩,F.slot_dict_valueiterator_next.lookup,?_⟩;exact hQ _ ⟨_,n8_ _ rfl,rfl,rfl⟩ fun b o e=>n3_ _ e
end
end PySem
namespace L2
open PySem PySem.Spec PyProof.Rows
def Itv (o:Obj) (d:Addr):It where
 go:=fun i H=>∃ kvs,H d=some (.frz o (.dT kvs))∧i<kvs.length
 yld:=fun i H v H'=>∃ (k:List Key),H'=H∧∀ kvs,H d=some (.frz o (.dT kvs))→kvs[i]? = some (k,v)
 stop:=fun i H=>∃ kvs,H d=some (.frz o (.dT kvs))∧kvs.length≤i
variable {D a it:Addr} {X:Cx} {tg:Expr} {H:Hp} {pins:?y} {vs:List V} {ep:Nat} {o:Obj} {u0 u1:Option V} {P:Program} {s:Shared} {rest σ:St} {te:TE} {Q:Value→?i} {w:World}
theorem Znu {K:PySem.W.Frag} {d:Addr} {es:Array DictEntry} (od:o.data=.dict es ep) (nd:d≠it) :
 Turn P w K tg (Itv o d) [it] it (fun n h=>h.IsValIter it d n es.size ep) where
 mem:=by simp
 obj:=fun n h st b hb=>by
  rw [n25_.mp hb];obtain ⟨u,e,_,q⟩:=st;exact ⟨u,e,fun v r=>by rw [q] at r;cases r⟩
 keep:=fun n h h' st f=>st.at fun u e=>f it ?g u e
 item:=by
  intro X hP hw hK hc n pins s σ H E I hf st hg;subst hP hw hK;obtain ⟨kvs,hd,hn⟩:=hg;obtain ⟨ent,sz,at_⟩:=Zo4 I.hok hd od;obtain ⟨⟨k,y⟩,ek⟩:∃ p,kvs[n]? = some p:=⟨kvs[n],n1_ hn⟩;obtain ⟨b,u,t,ex,hb,ru⟩:=at_ n k y ek
  refine Zqv st ent ex fun h' r1 r2=>?_;refine ⟨_,rfl,letGo_valiter (s':={ s with heap:=h' }) r1 ?_⟩;refine ⟨y,H,I.turnOnly (t':=s.toks) (ch:=[it]) (fun c o' ne q=>r2.extBut _ _ (fun z=>ne (by simp [z])) q) hf,ru,⟨k,rfl,fun kvs' e'=>?_⟩,r1,fun c hc=>(hf c hc).1⟩;rw [hd] at e';cases e';exact ek
 done:=by
  intro X hP hw hK hc n pins s σ H E I hf st hg;subst hP hw hK;obtain ⟨kvs,hd,hn⟩:=hg;obtain ⟨ent,sz,_⟩:=Zo4 I.hok hd od;refine Ztx (show X.A.handled=none from I.ok.hd hc) st ent (Array.getElem?_eq_none (?d)) fun h' x=>⟨rfl,?_⟩;exact I.turnOnly (t':=s.toks) (ch:=[it]) (fun c o' ne q=>x c o' (fun z=>ne (by rw [z];simp)) q) hf
 self:=fun A i s Q E st q=>wpAny_pyIter_valiter st q
section
variable {X:Cx} {tg:Expr}
inductive BxIVals (R:It→?o) (x:V) (H1:Hp):Prop
 | mk (d:_) (kvs:_) (q1:x=.ref d) (q2:H1 d=some (.dT kvs)) (q3:∀ o,R (Itv o d) (upd H1 d (.frz o (.dT kvs)))):BxIVals R x H1
def Zwb (td:TE):TI:=fun σ H R=>td σ H fun x H1=>BxIVals R x H1
theorem Zts {o:Expr} {td:TE} {apos cpos:Pos} (ho:PE X o td)
 (hbase:attributeBase o "values" X.env (eval o X.env)=eval o X.env:=by rfl) (hline:(apos.endLine == cpos.line)=true:=by rfl):PI X tg (.Call (.Attribute o "values" apos) [] [] cpos) (Zwb td):=by
 intro pins s σ H R I h;refine wpAny_Call_method0_late hbase hline (thn (ho pins s σ H _ I h) fun v s1 zq=>?_);obtain ⟨x,H1,I1,r1,d,kvs,ex,hd,q⟩:=zq;subst ex;cases (show v=Value.ref d from r1)
 obtain ⟨t1,t2,_⟩:=Zjw I1 (.inr ⟨kvs,.inl hd⟩);obtain ⟨ob,es,ep,od,nm,ent,I2⟩:=I1.freeze hd;refine ⟨"dict","dict.values",PySem.F.plainAttrs_dict,PySem.F.slot_dict_values,PySem.F.type_dict_values,t1,t2,Calls.callWith_builtin rfl (PySem.evalArgs_none ?_)⟩;refine call_meetsIn PySem.F.slot_dict_values t1 PySem.F.entry_dict_values (PySem.F.args_dict_values_1 _) (Zlj d nm) ⟨t1,?_⟩;have n1:(s1.heap.push { cls:=.type "dict_values",data:=.fields #[.ref d] }).objs.size=s1.z+1:=n43_ ..;refine Zqn (d:=d) (es:=es) (ep:=ep) ⟨_,n8_ _ rfl,rfl,rfl⟩ (ent.at fun o e=>n3_ _ e) fun h' e1 k1=>?_;have k2:∀ b o,s1.heap.get? b=some o→h'.get? b=some o:=fun b o e=>k1 b o (n3_ _ e);have ld:d<s1.z:=let ⟨_,e,_⟩:=ent;n13_ e;have nd:d≠(s1.heap.push { cls:=.type "dict_values",data:=.fields #[.ref d] }).objs.size:=n27_ (by rw [n1];exact n54_ ld);have le:s1.z≤(s1.heap.push { cls:=.type "dict_values",data:=.fields #[.ref d] }).objs.size:=by rw [n1];exact Nat.le_succ _
 refine ⟨_,_,_,_,_,rfl,I2.kept (t':=s1.toks) k2,Znu od nd,e1,fun b hb=>?_,q ob⟩;rw [n25_.mp hb];exact I2.fpOk le (by rw [Zh nd.symm];exact I1.hok.fresh le)
end
section
variable {prog:Program} {w:World} {K:Type} [DecidableEq K] {knd:HeapKind prog w K} {A:Around} {E:Value→?i} {s:Shared}
theorem Zig {d:Addr} {xs:List (K×Addr×Value)} {k:K} {v:Value} (hu:knd.room A) (hkey:knd.is s.heap k a) (hm:s.heap.DictOfH knd d xs)
 (h1:∀ p,atKey xs k=some p→Q p.2 { s with toks:=s.toks+knd.draws k })
 (h2:atKey xs k=none→∀ h',h'.DictOfH knd d (storedH xs k a v)→Heap.SameBut d s.heap h'→Q v { s with heap:=h',toks:=s.toks+knd.draws k })
 (hsz:xs.length≤sizeLine):wpAny ?p A (dictSetDefault d (.ref a) v) Q E s:=by
 obtain ⟨o,es,ep,ho,hc,hd,he,his,hn⟩:=hm;unfold dictSetDefault;refine n30_ ?_;refine n0_ (knd.pyHash hu hkey ?_);refine n0_ (wpAny_dictFind_heap (s:={ s with toks:=s.toks+knd.draws k }) hu hkey ho hd he his hn ?_ ?_)
 · intro hno;have hnot:k∉xs.map (·.1):=not_mem_keys_of_get hno;have hz:es.size≤sizeLine:=by have e:=size_of_entries he;omega
   refine n0_ (wpAny_rule (n0_ (wpAny_updateDictKeys (hz:=hz) (s:={ s with toks:=s.toks+knd.draws k }) ho hd (n2_ (h2 (atKey_none_of_get hno) _ ⟨_,_,ep+1,n56_ _ ho (Obj.isFreed_of_dict (Obj.data_mapDictKeys hd _)),hc.mapDictKeys _,Obj.data_mapDictKeys hd _,?_,?_,?_⟩ (Heap.SameBut.update ..))))))
   · rw [storedH_new (atKey_none_of_get hno)];simp [he,entryOfKey]
   · rw [storedH_new (atKey_none_of_get hno)];intro x hx
     rcases n28_.mp hx with hx|hx
     · exact knd.keeps (his x hx) ho hd (Heap.SameBut.update ..)
     · obtain rfl:=n25_.mp hx;exact knd.keeps hkey ho hd (Heap.SameBut.update ..)
   · rw [storedH_new (atKey_none_of_get hno),n46_,n62_];refine ⟨hn,by simp,fun x hx y hy=>?_⟩;obtain rfl:y=k:=by simpa using hy
     exact fun e=>hnot (e ▸ hx)
 · intro j p hj;have hp:=h1 p (atKey_of_get hn hj);refine n0_ (wpAny_dictEntries (s:={ s with toks:=s.toks+knd.draws k }) ho hd ?_);rw [entry_at he j,hj];exact n0_ (wpAny_rule (n2_ hp))
end
inductive BxRSetD (x:V) (vs:List V) (H:Hp) (Q:VK):Prop
 | mk (a:_) (b:_) (kvs:_) (k:_) (y:_) (q1:x=.ref a) (q2:vs=[.ref b,y]) (q3:H a=some (.dT kvs)) (q4:H b=some (.tup (k.map kV))) (q5:kvs.length<sizeLine) (q6:(∀ v,valV kvs k=some v→Q v H)) (q7:(valV kvs k=none→Q y (upd H a (.dT (putK kvs k y))))):BxRSetD x vs H Q
def Zw0:V→List V→Hp→VK→Prop:=fun x vs H Q=>BxRSetD x vs H Q
theorem Zl2 (hu:X.A.units+1<cLine):MtR X "dict.setdefault" Zw0:=by
 intro pins s σ H x vs v us Q I rx rv h;obtain ⟨a,b,kvs,k,y,rfl,rfl,e,eb,l,q1,q2⟩:=h;cases rx
 cases rv with
 | cons rb rv =>
   cases rv with
   | cons ry rv =>
     cases rv
     rename_i ub uy
     cases (show ub=Value.ref b from rb)
     obtain ⟨z,hd,xs,rel,dd⟩:=Ztg I.hok e;have hz:xs.length≤sizeLine:=by rw [← Paired.length rel];exact z
     have hl:(putK kvs k y).length≤sizeLine:=by have:=Yx kvs k y;omega
     refine wpAny_call_entry F.slot_dict_setdefault dd.typeIs F.entry_dict_setdefault ?_ (F.args_dict_setdefault_3 _ _ _);unfold Builtin.«dict.setdefault»;refine n0_ ?_;unfold Builtin.Dict.keyAndDefault;refine n0_ (wpAny_notOrdered_dict dd.typeIs ?_);show wpAny _ _ (pure (a,Value.ref b,some uy)) _ _ s
     refine n2_ ?_;show wpAny _ _ (if (a == sysModules)=true then _ else (dictSetDefault a (.ref b) uy >>= _)) _ _ s
     rw [if_neg (by rw [hd];exact n17_)];have rv:=KT.val rel k;refine n0_ (Zig (tupleKind_room_in1 hu) (Zd9 I.hok eb) dd (fun p hp=>n2_ ⟨_,rfl,?_⟩) (fun hn h' dd' hs=>n2_ ⟨_,rfl,?_⟩) hz)
     · rw [hp] at rv;cases ev:valV kvs k with
       | none=>rw [ev] at rv;cases rv
       | some v =>
         rw [ev] at rv;exact ⟨v,H,I.kept fun b o e=>e,rv,q1 v ev⟩
     · rw [hn] at rv
       have ev:valV kvs k=none:=by
        cases ev:valV kvs k with
        | none=>rfl
        | some v=>rw [ev] at rv;cases rv
       obtain ⟨q,es,ep,hq,h2,h3,h4,_,h5⟩:=dd';refine ⟨y,_,Zce (ob:=.dT (putK kvs k y)) I (by rw [e];exact True.intro) hs ⟨q,hq⟩ ⟨hl,hd,_,(rel.put k eb ry).keeps fun c ys ec=>?_,q,es,ep,hq,h2,h3,h4,h5⟩,ry,q2 ev⟩;rw [Zh (Zim ec e (fun z=>nomatch z))];exact ec
section
variable {X:Cx}
inductive BxRc_lenT (xs:List V) (H:Hp) (Q:VK):Prop
 | mk (a:Addr) (kvs:List (List Key×V)) (q1:xs=[.ref a]) (q2:H a=some (.dT kvs)) (q3:Q (.int kvs.length) H):BxRc_lenT xs H Q
theorem Zn9:Yv X (.builtin "len") BxRc_lenT:=by
 intro pins s σ H xs us Q I r h;obtain ⟨p,kvs,rfl,hq,q⟩:=h;obtain ⟨u,rfl,ru⟩:=Zh0 r;cases (show _=Value.ref p from ru)
 obtain ⟨t1,_,nm⟩:=Zjw I (.inr ⟨kvs,.inl hq⟩);obtain ⟨z,hd,xs,rel,o,es,ep,g,_,d,ees,_⟩:=(show ObjOk X.prog X.w H s.heap p (.dT kvs) from I.hok p _ hq);have hl:es.size=kvs.length:=by rw [← Array.length_toList,ees,n5_,rel.length]
 refine Calls.call_function_entry kind_len plain_len entry_len (args_len1 _) ?_;show wpAny _ _ (Builtin.«len» ⟨[.ref p],[]⟩) _ _ _
 unfold Builtin.«len»;refine n0_ (m:=oneArg "len" _) (n2_ ?_);refine n0_ (m:=callSpecial? (.ref p) (Str.ofString "__len__")) (wpAny_callSpecial?_slot (name:=Str.ofString "__len__") t1 PySem.F.slot_dict_len (wpAny_call_entry PySem.F.slot_dict_len t1 PySem.F.entry_dict_len ?_ (PySem.F.args_dict_len_1 _)));show wpAny _ _ (dictSize p >>= _) _ _ s
 unfold dictSize;refine n0_ (n0_ (wpAny_dictEntries g d (n2_ ?_)));show wpAny _ _ (Builtin.Dict.pendingCount p >>= _) _ _ s
 refine n0_ (wpAny_pendingCount_other nm ?_);refine wpAny_ret_mkInt ?_;have e0:((es.size:Int)+((0:Nat):Int))=(kvs.length:Int):=?d
 rw [e0];have fit:(kvs.length:Int)<2^63:=by rw [sizeLine_eq] at z;omega
 show wpAny _ _ _ _ _ { s with toks:=s.toks+1 }
 refine n0_ (n30_ (n2_ ?_));refine n0_ (wpAny_letGo ?_);show wpAny _ _ (if ((kvs.length:Nat):Int)<0 then _ else _) _ _ _
 rw [if_neg (?d)];show wpAny _ _ (if ((kvs.length:Nat):Int) ≥ 2^63 then _ else _) _ _ _
 rw [if_neg (?d)];exact n0_ (wpAny_mkInt (n2_ ⟨_,rfl,.int kvs.length,H,I.tok _,⟨_,rfl⟩,q⟩))
inductive BxRc_mm (g:Int→Int→Int) (K:PySem.W.Frag) (xs:List V) (H:Hp) (Q:VK):Prop
 | mk (p:Addr) (i j:Int) (q1:xs=[.ref p]) (q2:SqL K H p [.int i,.int j]) (q3:Q (.int (g i j)) H):BxRc_mm g K xs H Q
theorem Zn8 {p:Addr} {i j:Int} {Q:VK} {op:CmpOp} {g:Int→Int→Int} (hc:X.calm=true) (I:?k) (hq:SqL X.K H p [.int i,.int j]) (q:Q (.int (g i j)) H) (bt:(Nat→Int)→Nat→Nat→Bool)
 (hb:∀ {P:Nat→Value→Prop} (val:Nat→Int),(∀ i v,P i v→∃ t,v=.int (val i) t)→CmpOf X.prog X.w X.A.in1 op P (bt val)) (hg:∀ val:Nat→Int,val 0=i→val 1=j→val (argBest (bt val) 1)=g i j) :
 wpAny ?t X.A.in1 (pyIter (.ref p)) (fun it s₂=>∃ I fp wr n P St bt,it=.ref I∧Walks X.prog X.w X.A.in1 I fp wr n P St∧St 0 s₂.heap∧(∀ b∈fp,b<s₂.heap.objs.size)∧0<n∧CmpOf X.prog X.w X.A.in1 op P bt ∧
  ∀ v h' tk,P (argBest bt (n-1)) v→(∀ b o,b∉wr→s₂.heap.get? b=some o→h'.get? b=some o)→EP X pins σ Q v { s₂ with heap:=h',toks:=tk }) X.xe s:=by
 have hh:X.A.in1.handled=none:=I.ok.hd hc;obtain ⟨its,rv,pl,_⟩:=I.list hq;obtain ⟨u,v,rfl,⟨t,rfl⟩,⟨t',rfl⟩⟩:=Vals.two rv;have lt:p<s.heap.objs.size:=let ⟨o,_,e,_⟩:=pl;n13_ e
 let val:Nat→Int:=fun n=>if n=0 then i else j
 have W:=Walks.list (prog:=X.prog) (w:=X.w) hh s.heap.objs.size p (n27_ lt) [Value.int i t,Value.int j t'].toArray;refine wpAny_pyIter_list pl.isList ⟨s.heap.objs.size,[s.heap.objs.size,p],[s.heap.objs.size],2,_,_,bt val,rfl,W,⟨⟨_,n8_ _ rfl,rfl,rfl⟩,pl.isList.push _⟩,fun b hb=>?_,by decide,hb val ?_,?_⟩
 · show b<(s.heap.push _).objs.size
   rw [n43_]
   rcases n9_.mp hb with rfl|hb
   · exact Nat.lt_succ_self _
   · rw [n25_.mp hb];exact n54_ lt
 · intro n v hv
   match n,hv with
   | 0,hv=>cases hv;exact ⟨t,rfl⟩
   | 1,hv=>cases hv;exact ⟨t',rfl⟩
   | n+2,hv=>simp at hv
 · intro v h' tk hv k
   have e:∃ t,v=.int (g i j) t:=by
    rw [← hg val rfl rfl];generalize argBest (bt val) (2-1)=n at hv ⊢
    match n,hv with
    | 0,hv=>cases hv;exact ⟨t,rfl⟩
    | 1,hv=>cases hv;exact ⟨t',rfl⟩
    | n+2,hv=>simp at hv
   exact ⟨.int (g i j),H,I.kept (t':=tk) fun b o e=>k b o (fun z=>n77_ _ (n13_ (n25_.mp z ▸ e))) (n3_ _ e),e,q⟩
theorem Znt (hc:X.calm=true):Yv X (.builtin "min") (BxRc_mm (fun i j=>if j<i then j else i) X.K):=by
 intro pins s σ H xs us Q I r h;obtain ⟨p,i,j,rfl,hq,q⟩:=h;obtain ⟨u,rfl,ru⟩:=Zh0 r;cases (show _=Value.ref p from ru)
 refine call_min_walk (Zn8 (g:=fun i j=>if j<i then j else i) hc I hq q (fun val a b=>decide (val a<val b)) (fun val hv=>CmpOf.ints_lt val hv) fun val e0 e1=>?_);unfold argBest argBest;rw [e0,e1]
 by_cases c:j<i<;>simp [c,e0,e1]
theorem Zov (hc:X.calm=true):Yv X (.builtin "max") (BxRc_mm (fun i j=>if j>i then j else i) X.K):=by
 intro pins s σ H xs us Q I r h;obtain ⟨p,i,j,rfl,hq,q⟩:=h;obtain ⟨u,rfl,ru⟩:=Zh0 r;cases (show _=Value.ref p from ru)
 refine call_max_walk (Zn8 (g:=fun i j=>if j>i then j else i) hc I hq q (fun val a b=>decide (val a>val b)) (fun val hv=>CmpOf.ints_gt val hv) fun val e0 e1=>?_);unfold argBest argBest;rw [e0,e1]
 by_cases c:i<j<;>simp [c,e0,e1]
end
theorem Zwj {c:Bool} {K:PySem.W.Frag} {xss:List (?e)} {Q:VK} (ha:SqT K H a vs) (al:Al (fun v ns=>∃ b,v=.ref b∧SqT K H b (ns.map V.int)) vs xss) (hz:vs.length≤1000) (hn:∀ ns∈xss,ns.length≤1000) (hD:H D=none)
 (hs:∀ (w:V) (n:Int) (H2:Hp) (C:V→?o),(∃ ns∈xss,n∈ns)→Same H H2→(∀ H3,Same H2 H3→C (.bl c) H3)→te (some w :: some (.int n) :: rest) H2 C)
 (hd:∀ H2 (bs:List Bool),Same H H2→H2 D=some (.lst (bs.map V.bl))→(∀ x∈bs,x=c)→Q (.ref D) H2) :
 Zsb (Itt K a) (Zy 0) (iTup K (tVar 0)) (Zy 1) te (u0 :: u1 :: rest) H D Q:=by
 refine ⟨fun i m σ H'=>i≤vs.length∧m=vs.length-i∧∃ u u' bs,σ=u :: u' :: rest∧Same H H'∧H' D=some (.lst (bs.map V.bl))∧(∀ x∈bs,x=c)∧bs.length≤i*1000,⟨_,n42_ _,rfl,u0,u1,[],rfl,Same.new hD,Zc,by simp,n42_ _⟩,?_⟩;rintro i m σ2 H2 ⟨hi,rfl,u,u',bs,rfl,s2,h2,hb,hl⟩
 by_cases hlt:i<vs.length
 · refine .inr ⟨⟨_,vs[i],s2.sqT ha,n1_ hlt⟩,fun x H3 y=>?_⟩;obtain ⟨rfl,yx⟩:=y;have ex:=yx _ (s2.sqT ha);obtain ⟨ns,en,b,rfl,hns⟩:=al.get ex;have nl:=hn ns (n6_ en);refine ⟨_,rfl,b,rfl,⟨_,s2.sqT hns⟩,?_⟩;refine ⟨fun j m1 σ H'=>j≤ns.length∧m1=ns.length-j∧∃ u' bs,σ=some (.ref b) :: u' :: rest∧Same H H'∧H' D=some (.lst (bs.map V.bl))∧(∀ x∈bs,x=c)∧bs.length≤i*1000+j,⟨_,n42_ _,rfl,_,bs,rfl,s2,h2,hb,hl⟩,?_⟩;rintro j m1 σ6 H6 ⟨hj,rfl,v',bs6,rfl,s6,h6,hb6,hl6⟩
   by_cases hj2:j<ns.length
   · refine .inr ⟨⟨_,(ns.map V.int)[j]'(by simpa using hj2),s6.sqT hns,n1_ (by simpa using hj2)⟩,fun y H7 y7=>?_⟩;obtain ⟨rfl,yy⟩:=y7;have ey:=yy _ (s6.sqT hns);rw [n7_,n1_ hj2] at ey;cases ey
     refine hs _ _ _ _ ⟨ns,n6_ en,n51_ hj2⟩ s6 fun H8 s8=>?_;refine ⟨bs6.map V.bl,s8 _ _ h6,by rw [n5_,sizeLine_eq];omega,ns.length-(j+1),?d,hj2,rfl,_,bs6++[c],rfl,?_,?_,?_,?_⟩
     · intro b' o' e';rw [Zh (fun z=>by rw [z,hD] at e';cases e')];exact s8 _ _ (s6 _ _ e')
     · rw [Zc,n46_];rfl
     · intro x hx
       rcases n28_.mp hx with hx|hx
       · exact hb6 x hx
       · exact n25_.mp hx
     · rw [n21_,List.length_singleton];omega
   · refine .inl ⟨⟨_,s6.sqT hns,by rw [n5_];omega⟩,vs.length-(i+1),?d,hlt,rfl,_,_,bs6,rfl,s6,h6,hb6,?d⟩
 · exact .inl ⟨⟨_,s2.sqT ha,?d⟩,hd H2 bs s2 h2 hb⟩
section
variable {X:Cx}
theorem Ze7:seqSlot? (.type "list") (dunderI "add")=pure (some (.builtin "list.__iadd__")):=PySem.seqSlot_of PySem.F.slot_list_iadd.lookup (?j)
theorem Zso:OpR X (inplaceOp .Add) (fun x y H Q=>∃ l b xs zs,x=.ref l∧y=.ref b∧H l=some (.lst xs)∧H b=some (.lst zs)∧xs.length+zs.length≤sizeLine∧Q (.ref l) (upd H l (.lst (xs++zs)))):=by
 intro pins s σ H x y v u Q I rx ry h;obtain ⟨l,b,xs,zs,rfl,rfl,hH,hB,hz,q⟩:=h;cases rx
 cases ry
 obtain ⟨z,its,n,r,hl,e⟩:=I.lstM hH;obtain ⟨z2,its2,n2,r2,hl2,e2⟩:=I.lstM hB;have hsz:its.toArray.size+its2.toArray.size≤sizeLine:=by rw [n15_,n15_];omega
 have hlong:¬ (!its.toArray.isEmpty&&Builtin.List.listTooLong (its.toArray.size+its2.toArray.size))=true:=by
  rw [Zga hsz,Bool.and_false];exact n17_
 have ha:s.TypeIs (.ref l) "list" := ⟨_,e,rfl⟩;have hb:s.TypeIs (.ref b) "list" := ⟨_,e2,rfl⟩;unfold inplaceOp;refine n30_ ?_
 have hfi:fillsInplaceSlot (.type "list") "add" (Operator.Add == .Add)=pure false:=by
  unfold fillsInplaceSlot;show (typeLookup (.type "list") (dunderI "add") >>= fun fi=>pure (fi.isSome&&!isSeqSlot fi))=pure false
  rw [PySem.F.slot_list_iadd.lookup];show (pure (true&&!isSeqSlot (some (.builtin "list.__iadd__"))):Sem Bool)=pure false
  rw [show isSeqSlot (some (.builtin "list.__iadd__"))=true by decide +kernel];rfl
 refine n0_ (wpAny_typeOf ha (n0_ (wpAny_of_eq hfi ?_)));show wpAny _ _ (if false=true then _ else _) _ _ s
 rw [if_neg n17_];refine n0_ (wpAny_binaryOp1_none (nm := "add") ha hb noFill_list_add ?_);refine n0_ (wpAny_of_eq Ze7 ?_);refine n0_ (wpAny_rule (call_meets PySem.F.slot_list_iadd ha PySem.F.entry_list_iadd (PySem.F.args_list_iadd_2 _ _) (AutoSeq1.list___iadd___list_list_0 l its.toArray n b its2.toArray n2 hlong (by rw [n15_];omega) (?d)) ⟨e,e2,?_⟩));refine ⟨.ref l,_,I.lset (its':=its++its2) hH e ?g (r.append r2) ?_,rfl,q⟩;rw [n21_];omega
end
open AutoSeq1 (wpAny_loadPart')
section
variable {X:Cx} {α:Type} [DecidableEq α] {d:Nat} {R:Hp→V→α→Prop}
end
end L2
namespace L2
open PySem PySem.Spec PyProof.Rows PySem.W
variable {X:Cx}
theorem Zk7:OpR X (compareOp .IsNot) (fun x y H Q=>∃ b,x=.bl b∧y=.bl true∧Q (.bl (!b)) H):=by
 intro pins s σ H x y v u Q I rx ry h;obtain ⟨b,rfl,rfl,q⟩:=h;cases rx
 cases ry
 cases b<;>exact n2_ ⟨.bl _,H,I,rfl,q⟩
end L2
set_option maxHeartbeats 4000000
theorem L2.gen_upd {H H1:L2.Hp} {p:PySem.Addr} {o:L2.HO} (g:L2.upd H p o=H1) (n:H p=none):L2.Same H H1∧H1 p=some o:=g▸⟨L2.Same.new n,L2.Zc⟩
namespace My
open PySem PySem.Spec PyProof.Rows L2
def top (i:Nat):Stmt:=PySem.Challenge.pw_platerest_k56_finer_plates.main.body.getD i (.Pass ⟨0,0,0,0⟩)
theorem Zrf:bootBuiltins "abs" = some (.builtin "abs"):=?j
theorem Zbd:bootBuiltins "all" = some (.builtin "all"):=?j
theorem Zq7:bootBuiltins "any" = some (.builtin "any"):=?j
theorem Zsj:bootBuiltins "bool" = some (.type "bool"):=?j
theorem Zr4:bootBuiltins "dict" = some (.type "dict"):=?j
theorem Zuo:bootBuiltins "int" = some (.type "int"):=?j
theorem Zao:bootBuiltins "isinstance" = some (.builtin "isinstance"):=?j
theorem Yw:bootBuiltins "len" = some (.builtin "len"):=?j
theorem Zsm:bootBuiltins "list" = some (.type "list"):=?j
theorem Zoo:bootBuiltins "max" = some (.builtin "max"):=?j
theorem Zru:bootBuiltins "min" = some (.builtin "min"):=?j
theorem Zf6:bootBuiltins "repr" = some (.builtin "repr"):=?j
theorem Zre:bootBuiltins "set" = some (.type "set"):=?j
theorem Y8:bootBuiltins "sorted" = some (.builtin "sorted"):=?j
theorem Zu5:bootBuiltins "sum" = some (.builtin "sum"):=?j
theorem Yp:bootBuiltins "tuple" = some (.type "tuple"):=?j
structure Bt (mg:Str→Option Value):Prop where
 b_abs:mg "abs" = none
 b_all:mg "all" = none
 b_any:mg "any" = none
 b_bool:mg "bool" = none
 b_dict:mg "dict" = none
 b_enumerate:mg "enumerate" = none
 b_int:mg "int" = none
 b_isinstance:mg "isinstance" = none
 b_len:mg "len" = none
 b_list:mg "list" = none
 b_max:mg "max" = none
 b_min:mg "min" = none
 b_range:mg "range" = none
 b_repr:mg "repr" = none
 b_set:mg "set" = none
 b_sorted:mg "sorted" = none
 b_sum:mg "sum" = none
 b_tuple:mg "tuple" = none
 b_zip:mg "zip" = none
 n_FARTHEST:∃ t,mg "FARTHEST" = some (.int 100 t)
 n_FEWEST_CORNERS:∃ t,mg "FEWEST_CORNERS" = some (.int 3 t)
 n_MOST_CORNERS:∃ t,mg "MOST_CORNERS" = some (.int 30 t)
 n_MOST_PIECES:∃ t,mg "MOST_PIECES" = some (.int 40 t)
 n_MOST_STUFF:∃ t,mg "MOST_STUFF" = some (.int 9 t)
 n_THICKEST:∃ t,mg "THICKEST" = some (.int 9 t)
theorem Xp {a n:Nat} (h:a<2^64) (hn:64≤n:=by decide):a<2^n:=n23_ h (Nat.pow_le_pow_right ?f hn)
inductive BxSp_is_whole (vs:List V) (H:Hp) (Q:VK):Prop
 | mk (a:Int) (q1:vs=[.int a]) (q2:Q (.bl true) H):BxSp_is_whole vs H Q
def Zdd:Sp:=fun vs H Q _=>BxSp_is_whole vs H Q
def StAt (H:Hp) (l:Addr):Prop:=∃ s0 s1 s2:Int,H l=some (.lst [.int s0,.int s1,.int s2])∧0≤s1∧s1<4294967296
theorem StAt.same {H H':Hp} {l:Addr} (s:StAt H l) (k:Same H H'):StAt H' l:=by
 obtain ⟨a,b,c,h,r⟩:=s;exact ⟨a,b,c,k _ _ h,r⟩
theorem StAt.new {H:Hp} {l p:Addr} {o:HO} (s:StAt H l) (h:H p=none):StAt (upd H p o) l:=by
 obtain ⟨a,b,c,e,r⟩:=s;exact ⟨a,b,c,by rw [Zh (Zi e h)];exact e,r⟩
theorem StAt.ne {H:Hp} {l p:Addr} (s:StAt H l) (h:H p=none):l≠p:=by
 obtain ⟨a,b,c,e,r⟩:=s;exact Zi e h
inductive BxSp_cell (K:PySem.W.Frag) (vs:List V) (H:Hp) (Q:VK):Prop
 | mk (a:Addr) (ns:?e) (k:Nat) (q1:vs=[.ref a,.int k]) (q2:SqL K H a (ns.map V.int)) (q3:∀ c:Int,Q (.int c) H):BxSp_cell K vs H Q
def Zn1 (K:PySem.W.Frag):Sp:=fun vs H Q _=>BxSp_cell K vs H Q
inductive BxSp_state (K:PySem.W.Frag) (vs:List V) (H:Hp) (Q:VK):Prop
 | mk (a:Addr) (ns:?e) (k:Nat) (q1:vs=[.ref a,.int k]) (q2:SqL K H a (ns.map V.int)) (q3:∀ (p:Addr) (H':Hp),H p=none→Same H H'→StAt H' p→Q (.ref p) H'):BxSp_state K vs H Q
def Zkx (K:PySem.W.Frag):Sp:=fun vs H Q _=>BxSp_state K vs H Q
inductive BxSp_choice (vs:List V) (H:Hp) (Q:VK):Prop
 | mk (l:Addr) (m:Int) (q1:vs=[.ref l,.int m]) (q2:StAt H l) (q3:0<m) (q4:m.natAbs<2^8999) (q5:∀ (r:Int) (H':Hp),0≤r→r<m→Keep l H H'→StAt H' l→Q (.int r) H'):BxSp_choice vs H Q
def Zdg:Sp:=fun vs H Q _=>BxSp_choice vs H Q
theorem mulS {a b:Int} (ha:a.natAbs<2^64) (hb:b.natAbs<2^64):CMulB a b:=⟨n23_ ha (Nat.pow_le_pow_right ?f ?f),n23_ hb (Nat.pow_le_pow_right ?f ?f)⟩
theorem p64:(2:Nat)^64=18446744073709551616:=by decide
theorem blT {p:Prop} [Decidable p] (h:p):V.bl (decide p)=V.bl true:=by rw [n32_ h]
theorem qT {p:Prop} [Decidable p] (h:p) {Q:VK} {H:Hp} (q:Q (.bl true) H):Q (.bl (decide p)) H:=by rw [blT h];exact q
theorem mul3 {a b:Int} (ha:a.natAbs≤1000) (hb:b.natAbs≤1000):CMulB a b:=⟨Nat.lt_of_le_of_lt ha (n23_ (by decide:(1000:Nat)<2^10) (Nat.pow_le_pow_right ?f ?f)),Nat.lt_of_le_of_lt hb (n23_ (by decide:(1000:Nat)<2^10) (Nat.pow_le_pow_right ?f ?f))⟩
inductive BxSp_between (vs:List V) (H:Hp) (Q:VK):Prop
 | mk (i lo hi:Int) (q1:vs=[.int i,.int lo,.int hi]) (q2:lo≤i) (q3:i≤hi) (q4:Q (.bl true) H):BxSp_between vs H Q
def Zez:Sp:=fun vs H Q _=>BxSp_between vs H Q
inductive BxSp_row (vs:List V) (H:Hp) (Q:VK):Prop
 | mk (a:Addr) (us:List V) (lo hi:Int) (q1:vs=[.ref a,.int lo,.int hi]) (q2:H a=some (.tup us)) (q3:lo≤us.length) (q4:(us.length:Int)≤hi) (q5:Q (.bl true) H):BxSp_row vs H Q
def Zrl:Sp:=fun vs H Q _=>BxSp_row vs H Q
inductive BxSp_risingI (vs:List V) (H:Hp) (Q:VK):Prop
 | mk (a:Addr) (ns:?e) (q1:vs=[.ref a]) (q2:H a=some (.tup (ns.map V.int))) (q3:ns.length≤1000) (q4:(∀ (i:Nat) (x y:Int),ns[i]? = some x→ns[i+1]? = some y→x<y)) (q5:∀ H',Same H H'→Q (.bl true) H'):BxSp_risingI vs H Q
def Zes:Sp:=fun vs H Q _=>BxSp_risingI vs H Q
inductive BxSp_risingT (vs:List V) (H:Hp) (Q:VK):Prop
 | mk (a:Addr) (us:List V) (ks:List (?e)) (q1:vs=[.ref a]) (q2:H a=some (.tup us)) (q3:Al (IsI H) us ks) (q4:us.length≤1000) (q5:(∀ (i:Nat) (x y:?e),ks[i]? = some x→ks[i+1]? = some y→HT.lexLt x y=true)) (q6:∀ H',Same H H'→Q (.bl true) H'):BxSp_risingT vs H Q
def Ze3:Sp:=fun vs H Q _=>BxSp_risingT vs H Q
inductive BxSp_corner (vs:List V) (H:Hp) (Q:VK):Prop
 | mk (v:V) (p:Pnt) (q1:vs=[v]) (q2:IsP H v p) (q3:near p) (q4:∀ H',Same H H'→Q (.bl true) H'):BxSp_corner vs H Q
def Zhf:Sp:=fun vs H Q _=>BxSp_corner vs H Q
inductive BxSp_corners (vs:List V) (H:Hp) (Q:VK):Prop
 | mk (v:V) (cs:List Pnt) (q1:vs=[v]) (q2:IsCs H v cs) (q3:3≤cs.length) (q4:cs.length≤30) (q5:(∀ p∈cs,near p)) (q6:cs.Nodup) (q7:∀ H',Same H H'→Q (.bl true) H'):BxSp_corners vs H Q
def Zev:Sp:=fun vs H Q _=>BxSp_corners vs H Q
inductive BxSp_turn (vs:List V) (H:Hp) (Q:VK):Prop
 | mk (u v w:V) (a b c:Pnt) (q1:vs=[u,v,w]) (q2:IsP H u a) (q3:IsP H v b) (q4:IsP H w c) (q5:near a) (q6:near b) (q7:near c) (q8:Q (.int (tn a b c)) H):BxSp_turn vs H Q
def Zol:Sp:=fun vs H Q _=>BxSp_turn vs H Q
theorem cut1 (xs:List V):cutV xs (some 1) none=xs.drop 1:=by
 unfold cutV;have e1:HT.sIx xs.length xs.length none=xs.length:=rfl
 have e2:HT.sIx xs.length 0 (some 1)=min 1 xs.length:=by
  unfold HT.sIx
  simp
  try omega
 rw [e1,e2];cases xs with
 | nil=>rfl
 | cons x xs=>simp
theorem Zkp {α:Type} (x:α):∀ n:Nat,(List.replicate n [x]).flatten=List.replicate n x
 | 0=>rfl
 | n+1=>by rw [n69_,List.flatten_cons,Zkp x n];rfl
theorem allT (n:Nat):(List.replicate n true).all id=true:=by rw [List.all_replicate];split<;>rfl
theorem repT {n i:Nat} (h:i<n):(List.replicate n true)[i]? = some true:=by rw [List.getElem?_replicate,if_pos h]
theorem Yt {α:Type} {l:List α} {i:Nat} {x:α} (h:l[i]? = some x):i<l.length:=(n12_.mp h).1
abbrev RB:Hp→V→Bool→Prop:=fun _ v b=>v=V.bl b
theorem hRB:∀ H1 H2 v x,Tk H1 H2→RB H1 v x→RB H2 v x:=fun _ _ _ _ _ e=>e
abbrev RI:Hp→V→Int→Prop:=fun _ v b=>v=V.int b
theorem hRI:∀ H1 H2 v x,Tk H1 H2→RI H1 v x→RI H2 v x:=fun _ _ _ _ _ e=>e
theorem hRP:∀ H1 H2 v x,Tk H1 H2→IsP H1 v x→IsP H2 v x:=fun _ _ _ _ t h=>h.tk t
theorem hRII:∀ H1 H2 v x,Tk H1 H2→IsI H1 v x→IsI H2 v x:=fun _ _ _ _ t h=>h.tk t
theorem hRT:∀ H1 H2 v x,Tk H1 H2→IsT H1 v x→IsT H2 v x:=fun _ _ _ _ t h=>h.tk t
inductive BxSp_turnOf (vs:List V) (H:Hp) (Q:VK):Prop
 | mk (u v:V) (cs:List Pnt) (p:?e) (q1:vs=[u,v]) (q2:IsCs H u cs) (q3:IsI H v p) (q4:p.length=3) (q5:(∀ i∈p,0≤i∧i≤(cs.length:Int)-1)) (q6:(∀ p∈cs,near p)) (q7:Q (.int (dOf cs p)) H):BxSp_turnOf vs H Q
def Zhy:Sp:=fun vs H Q _=>BxSp_turnOf vs H Q
inductive BxSp_isPiece (vs:List V) (H:Hp) (Q:VK):Prop
 | mk (u v:V) (cs:List Pnt) (p:?e) (q1:vs=[u,v]) (q2:IsCs H u cs) (q3:IsI H v p) (q4:PieceOk cs p) (q5:(∀ p∈cs,near p)) (q6:∀ H',Same H H'→Q (.bl true) H'):BxSp_isPiece vs H Q
def Zer:Sp:=fun vs H Q _=>BxSp_isPiece vs H Q
inductive BxSp_pieces (vs:List V) (H:Hp) (Q:VK):Prop
 | mk (u v:V) (cs:List Pnt) (ps:List (?e)) (q1:vs=[u,v]) (q2:IsCs H u cs) (q3:IsPs H v ps) (q4:1≤ps.length) (q5:ps.length≤40) (q6:(∀ p∈ps,PieceOk cs p)) (q7:(∀ i:Nat,i+1<ps.length→HT.lexLt (ps.getD i []) (ps.getD (i+1) [])=true)) (q8:(∀ p∈cs,near p)) (q9:∀ H',Same H H'→Q (.bl true) H'):BxSp_pieces vs H Q
def Zgg:Sp:=fun vs H Q _=>BxSp_pieces vs H Q
inductive BxSp_thicks (vs:List V) (H:Hp) (Q:VK):Prop
 | mk (u v:V) (ps:List (?e)) (ts:?e) (q1:vs=[u,v]) (q2:IsPs H u ps) (q3:IsI H v ts) (q4:ts.length=ps.length) (q5:ps.length≤40) (q6:(∀ t∈ts,1≤t∧t≤9)) (q7:∀ H',Same H H'→Q (.bl true) H'):BxSp_thicks vs H Q
def Zh2:Sp:=fun vs H Q _=>BxSp_thicks vs H Q
inductive BxSp_stuff (vs:List V) (H:Hp) (Q:VK):Prop
 | mk (v:V) (l m:Int) (q1:vs=[v]) (q2:IsI H v [l,m]) (q3:(0≤l∧l≤9)) (q4:(1≤m∧m≤9)) (q5:Q (.bl true) H):BxSp_stuff vs H Q
def Zki:Sp:=fun vs H Q _=>BxSp_stuff vs H Q
theorem Zlr {H:Hp} {cs:List Pnt} {us:List V} (A:Al (IsP H) us cs) {i:Int} (h0:0≤i) (h1:i≤(cs.length:Int)-1):∃ v,atI us i=some v∧IsP H v (cAt cs i):=by
 obtain ⟨n,rfl⟩:∃ n:Nat,i=n:=⟨i.toNat,?d⟩;have hn:n<cs.length:=?d
 obtain ⟨v,ev,r⟩:=A.got (n1_ hn);refine ⟨v,Zca ev,?_⟩
 have:cAt cs (n:Int)=cs[n]:=by unfold cAt;simp [n4_,hn]
 rw [this];exact r
theorem X0 {cs:List Pnt} {i:Int} (h0:0≤i) (h1:i≤(cs.length:Int)-1):cAt cs i∈cs:=by
 have hn:i.toNat<cs.length:=?d
 unfold cAt;rw [n4_,n1_ hn];exact n51_ hn
theorem Zvt {p:?e} (h:p.length=3):p=[p.getD 0 0,p.getD 1 0,p.getD 2 0]:=by
 match p,h with
 | [a,b,c],_=>rfl
def IsE (H:Hp) (v:V) (e:Pnt×Pnt):Prop:=∃ a x y,v=.ref a∧H a=some (.tup [x,y])∧IsP H x e.1∧IsP H y e.2
inductive BxSp_tri (vs:List V) (H:Hp) (Q:VK):Prop
 | mk (u v:V) (cs:List Pnt) (p:?e) (q1:vs=[u,v]) (q2:IsCs H u cs) (q3:IsI H v p) (q4:p.length=3) (q5:(∀ i∈p,0≤i∧i≤(cs.length:Int)-1)) (q6:(∀ p∈cs,near p)) (q7:∀ H' w,Same H H'→IsT H' w (trOf cs p)→Q w H'):BxSp_tri vs H Q
def Zrb:Sp:=fun vs H Q _=>BxSp_tri vs H Q
inductive BxSp_edges (vs:List V) (H:Hp) (Q:VK):Prop
 | mk (v:V) (t:Tri) (q1:vs=[v]) (q2:IsT H v t) (q3:∀ H' w,Same H H'→IsTup' IsE H' w t.edges→Q w H'):BxSp_edges vs H Q
def Zk2:Sp:=fun vs H Q _=>BxSp_edges vs H Q
inductive BxSp_liesIn (vs:List V) (H:Hp) (Q:VK):Prop
 | mk (u v:V) (p:Pnt) (t:Tri) (q1:vs=[u,v]) (q2:IsP H u p) (q3:IsT H v t) (q4:near p) (q5:t.near) (q6:∀ H',Same H H'→Q (.bl (Zbz p t)) H'):BxSp_liesIn vs H Q
def Zhs:Sp:=fun vs H Q _=>BxSp_liesIn vs H Q
inductive BxSp_partsFrom (vs:List V) (H:Hp) (Q:VK):Prop
 | mk (u v:V) (t r:Tri) (q1:vs=[u,v]) (q2:IsT H u t) (q3:IsT H v r) (q4:t.near) (q5:r.near) (q6:∀ H',Same H H'→Q (.bl (Y9 t r)) H'):BxSp_partsFrom vs H Q
def Zck:Sp:=fun vs H Q _=>BxSp_partsFrom vs H Q
inductive BxSp_apart (vs:List V) (H:Hp) (Q:VK):Prop
 | mk (u v:V) (t r:Tri) (q1:vs=[u,v]) (q2:IsT H u t) (q3:IsT H v r) (q4:t.near) (q5:r.near) (q6:∀ H',Same H H'→Q (.bl (L2.apart t r)) H'):BxSp_apart vs H Q
def Zkf:Sp:=fun vs H Q _=>BxSp_apart vs H Q
inductive BxSp_used (vs:List V) (H:Hp) (Q:VK):Prop
 | mk (u v:V) (cs:List Pnt) (ps:List (?e)) (q1:vs=[u,v]) (q2:IsCs H u cs) (q3:IsPs H v ps) (q4:(∀ p∈ps,p.length=3)) (q5:ps.length≤40) (q6:cntS ps.flatten=cs.length) (q7:cs.length≤30) (q8:∀ H',Same H H'→Q (.bl true) H'):BxSp_used vs H Q
def Zmz:Sp:=fun vs H Q _=>BxSp_used vs H Q
inductive BxSp_strange (vs:List V) (H:Hp) (Q:VK):Prop
 | mk (u v w:V) (cs:List Pnt) (p:?e) (t:Tri) (q1:vs=[u,v,w]) (q2:IsCs H u cs) (q3:IsI H v p) (q4:IsT H w t) (q5:cs.length≤30) (q6:(∀ p∈cs,near p)) (q7:t.near) (q8:(∀ j:Nat,j<cs.length→(j:Int)∉p→Zbz (cs.getD j (0,0)) t=false)) (q9:∀ H',Same H H'→Q (.bl true) H'):BxSp_strange vs H Q
def Ze5:Sp:=fun vs H Q _=>BxSp_strange vs H Q
structure FitOk (cs:List Pnt) (ps:List (?e)):Prop where
 c30:cs.length≤30
 nr:∀ p∈cs,near p
 p40:ps.length≤40
 pc:∀ p∈ps,PieceOk cs p
 strange:∀ p∈ps,∀ j:Nat,j<cs.length→(j:Int)∉p→Zbz (cs.getD j (0,0)) (trOf cs p)=false
 apart:∀ i j:Nat,i<j→j<ps.length→L2.apart (trOf cs (ps.getD j [])) (trOf cs (ps.getD i []))=true
inductive BxSp_fit (vs:List V) (H:Hp) (Q:VK):Prop
 | mk (u v:V) (cs:List Pnt) (ps:List (?e)) (q1:vs=[u,v]) (q2:IsCs H u cs) (q3:IsPs H v ps) (q4:FitOk cs ps) (q5:∀ H',Same H H'→Q (.bl true) H'):BxSp_fit vs H Q
def Zqz:Sp:=fun vs H Q _=>BxSp_fit vs H Q
inductive BxSp_isPlate (vs:List V) (H:Hp) (Q:VK):Prop
 | mk (v:V) (P:Pl) (q1:vs=[v]) (q2:IsPl H v P) (q3:PlOk P) (q4:∀ H',Same H H'→Q (.bl true) H'):BxSp_isPlate vs H Q
def Zei:Sp:=fun vs H Q _=>BxSp_isPlate vs H Q
inductive BxSp_lookPlate (vs:List V) (H:Hp) (Q:VK):Prop
 | mk (v:V) (P:Pl) (q1:vs=[v]) (q2:IsPl H v P) (q3:PlOk P) (q4:∀ H',Same H H'→Q .non H'):BxSp_lookPlate vs H Q
def Zcl:Sp:=fun vs H Q _=>BxSp_lookPlate vs H Q
theorem Zhw {cs:List Pnt} {p:?e} (hb:∀ i∈p,0≤i∧i≤(cs.length:Int)-1) (hl:p.length=3) (nr:∀ p∈cs,near p):(trOf cs p).near:=by
 obtain ⟨a,b,c,rfl⟩:=len3 hl;have ha:=nr _ (X0 (hb a ?g).1 (hb a ?g).2);have hb':=nr _ (X0 (hb b ?g).1 (hb b ?g).2);have hc:=nr _ (X0 (hb c ?g).1 (hb c ?g).2);show (tri (cAt cs a) (cAt cs b) (cAt cs c)).near
 unfold tri;split
 · exact ⟨ha,hc,hb'⟩
 · exact ⟨ha,hb',hc⟩
theorem Zgk {t:Tri} (n:t.near) {e:Pnt×Pnt} (h:e∈t.edges):near e.1∧near e.2:=by
 obtain ⟨a,b,c⟩:=n;simp only [Tri.edges,n9_,n10_,or_false] at h
 rcases h with rfl|rfl|rfl
 · exact ⟨a,b⟩
 · exact ⟨b,c⟩
 · exact ⟨c,a⟩
theorem Ztr {t:Tri} (n:t.near) {e:Pnt} (h:e∈t.pts):near e:=by
 obtain ⟨a,b,c⟩:=n;simp only [Tri.pts,n9_,n10_,or_false] at h
 rcases h with rfl|rfl|rfl
 · exact a
 · exact b
 · exact c
theorem Zve {H:Hp} {v:V} {t:Tri} (h:IsT H v t):∃ a vs,v=.ref a∧H a=some (.tup vs)∧vs.length=3∧Al (IsP H) vs t.pts:=by
 obtain ⟨a,x,y,z,rfl,ha,hx,hy,hz⟩:=h;exact ⟨a,_,rfl,ha,rfl,.cons hx (.cons hy (.cons hz .nil))⟩
theorem cs3 {H:Hp} {us:List V} {cs:List Pnt} (al:Al (IsP H) us cs) {p:?e} (hl:p.length=3) (bd:∀ i∈p,0≤i∧i≤(cs.length:Int)-1) {vs:List V} (a2:Al (IsP H) vs (p.map (cAt cs))):∃ x y z,vs=[x,y,z]∧IsP H x (cAt cs (p.getD 0 0))∧IsP H y (cAt cs (p.getD 1 0))∧IsP H z (cAt cs (p.getD 2 0)):=by
 obtain ⟨i,j,k,rfl⟩:=len3 hl
 have:=a2.1
 obtain ⟨x,y,z,rfl⟩:=len3 this;exact ⟨x,y,z,rfl,a2.2 0 x _ rfl rfl,a2.2 1 y _ rfl rfl,a2.2 2 z _ rfl rfl⟩
theorem Zwz (xs:List V) (i:Nat) (h:i≤xs.length):cutV xs none (some (i:Int))=xs.take i:=by
 unfold cutV;rw [HT.sIx_none,HT.sIx_nat];simp [Nat.min_eq_left h]
theorem anyM {α:Type} {l:List α} {f:α→Bool} (h:∀ x∈l,f x=false):(l.map f).any id=false:=by
 rw [List.any_map];exact List.any_eq_false.mpr fun x hx=>by simp [h x hx]
theorem prs {H:Hp} {vs:List V} {es:List (Pnt×Pnt)} (al:Al (IsE H) vs es):∀ (i:Nat) (w:V),vs[i]? = some w→∃ p x y,w=.ref p∧H p=some (.tup [x,y]):=fun i w e=>by
 obtain ⟨_,_,p,x,y,rfl,h,_⟩:=al.get e;exact ⟨p,x,y,rfl,h⟩
theorem pr1 {H:Hp} {vs:List V} {es:List (Pnt×Pnt)} (al:Al (IsE H) vs es) {i:Nat} {p:Addr} {x y:V} (e:vs[i]? = some (.ref p)) (hp:H p=some (.tup [x,y])):∃ q,es[i]? = some q∧IsP H x q.1∧IsP H y q.2:=by
 obtain ⟨q,eq,p',x',y',e1,h,h1,h2⟩:=al.get e;cases e1
 rw [hp] at h;cases h
 exact ⟨q,eq,h1,h2⟩
theorem Zko (n:Int) (p:?e):inV (V.int n) (p.map V.int)=decide (n∈p):=by
 unfold inV;rw [List.any_map]
 induction p with
 | nil=>rfl
 | cons x p ih =>
   rw [List.any_cons,ih]
   by_cases h:n=x
   · subst h
     have:eqV (V.int n) (V.int n)=true:=by simp [eqV]
     simp [Function.comp,this]
   · have:eqV (V.int x) (V.int n)=false:=by simp [eqV];exact fun z=>h z.symm
     simp [Function.comp,this,h]
theorem Zg8 {α β:Type} (f:α→β):∀ (l:List α) (i:Nat),(l.map f).eraseIdx i=(l.eraseIdx i).map f
 | [],i=>by cases i<;>rfl
 | x :: l,0=>rfl
 | x :: l,i+1=>by simp only [n31_,List.eraseIdx_cons_succ,Zg8 f l i]
theorem X2 {α:Type}:∀ (l:List α) (i:Nat) (h:i<l.length),(l[i] :: l.eraseIdx i).Perm l
 | [],i,h=>by simp at h
 | x :: l,0,h=>.refl _
 | x :: l,i+1,h=>by
   simp only [List.eraseIdx_cons_succ,List.getElem_cons_succ];exact (List.Perm.swap x _ _).trans ((X2 l i (by simpa using h)).cons x)
theorem Zwe {α:Type} {R:V→α→Prop} {vs:List V} {xs:List α} {v:V} {x:α} (h:Al R vs xs) (j:Nat) (r:R v x):Al R (vs.set j v) (xs.set j x):=by
 refine ⟨by simp [h.1],fun i w y e1 e2=>?_⟩;rw [List.getElem?_set] at e1 e2
 by_cases hi:j=i
 · subst hi;rw [if_pos rfl] at e1 e2;split at e1
   · split at e2
     · cases e1;cases e2;exact r
     · cases e2
   · cases e1
 · rw [if_neg hi] at e1 e2;exact h.2 i w y e1 e2
theorem Zoi {S:V→?e→Prop} {T:?e→?e→Prop}:∀ {vs:List V} {ps:List (?e)},Al (fun v p=>∃ r,S v r∧T r p) vs ps→∃ kl:List (?e),kl.length=ps.length∧Al S vs kl∧∀ i:Nat,i<ps.length→T (kl.getD i []) (ps.getD i [])
 | [],[],_=>⟨[],rfl,.nil,fun i hi=>by simp at hi⟩
 | [],p :: ps,h=>by have:=h.1;simp at this
 | v :: vs,[],h=>by have:=h.1;simp at this
 | v :: vs,p :: ps,h=>by
   obtain ⟨r,s,t⟩:=h.2 0 v p rfl rfl;obtain ⟨kl,l,a,k⟩:=Zoi (vs:=vs) (ps:=ps) ⟨by have:=h.1;simpa using this,fun i w x e1 e2=>h.2 (i+1) w x (by simpa using e1) (by simpa using e2)⟩;refine ⟨r :: kl,by simp [l],.cons s a,fun i hi=>?_⟩;cases i with
   | zero=>exact t
   | succ i=>simpa using k i (by simpa using hi)
theorem Zq2 {n:Nat} {k:Int} (h0:0≤k) (h1:k<n):ixN n k=some k.toNat:=by
 unfold ixN;rw [if_pos h0,if_pos (?d)]
theorem seqI {n:Nat} {k:Int} (h0:0≤k) (h1:k<n):seqIndex? k n=some k.toNat:=(Ziq (Zq2 h0 h1)).1
theorem tkS {H H':Hp} {l:Addr} (k:Keep l H H') (s:StAt H l):Tk H H':=by
 obtain ⟨a,b,c,e,_⟩:=s;exact Tk.of_keep k e
theorem StAt.neN {H:Hp} {l p:Addr} (s:StAt H l) (h:H p=none):p≠l:=fun z=>s.ne h z.symm
theorem Zsn {J:It} {n:Nat} {l D:Addr} {g:TG} {te:TE} {σ0:L2.St} {H:Hp} {Q:VK} {α:Type} (R:Hp→V→α→Prop) (hR:∀ H1 H2 v x,Tk H1 H2→R H1 v x→R H2 v x) (hz:n≤1000) (ok:L2.St→Prop) (h0:ok σ0) (hD:H D=none) (hl:StAt H l)
 (hgo:∀ i H2,Keep l H H2→i<n→J.go i H2) (hstop:∀ H2,Keep l H H2→J.stop n H2)
 (hs:∀ i x σ2 H2 H3 (C:L2.St→V→?o),i<n→Keep l H H2→StAt H2 l→J.yld i H2 x H3→ok σ2→(∀ σ4 y H5 z,ok σ4→Keep l H2 H5→StAt H5 l→R H5 y z→C σ4 y H5)→g x σ2 H3 fun σ4 H4=>te σ4 H4 (C σ4))
 (hd:∀ H2 vs ys,Keep l H H2→StAt H2 l→H2 D=some (.lst vs)→ys.length=n→Al (R H2) vs ys→Q (.ref D) H2):LcGo J g tYes te σ0 H D Q:=by
 have neD:D≠l:=hl.neN hD;refine Zhu (n:=n) (fun i σ H2=>Keep l H H2∧StAt H2 l∧ok σ∧∃ vs ys,ys.length=i∧H2 D=some (.lst vs)∧Al (R H2) vs ys) ⟨Keep.new hD,hl.new hD,h0,[],[],rfl,Zc,.nil⟩ (fun i σ H2 hi p=>hgo i H2 p.1 hi) (fun σ H2 p=>hstop H2 p.1) (fun i x σ2 H2 H3 hi y p=>?_) (fun σ2 H2 p=>?_)
 · obtain ⟨s2,l2,o2,vs,ys,hy,e2,a2⟩:=p;refine hs i x σ2 H2 H3 (fun σ4 y H6=>∃ ys,H6 D=some (.lst ys)∧ys.length<sizeLine∧∃ m',m'<n-i∧LcN n (fun i σ H2=>Keep l H H2∧StAt H2 l∧ok σ∧∃ vs ys,ys.length=i∧H2 D=some (.lst vs)∧Al (R H2) vs ys) (i+1) m' σ4 (upd H6 D (.lst (ys++[y])))) hi s2 l2 y o2 ?_;intro σ4 v H5 z o4 s5 l5 rz;have e5:H5 D=some (.lst vs):=s5 _ _ neD e2;have tk:Tk H5 (upd H5 D (.lst (vs++[v]))):=Tk.upd_lst e5;refine ⟨vs,e5,?_,n-(i+1),?d,?d,rfl,fun b o nb e=>?_,?_,o4,vs++[v],ys++[z],by simp [hy],Zc,?_⟩
   · rw [a2.1,sizeLine_eq];omega
   · rw [Zh (Zi e hD)];exact s5 _ _ nb (s2 _ _ nb e)
   · obtain ⟨a,b,c,e,r⟩:=l5;exact ⟨a,b,c,by rw [Zh neD.symm];exact e,r⟩
   · exact (a2.imp fun v x r=>hR _ _ v x tk (hR _ _ v x (tkS s5 l2) r)).snoc (hR _ _ _ _ tk rz)
 · obtain ⟨s2,l2,_,vs,ys,hy,e2,a2⟩:=p;exact hd H2 vs ys s2 l2 e2 hy a2
inductive BxSp_order (vs:List V) (H:Hp) (Q:VK):Prop
 | mk (l:Addr) (n:Nat) (q1:vs=[.ref l,.int n]) (q2:StAt H l) (q3:n≤60) (q4:∀ (H':Hp) (r:Addr) (o:?e),Keep l H H'→StAt H' l→H r=none→H' r=some (.lst (o.map V.int))→o.Perm ((List.range n).map fun i:Nat=>(i:Int))→Q (.ref r) H'):BxSp_order vs H Q
def Zkm:Sp:=fun vs H Q _=>BxSp_order vs H Q
def Zgv:Sp:=fun vs H Q _=>vs=[]∧∀ (H':Hp) (r:Addr) (us:List V),Same H H'→H r=none→H' r=some (.lst us)→Al (IsSh H') us Zbt→Q (.ref r) H'
theorem Zp3 {H:Hp} {us:List V} (al:Al (IsSh H) us Zbt) {r:Int} (h0:0≤r) (h1:r<8):∃ (v:V) (s:List Pnt×List (?e)),atI us r=some v∧IsSh H v s∧s∈Zbt:=by
 obtain ⟨k,rfl⟩:∃ k:Nat,r=k:=⟨r.toNat,?d⟩;have hk:k<Zbt.length:=by show k<8;omega
 obtain ⟨v,ev,rv⟩:=al.got (n1_ hk);exact ⟨v,_,Zca ev,rv,n51_ hk⟩
theorem Zrv {α:Type} {R:V→α→Prop} {v:V} {x:α} (r:R v x):∀ n:Nat,Al R (List.replicate n v) (List.replicate n x)
 | 0=>.nil
 | n+1=>by rw [n69_,n69_];exact .cons r (Zrv r n)
theorem mul4 {a b:Int} (ha:a.natAbs≤1000) (hb:b.natAbs≤1000):CMulB a b:=mul3 ha hb
theorem o_at {o:?e} {n:Nat} (O:CoOrd n o) {i:Int} (h0:0≤i) (h1:i<n):atI (o.map V.int) i=some (.int (oAt o i)):=by
 obtain ⟨k,rfl⟩:∃ k:Nat,i=k:=⟨i.toNat,?d⟩;have hk:k<o.length:=by rw [O.len];omega
 refine Zca ?_;rw [n7_,n1_ hk];unfold oAt;simp [n4_,hk]
theorem Zqc {p:Pnt} (h:p.1.natAbs≤6∧p.2.natAbs≤6):p.1.natAbs≤1000∧p.2.natAbs≤1000:=⟨?d,?d⟩
theorem Zv9 {H:Hp} {vs:List V} {kl:List (?e)} (al:Al (IsI H) vs kl) {q:List Nat} (hq:∀ i∈q,i<kl.length):Al (IsI H) (q.map fun i=>vs.getD i .non) (q.map fun i=>kl.getD i []):=by
 refine ⟨by simp,fun n v r e1 e2=>?_⟩;rw [n7_] at e1 e2;obtain ⟨i,ei,rfl⟩:=n14_.mp e1;rw [ei] at e2;cases e2
 have hi:=hq i (n6_ ei);have hv:i<vs.length:=by rw [al.1];exact hi
 have:=al.2 i vs[i] kl[i] (n1_ hv) (n1_ hi)
 show IsI H (vs.getD i .non) (kl.getD i [])
 rw [n4_,n4_,n1_ hv,n1_ hi];exact this
def dI (ns:?e):PyData:=.tuple (ns.map .int)
def dP (p:Pnt):PyData:=dI [p.1,p.2]
def dPl (P:Pl):PyData:=.tuple [.tuple (P.cs.map dP),.tuple (P.ps.map dI),dI P.ts,dI [P.l,P.m]]
theorem Zkq {α:Type} {N:Addr→Prop} {H:Hp} {k:Nat} {R:V→α→Prop} {f:α→PyData}:∀ {vs:List V} {xs:List α},Al R vs xs→(∀ v x,x∈xs→R v x→Dt N H k v (f x))→Dts N H k vs (xs.map f)
 | [],[],_,_=>.nil
 | [],x :: xs,h,_=>by have:=h.1;simp at this
 | v :: vs,[],h,_=>by have:=h.1;simp at this
 | v :: vs,x :: xs,h,g=>.cons (g v x n19_ (h.2 0 v x rfl rfl)) (Zkq ⟨by have:=h.1;simpa using this,fun i w y e1 e2=>h.2 (i+1) w y (by simpa using e1) (by simpa using e2)⟩ fun v x hx=>g v x (n16_ _ hx))
theorem Zbw {α:Type} {f:α→PyData} {c:Nat}:∀ {xs:List α},(∀ x∈xs,(f x).depth≤c)→PyData.depthAll (xs.map f)≤c
 | [],_=>n42_ _
 | x :: xs,h=>by
   have h1:=h x n19_;have h2:=Zbw (xs:=xs) fun y hy=>h y (n16_ _ hy);simp only [n31_,PyData.depthAll];omega
theorem Zj6 {α:Type} {f:α→PyData} {c:Nat}:∀ {xs:List α},(∀ x∈xs,nz (f x)≤c)→Zbp (xs.map f)≤xs.length*(c+1)
 | [],_=>n42_ _
 | x :: xs,h=>by
   have h1:=h x n19_;have h2:=Zj6 (xs:=xs) fun y hy=>h y (n16_ _ hy);simp only [n31_,Zbp,n18_,Nat.add_mul,Nat.one_mul];omega
theorem Zkv {N:Addr→Prop} {H:Hp} {k:Nat} {v:V} {ns:?e} (h:IsI H v ns) (hb:∀ i∈ns,i.natAbs<2^k):Dt N H k v (dI ns):=by
 obtain ⟨a,rfl,q⟩:=h;exact .tup q (Zkq (Al.of_ints ns) fun v x hx e=>by cases e;exact .int (hb x hx))
theorem Zj7 (ns:?e):(dI ns).depth≤1:=by
 have:=Zbw (f:=PyData.int) (c:=0) (xs:=ns) fun x _=>n11_ _
 simp only [dI,PyData.depth];omega
theorem nzI (ns:?e):nz (dI ns)≤1+ns.length*2:=by
 have:=Zj6 (f:=PyData.int) (c:=1) (xs:=ns) fun x _=>n11_ _
 simp only [dI,nz];omega
theorem dtPl {N:Addr→Prop} {H:Hp} {k:Nat} {v:V} {P:Pl} (h:IsPl H v P) (ok:PlOk P) (hk:10≤k):Dt N H k v (dPl P):=by
 have up':∀ {i:Int},i.natAbs≤1000→i.natAbs<2^k:=fun {i} hi=>Nat.lt_of_le_of_lt hi (n23_ (show 1000<2^10 by decide) (Nat.pow_le_pow_right ?f hk));obtain ⟨a,c,p,t,s,rfl,ha,⟨c',cv,rfl,hc,cal⟩,⟨p',pv,rfl,hp,pal⟩,ht,hs⟩:=h;have c30:=ok.c30;refine .tup ha (.cons (.tup hc (Zkq cal fun v x hx r=>Zkv r fun i hi=>?_)) (.cons (.tup hp (Zkq pal fun v x hx r=>Zkv r fun i hi=>?_)) (.cons (Zkv ht fun i hi=>?_) (.cons (Zkv hs fun i hi=>?_) .nil))))
 · obtain ⟨⟨n1,n2⟩,n3,n4⟩:=ok.nr x hx;simp only [n9_,n10_,or_false] at hi
   rcases hi with rfl|rfl<;>exact up' (?d)
 · have:=(ok.pc x hx).bd i hi
   exact up' (?d)
 · have:=ok.t9 i hi
   exact up' (?d)
 · have:=ok.l9
   have:=ok.m9
   simp only [n9_,n10_,or_false] at hi
   rcases hi with rfl|rfl<;>exact up' (?d)
theorem Zjd (P:Pl):(dPl P).depth≤3:=by
 have h1:=Zbw (f:=dP) (c:=1) (xs:=P.cs) fun x _=>Zj7 _;have h2:=Zbw (f:=dI) (c:=1) (xs:=P.ps) fun x _=>Zj7 _;have h3:=Zj7 P.ts;have h4:=Zj7 [P.l,P.m];simp only [dPl,PyData.depth,PyData.depthAll];omega
theorem nzPl {P:Pl} (ok:PlOk P):nz (dPl P)≤1000:=by
 have h1:=Zj6 (f:=dP) (c:=5) (xs:=P.cs) fun x _=>nzI _;have h2:=Zj6 (f:=dI) (c:=7) (xs:=P.ps) fun x hx=>by have:=nzI x;have:=(ok.pc x hx).len;omega
 have h3:=nzI P.ts;have h4:=nzI [P.l,P.m]
 have:=ok.c30
 have:=ok.p40
 have:=ok.t1
 simp only [dPl,nz,Zbp];simp only [n18_,n79_] at h4;omega
theorem Yj {H H':Hp} {a:Addr} (s:Same H H') (h:H' a=none):H a=none:=by
 cases e:H a with
 | none=>rfl
 | some o=>rw [s _ _ e] at h;cases h
theorem Zct {α:Type} (l:List α) (p:α→Bool):∀ n,n≤l.length→(List.range n).filterMap (fun i=>(l[i]?).filter p)=(l.take n).filter p
 | 0,_=>by simp
 | n+1,hn=>by
   rw [List.range_succ,List.filterMap_append,Zct l p n (?d),n61_,List.filter_append,n1_ (?d)]
   congr 1
   have g:l[n]? = some l[n]:=n1_ (?d)
   by_cases c:p l[n]=true<;>simp [g,c,Option.filter]
inductive BxSp_sidesOf (vs:List V) (H:Hp) (Q:VK):Prop
 | mk (v:V) (p:?e) (q1:vs=[v]) (q2:IsI H v p) (q3:p.length=3) (q4:∀ (H':Hp) (L:Addr) (al:List (Addr×?e)),Same H H'→H L=none→H' L=some (.lst (refs al))→(∀ x∈al,tpl H' x)→al.map (·.2)=Zn p→Q (.ref L) H'):BxSp_sidesOf vs H Q
def Ze2:Sp:=fun vs H Q _=>BxSp_sidesOf vs H Q
inductive BxSp_owners (vs:List V) (H:Hp) (Q:VK):Prop
 | mk (v:V) (P:Pl) (q1:vs=[v]) (q2:IsPl H v P) (q3:(∀ p∈P.ps,p.length=3)) (q4:P.ps.length≤20) (q5:∀ (H':Hp) (D:Addr) (g:List (?e×?e)) (ads:List Addr),Same H H'→OwnA H H' D g ads→GI g (Zat P.ps P.ps.length)→Q (.ref D) H'):BxSp_owners vs H Q
def Zgp:Sp:=fun vs H Q _=>BxSp_owners vs H Q
structure NearOk (H:Hp) (F:Addr) (as:List Addr) (n:Nat) (A:Nat→Nat→Prop) (nf:Nat→?e):Prop where
 eF:H F=some (.lst (as.map V.ref))
 len:as.length=n
 at_:∀ (i:Nat) (a:Addr),as[i]? = some a→H a=some (.lst ((nf i).map V.int))
 mem:∀ i,i<n→∀ x:Int,x∈nf i↔∃ m:Nat,x=m∧m<n∧A i m
 le:∀ i,i<n→(nf i).length≤300000
inductive BxSp_near (vs:List V) (H:Hp) (Q:VK):Prop
 | mk (v:V) (P:Pl) (q1:vs=[v]) (q2:IsPl H v P) (q3:(∀ p∈P.ps,p.length=3)) (q4:P.ps.length≤20) (q5:∀ (H':Hp) (F:Addr) (as:List Addr) (nf:Nat→?e),Same H H'→H F=none→NearOk H' F as P.ps.length (Adj P.ps) nf→Q (.ref F) H'):BxSp_near vs H Q
def Zof:Sp:=fun vs H Q _=>BxSp_near vs H Q
inductive BxSp_partOf (vs:List V) (H:Hp) (Q:VK):Prop
 | mk (i n:Nat) (F:Addr) (as:List Addr) (A:Nat→Nat→Prop) (nf:Nat→?e) (q1:vs=[.int (i:Int),.ref F]) (q2:NearOk H F as n A nf) (q3:n≤60) (q4:i<n) (q5:∀ (H':Hp) (t:Addr) (l:?e),Same H H'→H t=none→tpl H' (t,l)→PartOk A n i l→Q (.ref t) H'):BxSp_partOf vs H Q
def Zg4:Sp:=fun vs H Q _=>BxSp_partOf vs H Q
inductive BxSp_parts (vs:List V) (H:Hp) (Q:VK):Prop
 | mk (v:V) (P:Pl) (q1:vs=[v]) (q2:IsPl H v P) (q3:PlOk P) (q4:P.ps.length≤20) (q5:∀ (H':Hp) (r:Addr) (al:List (Addr×?e)),Same H H'→H r=none→H' r=some (.lst (refs al))→(∀ x∈al,tpl H' x)→PartsOk (Adj P.ps) P.ps.length (al.map (·.2))→Q (.ref r) H'):BxSp_parts vs H Q
def Zjz:Sp:=fun vs H Q _=>BxSp_parts vs H Q
inductive BxSp_room (vs:List V) (H:Hp) (Q:VK):Prop
 | mk (v:V) (P:Pl) (q1:vs=[v]) (q2:IsPl H v P) (q3:PlOk P) (q4:P.ps.length≤20) (q5:∀ H':Hp,Same H H'→Q (.int (Zht P)) H'):BxSp_room vs H Q
def Zm3:Sp:=fun vs H Q _=>BxSp_room vs H Q
theorem Zt8 {g:List (?e×?e)} {qs:List (?e×Int)} (G:GI g qs) (h:qs.length≤1000) {ads:List Addr} (l:ads.length=g.length):(kvO g ads).length<sizeLine:=by
 rw [Zir l,sizeLine_eq];have:=G.len;omega
theorem kVs (s:?e):(s.map (Sum.inl:Int→Key)).map kV=s.map V.int:=by rw [n64_];rfl
theorem Zul (ps:List (?e)) (i:Nat) (m:Nat) (hi:i<20):(Zat ps i++((Zn (ps.getD i [])).take m).map fun s=>(s,(i:Int))).length≤1000:=by
 rw [n21_,X4,n5_,n59_]
 have:(Zn (ps.getD i [])).length=3:=rfl
 omega
theorem pc3 {P:Pl} (ok:PlOk P):∀ p∈P.ps,p.length=3:=fun p hp=>(ok.pc p hp).len
theorem Zva {g:List (?e×?e)} {ps:List (?e)} (G:GI g (Zat ps ps.length)):∀ k∈g.map (·.1),0<k.length:=fun k hk=>by
 have:=(G.ks k).mp hk
 rw [Zgm] at this;rw [Zcr this];decide
theorem Zsf {g:List (?e×?e)} {ps:List (?e)} (G:GI g (Zat ps ps.length)) (h:ps.length≤20):(g.map (·.1)).length<64:=by
 have:=G.len
 rw [X4] at this;rw [n5_];omega
theorem Zsr {g:List (?e×?e)} {ps:List (?e)} (G:GI g (Zat ps ps.length)) (k:?e):k∈g.map (·.1)↔k∈Zs ps:=by rw [G.ks k,Zgm]
theorem Zvz {k:SK} {K:PySem.W.Frag} {a D:Addr} {vs:List V} {u0:Option V} {rest:L2.St} {H:Hp} {Q:VK} (hz:vs.length≤1000) (hD:H D=none) (hA:k.At H a vs)
 (hd:∀ (H2:Hp) (as:List Addr),Same H H2→as.length=vs.length→as.Nodup→(∀ a∈as,H2 a=some (.lst [])∧H a=none∧a≠D)→H2 D=some (.lst (as.map V.ref))→Q (.ref D) H2):LcGo (k.Itk K a) (Zy 0) tYes (tLst tNil) (u0 :: rest) H D Q:=by
 refine Zhu (n:=vs.length) (fun i σ H2=>(∃ u,σ=u :: rest)∧∃ as:List Addr,Same H H2∧as.length=i∧as.Nodup∧(∀ a∈as,H2 a=some (.lst [])∧H a=none∧a≠D)∧H2 D=some (.lst (as.map V.ref))) ⟨⟨_,rfl⟩,[],Same.new hD,rfl,List.nodup_nil,fun a h=>absurd h ?g,Zc⟩ (fun i σ H2 hi p=>Zkj (hA.same p.2.choose_spec.1) hi) (fun σ H2 p=>Zdb (hA.same p.2.choose_spec.1) (n11_ _)) (fun i x σ2 H2 H3 hi y p=>?_) (fun σ2 H2 p=>?_)
 · obtain ⟨⟨u,rfl⟩,as,s2,l2,nd,ha,eD⟩:=p;obtain ⟨rfl,_⟩:=Zgc (hA.same s2) y;refine ⟨n42_ _,fun e ne=>?_⟩;have eD':upd H3 e (.lst []) D=some (.lst (as.map V.ref)):=by rw [Zh (Zi eD ne)];exact eD
   have neD:e≠D:=fun z=>by rw [z,eD] at ne;cases ne
   refine ⟨as.map V.ref,eD',by rw [n5_,sizeLine_eq];omega,vs.length-(i+1),?d,?d,rfl,⟨_,rfl⟩,as++[e],fun b o eb=>?_,by simp [l2],?_,fun a hm=>?_,?_⟩
   · rw [Zh (Zi eb hD),Zh (Zi (s2 _ _ eb) ne)];exact s2 _ _ eb
   · rw [n62_];refine ⟨nd,by simp,fun a h1 b h2=>?_⟩;rw [n25_] at h2;subst h2;exact fun z=>by rw [z] at h1;rw [(ha _ h1).1] at ne;cases ne
   · rcases n28_.mp hm with h|h
     · obtain ⟨h1,h2,h3⟩:=ha a h;refine ⟨?_,h2,h3⟩;rw [Zh h3,Zh (Zi h1 ne)];exact h1
     · rw [n25_] at h;subst h;exact ⟨by rw [Zh neD,Zc],Yj s2 ne,neD⟩
   · rw [Zc,n46_];rfl
 · obtain ⟨_,as,s2,l2,nd,ha,eD⟩:=p;exact hd H2 as s2 l2 nd ha eD
theorem Zqr {as:List Addr} (nd:as.Nodup) {i j:Nat} {a:Addr} (h1:as[i]? = some a) (h2:as[j]? = some a):i=j:=by
 obtain ⟨l1,x1⟩:=n12_.mp h1;obtain ⟨l2,x2⟩:=n12_.mp h2;exact (n60_ (h₀:=l1) (h₁:=l2) nd).mp (by rw [x1,x2])
structure NearG (H0 H:Hp) (F D:Addr) (ob:Obj) (as ads:List Addr) (g:List (?e×?e)) (nf:Nat→?e) (mem:Nat→Int→Prop) (b:Nat):Prop where
 sm:Same H0 H
 eF:H F=some (.lst (as.map V.ref))
 eD:H D=some (.frz ob (.dT (kvO g ads)))
 av:∀ (i:Nat) (a:Addr) (e:?e×?e),ads[i]? = some a→g[i]? = some e→H a=some (.lst (e.2.map V.int))
 at_:∀ (i:Nat) (a:Addr),as[i]? = some a→H a=some (.lst ((nf i).map V.int))
 mem:∀ i,i<as.length→∀ x:Int,x∈nf i↔mem i x
 le:∀ i,i<as.length→(nf i).length≤b
abbrev kvT (ks:?e):List (Key×V):=ks.map fun k=>(Sum.inl k,V.bl true)
theorem valT (x:Int):∀ ks:?e,valV (kvT ks) (Sum.inl x)=if x∈ks then some (.bl true) else none
 | []=>rfl
 | k :: ks=>by
   have st:valV (kvT (k :: ks)) (Sum.inl x)=if k=x then some (.bl true) else valV (kvT ks) (Sum.inl x):=by
    unfold valV;rw [show kvT (k :: ks)=((Sum.inl k:Key),V.bl true) :: kvT ks from rfl,List.find?_cons]
    by_cases c:k=x
    · subst c;simp
    · have:¬ (Sum.inl k:Key)=Sum.inl x:=fun z=>c (by injection z)
      rw [if_neg c,n36_ this]
   rw [st,valT x ks]
   by_cases c:k=x
   · subst c;simp
   · have:¬ x=k:=fun z=>c z.symm
     simp [c,this]
theorem putT {x:Int} {ks:?e} (h:x∉ks):putK (kvT ks) (Sum.inl x) (.bl true)=kvT (ks++[x]):=by
 unfold putK
 have:((kvT ks).any fun kv=>decide (kv.1=Sum.inl x))=false:=by
  rw [List.any_eq_false];intro kv hkv z;obtain ⟨k,hk,rfl⟩:=n24_.mp hkv;have z:=n52_ z;injection z with z
  exact h (z ▸ hk)
 rw [this,if_neg n17_,kvT,kvT,n46_];rfl
theorem Zs0 (ks:?e):(kvT ks).length=ks.length:=n5_ ..
structure SeenOk (A:Nat→Nat→Prop) (n i:Nat) (ks ls:?e):Prop where
 nd:ks.Nodup
 st:(i:Int)∈ks
 co:∀ x∈ks,∃ m:Nat,x=m∧m<n∧Conn A n i m
 sub:∀ x∈ls,x∈ks
 cl:∀ a b:Nat,(a:Int)∈ks→(a:Int)∉ls→b<n→A a b→(b:Int)∈ks
 le:ls.length≤ks.length
theorem Zkb {A:Nat→Nat→Prop} {n i:Nat} {ks ls:?e} (h:SeenOk A n i ks ls):ks.length≤n:=Zrs h.nd fun x hx=>let ⟨m,a,b,_⟩:=h.co x hx;⟨m,a,b⟩
theorem Zu0 {A:Around} {k:Nat} (hr:Room k A):A.units+4<cLine:=by have:=hr.un;omega
theorem decF {p:Prop} [Decidable p] (h:¬ p) {A B:Prop} (q:B):if decide p=true then A else B:=by rw [n36_ h];exact iteF q
theorem hq3 {A:Around} {k:Nat} (hr:Room k A):A.units+3<cLine:=by have:=hr.un;omega
def Wide (P:Pl):Prop:=∀ p∈P.cs,(-50≤p.1∧p.1≤50)∧(-50≤p.2∧p.2≤50)
def DrF (P:Pl):Prop:=∃ pts pcs A o kl q,Drawn pts pcs A o P.cs kl q∧(P.ps=q.map fun i=>kl.getD i [])∧Fine pts pcs
inductive BxSp_lookFiner (vs:List V) (H:Hp) (Q:VK):Prop
 | mk (v:V) (P:Pl) (q1:vs=[v]) (q2:IsPl H v P) (q3:PlOk P) (q4:P.ps.length≤4) (q5:P.cs.length≤6) (q6:Wide P) (q7:∀ H',Same H H'→Q .non H'):BxSp_lookFiner vs H Q
def Zcz:Sp:=fun vs H Q _=>BxSp_lookFiner vs H Q
structure MidOk (H:Hp) (M:Addr) (n:Nat) (ks:List (?e)):Prop where
 ex:∃ kvs,H M=some (.dT kvs)∧∀ s∈ks,valV kvs (s.map Sum.inl)=some (.int (mdl n ks s))
inductive BxSp_quarters (vs:List V) (H:Hp) (Q:VK):Prop
 | mk (v:V) (M:Addr) (p:?e) (n:Nat) (ks:List (?e)) (q1:vs=[v,.ref M]) (q2:IsI H v p) (q3:p.length=3) (q4:MidOk H M n ks) (q5:(∀ s∈Zn p,s∈ks)) (q6:∀ (H':Hp) (L:Addr) (al:List (Addr×?e)),Same H H'→H L=none→H' L=some (.lst (refs al))→(∀ x∈al,tpl H' x)→al.map (·.2)=Zr n ks p→Q (.ref L) H'):BxSp_quarters vs H Q
def Zbm:Sp:=fun vs H Q _=>BxSp_quarters vs H Q
inductive BxSp_finer (vs:List V) (H:Hp) (Q:VK):Prop
 | mk (v:V) (P:Pl) (q1:vs=[v]) (q2:IsPl H v P) (q3:PlOk P) (q4:P.ps.length≤4) (q5:P.cs.length≤6) (q6:Wide P) (q7:∀ (H':Hp) (v':V) (P2:Pl) (ks:List (?e)),Same H H'→IsPl H' v' P2→FinOk P P2 ks→Q v' H'):BxSp_finer vs H Q
def Zc7:Sp:=fun vs H Q _=>BxSp_finer vs H Q
inductive BxSp_lsides (vs:List V) (H:Hp) (Q:VK):Prop
 | mk (v:V) (P:Pl) (q1:vs=[v]) (q2:IsPl H v P) (q3:PlOk P) (q4:P.ps.length≤4) (q5:∀ (H':Hp) (r:Addr) (al:List (Addr×?e)),Same H H'→H r=none→H' r=some (.lst (refs al))→(∀ x∈al,tpl H' x)→Zl3 al→(∀ k,k∈al.map (·.2)↔k∈Zs P.ps)→Q (.ref r) H'):BxSp_lsides vs H Q
def Zhn:Sp:=fun vs H Q _=>BxSp_lsides vs H Q
inductive BxSp_sameL (vs:List V) (H:Hp) (Q:VK):Prop
 | mk (a b:Addr) (x y x' y':V) (P:Pl) (q1:vs=[.ref a,.ref b]) (q2:H a=some (.lst [x,y])) (q3:H b=some (.lst [x',y'])) (q4:IsPl H x P) (q5:IsPl H y P) (q6:IsPl H x' P) (q7:IsPl H y' P) (q8:PlOk P) (q9:Q (.bl true) H):BxSp_sameL vs H Q
def Zjv:Sp:=fun vs H Q _=>BxSp_sameL vs H Q
inductive BxSp_law (K:PySem.W.Frag) (vs:List V) (H:Hp) (Q:VK):Prop
 | mk (a:Addr) (ns:?e) (q1:vs=[.ref a]) (q2:SqL K H a (ns.map V.int)) (q3:ns.length≤63) (q4:∀ H',Q (.bl true) H'):BxSp_law K vs H Q
def Zkr (K:PySem.W.Frag):Sp:=fun vs H Q _=>BxSp_law K vs H Q
inductive BxSp_plateF (vs:List V) (H:Hp) (Q:VK):Prop
 | mk (l:Addr) (m:Int) (q1:vs=[.ref l,.int m]) (q2:StAt H l) (q3:1≤m) (q4:m≤8) (q5:∀ (H':Hp) (v:V) (P:Pl),Keep l H H'→StAt H' l→IsPl H' v P→PlOk P→P.ps.length≤4→P.cs.length≤6→Wide P→DrF P→Q v H'):BxSp_plateF vs H Q
def Zh3:Sp:=fun vs H Q _=>BxSp_plateF vs H Q
abbrev dblT:TE:=tTup (X5 (tOp (rI CMulB fun i j=>.int (i*j)) (tC (.int 2)) (tVar 0)) (X5 (tOp (rI CMulB fun i j=>.int (i*j)) (tC (.int 2)) (tVar 1)) tNil))
abbrev dblP (p:Pnt):Pnt:=(2*p.1,2*p.2)
abbrev midP (cs:List Pnt) (s:?e):Pnt:=((cAt cs (s.getD 0 0)).1+(cAt cs (s.getD 1 0)).1,(cAt cs (s.getD 0 0)).2+(cAt cs (s.getD 1 0)).2)
theorem Zj9 {K:PySem.W.Frag} {c D:Addr} {cvs:List V} {cs:List Pnt} {u0 u1:Option V} {rest:L2.St} {H:Hp} {Q:VK} (hc:H c=some (.tup cvs)) (cal:Al (IsP H) cvs cs) (nr:∀ p∈cs,near p) (h30:cs.length≤30) (hD:H D=none)
 (hd:∀ H2 us,Same H H2→H2 D=some (.lst us)→Al (IsP H2) us (cs.map dblP)→Q (.ref D) H2):LcGo (SK.t.Itk K c) ?C tYes dblT (u0 :: u1 :: rest) H D Q:=by
 have cl:=cal.1;refine Zok (k:=.t) (vs:=cvs) IsP hRP (cs.map dblP) (by simp [cl]) (?d) hD hc (fun i w hw=>?_) (fun i b x y H2 C hw hb s2 cc=>?_) hd
 · obtain ⟨p,ep,b,rfl,hb⟩:=cal.get hw;exact ⟨b,_,_,rfl,hb⟩
 · obtain ⟨p,ep,b',e',hb'⟩:=cal.get hw;cases e'
   rw [hb] at hb';cases hb'
   obtain ⟨⟨n1,n2⟩,n3,n4⟩:=nr p (n6_ ep);refine ⟨_,rfl,_,_,rfl,rfl,mul3 ?f (?d),_,rfl,_,_,rfl,rfl,mul3 ?f (?d),z2_,fun T nT=>?_⟩;exact cc _ _ (dblP p) (Same.new nT) (by rw [n7_,ep];rfl) ⟨T,rfl,Zc⟩
abbrev midT (K:PySem.W.Frag):TE:=tTup (X5 (tOp (rI0 fun i j=>.int (i+j)) (tOp (rIxT K) (tOp (rIxT K) (tVar 2) (tVar 0)) (tC (.int 0))) (tOp (rIxT K) (tOp (rIxT K) (tVar 2) (tVar 1)) (tC (.int 0))))
 (X5 (tOp (rI0 fun i j=>.int (i+j)) (tOp (rIxT K) (tOp (rIxT K) (tVar 2) (tVar 0)) (tC (.int 1))) (tOp (rIxT K) (tOp (rIxT K) (tVar 2) (tVar 1)) (tC (.int 1)))) tNil))
theorem Zke {K:PySem.W.Frag} {c D l:Addr} {cvs:List V} {cs:List Pnt} {ql:List (Addr×?e)} {u0 u1:Option V} {rest:L2.St} {H:Hp} {Q:VK} (hc:H c=some (.tup cvs)) (cal:Al (IsP H) cvs cs) (hl:H l=some (.lst (refs ql))) (tp:∀ x∈ql,tpl H x) (h12:ql.length≤12)
 (hs:∀ k∈ql.map (·.2),∃ i j,k=[i,j]∧(0≤i∧i≤(cs.length:Int)-1)∧(0≤j∧j≤(cs.length:Int)-1)) (hD:H D=none)
 (hd:∀ H2 us,Same H H2→H2 D=some (.lst us)→Al (IsP H2) us ((ql.map (·.2)).map (midP cs))→Q (.ref D) H2):LcGo (SK.l.Itk K l) ?C tYes (midT K) (u0 :: u1 :: some (.ref c) :: rest) H D Q:=by
 refine Zok (k:=.l) (vs:=refs ql) IsP hRP ((ql.map (·.2)).map (midP cs)) ?g (by rw [n5_];omega) hD hl (fun i w hw=>?_) (fun i b x y H2 C hw hb s2 cc=>?_) hd
 · rw [n7_] at hw;obtain ⟨z,ez,rfl⟩:=n14_.mp hw;obtain ⟨i,j,e,_⟩:=hs z.2 (n47_ (n6_ ez));have h:=tp z (n6_ ez);rw [tpl,e] at h;exact ⟨z.1,_,_,rfl,h⟩
 · rw [n7_] at hw;obtain ⟨z,ez,e0⟩:=n14_.mp hw;cases e0
   obtain ⟨i,j,e,hi,hj⟩:=hs z.2 (n47_ (n6_ ez));have h:=tp z (n6_ ez);rw [tpl,e,hb] at h;cases h
   obtain ⟨va,ea,pa,rfl,hpa⟩:=Zlr cal hi.1 hi.2;obtain ⟨vb,eb,pb,rfl,hpb⟩:=Zlr cal hj.1 hj.2;have hc2:=SqT.of (K:=K) (s2 _ _ hc);have ha2:=SqT.of (K:=K) (s2 _ _ hpa);have hb2:=SqT.of (K:=K) (s2 _ _ hpb);refine ⟨_,rfl,_,rfl,c,cvs,i,_,rfl,rfl,hc2,ea,pa,_,0,_,rfl,rfl,ha2,rfl,_,rfl,_,rfl,c,cvs,j,_,rfl,rfl,hc2,eb,pb,_,0,_,rfl,rfl,hb2,rfl,_,_,rfl,rfl,?_⟩;refine ⟨_,rfl,_,rfl,c,cvs,i,_,rfl,rfl,hc2,ea,pa,_,1,_,rfl,rfl,ha2,rfl,_,rfl,_,rfl,c,cvs,j,_,rfl,rfl,hc2,eb,pb,_,1,_,rfl,rfl,hb2,rfl,_,_,rfl,rfl,z2_,fun T nT=>?_⟩;exact cc _ _ (midP cs [i,j]) (Same.new nT) (by rw [n7_,n7_,ez];exact congrArg (fun s=>some (midP cs s)) e) ⟨T,rfl,Zc⟩
theorem Zft {P:Pl} (ok:PlOk P) {ks:List (?e)} (E:Edg P.ps ks):∀ k∈ks,∃ i j,k=[i,j]∧(0≤i∧i≤(P.cs.length:Int)-1)∧(0≤j∧j≤(P.cs.length:Int)-1):=fun k hk=>by
 obtain ⟨p,hp,hs⟩:=n55_.mp ((E.mem k).mp hk);obtain ⟨tr,bd⟩:=Zen ok;obtain ⟨i,j,rfl,_,hi,hj⟩:=(Yk (tr p hp).len (tr p hp).up).mp hs;have b1:=bd p hp i hi;have b2:=bd p hp j hj;exact ⟨i,j,rfl,?d,?d⟩
theorem Zif {s t:?e} (h:s.map (Sum.inl:Int→Key)=t.map Sum.inl):s=t:=by
 have:=congrArg (List.map fun k:Key=>(k.getLeft?).getD 0) h
 simpa [n64_,Function.comp_def] using this
structure MidAt (n:Nat) (ks:List (?e)) (i:Nat) (kvs:List (List Key×V)):Prop where
 len:kvs.length≤i
 val:∀ (j:Nat) (s:?e),j<i→ks[j]? = some s→valV kvs (s.map Sum.inl)=some (.int ((n:Int)+(j:Int)))
theorem MidAt.nil {n:Nat} {ks:List (?e)}:MidAt n ks 0 []:=⟨n11_ _,fun j s h=>absurd h (Nat.not_lt_zero _)⟩
theorem MidAt.step {n:Nat} {ks:List (?e)} {i:Nat} {kvs:List (List Key×V)} (h:MidAt n ks i kvs) (nd:ks.Nodup) {s:?e} (e:ks[i]? = some s):MidAt n ks (i+1) (putK kvs (s.map Sum.inl) (.int ((n:Int)+(i:Int)))):=by
 refine ⟨n53_ (Yx ..) (Nat.succ_le_succ h.len),fun j t hj et=>?_⟩;rw [Zqe]
 by_cases c:j=i
 · subst c;rw [e] at et;cases et
   rw [if_pos rfl]
 · rw [if_neg fun z=>c ?_]
   · exact h.val j t (?d) et
   · have:=Zif z
     subst this;obtain ⟨h1,e1⟩:=n12_.mp et;obtain ⟨h2,e2⟩:=n12_.mp e;exact (n60_ nd).mp (e1.trans e2.symm)
theorem MidAt.ok {n:Nat} {ks:List (?e)} {kvs:List (List Key×V)} {H:Hp} {M:Addr} (h:MidAt n ks ks.length kvs) (e:H M=some (.dT kvs)):MidOk H M n ks:=⟨kvs,e,fun s hs=>h.val _ s (Zax hs).1 (Zax hs).2⟩
theorem MidOk.same {H H':Hp} {M:Addr} {n:Nat} {ks:List (?e)} (h:MidOk H M n ks) (s:Same H H'):MidOk H' M n ks:=let ⟨kvs,a,b⟩:=h.ex;⟨kvs,s _ _ a,b⟩
theorem Zqu {K:PySem.W.Frag} {c D l:Addr} {cvs:List V} {ql:List (Addr×?e)} {u0 u1:Option V} {rest:L2.St} {H:Hp} {Q:VK} (hc:H c=some (.tup cvs)) (hl:H l=some (.lst (refs ql))) (tp:∀ x∈ql,tpl H x) (h12:ql.length≤12) (nd:(ql.map (·.2)).Nodup) (hD:H D=none)
 (hd:∀ H2,Same H H2→MidOk H2 D cvs.length (ql.map (·.2))→Q (.ref D) H2) :
 DcGo (Ite .l K l) ?C (tVar 1) (tOp (rI0 fun i j=>.int (i+j)) (tCB (Za5 K) (X5 (tVar 2) tNil)) (tVar 0)) (u0 :: u1 :: some (.ref c) :: rest) H D Q:=by
 refine ⟨fun i m σ H2=>i≤ql.length∧m=ql.length-i∧∃ u u' kvs,σ=u :: u' :: some (.ref c) :: rest∧Same H H2∧H2 D=some (.dT kvs)∧MidAt cvs.length (ql.map (·.2)) i kvs,⟨_,n42_ _,rfl,u0,u1,[],rfl,Same.new hD,Zc,.nil⟩,?_⟩;rintro i m σ H2 ⟨hi,rfl,u,u',kvs,rfl,s2,e2,mid⟩
 have hl2:=s2 _ _ hl
 by_cases hlt:i<ql.length
 · refine .inr ⟨⟨refs ql,(refs ql)[i]'(by simpa using hlt),SqL.of hl2,n1_ (by simpa using hlt)⟩,fun x H3 y=>?_⟩;obtain ⟨p1,x,rfl,n1,rfl,y1⟩:=y;have ex:=y1 (refs ql) (SqL.of hl2);rw [n7_] at ex;obtain ⟨z,ez,rfl⟩:=n14_.mp ex;have ek:(ql.map (·.2))[i]? = some z.2:=by rw [n7_,ez];rfl
   generalize gG:upd H2 p1 (.tup [.int i,.ref z.1])=H3;obtain ⟨s3,e3⟩:=gen_upd gG n1;have hz:=s3 _ _ (s2 _ _ (tp z (n6_ ez)));have hD3:=s3 _ _ e2;refine ⟨p1,_,rfl,SqT.of e3,rfl,_,_,rfl,_,_,rfl,rfl,?_⟩;refine ⟨_,rfl,_,rfl,c,cvs,rfl,.inr (SqT.of (s3 _ _ (s2 _ _ hc))),_,rfl,_,_,rfl,rfl,?_⟩;have hlen:=mid.len;refine ⟨kvs,z.2.map Sum.inl,z.1,hD3,rfl,by rw [kVs];exact hz,by rw [sizeLine_eq];omega,ql.length-(i+1),?d,hlt,rfl,_,_,_,rfl,fun b o eb=>?_,Zc,mid.step nd ek⟩;rw [Zh (Zi eb hD)];exact s3 _ _ (s2 _ _ eb)
 · have:i=ql.length:=?d
   subst this;exact .inl ⟨⟨refs ql,SqL.of hl2,by simp⟩,hd H2 s2 (MidAt.ok (by rw [n5_];exact mid) e2)⟩
abbrev IsPr:Hp→V→?e×Int→Prop:=fun H v x=>∃ t a,v=.ref t∧H t=some (.tup [.ref a,.int x.2])∧H a=some (.tup (x.1.map V.int))
theorem Zle:∀ H1 H2 v x,Tk H1 H2→IsPr H1 v x→IsPr H2 v x:=fun _ _ _ _ t ⟨a,b,e,h1,h2⟩=>⟨a,b,e,t _ _ h1,t _ _ h2⟩
theorem Zni {H:Hp}:∀ {us:List V} {ys:List (?e×Int)},Al (IsPr H) us ys→∃ al:List PI2,us=Zai al∧(∀ x∈al,pi2 H x)∧al.map (fun x=>(x.k,x.n))=ys
 | [],[],_=>⟨[],rfl,by simp,rfl⟩
 | [],_ :: _,a=>absurd a.1 ?g
 | _ :: _,[],a=>absurd a.1 ?g
 | v :: us,y :: ys,a=>by
   obtain ⟨al,h1,h2,h3⟩:=Zni (us:=us) (ys:=ys) ⟨by simpa using a.1,fun i v x e1 e2=>a.2 (i+1) v x e1 e2⟩;obtain ⟨t,b,e,ht,hb⟩:=a.2 0 v y rfl rfl;exact ⟨⟨t,b,y.1,y.2⟩ :: al,by rw [h1,e];rfl,fun z hz=>(n9_.mp hz).elim (fun w=>by rw [w];exact ⟨ht,hb⟩) (h2 z),by rw [n31_,h3]⟩
theorem Znx {α:Type} {R:V→α→Prop} {us ws:List V} {xs ys:List α} (a:Al R us xs) (b:Al R ws ys):Al R (us++ws) (xs++ys):=by
 refine ⟨by rw [n21_,n21_,a.1,b.1],fun i v x e1 e2=>?_⟩
 by_cases h:i<us.length
 · rw [n41_ h] at e1;rw [n41_ (by rw [← a.1];exact h)] at e2;exact a.2 i v x e1 e2
 · rw [n34_ (?d)] at e1;rw [n34_ (by rw [← a.1];omega),← a.1] at e2;exact b.2 _ v x e1 e2
theorem Zpz {K:PySem.W.Frag} {p t M D:Addr} {pvs:List V} {ps:List (?e)} {ts:?e} {n:Nat} {ks:List (?e)} {u0 u1 u2:Option V} {rest:L2.St} {H:Hp} {Q:VK} (hp:H p=some (.tup pvs)) (pal:Al (IsI H) pvs ps) (ht:H t=some (.tup (ts.map V.int))) (mid:MidOk H M n ks) (p3:∀ q∈ps,q.length=3) (hs:∀ q∈ps,∀ s∈Zn q,s∈ks) (tl:ts.length=ps.length) (h4:ps.length≤4) (hD:H D=none)
 (hd:∀ H2 us,Same H H2→H2 D=some (.lst us)→Al (IsPr H2) us ((ps.zip ts).flatMap fun x=>(Zr n ks x.1).map fun q=>(q,x.2))→Q (.ref D) H2) :
 Zsb (Itz .t .t K p t) ?C (Znj K fun σ H Q=>X5 (tVar 0) (X5 (tVar 3) tNil) σ H fun vs H1=>Zbm vs H1 Q E0) (Zy 2) (tTup (X5 (tVar 2) (X5 (tVar 1) tNil))) (u0 :: u1 :: u2 :: some (.ref M) :: rest) H D Q:=by
 have pl:=pal.1;have lz:(ps.zip ts).length=ps.length:=by rw [List.length_zip];omega
 refine ⟨fun i m σ H2=>i≤ps.length∧m=ps.length-i∧∃ u u' u'' us,σ=u :: u' :: u'' :: some (.ref M) :: rest∧Same H H2∧H2 D=some (.lst us)∧us.length=4*i∧Al (IsPr H2) us (((ps.zip ts).take i).flatMap fun x=>(Zr n ks x.1).map fun q=>(q,x.2)),⟨_,n42_ _,rfl,u0,u1,u2,[],rfl,Same.new hD,Zc,rfl,.nil⟩,?_⟩;rintro i m σ H2 ⟨hi,rfl,u,u',u'',us,rfl,s2,e2,l2,a2⟩
 have hp2:=s2 _ _ hp;have ht2:=s2 _ _ ht
 by_cases hlt:i<ps.length
 · refine .inr ⟨⟨pvs,ts.map V.int,pvs[i]'(?d),(ts.map V.int)[i]'(by simp;omega),SqT.of hp2,SqT.of ht2,n1_ _,n1_ _⟩,fun x H3 y=>?_⟩;obtain ⟨z,v,w,rfl,nz,rfl,y1,y2⟩:=y;have ev:=y1 pvs (SqT.of hp2);have ew:=y2 _ (SqT.of ht2);rw [n7_] at ew;obtain ⟨th,et,rfl⟩:=n14_.mp ew;obtain ⟨q,eq,iq⟩:=pal.get ev;have ez:(ps.zip ts)[i]? = some (q,th):=List.getElem?_zip_eq_some.mpr ⟨eq,et⟩;generalize gG:upd H2 z (.tup [v,.int th])=H3;obtain ⟨s3,e3⟩:=gen_upd gG nz;have mq:=n6_ eq;have s03:=s2.trans s3;refine ⟨z,_,rfl,SqT.of e3,rfl,_,_,rfl,_,_,rfl,rfl,?_⟩;refine ⟨_,rfl,_,rfl,v,M,q,n,ks,rfl,iq.tk s03.tk,p3 q mq,mid.same s03,hs q mq,fun H4 L al s4 nL eL tp ek=>⟨L,rfl,⟨_,SqL.of eL⟩,?_⟩⟩
   have la:al.length=4:=by
    have:=congrArg List.length ek
    simpa [Zr] using this
   have e24:H4 D=some (.lst us):=s4 _ _ (s3 _ _ e2);have nLD:L≠D:=fun h=>by rw [h,s3 _ _ e2] at nL;cases nL
   refine ⟨fun j m1 σ H'=>j≤4∧m1=4-j∧∃ u'' us',σ=some v :: some (.int th) :: u'' :: some (.ref M) :: rest∧Same H H'∧H' L=some (.lst (refs al))∧(∀ x∈al,tpl H' x)∧H' D=some (.lst us')∧us'.length=4*i+j∧Al (IsPr H') us' (((ps.zip ts).take i).flatMap (fun x=>(Zr n ks x.1).map fun q=>(q,x.2))++((Zr n ks q).map fun r=>(r,th)).take j),
    ⟨_,n42_ _,rfl,_,us,rfl,s03.trans s4,eL,tp,e24,l2,by rw [List.take_zero,List.append_nil];exact a2.imp fun v x r=>Zle _ _ v x (s3.trans s4).tk r⟩,?_⟩
   rintro j m1 σ6 H6 ⟨hj,rfl,v6,us6,rfl,s6,eL6,tp6,e6,l6,a6⟩
   by_cases hj2:j<4
   · refine .inr ⟨⟨_,(refs al)[j]'(by simp;omega),SqL.of eL6,n1_ _⟩,fun y H7 y7=>?_⟩;obtain ⟨rfl,yy⟩:=y7;have ey:=yy _ (SqL.of eL6);rw [n7_] at ey;obtain ⟨r,er,rfl⟩:=n14_.mp ey;have erk:(Zr n ks q)[j]? = some r.2:=by rw [← ek,n7_,er];rfl
     refine ⟨_,rfl,_,rfl,z2_,fun T nT=>?_⟩;generalize gG:upd H7 T (.tup [.ref r.1,.int th])=H8;obtain ⟨s7,e7⟩:=gen_upd gG nT;have e8:=s7 _ _ e6;have tk8:Tk H8 (upd H8 D (.lst (us6++[.ref T]))):=Tk.upd_lst e8;refine ⟨us6,e8,by rw [sizeLine_eq];omega,4-(j+1),?d,hj2,rfl,_,us6++[.ref T],rfl,fun b o eb=>?_,?_,fun x hx=>?_,Zc,by rw [n21_,List.length_singleton];omega,?_⟩
     · rw [Zh (Zi eb hD)];exact s7 _ _ (s6 _ _ eb)
     · rw [Zh nLD];exact s7 _ _ eL6
     · exact tk8 _ _ (s7 _ _ (tp6 x hx))
     · rw [n61_,n7_,erk,← n49_];exact (a6.imp fun v x r=>Zle _ _ v x tk8 (Zle _ _ v x s7.tk r)).snoc ⟨T,r.1,rfl,tk8 _ _ e7,tk8 _ _ (s7 _ _ (tp6 r (n6_ er)))⟩
   · have:j=4:=?d
     subst this;refine .inl ⟨⟨_,SqL.of eL6,by simp [la]⟩,ps.length-(i+1),?d,hlt,rfl,_,_,_,us6,rfl,s6,e6,?d,?_⟩;rw [n45_ (show ((Zr n ks q).map fun r=>(r,th)).length≤4 by simp [Zr])] at a6;rw [n61_,ez,List.flatMap_append];exact a6
 · refine .inl ⟨⟨_,_,SqT.of hp2,SqT.of ht2,.inl (?d)⟩,hd H2 us s2 e2 ?_⟩;rw [n45_ (?d)] at a2;exact a2
theorem Zit {n:Nat} {ks:List (?e)} (l:List (?e×Int)):(l.flatMap fun x=>(Zr n ks x.1).map fun q=>(q,x.2)).length=4*l.length:=by
 induction l with
 | nil=>rfl
 | cons x l ih=>rw [List.flatMap_cons,n21_,ih,n5_,n18_];simp [Zr];omega
theorem Zo5 {n:Nat} {ks ps:List (?e)} {ts:?e} (t1:ts.length=ps.length):((ps.zip ts).flatMap fun x=>(Zr n ks x.1).map fun q=>(q,x.2)).map (·.1)=ps.flatMap (Zr n ks):=by
 rw [List.map_flatMap]
 conv=>rhs;rw [← Zbn t1.symm,List.flatMap_map]
 refine congrArg (fun f=>(ps.zip ts).flatMap f) (funext fun x=>?_);rw [n64_];exact List.map_id _
theorem Zvs {P:Pl} (ok:PlOk P):P.ps.Nodup:=by
 refine Yq (n65_.mpr fun i j hi hj lt=>?_);have g:∀ k (h:k<P.ps.length),P.ps.getD k []=P.ps[k]:=fun k h=>by simp [n4_,h]
 have:∀ d:Nat,(h:i+d+1<P.ps.length)→HT.lexLt P.ps[i] P.ps[i+d+1]=true:=by
  intro d
  induction d with
  | zero=>intro h;have:=ok.rise i h;rw [g _ hi,g _ h] at this;exact this
  | succ d ih=>intro h;have:=ok.rise (i+d+1) h;rw [g (i+d+1) (?d),g (i+d+1+1) h] at this;exact Za1 _ _ _ (ih (?d)) this
 have h:=this (j-i-1) (?d);simp only [show i+(j-i-1)+1=j by omega] at h;exact h
theorem Zju {K:PySem.W.Frag} {P:Pl} {D1 l2 st:Addr} {us:List V} {ql2:List PI2} {σ:L2.St} {H9:Hp} {Q:VK} {ip ir is:Nat} {ks:List (?e)} (hip:σ[ip]? = some (some (.ref D1))) (hir:σ[ir]? = some (some (.ref l2))) (his:σ[is]? = some (some (.ref st))) (e6:H9 D1=some (.lst us)) (a6:Al (IsP H9) us (Xq P.cs ks))
 (e9:H9 l2=some (.lst (Zai ql2))) (pi9:∀ x∈ql2,pi2 H9 x) (lq2:ql2.length≤16) (hst:H9 st=some (.tup ([P.l,P.m].map V.int))) (E:Edg P.ps ks) (rs2:ql2.Pairwise fun x y=>HT.lexLt x.k y.k=true)
 (pm:(ql2.map fun x=>(x.k,x.n)).Perm ((P.ps.zip P.ts).flatMap fun x=>(Zr P.cs.length ks x.1).map fun q=>(q,x.2))) (q:∀ (H':Hp) (v':V) (P2:Pl),Same H9 H'→IsPl H' v' P2→FinOk P P2 ks→Q v' H') :
 tTup (X5 (tCB (Xj K) (X5 (tVar ip) tNil)) (X5 (tCB (Xj K) (X5 (tLC (Znj K (tVar ir)) ?C tYes (tVar 0) [none,none]) tNil))
  (X5 (tCB (Xj K) (X5 (tLC (Znj K (tVar ir)) ?C tYes (tVar 1) [none,none]) tNil)) (X5 (tVar is) tNil)))) σ H9 Q:=by
 refine ⟨_,hip,D1,us,rfl,.inl ⟨SqL.of e6,fun A1 nA1=>?_⟩⟩;generalize gG:upd H9 A1 (.tup us)=HA;obtain ⟨sA,eA⟩:=gen_upd gG nA1;refine ⟨_,hir,l2,rfl,⟨_,SqL.of (sA _ _ e9)⟩,fun D4 nD4=>?_⟩;refine Zok (k:=.l) (vs:=Zai ql2) IsI hRII (ql2.map (·.k)) ?g (by rw [n5_];omega) nD4 (sA _ _ e9) (fun i w hw=>?_) (fun i b x y H2 C hw hb sB cc=>?_) (fun HB usB sB eB aB=>?_)
 · rw [n7_] at hw;obtain ⟨z,ez,rfl⟩:=n14_.mp hw;exact ⟨z.t,_,_,rfl,sA _ _ (pi9 z (n6_ ez)).1⟩
 · rw [n7_] at hw;obtain ⟨z,ez,e0⟩:=n14_.mp hw;cases e0
   obtain ⟨z1,z2⟩:=pi9 z (n6_ ez);rw [sA _ _ z1] at hb;cases hb
   exact ⟨_,rfl,cc _ _ z.k (Same.refl _) (by rw [n7_,ez];rfl) ⟨z.a,rfl,sB _ _ (sA _ _ z2)⟩⟩
 refine ⟨D4,_,rfl,.inl ⟨SqL.of eB,fun A2 nA2=>?_⟩⟩;generalize gG:upd HB A2 (.tup usB)=HC;obtain ⟨sC,eC⟩:=gen_upd gG nA2;have sAC:=sA.trans (sB.trans sC);refine ⟨_,hir,l2,rfl,⟨_,SqL.of (sAC _ _ e9)⟩,fun D5 nD5=>?_⟩;refine Zok (k:=.l) (vs:=Zai ql2) RI hRI (ql2.map (·.n)) ?g (by rw [n5_];omega) nD5 (sAC _ _ e9) (fun i w hw=>?_) (fun i b x y H2 C hw hb sD cc=>?_) (fun HD usD sD eD aD=>?_)
 · rw [n7_] at hw;obtain ⟨z,ez,rfl⟩:=n14_.mp hw;exact ⟨z.t,_,_,rfl,sAC _ _ (pi9 z (n6_ ez)).1⟩
 · rw [n7_] at hw;obtain ⟨z,ez,e0⟩:=n14_.mp hw;cases e0
   obtain ⟨z1,z2⟩:=pi9 z (n6_ ez);rw [sAC _ _ z1] at hb;cases hb
   exact ⟨_,rfl,cc _ _ z.n (Same.refl _) (by rw [n7_,ez];rfl) rfl⟩
 obtain rfl:=aD.ints;refine ⟨D5,_,rfl,.inl ⟨SqL.of eD,fun A3 nA3=>?_⟩⟩;generalize gG:upd HD A3 (.tup ((ql2.map (·.n)).map V.int))=HE;obtain ⟨sE,eE⟩:=gen_upd gG nA3;refine ⟨_,his,z4_,fun R nR=>?_⟩;have sF:Same HE (upd HE R (.tup [.ref A1,.ref A2,.ref A3,.ref st])):=Same.new nR;have sAF:=sAC.trans (sD.trans (sE.trans sF));refine q _ (.ref R) ⟨Xq P.cs ks,ql2.map (·.k),ql2.map (·.n),P.l,P.m⟩ sAF ?_ ?_
 · refine ⟨R,.ref A1,.ref A2,.ref A3,.ref st,rfl,Zc,?_,?_,?_,?_⟩
   · exact ⟨A1,_,rfl,(sB.trans (sC.trans (sD.trans (sE.trans sF)))) _ _ eA,a6.imp fun v x r=>r.tk sAF.tk⟩
   · exact ⟨A2,_,rfl,(sD.trans (sE.trans sF)) _ _ eC,aB.imp fun v x r=>r.tk (sC.trans (sD.trans (sE.trans sF))).tk⟩
   · exact ⟨A3,rfl,sF _ _ eE⟩
   · exact ⟨st,rfl,sAF _ _ hst⟩
 · refine ⟨E,rfl,?_,n50_.mpr rs2,by simp,rfl,rfl⟩;show ((ql2.map (·.k)).zip (ql2.map (·.n))).Perm _
   have ez:∀ l:List PI2,(l.map (·.k)).zip (l.map (·.n))=l.map fun x=>(x.k,x.n):=fun l=>List.zip_map' ..;rw [ez];exact pm
abbrev IsKV:Hp→V→List Key×V→Prop:=fun H v p=>∃ c b,v=.ref c∧H c=some (.tup [.ref b,p.2])∧H b=some (.tup (p.1.map kV))
theorem Zwr:∀ H1 H2 v x,Tk H1 H2→IsKV H1 v x→IsKV H2 v x:=fun _ _ _ _ t ⟨c,b,e,h1,h2⟩=>⟨c,b,e,t _ _ h1,t _ _ h2⟩
abbrev midF (n:Nat) (ks:List (?e)) (i:Nat):Option (List Key×V):=(ks[i]?).map fun s=>(s.map Sum.inl,V.int ((n:Int)+(i:Int)))
theorem Zs1 {n:Nat} {ks:List (?e)} (nd:ks.Nodup):∀ i,i≤ks.length→MidAt n ks i (L2.Zcn [] ((List.range i).filterMap (midF n ks))):=by
 intro i
 induction i with
 | zero=>intro _;exact .nil
 | succ i ih =>
   intro h;have e:ks[i]? = some ks[i]:=n1_ (?d);rw [List.range_succ,List.filterMap_append]
   have:(List.filterMap (midF n ks) [i])=[(ks[i].map Sum.inl,V.int ((n:Int)+(i:Int)))]:=by
    simp [midF,show i<ks.length by omega]
   rw [this,L2.Zcn,List.foldl_append];exact (ih (?d)).step nd e
theorem Zpx {K:PySem.W.Frag} {c D l:Addr} {cvs:List V} {ql:List (Addr×?e)} {u0 u1:Option V} {rest:L2.St} {H:Hp} {Q:VK} (hc:H c=some (.tup cvs)) (hl:H l=some (.lst (refs ql))) (tp:∀ x∈ql,tpl H x) (h12:ql.length≤12) (nd:(ql.map (·.2)).Nodup) (hD:H D=none)
 (hd:∀ H2 us ps,Same H H2→H2 D=some (.lst us)→us.length≤1000→Al (IsKV H2) us ps→MidAt cvs.length (ql.map (·.2)) (ql.map (·.2)).length (L2.Zcn [] ps)→Q (.ref D) H2) :
 LcGo (Ite .l K l) ?C tYes (tTup (X5 (tVar 1) (X5 (tOp (rI0 fun i j=>.int (i+j)) (tCB (Za5 K) (X5 (tVar 2) tNil)) (tVar 0)) tNil))) (u0 :: u1 :: some (.ref c) :: rest) H D Q:=by
 refine lc_E (k:=.l) (vs:=refs ql) IsKV Zwr (midF cvs.length (ql.map (·.2))) (by rw [n5_];omega) hD hl (fun i w H2 C N hw s2 cc nn=>?_) (fun H2 us s2 e2 a2=>?_)
 · rw [n7_] at hw;obtain ⟨z,ez,rfl⟩:=n14_.mp hw;refine iteT (B:=N H2) ?_;refine ⟨_,rfl,_,rfl,c,cvs,rfl,.inr (SqT.of (s2 _ _ hc)),_,rfl,_,_,rfl,rfl,z2_,fun T nT=>?_⟩;exact cc _ _ (z.2.map Sum.inl,V.int ((cvs.length:Int)+(i:Int))) (Same.new nT) (by simp [midF,ez]) ⟨T,z.1,rfl,Zc,by rw [kVs];exact Same.new nT _ _ (s2 _ _ (tp z (n6_ ez)))⟩
 · rw [n5_] at a2;refine hd H2 us _ s2 e2 ?_ a2 (by rw [show (ql.map (·.2)).length=ql.length by simp];exact Zs1 nd _ ?g)
   have:=a2.1
   have h:=List.length_filterMap_le (midF cvs.length (ql.map (·.2))) (List.range ql.length);rw [n76_] at h;omega
theorem Znf {K:PySem.W.Frag} {p:Addr} {x:Int} {ns:?e} {H:Hp} {Q:VK} (h:SqT K H p (ns.map V.int)) (q:Q (.bl (decide (x∈ns))) H):rIn K false (.int x) (.ref p) H Q:=⟨p,_,rfl,.inr h,rfl,by rw [List.all_map];exact n44_.mpr ?l,by rw [Zko];exact q⟩
theorem Zn6 {K:PySem.W.Frag} {l D:Addr} {tt:TT} {te:TE} {u0:Option V} {rest:L2.St} {ql:List (Addr×?e)} {n:Nat} {H:Hp} {Q:VK} (cond:?e→Bool) (hl:H l=some (.lst (refs ql))) (h12:ql.length≤12) (hD:H D=none)
 (htt:∀ y∈ql,∀ (H2:Hp) (Q:Bool→?o),Same H H2→Q (cond y.2) H2→tt (some (.ref y.1) :: rest) H2 Q) (hte:∀ y∈ql,∀ (H2:Hp) (Q:VK),Same H H2→Q (.int (mdl n (ql.map (·.2)) y.2)) H2→te (some (.ref y.1) :: rest) H2 Q)
 (hd:∀ H2,Same H H2→H2 D=some (.lst ((((ql.map (·.2)).filter cond).map (mdl n (ql.map (·.2)))).map V.int))→Q (.ref D) H2):LcGo (SK.l.Itk K l) (Zy 0) tt te (u0 :: rest) H D Q:=by
 refine lc_F (k:=.l) (vs:=refs ql) RI hRI (fun i=>(((ql.map (·.2))[i]?).filter cond).map (mdl n (ql.map (·.2)))) (by rw [n5_];omega) hD hl (fun i w H2 C N hw s2 c nn=>?_) (fun H2 us s2 e2 a2=>?_)
 · rw [n7_] at hw;obtain ⟨y,ey,rfl⟩:=n14_.mp hw;have my:=n6_ ey;refine htt y my H2 _ s2 ?_
   by_cases h:cond y.2=true
   · rw [if_pos h];exact hte y my H2 _ s2 (c _ _ (mdl n (ql.map (·.2)) y.2) (Same.refl _) (by simp [ey,Option.filter,h]) rfl)
   · rw [if_neg h];exact nn _ (Same.refl _) (by simp [ey,Option.filter,h])
 · have e:(List.range (refs ql).length).filterMap (fun i=>(((ql.map (·.2))[i]?).filter cond).map (mdl n (ql.map (·.2))))=((ql.map (·.2)).filter cond).map (mdl n (ql.map (·.2))):=by
    rw [← List.map_filterMap,n5_,Zct _ _ _ ?g,n45_ ?g]
   rw [e] at a2;obtain rfl:=a2.ints;exact hd H2 s2 e2
abbrev twoT (K:PySem.W.Frag) (ip:Nat):TT:=tAnd (Zth (tOp (rIn K false) (tOp (rIxT K) (tVar 0) (tC (.int 0))) (tVar ip))) (Zth (tOp (rIn K false) (tOp (rIxT K) (tVar 0) (tC (.int 1))) (tVar ip)))
theorem Zq6 {K:PySem.W.Frag} {σ:L2.St} {ip:Nat} {y b:Addr} {i j:Int} {q:?e} {H:Hp} {Q:Bool→?o} (h0:σ[0]? = some (some (.ref y))) (hb:σ[ip]? = some (some (.ref b))) (ty:H y=some (.tup [.int i,.int j])) (tb:H b=some (.tup (q.map V.int))) (k:Q (decide (i∈q)&&decide (j∈q)) H):twoT K ip σ H Q:=by
 refine ⟨_,h0,y,_,0,_,rfl,rfl,SqT.of ty,rfl,_,hb,Znf (SqT.of tb) ⟨_,rfl,?_⟩⟩
 by_cases h:i∈q
 · rw [n32_ h] at k ⊢;rw [Bool.true_and] at k;exact iteT ⟨_,h0,y,_,1,_,rfl,rfl,SqT.of ty,rfl,_,hb,Znf (SqT.of tb) ⟨_,rfl,k⟩⟩
 · rw [n36_ h] at k ⊢;exact iteF k
theorem Zon {H:Hp} {P:Pl} (ok:PlOk P) {ql:List (Addr×?e)} (E:Edg P.ps (ql.map (·.2))) {y:Addr×?e} (hy:y∈ql) (h:tpl H y):∃ i j,y.2=[i,j]∧H y.1=some (.tup [.int i,.int j]):=by
 obtain ⟨i,j,e,_⟩:=Zft ok E y.2 (n47_ hy);rw [tpl,e] at h;exact ⟨i,j,e,h⟩
theorem Znc {H:Hp} {M n:Nat} {ql:List (Addr×?e)} {σ:L2.St} {im:Nat} {Q:VK} (m:MidOk H M n (ql.map (·.2))) {y:Addr×?e} (hy:y∈ql) (h:tpl H y) (hM:σ[im]? = some (some (.ref M))) (h0:σ[0]? = some (some (.ref y.1))) (q:Q (.int (mdl n (ql.map (·.2)) y.2)) H):Zu7 (tVar im) (tVar 0) σ H Q:=by
 obtain ⟨kvs,e,hk⟩:=m.ex;have hy2:=hk y.2 (n47_ hy);refine ⟨_,hM,_,h0,M,_,rfl,?_,q⟩;rw [← hy2];exact DGet.tq e (by rw [kVs];exact h)
theorem MidOk.keep {H H':Hp} {M W:Addr} {n:Nat} {ks:List (?e)} (h:MidOk H M n ks) (k:Keep W H H') (ne:M≠W):MidOk H' M n ks:=let ⟨kvs,a,b⟩:=h.ex;⟨kvs,k _ _ ne a,b⟩
theorem Zu8 {K:PySem.W.Frag} {p:Addr} {i j:Int} {H:Hp} {Q:VK} (h:i<j) (hq:SqL K H p [.int i,.int j]) (q:Q (.int i) H):BxRc_mm (fun i j=>if j<i then j else i) K [.ref p] H Q:=⟨p,i,j,rfl,hq,by show Q (.int (if j<i then j else i)) H;rw [if_neg (?d)];exact q⟩
theorem Zt4 {K:PySem.W.Frag} {p:Addr} {i j:Int} {H:Hp} {Q:VK} (h:i<j) (hq:SqL K H p [.int i,.int j]) (q:Q (.int j) H):BxRc_mm (fun i j=>if j>i then j else i) K [.ref p] H Q:=⟨p,i,j,rfl,hq,by show Q (.int (if j>i then j else i)) H;rw [if_pos h];exact q⟩
theorem Zkh {H8 H' H5:Hp} {W T1 T2:Addr} {us:List V} {rows:List (?e×Int)} {r:?e} {th:Int} {m:Nat} (kp:Keep W H8 H') (s:Same H' H5) (eW:H' W=some (.lst us)) (a:Al (IsPr H') us rows) (e1:H5 T1=some (.tup (r.map V.int))) (e2:H5 T2=some (.tup [.ref T1,.int th])) (hl:us.length=m) :
 Keep W H8 (upd H5 W (.lst (us++[.ref T2])))∧upd H5 W (.lst (us++[.ref T2])) W=some (.lst (us++[.ref T2]))∧(us++[V.ref T2]).length=m+1∧Al (IsPr (upd H5 W (.lst (us++[.ref T2])))) (us++[V.ref T2]) (rows++[(r,th)]):=by
 have tk:Tk H5 (upd H5 W (.lst (us++[.ref T2]))):=Tk.upd_lst (s _ _ eW);refine ⟨fun b o ne e=>by rw [Zh ne];exact s _ _ (kp b o ne e),Zc,by rw [n21_,hl];rfl,?_⟩;exact (a.imp fun v x r=>Zle _ _ v x tk (Zle _ _ v x s.tk r)).snoc ⟨T2,T1,rfl,tk _ _ e2,tk _ _ e1⟩
theorem Zm0 {α:Type} {f:α→PyData} (h:∀ x,(f x).hasDict=false) (xs:List α):PyData.hasDictAll (xs.map f)=false:=by
 induction xs with
 | nil=>rfl
 | cons x xs ih=>simp only [n31_,PyData.hasDictAll,h,ih,Bool.or_self]
theorem hdI (ns:?e):(dI ns).hasDict=false:=Zm0 (fun _=>rfl) ns
theorem hdPl (P:Pl):(dPl P).hasDict=false:=by
 simp only [dPl,PyData.hasDict,PyData.hasDictAll,hdI,Zm0 hdI,Zm0 (f:=dP) fun p=>hdI [p.1,p.2],Bool.or_self]
theorem Ztm {a b c:Pnt} (ha:near a) (hb:near b) (hc:near c):(absI (tn a b c)).natAbs≤80000:=by
 obtain ⟨⟨a1,a2⟩,a3,a4⟩:=ha;obtain ⟨⟨b1,b2⟩,b3,b4⟩:=hb;obtain ⟨⟨c1,c2⟩,c3,c4⟩:=hc;have m:∀ {u v:Int},-200≤u→u≤200→-200≤v→v≤200→(u*v).natAbs≤200*200:=fun h1 h2 h3 h4=>by rw [Int.natAbs_mul];exact Nat.mul_le_mul (?d) (?d)
 have h1:=m (u:=b.1-a.1) (v:=c.2-a.2) (?d) (?d) (?d) (?d);have h2:=m (u:=c.1-a.1) (v:=b.2-a.2) (?d) (?d) (?d) (?d);unfold tn absI;generalize (b.1-a.1)*(c.2-a.2)=x at *;generalize (c.1-a.1)*(b.2-a.2)=y at *;split<;>omega
theorem Zsa {P:Pl} (ok:PlOk P):(Zht P).natAbs≤80000*P.ps.length:=by
 have:∀ qs:List (?e),(∀ p∈qs,p∈P.ps)→((qs.map fun p=>absI (dOf P.cs p)).sum).natAbs≤80000*qs.length:=by
  intro qs
  induction qs with
  | nil=>intro _;exact n11_ _
  | cons p qs ih =>
    intro h;have h1:=ih fun q hq=>h q (n16_ _ hq);have pk:=ok.pc p (h p n19_);have g:∀ i∈p,near (cAt P.cs i):=fun i hi=>ok.nr _ (X0 (pk.bd i hi).1 (pk.bd i hi).2);obtain ⟨x,y,z,rfl⟩:=len3 pk.len;have h2:=Ztm (g x ?g) (g y ?g) (g z ?g);rw [n31_,List.sum_cons,n18_];have h3:=Int.natAbs_add_le (absI (dOf P.cs [x,y,z])) ((qs.map fun p=>absI (dOf P.cs p)).sum);have h4:(absI (dOf P.cs [x,y,z])).natAbs≤80000:=h2;omega
 exact this P.ps fun p hp=>hp
theorem Zvg {P P2:Pl} {ks:List (?e)} (F:FinOk P P2 ks) (t1:P.ts.length=P.ps.length):P2.ps.length=4*P.ps.length:=by
 have h:=F.rows.length_eq;rw [Zit,List.length_zip,List.length_zip,F.len,t1] at h;omega
theorem Zr8 {A:Aff} (S:Small A) (W:A.b.natAbs≤2∧A.c.natAbs≤2∧A.s.natAbs≤20∧A.t.natAbs≤4) {p:Pnt} (h:p.1.natAbs≤6∧p.2.natAbs≤6):(-50≤(A.at p).1∧(A.at p).1≤50)∧(-50≤(A.at p).2∧(A.at p).2≤50):=by
 have m:∀ {u v:Int} {a b:Nat},u.natAbs≤a→v.natAbs≤b→(u*v).natAbs≤a*b:=fun h1 h2=>by rw [Int.natAbs_mul];exact Nat.mul_le_mul h1 h2
 have r:∀ {u v w:Int} {a b c:Nat},u.natAbs≤a→v.natAbs≤b→w.natAbs≤c→a+b+c≤50→-50≤u+v+w∧u+v+w≤50:=fun h1 h2 h3 h4=>?d
 exact ⟨r (m S.a h.1) (m W.1 h.2) W.2.2.1 ?f,r (m W.2.1 h.1) (m S.d h.2) W.2.2.2 ?f⟩
theorem Zll {pts:List Pnt} {pcs:List (?e)} {A:Aff} {o:?e} {cs:List Pnt} {kl:List (?e)} {q:List Nat} (D:Drawn pts pcs A o cs kl q) (W:A.b.natAbs≤2∧A.c.natAbs≤2∧A.s.natAbs≤20∧A.t.natAbs≤4):∀ p∈cs,(-50≤p.1∧p.1≤50)∧(-50≤p.2∧p.2≤50):=fun p hp=>by
 obtain ⟨k,hk,e⟩:=n48_ hp;have hl:=D.len;obtain ⟨j,hj,ej⟩:=D.ord.sur k (?d);have h:=D.at_ j hj;rw [ej,n63_,n1_ hk,e] at h;rw [Option.some.inj h,n4_,n1_ hj];exact Zr8 D.small W (D.bd _ (n51_ hj))
section
variable (P:Program) (w:World) (K:PySem.W.Frag) (mg:Str→Option Value) (base:Heap)
abbrev a0_:=Cal P w K mg base "is_whole" 1 ["thing"] Zdd
abbrev a1_:=Cal P w K mg base "is_between" 2 ["thing","least","most"] Zez
abbrev a2_:=Cal P w K mg base "is_row" 1 ["thing","fewest","most"] Zrl
abbrev a3_:=Cal P w K mg base "is_corner" 3 ["thing"] Zhf
abbrev a4_:=Cal P w K mg base "turn" 1 ["first","second","third"] Zol
abbrev a5_:=Cal P w K mg base "are_rising" 1 ["things"] Zes
abbrev a6_:=Cal P w K mg base "turn_of" 2 ["corners","piece"] Zhy
abbrev a7_:=Cal P w K mg base "are_rising" 1 ["things"] Ze3
abbrev a8_:=Cal P w K mg base "is_piece" 3 ["corners","thing"] Zer
abbrev a9_:=Cal P w K mg base "edges" 1 ["points"] Zk2
abbrev a10_:=Cal P w K mg base "parts_from" 2 ["points","others"] Zck
abbrev a11_:=Cal P w K mg base "lies_in" 2 ["point","points"] Zhs
abbrev a12_:=Cal P w K mg base "are_apart" 3 ["points","others"] Zkf
abbrev a13_:=Cal P w K mg base "no_strange_corner" 3 ["corners","piece","points"] Ze5
abbrev a14_:=Cal P w K mg base "triangle" 2 ["corners","piece"] Zrb
abbrev a15_:=Cal P w K mg base "are_corners" 4 ["thing"] Zev
abbrev a16_:=Cal P w K mg base "are_pieces" 4 ["corners","thing"] Zgg
abbrev a17_:=Cal P w K mg base "are_thicks" 3 ["pieces","thing"] Zh2
abbrev a18_:=Cal P w K mg base "every_corner_is_used" 2 ["corners","pieces"] Zmz
abbrev a19_:=Cal P w K mg base "fit_together" 4 ["corners","pieces"] Zqz
abbrev a20_:=Cal P w K mg base "is_stuff" 3 ["thing"] Zki
abbrev a21_:=Cal P w K mg base "is_plate" 5 ["thing"] Zei
abbrev a22_:=Cal P w K mg base "sides_of" 1 ["piece"] Ze2
abbrev a23_:=Cal P w K mg base "owners" 2 ["plate"] Zgp
abbrev a24_:=Cal P w K mg base "look_at_plate" 6 ["plate"] Zcl
abbrev a25_:=Cal P w K mg base "neighbours" 3 ["plate"] Zof
abbrev a26_:=Cal P w K mg base "part_of" 2 ["start","near"] Zg4
abbrev a27_:=Cal P w K mg base "look_at_finer" 8 ["plate"] Zcz
abbrev a28_:=Cal P w K mg base "quarters" 3 ["piece","middles"] Zbm
abbrev a29_:=Cal P w K mg base "_law_cell_at" 1 ["_law_script","_law_k"] (Zn1 K)
abbrev a30_:=Cal P w K mg base "_law_choice" 1 ["_law_state_here","_law_many"] Zdg
abbrev a31_:=Cal P w K mg base "_law_order" 2 ["_law_state_here","_law_many"] Zkm
abbrev a32_:=Cal P w K mg base "_law_shapes" 1 [] Zgv
abbrev a33_:=Cal P w K mg base "_law_sides" 2 ["_law_sheet"] Zhn
abbrev a34_:=Cal P w K mg base "_law_finer" 4 ["_law_sheet"] Zc7
abbrev a35_:=Cal P w K mg base "_law_plate" 3 ["_law_state_here","_law_most"] Zh3
abbrev a36_:=Cal P w K mg base "_law_same" 2 ["_law_found","_law_due"] Zjv
abbrev a37_:=Cal P w K mg base "_law_state" 2 ["_law_script","_law_k"] (Zkx K)
abbrev a38_:=Cal P w K mg base "finer" 9 ["plate"] Zc7
abbrev a39_:=Cal P w K mg base "parts" 7 ["plate"] Zjz
abbrev a40_:=Cal P w K mg base "room" 7 ["plate"] Zm3
end
section
variable {P:Program} {w:World} {K:PySem.W.Frag} {mg:Str→Option Value} {base:Heap} {f:Addr} {fd:FuncData} (T:Bt mg)
include T
abbrev Zcb:Stmt:=top 5
theorem Zi0 (F:Fun K "is_whole" "is_whole" Zcb f fd):FnOk P w K mg base CX0 1 f fd ["thing"] Zdd:=by
 have sc:FnScope ["thing"] ["thing"] (Zf Zcb):=fsc (?j);refine F.ok sc (fun vs H Q E h=>by obtain ⟨a,rfl,_⟩:=h;rfl) ?z;obtain ⟨a,rfl,q⟩:=h;refine' ?A
 case term=>refine' Zj (Zo (Zdr (Zk Zfk rfl T.b_isinstance Zao (Za (pv 0) (Za (Zih (v:=.ty "int") rfl T.b_int Zuo rfl) Zb rfl) rfl)) (Zcm (Zq1 (Zk Zfk rfl T.b_isinstance Zao (Za (pv 0) (Za (Zih (v:=.ty "bool") rfl T.b_bool Zsj rfl) Zb rfl) rfl))))))
 refine ⟨_,rfl,_,_,_,_,rfl,TyOf.int a,rfl,true,rfl,iteT ?_⟩;refine ⟨_,rfl,_,_,_,_,rfl,TyOf.int a,rfl,false,rfl,q⟩
abbrev Zau:Stmt:=top 13
theorem Zf5 (F:Fun K "is_between" "is_between" Zau f fd) (Cah_:a0_ P w K mg base):FnOk P w K mg base CX0 2 f fd ["thing","least","most"] Zez:=by
 have sc:FnScope ["thing","least","most"] ["thing","least","most"] (Zf Zau):=fsc (?j);refine F.ok sc (fun vs H Q E h=>by obtain ⟨i,lo,hi,rfl,_⟩:=h;rfl) ?z;obtain ⟨i,lo,hi,rfl,h1,h2,q⟩:=h;refine' ?A
 case term=>refine' Zj (Zo (Zdr (Zm Cah_ hr ?f rfl (Za (pv 0) Zb rfl)) (Zcm (Zku Zme Zme (pv 1) (pv 0) (pv 2)))))
 refine ⟨_,rfl,i,rfl,true,rfl,iteT ?_⟩;refine ⟨_,rfl,_,rfl,_,_,rfl,rfl,true,blT h1,iteT ?_⟩;exact ⟨_,rfl,_,_,rfl,rfl,qT h2 q⟩
abbrev Zf2:Stmt:=top 14
theorem Zmn (F:Fun K "is_row" "is_row" Zf2 f fd):FnOk P w K mg base CX0 1 f fd ["thing","fewest","most"] Zrl:=by
 have sc:FnScope ["thing","fewest","most"] ["thing","fewest","most"] (Zf Zf2):=fsc (?j);refine F.ok sc (fun vs H Q E h=>by obtain ⟨a,us,lo,hi,rfl,_⟩:=h;rfl) ?z;obtain ⟨a,us,lo,hi,rfl,ha,h1,h2,q⟩:=h;refine' ?A
 case term=>refine' Zj (Zo (Zdr (Zk Zfk rfl T.b_isinstance Zao (Za (pv 0) (Za (Zih (v:=.ty "tuple") rfl T.b_tuple Yp rfl) Zb rfl) rfl)) (Zcm (Zku Zme Zme (pv 1) (Zk Zp rfl T.b_len Yw (Za (pv 0) Zb rfl)) (pv 2)))))
 refine ⟨_,rfl,_,_,_,_,rfl,TyOf.tup ha,rfl,true,rfl,iteT ?_⟩;refine ⟨_,rfl,_,rfl,a,_,rfl,.inr (SqT.of ha),_,_,rfl,rfl,true,blT h1,iteT ?_⟩;exact ⟨_,rfl,_,_,rfl,rfl,qT h2 q⟩
abbrev Zan:Stmt:=top 15
theorem Zd4 (F:Fun K "are_rising" "are_rising" Zan f fd):FnOk P w K mg base CX0 1 f fd ["things"] Zes:=by
 have sc:FnScope ["things"] ["things"] (Zf Zan):=fsc (?j);refine F.ok sc (fun vs H Q E h=>by obtain ⟨a,ns,rfl,_⟩:=h;rfl) ?z;obtain ⟨a,ns,rfl,ha,hz,hr',q⟩:=h;refine' ?A
 case term=>refine' Zj (Zo (Zk (Yu rfl) rfl T.b_all Zbd (Za (Xe (g:=?C) (N:=["one","other"]) (fr:=[none,none]) rfl (Ye ?f rfl ?f rfl rfl) (Zk0 .t .t rfl T.b_zip (Za (pv 0) (Za (Zf8 Zmb (pv 0) (Zjj Zg) Zjc) Zb rfl) rfl)) ?D (fun _ _ _ _=>Zq) (fun _ _ _ _=>Zak Ztn (pv 0) (pv 1) (Y1 _))) Zb rfl)))
 refine ⟨_,rfl,_,rfl,_,rfl,a,_,rfl,ha,fun p H1 s1 h1=>?_⟩;rw [cut1] at h1;refine ⟨a,p,rfl,⟨_,SqT.of (s1 _ _ ha)⟩,⟨_,SqT.of h1⟩,fun D nD=>?_⟩;refine lc_Z (k:=.t) (l:=.t) (vs:=ns.map V.int) (ws:=(ns.map V.int).drop 1) (fun _ v b=>v=V.bl b) (fun _ _ _ _ _ e=>e) (List.replicate (ns.length-1) true) ?g (by simp;omega) nD (s1 _ _ ha) h1 (fun i v w H2 C hv hw s2 c=>?_) (fun H2 us s2 e2 a2=>?_)
 · rw [List.getElem?_drop,n7_,Nat.add_comm] at hw;rw [n7_] at hv;obtain ⟨x,ex,rfl⟩:=n14_.mp hv;obtain ⟨y,ey,rfl⟩:=n14_.mp hw;refine ⟨_,rfl,_,rfl,_,_,rfl,rfl,qT (hr' i x y ex ey) (c _ _ true (Same.refl _) ?_ rfl)⟩
   have:i+1<ns.length:=(n12_.mp ey).1
   rw [List.getElem?_replicate,if_pos (?d)]
 · rw [a2.bls] at e2;refine ⟨D,List.replicate (ns.length-1) true,rfl,SqL.of e2,?_⟩;rw [List.all_replicate];split<;>exact q _ (s1.trans s2)
abbrev Zby:Stmt:=top 15
theorem Zd1 (F:Fun K "are_rising" "are_rising" Zby f fd):FnOk P w K mg base CX0 1 f fd ["things"] Ze3:=by
 have sc:FnScope ["things"] ["things"] (Zf Zby):=fsc (?j);refine F.ok sc (fun vs H Q E h=>by obtain ⟨a,us,ks,rfl,_⟩:=h;rfl) ?z;obtain ⟨a,us,ks,rfl,ha,al,hz,hr',q⟩:=h;have hu:=Zid hr;have hu1:=Nat.lt_of_succ_lt hu;refine' ?A
 case term=>refine' Zj (Zo (Zk (Yu rfl) rfl T.b_all Zbd (Za (Xe (g:=?C) (N:=["one","other"]) (fr:=[none,none]) rfl (Ye ?f rfl ?f rfl rfl) (Zk0 .t .t rfl T.b_zip (Za (pv 0) (Za (Zf8 Zmb (pv 0) (Zjj Zg) Zjc) Zb rfl) rfl)) ?D (fun _ _ _ _=>Zq) (fun _ _ _ _=>Zak (show OpR _ (compareOp .Lt) (rLtT K) from Zt9 hu1) (pv 0) (pv 1) (Y1 _))) Zb rfl)))
 refine ⟨_,rfl,_,rfl,_,rfl,a,_,rfl,ha,fun p H1 s1 h1=>?_⟩;rw [cut1] at h1;refine ⟨a,p,rfl,⟨_,SqT.of (s1 _ _ ha)⟩,⟨_,SqT.of h1⟩,fun D nD=>?_⟩;refine lc_Z (k:=.t) (l:=.t) (vs:=us) (ws:=us.drop 1) RB hRB (List.replicate (us.length-1) true) ?g (by simp;omega) nD (s1 _ _ ha) h1 (fun i v w H2 C hv hw s2 c=>?_) (fun H2 us' s2 e2 a2=>?_)
 · rw [List.getElem?_drop,Nat.add_comm] at hw;obtain ⟨x,ex,a,rfl,qa⟩:=al.get hv;obtain ⟨y,ey,b,rfl,qb⟩:=al.get hw;refine ⟨_,rfl,_,rfl,a,b,x,y,rfl,rfl,SqT.of ((s1.trans s2) _ _ qa),SqT.of ((s1.trans s2) _ _ qb),?_⟩;rw [hr' i x y ex ey];refine c _ _ true (Same.refl _) (repT ?_) rfl
   have:=Yt hw
   omega
 · rw [a2.bls] at e2;refine ⟨D,List.replicate (us.length-1) true,rfl,SqL.of e2,?_⟩;rw [allT];exact q _ (s1.trans s2)
abbrev Zbl:Stmt:=top 16
theorem Zhg (F:Fun K "is_corner" "is_corner" Zbl f fd) (Cc_:a1_ P w K mg base) (Cb_:a2_ P w K mg base):FnOk P w K mg base CX0 3 f fd ["thing"] Zhf:=by
 have sc:FnScope ["thing"] ["thing"] (Zf Zbl):=fsc (?j);refine F.ok sc (fun vs H Q E h=>by obtain ⟨v,p,rfl,_⟩:=h;rfl) ?z;obtain ⟨v,p,rfl,⟨a,rfl,ha⟩,⟨⟨n1,n2⟩,n3,n4⟩,q⟩:=h;refine' ?A
 case term=>refine' Zj (Zo (Zdr (Zm Cb_ hr ?f rfl (Za (pv 0) (Za Zg (Za Zg Zb rfl) rfl) rfl)) (Zcm (Zk (Yu rfl) rfl T.b_all Zbd (Za (Xe (N:=["part"]) (fr:=[none]) rfl (Ye ?f rfl ?f rfl rfl) (Y0 (pv 0)) (fun _ _ _ _=>pgB 0) (fun _ _ _ _=>Zq) (fun _ _ _ _=>Zm Cc_ hr ?f rfl (Za (pv 0) (Za (Zux Zrw (Xk T.n_FARTHEST rfl)) (Za (Xk T.n_FARTHEST rfl) Zb rfl) rfl) rfl))) Zb rfl)))))
 refine ⟨_,rfl,a,_,2,2,rfl,ha,by simp,by simp,true,rfl,iteT ?_⟩;refine ⟨_,rfl,a,rfl,⟨_,SqT.of ha⟩,fun D nD=>?_⟩;refine lc_T (k:=.t) (vs:=[V.int p.1,V.int p.2]) RB hRB [true,true] rfl ?g nD ha (fun i w H2 C hw s2 c=>?_) (fun H2 us' s2 e2 a2=>?_)
 · have hi:i=0∨i=1:=by have:i<2:=Yt hw;omega
   rcases hi with rfl|rfl
   · cases (show V.int p.1=w by simpa using hw)
     exact ⟨_,rfl,_,rfl,p.1,-100,100,rfl,n1,n2,c _ _ true (Same.refl _) rfl rfl⟩
   · cases (show V.int p.2=w by simpa using hw)
     exact ⟨_,rfl,_,rfl,p.2,-100,100,rfl,n3,n4,c _ _ true (Same.refl _) rfl rfl⟩
 · rw [a2.bls] at e2;exact ⟨D,[true,true],rfl,SqL.of e2,q _ s2⟩
abbrev Zam:Stmt:=top 17
theorem Zdz (F:Fun K "are_corners" "are_corners" Zam f fd) (Cac_:a3_ P w K mg base) (Cb_:a2_ P w K mg base):FnOk P w K mg base CX0 4 f fd ["thing"] Zev:=by
 have sc:FnScope ["thing"] ["thing"] (Zf Zam):=fsc (?j);refine F.ok sc (fun vs H Q E h=>by obtain ⟨v,cs,rfl,_⟩:=h;rfl) ?z;obtain ⟨v,cs,rfl,⟨a,us,rfl,ha,al⟩,h3,h30,nr,nd',q⟩:=h;refine' ?A
 case term=>refine' Zd ?g1 (Zj (Zo (Zak Zp5 (Zk Znb rfl T.b_len Yw (Za (Z3 (Zoj rfl hr) rfl T.b_set Zre (Za (pv 0) Zb rfl)) Zb rfl)) (Zk Zp rfl T.b_len Yw (Za (pv 0) Zb rfl)) (Y1 _))));case g1=>refine' Xo ?g2 (Zj (Zo X7)) Z4;case g2=>refine' PW.pt ?g3;case g3=>refine' Ziw (Xc (Z0 (Zm Cb_ hr ?f rfl (Za (pv 0) (Za (Xk T.n_FEWEST_CORNERS rfl) (Za (Xk T.n_MOST_CORNERS rfl) Zb rfl) rfl) rfl)) (fun _=>rfl))) ?g4;case g4=>refine' Zdx ?g5;case g5=>refine' Xc ?g6;case g6=>refine' Z0 (Zk (Yu rfl) rfl T.b_all Zbd (Za (Xe (N:=["part"]) (fr:=[none]) rfl (Ye ?f rfl ?f rfl rfl) (Y0 (pv 0)) (fun _ _ _ _=>pgB 0) (fun _ _ _ _=>Zq) (fun _ _ _ _=>Zm Cac_ hr ?f rfl (Za (pv 0) Zb rfl))) Zb rfl)) (fun _=>rfl)
 have hl:=al.1;refine ⟨_,rfl,a,_,3,30,rfl,ha,?d,?d,true,rfl,iteF ?_⟩;refine ⟨_,rfl,a,rfl,⟨_,SqT.of ha⟩,fun D nD=>?_⟩;refine lc_T (k:=.t) (vs:=us) RB hRB (List.replicate us.length true) ?g (?d) nD ha (fun i w H2 C hw s2 c=>?_) (fun H2 us' s2 e2 a2=>?_)
 · obtain ⟨p,ep,rp⟩:=al.get hw;exact ⟨_,rfl,w,p,rfl,rp.tk s2.tk,nr p (n6_ ep),fun H5 s5=>c _ _ true s5 (repT (Yt hw)) rfl⟩
 · rw [a2.bls] at e2;refine ⟨D,List.replicate us.length true,rfl,SqL.of e2,true,by rw [allT];rfl,iteF ?_⟩
   have ali:Al (IsI H2) us (cs.map fun p=>[p.1,p.2]):=⟨by simp [hl],fun i v x e1 e2=>by
    obtain ⟨p,ep,rp⟩:=al.get e1;rw [n7_,ep] at e2;cases e2
    exact rp.tk s2.tk⟩
   obtain ⟨bl,rfl,tp,eb⟩:=Zoe ali
   have nb:(bl.map (·.2)).Nodup:=by
    rw [eb,n26_,n50_];refine (n26_.mp nd').imp fun {x y} ne e=>ne ?_;simp at e;exact Prod.ext e.1 e.2
   have lb:bl.length=cs.length:=by have:=hl;rwa [n5_] at this
   refine ⟨_,rfl,a,bl,rfl,SqT.of (s2 _ _ ha),tp,?d,fun S nS=>?_⟩;generalize hG:upd H2 S _=H3;have s3:Same H2 H3:=by rw [← hG];exact Same.new nS
   have e3:=(congrFun hG S).symm;rw [Zc] at e3;clear hG;refine ⟨_,S,_,rfl,e3,by rw [Zg1 nb];omega,_,rfl,a,_,rfl,.inr (SqT.of (s3 _ _ (s2 _ _ ha))),rfl,?_⟩;have e:V.int ((metU bl).length:Nat)=V.int (refs bl).length:=by rw [Zg1 nb,n5_]
   exact qT e (q _ (s2.trans s3))
abbrev Zn2:Stmt:=top 18
theorem Zsy (F:Fun K "turn" "turn" Zn2 f fd):FnOk P w K mg base CX0 1 f fd ["first","second","third"] Zol:=by
 have sc:FnScope ["first","second","third","ahead"] ["first","second","third"] (Zf Zn2):=fsc (?j);refine F.ok sc (fun vs H Q E h=>by obtain ⟨u,v,w,a,b,c,rfl,_⟩:=h;rfl) ?z;obtain ⟨u,v,w,a,b,c,rfl,⟨pa,rfl,ha⟩,⟨pb,rfl,hb⟩,⟨pc,rfl,hc⟩,na,nb,nc,q⟩:=h;have nd:=sc.nd;refine' ?A
 case term=>refine' Zd ?g1 ?g2;(case g1=>refine' Z1 (i:=3) nd rfl ?s ?g3;case g3=>refine' Zv Yh ?g4 ?g5;(case g4=>refine' Zv Zaq (Zt Z7 (pv 1) Zg (?l)) (Zt Z7 (pv 0) Zg (?l)));case g5=>refine' Zv Zaq (Zt Z7 (pv 2) Zg (?l)) (Zt Z7 (pv 0) Zg (?l)));case g2=>refine' Zj ?g6;case g6=>refine' Zo ?g7;case g7=>refine' Zv Zaq (pv 3) ?g8;case g8=>refine' Zv Yh ?g9 ?ga;(case g9=>refine' Zv Zaq (Zt Z7 (pv 2) Zg (?l)) (Zt Z7 (pv 0) Zg (?l)));case ga=>refine' Zv Zaq (Zt Z7 (pv 1) Zg (?l)) (Zt Z7 (pv 0) Zg (?l))
 obtain ⟨⟨a1,a2⟩,a3,a4⟩:=na;obtain ⟨⟨b1,b2⟩,b3,b4⟩:=nb;obtain ⟨⟨c1,c2⟩,c3,c4⟩:=nc;refine ⟨_,rfl,pb,_,0,_,rfl,rfl,SqT.of hb,rfl,_,rfl,pa,_,0,_,rfl,rfl,SqT.of ha,rfl,_,_,rfl,rfl,_,rfl,pc,_,1,_,rfl,rfl,SqT.of hc,rfl,_,rfl,pa,_,1,_,rfl,rfl,SqT.of ha,rfl,_,_,rfl,rfl,_,_,rfl,rfl,mul3 (?d) (?d),?_⟩;refine ⟨_,rfl,_,rfl,pc,_,0,_,rfl,rfl,SqT.of hc,rfl,_,rfl,pa,_,0,_,rfl,rfl,SqT.of ha,rfl,_,_,rfl,rfl,_,rfl,pb,_,1,_,rfl,rfl,SqT.of hb,rfl,_,rfl,pa,_,1,_,rfl,rfl,SqT.of ha,rfl,_,_,rfl,rfl,_,_,rfl,rfl,mul3 (?d) (?d),_,_,rfl,rfl,?_⟩;exact q
abbrev Zdk:Stmt:=top 19
theorem Zk8 (F:Fun K "turn_of" "turn_of" Zdk f fd) (Ce_:a4_ P w K mg base):FnOk P w K mg base CX0 2 f fd ["corners","piece"] Zhy:=by
 have sc:FnScope ["corners","piece"] ["corners","piece"] (Zf Zdk):=fsc (?j);refine F.ok sc (fun vs H Q E h=>by obtain ⟨u,v,cs,p,rfl,_⟩:=h;rfl) ?z;obtain ⟨u,v,cs,p,rfl,⟨a,us,rfl,ha,al⟩,⟨b,rfl,hb⟩,hl,bd,nr,q⟩:=h;refine' ?A
 case term=>refine' Zj ?g1;case g1=>refine' Zo ?g2;case g2=>refine' Zm Ce_ hr ?f rfl ?g3;case g3=>refine' Za ?g4 ?g5 rfl;(case g4=>refine' Zt Z7 (pv 0) (Zt Z7 (pv 1) Zg (?l)) (?l));case g5=>refine' Za ?g6 ?g7 rfl;(case g6=>refine' Zt Z7 (pv 0) (Zt Z7 (pv 1) Zg (?l)) (?l));case g7=>refine' Za ?g8 Zb rfl;case g8=>refine' Zt Z7 (pv 0) (Zt Z7 (pv 1) Zg (?l)) (?l)
 obtain ⟨i,j,k,rfl⟩:=len3 hl;have bi:=bd i ?g;have bj:=bd j ?g;have bk:=bd k ?g;obtain ⟨x,ex,rx⟩:=Zlr al bi.1 bi.2;obtain ⟨y,ey,ry⟩:=Zlr al bj.1 bj.2;obtain ⟨z,ez,rz⟩:=Zlr al bk.1 bk.2;refine ⟨_,rfl,_,rfl,b,_,0,_,rfl,rfl,SqT.of hb,rfl,a,us,i,x,rfl,rfl,SqT.of ha,ex,?_⟩;refine ⟨_,rfl,_,rfl,b,_,1,_,rfl,rfl,SqT.of hb,rfl,a,us,j,y,rfl,rfl,SqT.of ha,ey,?_⟩;refine ⟨_,rfl,_,rfl,b,_,2,_,rfl,rfl,SqT.of hb,rfl,a,us,k,z,rfl,rfl,SqT.of ha,ez,?_⟩;exact ⟨x,y,z,_,_,_,rfl,rx,ry,rz,nr _ (X0 bi.1 bi.2),nr _ (X0 bj.1 bj.2),nr _ (X0 bk.1 bk.2),q⟩
abbrev Za9:Stmt:=top 20
theorem Zis (F:Fun K "is_piece" "is_piece" Za9 f fd) (Cr_:a5_ P w K mg base) (Cc_:a1_ P w K mg base) (Cb_:a2_ P w K mg base) (Ck_:a6_ P w K mg base):FnOk P w K mg base CX0 3 f fd ["corners","thing"] Zer:=by
 have sc:FnScope ["corners","thing"] ["corners","thing"] (Zf Za9):=fsc (?j);refine F.ok sc (fun vs H Q E h=>by obtain ⟨u,v,cs,p,rfl,_⟩:=h;rfl) ?z;obtain ⟨u,v,cs,p,rfl,⟨a,us,rfl,ha,al⟩,⟨b,rfl,hb⟩,ok,nr,q⟩:=h;refine' ?A
 case term=>refine' Zd ?g1 (Zj (Zo (Zdr (Zm Cr_ hr ?f rfl (Za (pv 1) Zb rfl)) (Zcm (Zak Zqs (Zm Ck_ hr ?f rfl (Za (pv 0) (Za (pv 1) Zb rfl) rfl)) Zg (Y1 _))))));case g1=>refine' Xo ?g2 (Zj (Zo X7)) Z4;case g2=>refine' PW.pt ?g3;case g3=>refine' Ziw (Xc (Z0 (Zm Cb_ hr ?f rfl (Za (pv 1) (Za Zg (Za Zg Zb rfl) rfl) rfl)) (fun _=>rfl))) ?g4;case g4=>refine' Zdx ?g5;case g5=>refine' Xc ?g6;case g6=>refine' Z0 (Zk (Yu rfl) rfl T.b_all Zbd (Za (Xe (N:=["part","corners"]) (fr:=[none,some 0]) rfl (Yc (XN:=["corners","thing"]) (Scope.names (Zf Za9)) rfl rfl rfl (fun _ h=>Zw h) (?j) rfl) (Y0 (pv 1)) (fun _ _ _ _=>pgB 0) (fun _ _ _ _=>Zq) (fun _ _ _ _=>Zm Cc_ hr ?f rfl (Za (pv 0) (Za Zg (Za (Zv Zaq (Zk (Zaf K rfl) rfl T.b_len Yw (Za (pv 1) Zb rfl)) Zg) Zb rfl) rfl) rfl))) Zb rfl)) (fun _=>rfl)
 have hl:=ok.len;have hl2:=al.1;refine ⟨_,rfl,b,_,3,3,rfl,hb,by simp [hl],by simp [hl],true,rfl,iteF ?_⟩;refine ⟨_,rfl,b,rfl,⟨_,SqT.of hb⟩,fun D nD=>?_⟩;refine lc_T (k:=.t) (vs:=p.map V.int) RB hRB (List.replicate 3 true) (by simp [hl]) (by simp [hl]) nD hb (fun i w H2 C hw s2 c=>?_) (fun H2 us' s2 e2 a2=>?_)
 · rw [n7_] at hw;obtain ⟨x,ex,rfl⟩:=n14_.mp hw;obtain ⟨b1,b2⟩:=ok.bd x (n6_ ex);refine ⟨_,rfl,_,rfl,a,us,rfl,.inr (SqT.of (s2 _ _ ha)),_,_,rfl,rfl,x,0,_,rfl,b1,by rw [hl2];exact b2,c _ _ true (Same.refl _) (repT ?_) rfl⟩
   have:=Yt ex
   omega
 · rw [a2.bls] at e2;refine ⟨D,List.replicate 3 true,rfl,SqL.of e2,true,by rw [allT];rfl,iteF ?_⟩;refine ⟨_,rfl,b,p,rfl,s2 _ _ hb,?d,fun i x y ex ey=>?_,fun H3 s3=>⟨true,rfl,iteT ?_⟩⟩
   · have r:=ok.rise;obtain ⟨i0,i1,i2,rfl⟩:=len3 hl
     match i,ex,ey with
     | 0,ex,ey=>simp at ex ey;subst ex;subst ey;exact r.1
     | 1,ex,ey=>simp at ex ey;subst ex;subst ey;exact r.2
     | 2,ex,ey=>simp at ey
     | (n+3),ex,ey=>simp at ex
   · have s4:=s2.trans s3;refine ⟨_,rfl,_,rfl,_,_,cs,p,rfl,⟨a,us,rfl,s4 _ _ ha,al.imp fun v x r=>r.tk s4.tk⟩,⟨b,rfl,s4 _ _ hb⟩,hl,ok.bd,nr,rfl,?_⟩;have e:decide (V.int (dOf cs p)=V.int 0)=false:=n36_ fun z=>ok.d (V.int.inj z);rw [e];exact q _ s4
abbrev Xv:Stmt:=top 21
theorem Ze8 (F:Fun K "are_pieces" "are_pieces" Xv f fd) (Cs_:a7_ P w K mg base) (Cai_:a8_ P w K mg base) (Cb_:a2_ P w K mg base):FnOk P w K mg base CX0 4 f fd ["corners","thing"] Zgg:=by
 have sc:FnScope ["corners","thing"] ["corners","thing"] (Zf Xv):=fsc (?j);refine F.ok sc (fun vs H Q E h=>by obtain ⟨u,v,cs,ps,rfl,_⟩:=h;rfl) ?z;obtain ⟨u,v,cs,ps,rfl,hc,⟨b,ws,rfl,hb,bl⟩,p1,p40,pc,rise,nr,q⟩:=h;refine' ?A
 case term=>refine' Zd ?g1 (Zj (Zo (Zm Cs_ hr ?f rfl (Za (pv 1) Zb rfl))));case g1=>refine' Xo ?g2 (Zj (Zo X7)) Z4;case g2=>refine' PW.pt ?g3;case g3=>refine' Ziw (Xc (Z0 (Zm Cb_ hr ?f rfl (Za (pv 1) (Za Zg (Za (Xk T.n_MOST_PIECES rfl) Zb rfl) rfl) rfl)) (fun _=>rfl))) ?g4;case g4=>refine' Zdx ?g5;case g5=>refine' Xc ?g6;case g6=>refine' Z0 (Zk (Yu rfl) rfl T.b_all Zbd (Za (Xe (N:=["part","corners"]) (fr:=[none,some 0]) rfl (Yc (XN:=["corners","thing"]) (Scope.names (Zf Xv)) rfl rfl rfl (fun _ h=>Zw h) (?j) rfl) (Y0 (pv 1)) (fun _ _ _ _=>pgB 0) (fun _ _ _ _=>Zq) (fun _ _ _ _=>Zm Cai_ hr ?f rfl (Za (pv 1) (Za (pv 0) Zb rfl) rfl))) Zb rfl)) (fun _=>rfl)
 have hl:=bl.1;refine ⟨_,rfl,b,_,1,40,rfl,hb,?d,?d,true,rfl,iteF ?_⟩;refine ⟨_,rfl,b,rfl,⟨_,SqT.of hb⟩,fun D nD=>?_⟩;refine lc_T (k:=.t) (vs:=ws) RB hRB (List.replicate ws.length true) ?g (?d) nD hb (fun i w H2 C hw s2 c=>?_) (fun H2 us' s2 e2 a2=>?_)
 · obtain ⟨p,ep,rp⟩:=bl.get hw;exact ⟨_,rfl,_,rfl,_,_,cs,p,rfl,hc.tk s2.tk,rp.tk s2.tk,pc p (n6_ ep),nr,fun H5 s5=>c _ _ true s5 (repT (Yt hw)) rfl⟩
 · rw [a2.bls] at e2;refine ⟨D,List.replicate ws.length true,rfl,SqL.of e2,true,by rw [allT];rfl,iteF ?_⟩;refine ⟨_,rfl,b,ws,ps,rfl,s2 _ _ hb,bl.imp fun v x r=>r.tk s2.tk,?d,fun i x y ex ey=>?_,fun H3 s3=>q _ (s2.trans s3)⟩
   have:=rise i (Yt ey)
   rw [n4_,n4_,ex,ey] at this;exact this
abbrev Zay:Stmt:=top 22
theorem Zf4 (F:Fun K "are_thicks" "are_thicks" Zay f fd) (Cc_:a1_ P w K mg base) (Cb_:a2_ P w K mg base):FnOk P w K mg base CX0 3 f fd ["pieces","thing"] Zh2:=by
 have sc:FnScope ["pieces","thing"] ["pieces","thing"] (Zf Zay):=fsc (?j);refine F.ok sc (fun vs H Q E h=>by obtain ⟨u,v,ps,ts,rfl,_⟩:=h;rfl) ?z;obtain ⟨u,v,ps,ts,rfl,⟨a,us,rfl,ha,al⟩,⟨b,rfl,hb⟩,hl,p40,t9,q⟩:=h;refine' ?A
 case term=>refine' Zd (Xo (Xc (Z0 (Zm Cb_ hr ?f rfl (Za (pv 1) (Za (Zk Zp rfl T.b_len Yw (Za (pv 0) Zb rfl)) (Za (Zk Zp rfl T.b_len Yw (Za (pv 0) Zb rfl)) Zb rfl) rfl) rfl)) (fun _=>rfl))) (Zj (Zo X7)) Z4) (Zj (Zo (Zk (Yu rfl) rfl T.b_all Zbd (Za (Xe (N:=["part"]) (fr:=[none]) rfl (Ye ?f rfl ?f rfl rfl) (Y0 (pv 1)) (fun _ _ _ _=>pgB 0) (fun _ _ _ _=>Zq) (fun _ _ _ _=>Zm Cc_ hr ?f rfl (Za (pv 0) (Za Zg (Za (Xk T.n_THICKEST rfl) Zb rfl) rfl) rfl))) Zb rfl))))
 have hl2:=al.1;have hl3:((ts.map V.int).length:Int)=us.length:=by simp;omega
 refine ⟨_,rfl,_,rfl,a,us,rfl,.inr (SqT.of ha),_,rfl,a,us,rfl,.inr (SqT.of ha),b,_,_,_,rfl,hb,by rw [hl3];exact Int.le_refl _,by rw [hl3];exact Int.le_refl _,true,rfl,iteF ?_⟩;refine ⟨_,rfl,b,rfl,⟨_,SqT.of hb⟩,fun D nD=>?_⟩;refine lc_T (k:=.t) (vs:=ts.map V.int) RB hRB (List.replicate ts.length true) ?g (by simp;omega) nD hb (fun i w H2 C hw s2 c=>?_) (fun H2 us' s2 e2 a2=>?_)
 · rw [n7_] at hw;obtain ⟨x,ex,rfl⟩:=n14_.mp hw;obtain ⟨b1,b2⟩:=t9 x (n6_ ex);exact ⟨_,rfl,x,1,9,rfl,b1,b2,c _ _ true (Same.refl _) (repT (Yt ex)) rfl⟩
 · rw [a2.bls] at e2;refine ⟨D,List.replicate ts.length true,rfl,SqL.of e2,?_⟩;rw [allT];exact q _ s2
abbrev Zcc:Stmt:=top 23
theorem Zjh (F:Fun K "is_stuff" "is_stuff" Zcc f fd) (Cc_:a1_ P w K mg base) (Cb_:a2_ P w K mg base):FnOk P w K mg base CX0 3 f fd ["thing"] Zki:=by
 have sc:FnScope ["thing"] ["thing"] (Zf Zcc):=fsc (?j);refine F.ok sc (fun vs H Q E h=>by obtain ⟨v,l,m,rfl,_⟩:=h;rfl) ?z;obtain ⟨v,l,m,rfl,⟨b,rfl,hb⟩,l9,m9,q⟩:=h;refine' ?A
 case term=>refine' Zd (Xo (Xc (Z0 (Zm Cb_ hr ?f rfl (Za (pv 0) (Za Zg (Za Zg Zb rfl) rfl) rfl)) (fun _=>rfl))) (Zj (Zo X7)) Z4) ?g1;case g1=>refine' Zj ?g2;case g2=>refine' Zo ?g3;case g3=>refine' Zdr (Zm Cc_ hr ?f rfl (Za (Zt Z7 (pv 0) Zg (?l)) (Za Zg (Za (Xk T.n_MOST_STUFF rfl) Zb rfl) rfl) rfl)) (Zcm (Zm Cc_ hr ?f rfl (Za (Zt Z7 (pv 0) Zg (?l)) (Za Zg (Za (Xk T.n_MOST_STUFF rfl) Zb rfl) rfl) rfl)))
 refine ⟨_,rfl,b,_,2,2,rfl,hb,by simp,by simp,true,rfl,iteF ?_⟩;refine ⟨_,rfl,b,_,0,_,rfl,rfl,SqT.of hb,rfl,l,0,9,rfl,l9.1,l9.2,true,rfl,iteT ?_⟩;exact ⟨_,rfl,b,_,1,_,rfl,rfl,SqT.of hb,rfl,m,1,9,rfl,m9.1,m9.2,q⟩
abbrev Za7:Stmt:=top 24
theorem Zin (F:Fun K "triangle" "triangle" Za7 f fd) (Ce_:a4_ P w K mg base):FnOk P w K mg base CX0 2 f fd ["corners","piece"] Zrb:=by
 have sc:FnScope ["corners","piece","first","second","third"] ["corners","piece"] (Zf Za7):=fsc (?j);refine F.ok sc (fun vs H Q E h=>by obtain ⟨u,v,cs,p,rfl,_⟩:=h;rfl) ?z;obtain ⟨u,v,cs,p,rfl,⟨a,us,rfl,ha,al⟩,⟨b,rfl,hb⟩,hl,bd,nr,q⟩:=h;have nd:=sc.nd;refine' ?A
 case term=>refine' Zd (Zaa (Xe (N:=["number","corners"]) (fr:=[none,some 0]) rfl (Yc (XN:=["corners","piece","first","second","third"]) (Scope.names (Zf Za7)) rfl rfl rfl (fun _ h=>Zw h) (?j) rfl) (Y0 (pv 1)) (fun _ _ _ _=>pgB 0) (fun _ _ _ _=>Zq) (fun _ _ _ _=>Zt (Yb K rfl) (pv 1) (pv 0) (?l))) (Zrj (n:=3) rfl (Ze (Zl (i:=2) nd rfl ?s) (Ze (Zl (i:=3) nd rfl ?s) (Ze (Zl (i:=4) nd rfl ?s) Zu))))) (Zd (Xo (Yn Ztn (Zm Ce_ hr ?f rfl (Za (pv 2) (Za (pv 3) (Za (pv 4) Zb rfl) rfl) rfl)) Zg (Y1 _)) (Zj (Zo (Zz (Za (pv 2) (Za (pv 4) (Za (pv 3) Zb rfl) rfl) rfl)))) Z4) (Zj (Zo (Zz (Za (pv 2) (Za (pv 3) (Za (pv 4) Zb rfl) rfl) rfl)))))
 refine ⟨_,rfl,b,rfl,⟨_,SqT.of hb⟩,fun D nD=>?_⟩;refine lc_T (k:=.t) (vs:=p.map V.int) IsP hRP (p.map (cAt cs)) ?g (by simp [hl]) nD hb (fun i w H2 C hw s2 c=>?_) (fun H2 us' s2 e2 a2=>?_)
 · rw [n7_] at hw;obtain ⟨x,ex,rfl⟩:=n14_.mp hw;obtain ⟨b1,b2⟩:=bd x (n6_ ex);obtain ⟨v,ev,rv⟩:=Zlr al b1 b2;exact ⟨_,rfl,_,rfl,a,us,x,v,rfl,rfl,SqT.of (s2 _ _ ha),ev,c _ _ _ (Same.refl _) (by rw [n7_,ex];rfl) (rv.tk s2.tk)⟩
 · obtain ⟨x,y,z,rfl,rx,ry,rz⟩:=cs3 (al.imp fun v x r=>r.tk s2.tk) hl bd a2;have nx:=nr (cAt cs (p.getD 0 0)) (by obtain ⟨i,j,k,rfl⟩:=len3 hl;exact X0 (bd i ?g).1 (bd i ?g).2);have ny:=nr (cAt cs (p.getD 1 0)) (by obtain ⟨i,j,k,rfl⟩:=len3 hl;exact X0 (bd j ?g).1 (bd j ?g).2);have nz:=nr (cAt cs (p.getD 2 0)) (by obtain ⟨i,j,k,rfl⟩:=len3 hl;exact X0 (bd k ?g).1 (bd k ?g).2);refine ⟨D,_,rfl,SqL.of e2,rfl,x,_,rfl,y,_,rfl,z,_,rfl,rfl,?_⟩;refine ⟨_,rfl,_,rfl,_,rfl,x,y,z,_,_,_,rfl,rx,ry,rz,nx,ny,nz,_,_,rfl,rfl,_,rfl,?_⟩;refine ite2 (fun h=>?_) (fun h=>?_)
   · refine ⟨_,rfl,_,rfl,_,rfl,z3_,fun r nr'=>?_⟩;have s3:Same H2 (upd H2 r (.tup [x,z,y])):=Same.new nr';refine q _ _ (s2.trans s3) ?_;unfold trOf tri;rw [if_pos (n52_ h)];exact ⟨r,x,z,y,rfl,Zc,rx.tk s3.tk,rz.tk s3.tk,ry.tk s3.tk⟩
   · refine ⟨_,rfl,_,rfl,_,rfl,z3_,fun r nr'=>?_⟩;have s3:Same H2 (upd H2 r (.tup [x,y,z])):=Same.new nr';refine q _ _ (s2.trans s3) ?_;unfold trOf tri;rw [if_neg fun z=>h (n32_ z)];exact ⟨r,x,y,z,rfl,Zc,rx.tk s3.tk,ry.tk s3.tk,rz.tk s3.tk⟩
abbrev Zi5:Stmt:=top 25
theorem Zpy (F:Fun K "edges" "edges" Zi5 f fd):FnOk P w K mg base CX0 1 f fd ["points"] Zk2:=by
 have sc:FnScope ["points"] ["points"] (Zf Zi5):=fsc (?j);refine F.ok sc (fun vs H Q E h=>by obtain ⟨v,t,rfl,_⟩:=h;rfl) ?z;obtain ⟨v,t,rfl,⟨a,x,y,z,rfl,ha,rx,ry,rz⟩,q⟩:=h;refine' ?A
 case term=>refine' Zj ?g1;case g1=>refine' Zo ?g2;case g2=>refine' Zz ?g3;case g3=>refine' Za ?g4 ?g5 rfl;(case g4=>refine' Zz ?g6;case g6=>refine' Za (Zt Z7 (pv 0) Zg (?l)) (Za (Zt Z7 (pv 0) Zg (?l)) Zb rfl) rfl);case g5=>refine' Za ?g7 ?g8 rfl;(case g7=>refine' Zz ?g9;case g9=>refine' Za (Zt Z7 (pv 0) Zg (?l)) (Za (Zt Z7 (pv 0) Zg (?l)) Zb rfl) rfl);case g8=>refine' Za ?ga Zb rfl;case ga=>refine' Zz ?gb;case gb=>refine' Za (Zt Z7 (pv 0) Zg (?l)) (Za (Zt Z7 (pv 0) Zg (?l)) Zb rfl) rfl
 refine ⟨_,rfl,a,_,0,x,rfl,rfl,SqT.of ha,rfl,_,rfl,a,_,1,y,rfl,rfl,SqT.of ha,rfl,z2_,fun p np=>?_⟩;have s1:Same H (upd H p (.tup [x,y])):=Same.new np;generalize hH1:upd H p (.tup [x,y])=H1 at s1 ⊢;have e1:H1 p=some (.tup [x,y]):=by rw [← hH1];exact Zc
 refine ⟨_,rfl,a,_,1,y,rfl,rfl,SqT.of (s1 _ _ ha),rfl,_,rfl,a,_,2,z,rfl,rfl,SqT.of (s1 _ _ ha),rfl,z2_,fun p2 np2=>?_⟩;have s2:Same H1 (upd H1 p2 (.tup [y,z])):=Same.new np2;generalize hH2:upd H1 p2 (.tup [y,z])=H2 at s2 ⊢;have e2:H2 p2=some (.tup [y,z]):=by rw [← hH2];exact Zc
 have s12:=s1.trans s2;refine ⟨_,rfl,a,_,2,z,rfl,rfl,SqT.of (s12 _ _ ha),rfl,_,rfl,a,_,0,x,rfl,rfl,SqT.of (s12 _ _ ha),rfl,z2_,fun p3 np3=>?_⟩;have s3:Same H2 (upd H2 p3 (.tup [z,x])):=Same.new np3;generalize hH3:upd H2 p3 (.tup [z,x])=H3 at s3 ⊢;have e3:H3 p3=some (.tup [z,x]):=by rw [← hH3];exact Zc
 refine ⟨z3_,fun p4 np4=>?_⟩;have s4:Same H3 (upd H3 p4 (.tup [.ref p,.ref p2,.ref p3])):=Same.new np4;have t4:=(s12.trans (s3.trans s4)).tk;refine q _ _ (s12.trans (s3.trans s4)) ⟨p4,_,rfl,Zc,.cons ⟨p,x,y,rfl,s4 _ _ (s3 _ _ (s2 _ _ e1)),rx.tk t4,ry.tk t4⟩ (.cons ⟨p2,y,z,rfl,s4 _ _ (s3 _ _ e2),ry.tk t4,rz.tk t4⟩ (.cons ⟨p3,z,x,rfl,s4 _ _ e3,rz.tk t4,rx.tk t4⟩ .nil))⟩
abbrev Zbx:Stmt:=top 26
theorem Zlv (F:Fun K "lies_in" "lies_in" Zbx f fd) (Co_:a9_ P w K mg base) (Ce_:a4_ P w K mg base):FnOk P w K mg base CX0 2 f fd ["point","points"] Zhs:=by
 have sc:FnScope ["point","points"] ["point","points"] (Zf Zbx):=fsc (?j);refine F.ok sc (fun vs H Q E h=>by obtain ⟨u,v,p,t,rfl,_⟩:=h;rfl) ?z;obtain ⟨u,v,p,t,rfl,hp,ht,np,nt,q⟩:=h;refine' ?A
 case term=>refine' Zj (Zo (Zk (Yu rfl) rfl T.b_all Zbd (Za (Xe (g:=?C) (N:=["one","other","point"]) (fr:=[none,none,some 0]) rfl (Yc (XN:=["point","points"]) (Scope.names (Zf Zbx)) rfl rfl rfl (fun _ h=>Zw h) (?j) rfl) (Y0 (Zm Co_ hr ?f rfl (Za (pv 1) Zb rfl))) ?D (fun _ _ _ _=>Zq) (fun _ _ _ _=>Zak Zwm (Zm Ce_ hr ?f rfl (Za (pv 0) (Za (pv 1) (Za (pv 2) Zb rfl) rfl) rfl)) Zg (Y1 _))) Zb rfl)))
 refine ⟨_,rfl,v,t,rfl,ht,fun H1 w s1 hw=>?_⟩;obtain ⟨a,vs,rfl,ha,al⟩:=hw;have hl:vs.length=3:=al.1;refine ⟨a,rfl,⟨_,SqT.of ha⟩,fun D nD=>?_⟩;refine Zok (k:=.t) (vs:=vs) RB hRB (t.edges.map fun e=>decide (0≤tn e.1 e.2 p)) (by simp [hl,Tri.edges]) (?d) nD ha (prs al) (fun i p' x y H2 C hw hp' s2 c=>?_) (fun H2 us' s2 e2 a2=>?_)
 · obtain ⟨e,ee,rx,ry⟩:=pr1 al hw hp';obtain ⟨n1,n2⟩:=Zgk nt (n6_ ee);exact ⟨_,rfl,_,rfl,_,rfl,x,y,u,e.1,e.2,p,rfl,rx.tk s2.tk,ry.tk s2.tk,hp.tk (s1.trans s2).tk,n1,n2,np,_,_,rfl,rfl,c _ _ _ (Same.refl _) (by rw [n7_,ee];rfl) rfl⟩
 · rw [a2.bls] at e2;exact ⟨D,_,rfl,SqL.of e2,q _ (s1.trans s2)⟩
abbrev Xs:Stmt:=top 27
theorem Zfd (F:Fun K "parts_from" "parts_from" Xs f fd) (Co_:a9_ P w K mg base) (Ce_:a4_ P w K mg base):FnOk P w K mg base CX0 2 f fd ["points","others"] Zck:=by
 have sc:FnScope ["points","others","one","other"] ["points","others"] (Zf Xs):=fsc (?j);refine F.ok sc (fun vs H Q E h=>by obtain ⟨u,v,t,r,rfl,_⟩:=h;rfl) ?z;obtain ⟨u,v,t,r,rfl,ht,hr',nt,nr,q⟩:=h;have nd:=sc.nd;refine' ?A
 case term=>refine' Zd ?g1 (Zj (Zo X7));case g1=>refine' Zac PassesOwn.never rfl (Y0 (Zm Co_ hr ?f rfl (Za (pv 0) Zb rfl))) (Z8 (n:=2) rfl (Ze (Zl (i:=2) nd rfl (Or.inr rfl)) (Ze (Zl (i:=3) nd rfl (Or.inr rfl)) Zu))) ?g2;case g2=>refine' Zj ?g3;case g3=>refine' Xo ?g4 (Zj (Zo X7)) Z4;case g4=>refine' Z0 (Zk (Yu rfl) rfl T.b_all Zbd (Za (Xe (N:=["point","one","other"]) (fr:=[none,some 2,some 3]) rfl (Yc (XN:=["points","others","one","other"]) (Scope.names (Zf Xs)) rfl rfl rfl (fun _ h=>Zw h) (?j) rfl) (Y0 (pv 1)) (fun _ _ _ _=>pgB 0) (fun _ _ _ _=>Zq) (fun _ _ _ _=>Zak Zme (Zm Ce_ hr ?f rfl (Za (pv 1) (Za (pv 2) (Za (pv 0) Zb rfl) rfl) rfl)) Zg (Y1 _))) Zb rfl)) (fun _=>rfl)
 refine ⟨_,rfl,u,t,rfl,ht,fun H1 w s1 hw=>?_⟩;obtain ⟨a,vs,rfl,ha,al⟩:=hw;have hl:vs.length=3:=al.1;have hel:t.edges.length=3:=rfl;refine ⟨a,rfl,⟨_,SqT.of ha⟩,?_⟩;refine Zcd (n:=3) (fun i σ H2=>Same H1 H2∧(∃ x y,σ=[some u,some v,x,y])∧((t.edges.take i).any fun e=>Zde e r)=false) ⟨Same.refl _,⟨_,_,rfl⟩,rfl⟩ (fun i σ H2 hi p=>⟨vs,vs[i]'(?d),SqT.of (p.1 _ _ ha),n1_ (?d)⟩) (fun σ H2 p=>⟨vs,SqT.of (p.1 _ _ ha),?d⟩) (fun i x σ H2 H3 hi y p=>?_) (fun σ H2 p=>?_)
 · obtain ⟨s2,⟨u1,u2,rfl⟩,no⟩:=p;obtain ⟨rfl,y2⟩:=y;have ex:=y2 vs (SqT.of (s2 _ _ ha));obtain ⟨p',x1,y1,rfl,hp'⟩:=prs al i x ex;obtain ⟨e,ee,rx,ry⟩:=pr1 al ex hp';obtain ⟨n1,n2⟩:=Zgk nt (n6_ ee);refine ⟨p',_,rfl,SqT.of (s2 _ _ hp'),rfl,x1,_,rfl,y1,_,rfl,rfl,?_⟩;obtain ⟨b,ws,rfl,hb,hl2,bl⟩:=Zve hr';have s02:=s1.trans s2;refine ⟨_,rfl,b,rfl,⟨_,SqT.of (s02 _ _ hb)⟩,fun D nD=>?_⟩;refine lc_T (k:=.t) (vs:=ws) RB hRB (r.pts.map fun q=>decide (tn e.1 e.2 q≤0)) (by simp [hl2,Tri.pts]) (?d) nD (s02 _ _ hb) (fun j w H4 C hw s4 c=>?_) (fun H4 us' s4 e4 a4=>?_)
   · obtain ⟨g,eg,rg⟩:=bl.get hw;have tk4:=(s2.trans s4).tk;exact ⟨_,rfl,_,rfl,_,rfl,x1,y1,w,e.1,e.2,g,rfl,rx.tk tk4,ry.tk tk4,rg.tk (s02.trans s4).tk,n1,n2,Ztr nr (n6_ eg),_,_,rfl,rfl,c _ _ _ (Same.refl _) (by rw [n7_,eg];rfl) rfl⟩
   · rw [a4.bls] at e4;refine ⟨D,_,rfl,SqL.of e4,_,rfl,ite2 (fun h=>?_) (fun h=>?_)⟩
     · have:Y9 t r=true:=List.any_eq_true.mpr ⟨e,n6_ ee,h⟩
       rw [this] at q;exact q _ (s02.trans s4)
     · refine ⟨s2.trans s4,⟨_,_,rfl⟩,?_⟩;have hi':i<t.edges.length:=?d
       rw [n61_,ee,List.any_append,no]
       have:Zde e r=false:=Bool.eq_false_iff.mpr h
       simp [this]
 · obtain ⟨s2,⟨u1,u2,rfl⟩,no⟩:=p
   have:Y9 t r=false:=no
   rw [this] at q;exact q _ (s1.trans s2)
abbrev Zbe:Stmt:=top 28
theorem Zhq (F:Fun K "are_apart" "are_apart" Zbe f fd) (Cl_:a10_ P w K mg base):FnOk P w K mg base CX0 3 f fd ["points","others"] Zkf:=by
 have sc:FnScope ["points","others"] ["points","others"] (Zf Zbe):=fsc (?j);refine F.ok sc (fun vs H Q E h=>by obtain ⟨u,v,t,r,rfl,_⟩:=h;rfl) ?z;obtain ⟨u,v,t,r,rfl,ht,hr',nt,nr,q⟩:=h;refine' ?A
 case term=>refine' Zj (Zo (Zwl (Zm Cl_ hr ?f rfl (Za (pv 0) (Za (pv 1) Zb rfl) rfl)) (Zcm (Zm Cl_ hr ?f rfl (Za (pv 1) (Za (pv 0) Zb rfl) rfl)))))
 refine ⟨_,rfl,_,rfl,u,v,t,r,rfl,ht,hr',nt,nr,fun H1 s1=>⟨_,rfl,ite2 (fun h=>?_) (fun h=>?_)⟩⟩
 · rw [show L2.apart t r=true by unfold L2.apart;rw [h];rfl] at q;exact q _ s1
 · rw [show L2.apart t r=Y9 r t by unfold L2.apart;rw [show Y9 t r=false by simpa using h];rfl] at q;exact ⟨_,rfl,_,rfl,v,u,r,t,rfl,hr'.tk s1.tk,ht.tk s1.tk,nr,nt,fun H2 s2=>q _ (s1.trans s2)⟩
abbrev Yl:Stmt:=top 29
theorem Zaj (F:Fun K "every_corner_is_used" "every_corner_is_used" Yl f fd):FnOk P w K mg base CX0 2 f fd ["corners","pieces"] Zmz:=by
 have sc:FnScope ["corners","pieces"] ["corners","pieces"] (Zf Yl):=fsc (?j);refine F.ok sc (fun vs H Q E h=>by obtain ⟨u,v,cs,ps,rfl,_⟩:=h;rfl) ?z;obtain ⟨u,v,cs,ps,rfl,⟨a,us,rfl,ha,al⟩,⟨b,ws,rfl,hb,bl⟩,h3,p40,cnt,c30,q⟩:=h;refine' ?A
 case term=>refine' Zj (Zo (Zak Zp5 (Zk Zo2 rfl T.b_len Yw (Za (Zum (N:=["piece","number"]) (fr:=[none,none]) rfl (Ye ?f rfl ?f rfl rfl) (Y0 (pv 1)) (fun _ _ _ _=>pgB 0) (fun _ _ _ _=>Zi4 K rfl (pv 0)) (fun _ _ _ _=>pgB 1) (fun _ _ _ _=>pv 1)) Zb rfl)) (Zk Zp rfl T.b_len Yw (Za (pv 0) Zb rfl)) (Y1 _)))
 have hl:=al.1
 have fl:∀ l:List (?e),(∀ p∈l,p.length=3)→l.flatten.length=3*l.length:=by
  intro l
  induction l with
  | nil=>intro _;rfl
  | cons x l ih =>
    intro h;rw [List.flatten_cons,n21_,ih fun p hp=>h p (n16_ _ hp),h x n19_,n18_];omega
 refine ⟨_,rfl,b,rfl,⟨_,SqT.of hb⟩,fun D nD=>?_⟩;refine Zsx hb bl (by rw [fl ps h3];omega) nD (fun S=>?_);have s1:Same H (upd H D (.set S (cntS ps.flatten))):=Same.new nD;refine ⟨D,S,_,rfl,Zc,_,rfl,a,us,rfl,.inr (SqT.of (s1 _ _ ha)),rfl,?_⟩;have e:V.int (cntS ps.flatten:Nat)=V.int us.length:=by rw [cnt,hl]
 exact qT e (q _ s1)
abbrev Z5:Stmt:=top 30
theorem Zbc (F:Fun K "no_strange_corner" "no_strange_corner" Z5 f fd) (Cam_:a11_ P w K mg base):FnOk P w K mg base CX0 3 f fd ["corners","piece","points"] Ze5:=by
 have sc:FnScope ["corners","piece","points","strange"] ["corners","piece","points"] (Zf Z5):=fsc (?j);refine F.ok sc (fun vs H Q E h=>by obtain ⟨u,v,w,cs,p,t,rfl,_⟩:=h;rfl) ?z;obtain ⟨u,v,w,cs,p,t,rfl,⟨a,us,rfl,ha,al⟩,⟨b,rfl,hb⟩,ht,c30,nr,nt,no,q⟩:=h;have nd:=sc.nd;refine' ?A
 case term=>refine' Zd (Zef (g:=?C) (N:=["number","corner","piece"]) (fr:=[none,none,some 1]) rfl rfl (Zl (i:=3) nd rfl ?s) (Yc (XN:=["corners","piece","points","strange"]) (Scope.names (Zf Z5)) rfl rfl rfl (fun _ h=>Zw h) (?j) rfl) (Zdf .t rfl T.b_enumerate (Za (pv 0) Zb rfl)) ?D (fun _ _ _ _=>Zfq (Yn (Zfv K rfl) (pv 0) (pv 2) rfl)) (fun _ _ _ _=>pv 1)) (Zj (Zo (Zq1 (Zk (Zhj rfl) rfl T.b_any Zq7 (Za (Xe (N:=["corner","points"]) (fr:=[none,some 2]) rfl (Yc (XN:=["corners","piece","points","strange"]) (Scope.names (Zf Z5)) rfl rfl rfl (fun _ h=>Zw h) (?j) rfl) (Yo (pv 3)) (fun _ _ _ _=>pgB 0) (fun _ _ _ _=>Zq) (fun _ _ _ _=>Zm Cam_ hr ?f rfl (Za (pv 0) (Za (pv 1) Zb rfl) rfl))) Zb rfl)))))
 have hl:=al.1;refine ⟨_,rfl,a,rfl,⟨_,SqT.of ha⟩,fun D nD=>?_⟩;refine lc_E (k:=.t) (vs:=us) IsP hRP (fun i=>if (i:Int)∈p then none else cs[i]?) (?d) nD ha (fun i x H2 C N hx s2 c n=>?_) (fun H2 us' s2 e2 a2=>?_)
 · obtain ⟨g,eg,rg⟩:=al.get hx;refine ⟨_,rfl,_,rfl,b,_,rfl,.inr (SqT.of (s2 _ _ hb)),rfl,by rw [List.all_map];exact n44_.mpr ?l,_,rfl,?_⟩;rw [Zko]
   by_cases hm:(i:Int)∈p
   · rw [n32_ hm];exact iteF (n _ (Same.refl _) (by rw [if_pos hm]))
   · rw [n36_ hm];exact iteT ⟨_,rfl,c _ _ g (Same.refl _) (by rw [if_neg hm];exact eg) (rg.tk s2.tk)⟩
 · generalize hst:(List.range us.length).filterMap (fun i:Nat=>if (i:Int)∈p then none else cs[i]?)=st at a2
   have hst2:∀ g∈st,near g∧Zbz g t=false:=by
    intro g hg;rw [← hst] at hg;obtain ⟨i,hi,e⟩:=List.mem_filterMap.mp hg;have hi:=n35_.mp hi;split at e
    · cases e
    · rename_i hm
      have:=no i (?d) hm
      rw [n4_,e] at this;exact ⟨nr g (n6_ e),this⟩
   have hl3:st.length≤us.length:=by
    rw [← hst]
    have:=List.length_filterMap_le (fun i:Nat=>if (i:Int)∈p then none else cs[i]?) (List.range us.length)
    rwa [n76_] at this
   have l2:=a2.1;refine ⟨_,rfl,D,rfl,⟨_,SqL.of e2⟩,fun E nE=>?_⟩;refine lc_T (k:=.l) (vs:=us') RB hRB (st.map fun g=>Zbz g t) (by simp [l2]) (?d) nE e2 (fun j x H4 C hx s4 c=>?_) (fun H4 us'' s4 e4 a4=>?_)
   · obtain ⟨g,eg,rg⟩:=a2.get hx;exact ⟨_,rfl,_,rfl,x,w,g,t,rfl,rg.tk s4.tk,ht.tk (s2.trans s4).tk,(hst2 g (n6_ eg)).1,nt,fun H5 s5=>c _ _ _ s5 (by rw [n7_,eg];rfl) rfl⟩
   · rw [a4.bls] at e4;refine ⟨E,_,rfl,SqL.of e4,false,by rw [anyM fun g hg=>(hst2 g hg).2],?_⟩;exact q _ (s2.trans s4)
abbrev Yr:Stmt:=top 31
theorem Zdt (F:Fun K "fit_together" "fit_together" Yr f fd) (Cad_:a12_ P w K mg base) (Cj_:a13_ P w K mg base) (Caj_:a14_ P w K mg base):FnOk P w K mg base CX0 4 f fd ["corners","pieces"] Zqz:=by
 have sc:FnScope ["corners","pieces","triangles","at","piece","points"] ["corners","pieces"] (Zf Yr):=fsc (?j);refine F.ok sc (fun vs H Q E h=>by obtain ⟨u,v,cs,ps,rfl,_⟩:=h;rfl) ?z;obtain ⟨u,v,cs,ps,rfl,hc,⟨b,ws,rfl,hb,bl⟩,ok,q⟩:=h;have nd:=sc.nd;refine' ?A
 case term=>refine' Zd (Zef (N:=["piece","corners"]) (fr:=[none,some 0]) rfl rfl (Zl (i:=2) nd rfl ?s) (Yc (XN:=["corners","pieces","triangles","at","piece","points"]) (Scope.names (Zf Yr)) rfl rfl rfl (fun _ h=>Zw h) (?j) rfl) (Y0 (pv 1)) (fun _ _ _ _=>pgB 0) (fun _ _ _ _=>Zq) (fun _ _ _ _=>Zm Caj_ hr ?f rfl (Za (pv 1) (Za (pv 0) Zb rfl) rfl))) ?g1;case g1=>refine' Zd ?g2 (Zj (Zo X7));case g2=>refine' Zac PassesOwn.never rfl (Zlw .t .l rfl T.b_enumerate rfl T.b_zip (Za (pv 1) (Za (pv 2) Zb rfl) rfl)) (Z8 (n:=2) rfl (Ze (Zl (i:=3) nd rfl ?s) (Ze (Z8 (n:=2) rfl (Ze (Zl (i:=4) nd rfl ?s) (Ze (Zl (i:=5) nd rfl (Or.inr rfl)) Zu))) Zu))) ?g3;case g3=>refine' Zd (Xo (Xc (Z0 (Zm Cj_ hr ?f rfl (Za (pv 0) (Za (pv 4) (Za (pv 5) Zb rfl) rfl) rfl)) (fun _=>rfl))) (Zj (Zo X7)) Z4) ?g4;case g4=>refine' Zj ?g5;case g5=>refine' Xo ?g6 (Zj (Zo X7)) Z4;case g6=>refine' Xc ?g7;case g7=>refine' Z0 (Zk (Yu rfl) rfl T.b_all Zbd (Za (Xe (N:=["others","points"]) (fr:=[none,some 5]) rfl (Yc (XN:=["corners","pieces","triangles","at","piece","points"]) (Scope.names (Zf Yr)) rfl rfl rfl (fun _ h=>Zw h) (?j) rfl) (Yo (Zf8 Zt1 (pv 2) Zjc (Zjj (pv 3)))) (fun _ _ _ _=>pgB 0) (fun _ _ _ _=>Zq) (fun _ _ _ _=>Zm Cad_ hr ?f rfl (Za (pv 1) (Za (pv 0) Zb rfl) rfl))) Zb rfl)) (fun _=>rfl)
 have hl:=bl.1;have p40:=ok.p40;refine ⟨_,rfl,b,rfl,⟨_,SqT.of hb⟩,fun D nD=>?_⟩;refine lc_T (k:=.t) (vs:=ws) IsT hRT (ps.map (trOf cs)) (by simp [hl]) (?d) nD hb (fun i w H2 C hw s2 c=>?_) (fun H2 us' s2 e2 a2=>?_)
 · obtain ⟨p,ep,rp⟩:=bl.get hw;have pk:=ok.pc p (n6_ ep);exact ⟨_,rfl,_,rfl,u,w,cs,p,rfl,hc.tk s2.tk,rp.tk s2.tk,pk.len,pk.bd,ok.nr,fun H5 w5 s5 h5=>c _ _ _ s5 (by rw [n7_,ep];rfl) h5⟩
 · have l2:=a2.1;rw [n5_] at l2;have hb2:=s2 _ _ hb;refine ⟨_,rfl,_,rfl,b,D,rfl,⟨_,SqT.of hb2⟩,⟨_,SqL.of e2⟩,?_⟩;refine Zcd (n:=ps.length) (fun i σ H3=>Same H2 H3∧∃ x y z,σ=[some u,some (.ref b),some (.ref D),x,y,z]) ⟨Same.refl _,_,_,_,rfl⟩ (fun i σ H3 hi p=>⟨ws,us',ws[i]'(?d),us'[i]'(?d),SqT.of (p.1 _ _ hb2),SqL.of (p.1 _ _ e2),n1_ (?d),n1_ (?d)⟩) (fun σ H3 p=>⟨ws,us',SqT.of (p.1 _ _ hb2),SqL.of (p.1 _ _ e2),?d⟩) (fun i x σ H3 H4 hi y p=>?_) (fun σ H3 p=>?_)
   · obtain ⟨s3,x1,x2,x3,rfl⟩:=p;obtain ⟨p1,p2,x,y,rfl,n1,n2,ne,rfl,y1,y2⟩:=y;have ex:=y1 ws (SqT.of (s3 _ _ hb2));have ey:=y2 us' (SqL.of (s3 _ _ e2));have sa:Same H3 (upd H3 p1 (.tup [x,y])):=Same.new n1;have sb:Same (upd H3 p1 (.tup [x,y])) (upd (upd H3 p1 (.tup [x,y])) p2 (.tup [.int i,.ref p1])):=Same.new (by rw [Zh ne.symm];exact n2);have e5:upd (upd H3 p1 (.tup [x,y])) p2 (.tup [.int i,.ref p1]) p1=some (.tup [x,y]):=sb _ _ Zc;have e6:upd (upd H3 p1 (.tup [x,y])) p2 (.tup [.int i,.ref p1]) p2=some (.tup [.int i,.ref p1]):=Zc;have s4:=s3.trans (sa.trans sb);generalize upd (upd H3 p1 (.tup [x,y])) p2 (.tup [.int i,.ref p1])=H4 at s4 e5 e6;obtain ⟨p,ep,rp⟩:=bl.get ex;obtain ⟨t,et,rt'⟩:=a2.get ey;rw [n7_,ep] at et;cases et
     have pk:=ok.pc p (n6_ ep);have tn':=Zhw pk.bd pk.len ok.nr;have gp:ps.getD i []=p:=by rw [n4_,ep];rfl
     refine ⟨p2,_,rfl,SqT.of e6,rfl,_,_,rfl,_,_,rfl,⟨p1,_,rfl,SqT.of e5,rfl,x,_,rfl,y,_,rfl,rfl,rfl,?_⟩⟩;have s04:=s2.trans s4;refine ⟨_,rfl,_,rfl,_,rfl,u,x,y,cs,p,_,rfl,hc.tk s04.tk,rp.tk s04.tk,rt'.tk s4.tk,ok.c30,ok.nr,tn',ok.strange p (n6_ ep),fun H5 s5=>⟨true,rfl,iteF ?_⟩⟩;have s45:=s4.trans s5;refine ⟨_,rfl,_,rfl,_,rfl,D,us',rfl,SqL.of (s45 _ _ e2),fun r nr'=>?_⟩;have s6:Same H5 (upd H5 r (.lst (us'.take i))):=Same.new nr';rw [Zwz _ _ (?d)];have e7:upd H5 r (.lst (us'.take i)) r=some (.lst (us'.take i)):=Zc;generalize upd H5 r (.lst (us'.take i))=H6 at s6 e7 ⊢;refine ⟨r,rfl,⟨_,SqL.of e7⟩,fun E nE=>?_⟩;have s46:=s45.trans s6;refine lc_T (k:=.l) (vs:=us'.take i) RB hRB (List.replicate i true) (by simp;omega) (by simp;omega) nE e7 (fun j w H8 C hw s8 c=>?_) (fun H8 us'' s8 e8 a8=>?_)
     · have hj:j<i:=by
        have:=Yt hw
        rw [n59_] at this;omega
       rw [List.getElem?_take_of_lt hj] at hw;obtain ⟨t2,et2,rt2⟩:=a2.get hw;rw [n7_] at et2;obtain ⟨p',ep',rfl⟩:=n14_.mp et2;have pk':=ok.pc p' (n6_ ep');have gp':ps.getD j []=p':=by rw [n4_,ep'];rfl
       have ap:=ok.apart j i hj hi;rw [gp,gp'] at ap;have s48:=s46.trans s8;refine ⟨_,rfl,_,rfl,y,w,_,_,rfl,rt'.tk s48.tk,rt2.tk s48.tk,tn',Zhw pk'.bd pk'.len ok.nr,fun H9 s9=>c _ _ true s9 (repT hj) (congrArg V.bl ap)⟩
     · rw [a8.bls] at e8;refine ⟨E,_,rfl,SqL.of e8,true,by rw [allT];rfl,iteF ?_⟩;exact ⟨s46.trans s8,_,_,_,rfl⟩
   · obtain ⟨s3,x1,x2,x3,rfl⟩:=p;exact q _ (s2.trans s3)
abbrev Zch:Stmt:=top 32
theorem Zii (F:Fun K "is_plate" "is_plate" Zch f fd) (Ct_:a15_ P w K mg base) (Cv_:a16_ P w K mg base) (Cw_:a17_ P w K mg base) (Cg_:a18_ P w K mg base) (Cp_:a19_ P w K mg base) (Cb_:a2_ P w K mg base) (Cak_:a20_ P w K mg base):FnOk P w K mg base CX0 5 f fd ["thing"] Zei:=by
 have sc:FnScope ["thing","corners","pieces","thicks","stuff"] ["thing"] (Zf Zch):=fsc (?j);refine F.ok sc (fun vs H Q E h=>by obtain ⟨v,P',rfl,_⟩:=h;rfl) ?z;obtain ⟨v,P',rfl,⟨a,c,p,t,st,rfl,ha,hc,hp,ht,hs⟩,ok,q⟩:=h;have nd:=sc.nd;refine' ?A
 case term=>refine' Zd (Xo (Xc (Z0 (Zm Cb_ hr ?f rfl (Za (pv 0) (Za Zg (Za Zg Zb rfl) rfl) rfl)) (fun _=>rfl))) (Zj (Zo X7)) Z4) ?g1;case g1=>refine' Zd (Zaa (pv 0) (Z8 (n:=4) rfl (Ze (Zl (i:=1) nd rfl ?s) (Ze (Zl (i:=2) nd rfl ?s) (Ze (Zl (i:=3) nd rfl ?s) (Ze (Zl (i:=4) nd rfl ?s) Zu)))))) ?g2;case g2=>refine' Zd ?g3 ?g4;(case g3=>refine' Xo ?g5 (Zj (Zo X7)) Z4;case g5=>refine' PW.pt ?g6;case g6=>refine' Ziw (Xc (Z0 (Zm Ct_ hr ?f rfl (Za (pv 1) Zb rfl)) (fun _=>rfl))) (Zdx (Xc (Z0 (Zm Cv_ hr ?f rfl (Za (pv 1) (Za (pv 2) Zb rfl) rfl)) (fun _=>rfl)))));case g4=>refine' Zd ?g7 (Zj (Zo (Zdr (Zm Cg_ hr ?f rfl (Za (pv 1) (Za (pv 2) Zb rfl) rfl)) (Zcm (Zm Cp_ hr ?f rfl (Za (pv 1) (Za (pv 2) Zb rfl) rfl))))));case g7=>refine' Xo ?g8 (Zj (Zo X7)) Z4;case g8=>refine' PW.pt ?g9;case g9=>refine' Ziw (Xc (Z0 (Zm Cw_ hr ?f rfl (Za (pv 2) (Za (pv 3) Zb rfl) rfl)) (fun _=>rfl))) (Zdx (Xc (Z0 (Zm Cak_ hr ?f rfl (Za (pv 4) Zb rfl)) (fun _=>rfl))))
 refine ⟨_,rfl,a,_,4,4,rfl,ha,by simp,by simp,true,rfl,iteF ?_⟩;refine ⟨_,rfl,a,_,rfl,SqT.of ha,rfl,c,_,rfl,p,_,rfl,t,_,rfl,st,_,rfl,rfl,?_⟩;refine ⟨_,rfl,c,P'.cs,rfl,hc,ok.c3,ok.c30,ok.nr,ok.nd,fun H1 s1=>⟨true,rfl,iteF ?_⟩⟩;refine ⟨_,rfl,_,rfl,c,p,P'.cs,P'.ps,rfl,hc.tk s1.tk,hp.tk s1.tk,ok.p1,ok.p40,ok.pc,ok.rise,ok.nr,fun H2 s2=>⟨true,rfl,iteF ?_⟩⟩;have s12:=s1.trans s2;refine ⟨_,rfl,_,rfl,p,t,P'.ps,P'.ts,rfl,hp.tk s12.tk,ht.tk s12.tk,ok.t1,ok.p40,ok.t9,fun H3 s3=>⟨true,rfl,iteF ?_⟩⟩;have s13:=s12.trans s3;refine ⟨_,rfl,st,P'.l,P'.m,rfl,hs.tk s13.tk,ok.l9,ok.m9,true,rfl,iteF ?_⟩;refine ⟨_,rfl,_,rfl,c,p,P'.cs,P'.ps,rfl,hc.tk s13.tk,hp.tk s13.tk,fun x hx=>(ok.pc x hx).len,ok.p40,ok.used,ok.c30,fun H4 s4=>⟨true,rfl,iteT ?_⟩⟩;have s14:=s13.trans s4;exact ⟨_,rfl,_,rfl,c,p,P'.cs,P'.ps,rfl,hc.tk s14.tk,hp.tk s14.tk,⟨ok.c30,ok.nr,ok.p40,ok.pc,ok.strange,ok.apart⟩,fun H5 s5=>q _ (s14.trans s5)⟩
abbrev Xm:Stmt:=top 33
theorem Zc1 (F:Fun K "look_at_plate" "look_at_plate" Xm f fd) (Ch_:a21_ P w K mg base):FnOk P w K mg base CX0 6 f fd ["plate"] Zcl:=by
 have sc:FnScope ["plate"] ["plate"] (Zf Xm):=fsc (?j);refine F.ok sc (fun vs H Q E h=>by obtain ⟨v,P',rfl,_⟩:=h;rfl) ?z;obtain ⟨v,P',rfl,hv,ok,q⟩:=h;refine' ?A
 case term=>refine' Zj (Xo (Xc (Z0 (Zm Ch_ hr ?f rfl (Za (pv 0) Zb rfl)) (fun _=>rfl))) Zb4 Z4)
 exact ⟨_,rfl,v,P',rfl,hv,ok,fun H1 s1=>⟨true,rfl,iteF (q _ s1)⟩⟩
abbrev Zcg:Stmt:=top 34
theorem Zi8 (F:Fun K "sides_of" "sides_of" Zcg f fd):FnOk P w K mg base CX0 1 f fd ["piece"] Ze2:=by
 have sc:FnScope ["piece","first","second","third"] ["piece"] (Zf Zcg):=fsc (?j);refine F.ok sc (fun vs H Q E h=>by obtain ⟨v,p,rfl,_⟩:=h;rfl) ?z;obtain ⟨v,p,rfl,⟨a,rfl,ha⟩,h3,q⟩:=h;have nd:=sc.nd;refine' ?A
 case term=>refine' Zd (Zaa (pv 0) (Z8 (n:=3) rfl (Ze (Zl (i:=1) nd rfl ?s) (Ze (Zl (i:=2) nd rfl ?s) (Ze (Zl (i:=3) nd rfl ?s) Zu))))) (Zj (Zo (Xd (Za (Zz (Za (pv 1) (Za (pv 2) Zb rfl) rfl)) (Za (Zz (Za (pv 1) (Za (pv 3) Zb rfl) rfl)) (Za (Zz (Za (pv 2) (Za (pv 3) Zb rfl) rfl)) Zb rfl) rfl) rfl))))
 obtain ⟨i,j,k,rfl⟩:∃ i j k,p=[i,j,k]:=⟨_,_,_,Zvt h3⟩;refine ⟨_,rfl,a,_,rfl,SqT.of ha,rfl,_,_,rfl,_,_,rfl,_,_,rfl,rfl,?_⟩;refine ⟨_,rfl,_,rfl,z2_,?_⟩;intro p1 n1;generalize hH1:upd H p1 _=H1;have S1:Same H H1:=by (rw [← hH1];exact Same.new n1)
 have A1:=(congrFun hH1 p1).symm;rw [Zc] at A1;clear hH1;refine ⟨_,rfl,_,rfl,z2_,?_⟩;intro p2 n2;generalize hH2:upd H1 p2 _=H2;have S2:Same H1 H2:=by (rw [← hH2];exact Same.new n2)
 have A2:=(congrFun hH2 p2).symm;rw [Zc] at A2;clear hH2;refine ⟨_,rfl,_,rfl,z2_,?_⟩;intro p3 n3;generalize hH3:upd H2 p3 _=H3;have S3:Same H2 H3:=by (rw [← hH3];exact Same.new n3)
 have A3:=(congrFun hH3 p3).symm;rw [Zc] at A3;clear hH3;refine ⟨z3_,?_⟩;intro p4 n4;generalize hH4:upd H3 p4 _=H4;have S4:Same H3 H4:=by (rw [← hH4];exact Same.new n4)
 have A4:=(congrFun hH4 p4).symm;rw [Zc] at A4;clear hH4;refine q _ p4 [(p1,[i,j]),(p2,[i,k]),(p3,[j,k])] (S1.trans (S2.trans (S3.trans S4))) (Yj (S1.trans (S2.trans S3)) n4) A4 (fun x hx=>?_) rfl;simp only [n9_,n10_,or_false] at hx
 rcases hx with rfl|rfl|rfl
 · exact (S4 _ _ (S3 _ _ (S2 _ _ A1)))
 · exact (S4 _ _ (S3 _ _ A2))
 · exact (S4 _ _ A3)
abbrev Zf0:Stmt:=top 35
theorem Znk (F:Fun K "owners" "owners" Zf0 f fd) (Ci_:a22_ P w K mg base):FnOk P w K mg base CX0 2 f fd ["plate"] Zgp:=by
 have sc:FnScope ["plate","found","number","piece","side"] ["plate"] (Zf Zf0):=fsc (?j);refine F.ok sc (fun vs H Q E h=>by obtain ⟨v,P',rfl,_⟩:=h;rfl) ?z;obtain ⟨v,P',rfl,⟨a,c,p,t,st,rfl,ha,hc,⟨b,ws,rfl,hb,bl⟩,ht,hs⟩,p3,p20,q⟩:=h;have nd:=sc.nd;have hu:=Zid hr;refine' ?A
 case term=>refine' Zd (Z1 (i:=1) nd rfl ?s Zp9) (Zd (Zac PassesOwn.never rfl (Zdf .t rfl T.b_enumerate (Za (Zt Z7 (pv 0) Zg (?l)) Zb rfl)) (Z8 (n:=2) rfl (Ze (Zl (i:=2) nd rfl ?s) (Ze (Zl (i:=3) nd rfl ?s) Zu))) (Zj (Zac PassesOwn.never rfl (Yo (Zm Ci_ hr ?f rfl (Za (pv 3) Zb rfl))) (Zl (i:=4) nd rfl ?s) (Zj (Xy (Zg7 PySem.F.plainAttrs_list PySem.F.slot_list_append PySem.F.type_list_append Xi (Zg7 PySem.F.plainAttrs_dict PySem.F.slot_dict_setdefault PySem.F.type_dict_setdefault (Zl2 hu) (pv 1) (Za (pv 4) (Za (Xd Zb) Zb rfl) rfl)) (Za (pv 2) Zb rfl))))))) (Zj (Zo (pv 1))))
 have hl:=bl.1;intro D nD;generalize gG:upd H D (.dT [])=H1;obtain ⟨s1,e1⟩:=gen_upd gG nD;refine ⟨_,rfl,a,_,1,_,rfl,rfl,SqT.of (s1 _ _ ha),rfl,b,rfl,⟨_,SqT.of (s1 _ _ hb)⟩,?_⟩;refine Zcd (n:=P'.ps.length) (fun i σ H2=>∃ w2 w3 w4 g ads,σ=[some (.ref a),some (.ref D),w2,w3,w4]∧Same H H2∧OwnA H H2 D g ads∧GI g (Zat P'.ps i)) ⟨_,_,_,[],[],rfl,s1,⟨e1,rfl,List.nodup_nil,by simp,fun i a e h=>by simp at h,by simp,nD⟩,.nil⟩ (fun i σ H2 hi pp=>?_) (fun σ H2 pp=>?_) (fun i x σ H2 H3 hi y pp=>?_) (fun σ H2 pp=>?_)
 · obtain ⟨_,_,_,_,_,_,s2,_⟩:=pp;exact ⟨ws,ws[i]'(?d),SqT.of (s2 _ _ hb),n1_ (?d)⟩
 · obtain ⟨_,_,_,_,_,_,s2,_⟩:=pp;exact ⟨ws,SqT.of (s2 _ _ hb),?d⟩
 · obtain ⟨w2,w3,w4,g,ads,rfl,s2,o2,g2⟩:=pp;obtain ⟨p1,x,rfl,n1,rfl,y1⟩:=y;have ex:=y1 ws (SqT.of (s2 _ _ hb));obtain ⟨p',ep,rp⟩:=bl.get ex;have gp:P'.ps.getD i []=p':=by rw [n4_,ep];rfl
   generalize gG:upd H2 p1 (.tup [.int i,x])=H3;obtain ⟨sa,e3⟩:=gen_upd gG n1;have o3:=o2.more sa;have s3:=s2.trans sa;refine ⟨p1,_,rfl,SqT.of e3,rfl,_,_,rfl,_,_,rfl,rfl,?_⟩;refine ⟨_,rfl,x,p',rfl,rp.tk s3.tk,p3 p' (n6_ ep),fun H4 L al s4 nL eL tp ek=>⟨L,rfl,⟨_,SqL.of eL⟩,?_⟩⟩;have o4:=o3.more s4;have s04:=s3.trans s4
   have hL:L∉ads:=fun z=>by
    obtain ⟨_,e⟩:=o3.has z;rw [nL] at e;cases e
   have nLD:L≠D:=fun z=>by rw [z,o3.dt] at nL;cases nL
   refine Zc6 (xs:=refs al) (fun m σ H5=>∃ w4 g ads,σ=[some (.ref a),some (.ref D),some (.int i),some x,w4]∧Same H H5∧H5 L=some (.lst (refs al))∧(∀ x∈al,tpl H5 x)∧L∉ads∧OwnA H H5 D g ads∧GI g (Zat P'.ps i++((Zn p').take m).map fun s=>(s,(i:Int)))) ⟨_,g,ads,rfl,s04,eL,tp,hL,o4,by simpa using g2⟩ ?_ ?_ ?_
   · rintro m σ H5 _ ⟨_,_,_,_,_,e5,_⟩
     exact SqL.of e5
   · rintro m w σ H5 hw ⟨w4',g5,ads5,rfl,s5,eL5,tp5,hL5,o5,gi5⟩
     rw [n7_] at hw;obtain ⟨y,ey,rfl⟩:=n14_.mp hw;have ey2:(Zn p')[m]? = some y.2:=by rw [← ek,n7_,ey];rfl
     have hm:=(n12_.mp ey2).1
     have qs:(Zat P'.ps i++((Zn p').take (m+1)).map fun s=>(s,(i:Int)))=(Zat P'.ps i++((Zn p').take m).map fun s=>(s,(i:Int)))++[(y.2,(i:Int))]:=by
      rw [n61_,ey2,n46_,← n49_];rfl
     have tpy:=tp5 y (n6_ ey);have lq:=Zul P'.ps i m (?d);rw [gp] at lq;have lk:=Zt8 gi5 lq o5.len;refine ⟨_,rfl,.inr (.inr (.inl ⟨rfl,.inr ⟨_,o5.dt⟩⟩)),_,rfl,z0_,fun L0 n0=>?_⟩;generalize gG:upd H5 L0 (.lst [])=H6;obtain ⟨s6,e6⟩:=gen_upd gG n0;have o6:=o5.more s6;have d0:L0≠D:=fun z=>by rw [z,o5.dt] at n0;cases n0
     have h0:L0∉ads5:=fun z=>by
      obtain ⟨_,e⟩:=o5.has z;rw [n0] at e;cases e
     have l0:L≠L0:=fun z=>by rw [← z,eL5] at n0;cases n0
     refine ⟨D,y.1,kvO g5 ads5,y.2.map Sum.inl,_,rfl,rfl,o6.dt,(by rw [kVs];exact s6 _ _ tpy),lk,fun u hu'=>?_,fun hn=>?_⟩
     · obtain ⟨j,u',e,hj,hg,he,rfl⟩:=(valO o6.len y.2).1 u hu';have eu:=o6.at_ j u' e hj hg;have le:=gi5.le (n6_ hg);have nu:u'≠L:=fun z=>hL5 (z ▸ n6_ hj);refine ⟨.inl ⟨rfl,_,SqL.of eu⟩,_,rfl,u',_,_,rfl,rfl,eu,by rw [n5_,sizeLine_eq];omega,?_⟩;have o7:=o6.old gi5.nd (i:Int) hj hg he;have fu:=o6.fr u' (n6_ hj);refine ⟨_,_,_,rfl,fun b o eb=>?_,?_,fun x hx=>?_,hL5,o7,by rw [qs];exact gi5.ins y.2 i⟩
       · rw [Zh (Zi eb fu)];exact s6 _ _ (s5 _ _ eb)
       · rw [Zh nu.symm];exact s6 _ _ eL5
       · have:=s6 _ _ (tp5 x hx)
         show upd H6 u' _ x.1=_
         rw [Zh (fun z=>by rw [z,eu] at this;cases this)];exact this
     · refine ⟨.inl ⟨rfl,_,SqL.of (by rw [Zh d0];exact e6)⟩,_,rfl,L0,_,_,rfl,rfl,(by rw [Zh d0];exact e6),by show 0<sizeLine;decide,?_⟩;have f0:=Yj s5 n0;have o7:=o6.new (s:=y.2) (i:Int) hn h0 d0 f0;refine ⟨_,_,_,rfl,fun b o eb=>?_,?_,fun x hx=>?_,?_,o7,by rw [qs];exact gi5.ins y.2 i⟩
       · rw [Zh (Zi eb f0),Zh (Zi eb o6.frD)];exact s6 _ _ (s5 _ _ eb)
       · rw [Zh l0,Zh nLD];exact s6 _ _ eL5
       · have:=s6 _ _ (tp5 x hx)
         show upd (upd H6 D _) L0 _ x.1=_
         rw [Zh (fun z=>by rw [z,e6] at this;cases this),Zh (fun z=>by rw [z,o6.dt] at this;cases this)];exact this
       · rw [n28_,not_or];exact ⟨hL5,fun z=>l0 (n25_.mp z)⟩
   · rintro σ H5 ⟨w4',g5,ads5,rfl,s5,eL5,tp5,hL5,o5,gi5⟩
     refine ⟨_,_,_,g5,ads5,rfl,s5,o5,?_⟩
     have la:(refs al).length=3:=by
      have:=congrArg List.length ek
      simpa [Zn] using this
     rw [la,n45_ (show (Zn p').length≤3 from n11_ 3)] at gi5;rw [Zeq,gp];exact gi5
 · obtain ⟨w2,w3,w4,g,ads,rfl,s2,o2,g2⟩:=pp;exact ⟨_,rfl,q H2 D g ads s2 o2 g2⟩
abbrev Za3:Stmt:=top 36
theorem Zfe (F:Fun K "neighbours" "neighbours" Za3 f fd) (Cf_:a23_ P w K mg base):FnOk P w K mg base CX0 3 f fd ["plate"] Zof:=by
 have sc:FnScope ["plate","found","numbers","number"] ["plate"] (Zf Za3):=fsc (?j);refine F.ok sc (fun vs H Q E h=>by obtain ⟨v,P',rfl,_⟩:=h;rfl) ?z;obtain ⟨v,P',rfl,hv,p3,p20,q⟩:=h;have nd:=sc.nd;refine' ?A
 case term=>refine' Zd (Zef (N:=["piece"]) (fr:=[none]) rfl rfl (Zl (i:=1) nd rfl ?s) (Ye ?f rfl ?f rfl rfl) (Y0 (Zt Z7 (pv 0) Zg (?l))) (fun _ _ _ _=>pgB 0) (fun _ _ _ _=>Zq) (fun _ _ _ _=>Xd Zb)) (Zd (Zac PassesOwn.never rfl (Zts (Zm Cf_ hr ?f rfl (Za (pv 0) Zb rfl))) (Zl (i:=2) nd rfl ?s) (Zj (Zac PassesOwn.never rfl (Yo (pv 2)) (Zl (i:=3) nd rfl ?s) (Zj (Xy (Zg7 PySem.F.plainAttrs_list PySem.F.slot_list_extend PySem.F.type_list_extend Zm6 (Zt Yz (pv 1) (pv 3) (?l)) (Za (pv 2) Zb rfl))))))) (Zj (Zo (pv 1))))
 obtain ⟨a,c,p,t,st,rfl,ha,hc,⟨b,ws,rfl,hb,bl⟩,ht,hs⟩:=id hv;have hl:=bl.1;refine ⟨_,rfl,a,_,1,_,rfl,rfl,SqT.of ha,rfl,b,rfl,⟨_,SqT.of hb⟩,fun F nF=>?_⟩;refine Zvz (k:=.t) (vs:=ws) (?d) nF hb fun H2 as s2 las nda has eF=>?_;refine ⟨_,rfl,.ref a,P',rfl,hv.tk s2.tk,p3,p20,fun H3 D g ads s3 o3 gi=>⟨D,kvO g ads,rfl,o3.dt,fun ob=>?_⟩⟩;have lan:as.length=P'.ps.length:=?d
 have nFD:F≠D:=fun z=>by have:=o3.frD;rw [← z,eF] at this;cases this
 have dz:∀ x o,H3 x=some o→x≠D→upd H3 D (.frz ob (.dT (kvO g ads))) x=some o:=fun x o e ne=>by rw [Zh ne];exact e
 have nDas:∀ x∈as,x≠D:=fun x hx z=>by have:=o3.frD;rw [← z,(has x hx).1] at this;cases this
 have kl:=Zir o3.len;have gl:g.length≤60:=by have:=gi.len;rw [X4] at this;omega
 have dis:∀ x∈as,x∉ads:=fun x hx hx'=>by have:=o3.fr x hx';rw [(has x hx).1] at this;cases this
 have nFas:∀ x∈as,x≠F:=fun x hx=>(has x hx).2.2;have el:∀ e∈g,e.2.length≤60:=fun e he=>by have:=gi.le he;rw [X4] at this;omega
 have n0:NearG H (upd H3 D (.frz ob (.dT (kvO g ads)))) F D ob as ads g (fun _=>[]) (fun i x=>∃ e∈g.take 0,(i:Int)∈e.2∧x∈e.2) 0 :=
  ⟨fun x o e=>dz x o (s3 _ _ (s2 _ _ e)) (fun z=>by have:=Yj s2 o3.frD;rw [← z,e] at this;cases this),dz _ _ (s3 _ _ eF) nFD,Zc,fun i x e h1 h2=>dz _ _ (o3.at_ i x e h1 h2) (fun z=>o3.nD (z ▸ n6_ h1)),fun i x hx=>by have hm:=n6_ hx;exact dz _ _ (s3 _ _ (has x hm).1) (nDas x hm),fun i _ x=>by simp,fun i _=>n42_ _⟩
 generalize upd H3 D (.frz ob (.dT (kvO g ads)))=H4 at n0 ⊢;refine Zcd (n:=g.length) (fun k σ H5=>∃ w2 w3 nf,σ=[some (.ref a),some (.ref F),w2,w3]∧NearG H H5 F D ob as ads g nf (fun i x=>∃ e∈g.take k,(i:Int)∈e.2∧x∈e.2) (3600*k)) ⟨_,_,_,rfl,n0⟩ (fun k σ H5 hk pp=>?_) (fun σ H5 pp=>?_) (fun k x σ H5 H6 hk y pp=>?_) (fun σ H5 pp=>?_)
 · obtain ⟨_,_,_,_,N5⟩:=pp;exact ⟨_,N5.eD,by rw [kl];exact hk⟩
 · obtain ⟨_,_,_,_,N5⟩:=pp;exact ⟨_,N5.eD,by rw [kl];exact n11_ _⟩
 · obtain ⟨w2,w3,nf,rfl,N5⟩:=pp;obtain ⟨k',rfl,y2⟩:=y;have ek:=y2 _ N5.eD;have ha':ads[k]? = some (ads[k]'(by rw [o3.len];exact hk)):=n1_ _;have hg':g[k]? = some g[k]:=n1_ hk;obtain ⟨u,hu'⟩:∃ u,ads[k]? = some u:=⟨_,ha'⟩;obtain ⟨e,he⟩:∃ e,g[k]? = some e:=⟨_,hg'⟩
   have:x=.ref u:=by
    have ez:(g.zip ads)[k]? = some (e,u):=List.getElem?_zip_eq_some.mpr ⟨he,hu'⟩;rw [n7_,ez] at ek
    simpa using (congrArg Prod.snd (Option.some.inj ek)).symm
   subst this;have eu:=N5.av k u e hu' he;have hem:=n6_ he;have hum:=n6_ hu';have e60:=el e hem;refine ⟨_,rfl,u,rfl,⟨_,SqL.of eu⟩,?_⟩;refine Zc6 (xs:=e.2.map V.int) (fun m σ H6=>∃ w3 nf,σ=[some (.ref a),some (.ref F),some (.ref u),w3]∧NearG H H6 F D ob as ads g nf (fun i x=>(∃ e∈g.take k,(i:Int)∈e.2∧x∈e.2)∨((i:Int)∈e.2.take m∧x∈e.2)) (3600*k+60*m)) ⟨_,nf,rfl,N5.sm,N5.eF,N5.eD,N5.av,N5.at_,fun i hi x=>(N5.mem i hi x).trans ?g,N5.le⟩ ?_ ?_ ?_
   · rintro m σ H6 _ ⟨_,_,_,N6⟩
     exact SqL.of (N6.av k u e hu' he)
   · rintro m w σ H6 hw ⟨w3',nf6,rfl,N6⟩
     rw [n7_] at hw;obtain ⟨j,ej,rfl⟩:=n14_.mp hw;have hm60:=(n12_.mp ej).1;obtain ⟨j',rfl,hj,_⟩:=(gi.mem hem).mp (n6_ ej);obtain ⟨z,hz⟩:∃ z,as[j']? = some z:=⟨_,n1_ (?d)⟩;have hzm:=n6_ hz;have ez:=N6.at_ j' z hz;have eu6:=N6.av k u e hu' he;have lz:=N6.le j' (?d);refine ⟨_,rfl,_,rfl,F,_,(j':Int),.ref z,rfl,rfl,SqL.of N6.eF,Zca (by rw [n7_,hz];rfl),.inl ⟨rfl,_,SqL.of ez⟩,_,rfl,z,u,_,_,rfl,rfl,ez,eu6,by rw [n5_,n5_,sizeLine_eq];omega,?_⟩;have nz':∀ x∈ads,x≠z:=fun x hx e=>dis z hzm (e ▸ hx);refine ⟨_,fun i=>if i=j' then nf6 i++e.2 else nf6 i,rfl,fun x o eb=>?_,?_,?_,fun i x e' h1 h2=>?_,fun i x hx=>?_,fun i hi x=>?_,fun i hi=>?_⟩
     · rw [Zh (Zi eb (has z hzm).2.1)];exact N6.sm _ _ eb
     · rw [Zh (nFas z hzm).symm];exact N6.eF
     · rw [Zh (nDas z hzm).symm];exact N6.eD
     · rw [Zh (nz' x (n6_ h1))];exact N6.av i x e' h1 h2
     · by_cases c:i=j'
       · subst c;rw [hz] at hx;cases hx;rw [Zc]
         simp
       · have:x≠z:=fun q=>c (Zqr nda (q ▸ hx) hz)
         rw [Zh this,N6.at_ i x hx];simp [c]
     · have h0:=N6.mem i hi x;rw [n61_,ej]
       by_cases c:i=j'
       · subst c;simp only [if_true,n28_,h0]
         simp
         constructor
         · rintro ((h|⟨h,h'⟩)|h)
           · exact .inl h
           · exact .inr h'
           · exact .inr h
         · rintro (h|h)
           · exact .inl (.inl h)
           · exact .inr h
       · simp only [if_neg c,h0]
         have:¬ (i:Int)=(j':Int):=?d
         simp [this]
     · have:=N6.le i hi
       split
       · rw [n21_];omega
       · omega
   · rintro σ H6 ⟨w3',nf6,rfl,N6⟩
     refine ⟨_,_,nf6,rfl,N6.sm,N6.eF,N6.eD,N6.av,N6.at_,fun i hi x=>(N6.mem i hi x).trans ?_,fun i hi=>?_⟩
     · rw [n5_,List.take_length,n61_,he];simp only [n28_,Option.toList_some,n25_];constructor
       · rintro (⟨e',h1,h2⟩|h2)
         · exact ⟨e',.inl h1,h2⟩
         · exact ⟨e,.inr rfl,h2⟩
       · rintro ⟨e',h1|h1,h2⟩
         · exact .inl ⟨e',h1,h2⟩
         · subst h1;exact .inr h2
     · have:=N6.le i hi
       rw [n5_] at this;omega
 · obtain ⟨w2,w3,nf,rfl,N5⟩:=pp;refine ⟨_,rfl,q H5 F as nf N5.sm nF ⟨N5.eF,lan,N5.at_,fun i hi x=>(N5.mem i (?d) x).trans ?_,fun i hi=>?_⟩⟩
   · rw [List.take_length];constructor
     · rintro ⟨e,he,h1,h2⟩
       obtain ⟨i',hi',_,s1⟩:=(gi.mem he).mp h1;obtain ⟨m,hm,hmn,s2'⟩:=(gi.mem he).mp h2
       have:i=i':=?d
       subst this;exact ⟨m,hm,hmn,e.1,s1,s2'⟩
     · rintro ⟨m,rfl,hm,s,s1,s2'⟩
       have hs':s∈g.map (·.1):=(gi.ks s).mpr (n24_.mpr ⟨(s,(i:Int)),Zh4.mpr ⟨i,rfl,hi,s1⟩,rfl⟩);obtain ⟨e,he,rfl⟩:=n24_.mp hs';exact ⟨e,he,(gi.mem he).mpr ⟨i,rfl,hi,s1⟩,(gi.mem he).mpr ⟨m,rfl,hm,s2'⟩⟩
   · have:=N5.le i (?d)
     omega
abbrev Zdc:Stmt:=top 37
theorem Zlu (F:Fun K "part_of" "part_of" Zdc f fd):FnOk P w K mg base CX0 2 f fd ["start","near"] Zg4:=by
 have sc:FnScope ["start","near","seen","left","last","number"] ["start","near"] (Zf Zdc):=fsc (?j);refine F.ok sc (fun vs H Q E h=>by obtain ⟨i,n,F,as,A',nf,rfl,_⟩:=h;rfl) ?z;obtain ⟨i,n,F,as,A',nf,rfl,N,n60,hi,q⟩:=h;have nd:=sc.nd;have hu:=Zid hr;refine' ?A
 case term=>refine' Zd (Z1 (i:=2) nd rfl ?s (Zr0 (Zpr (pv 0) X7 Zsz) rfl rfl ?f ?f)) ?g1;case g1=>refine' Zd (Z1 (i:=3) nd rfl ?s (Xd (Za (pv 0) Zb rfl))) ?g2;case g2=>refine' Zd ?g3 (Zj (Zo (Z3 Zx rfl T.b_tuple Yp (Za (Zk (Zhr rfl) rfl T.b_sorted Y8 (Za (pv 2) Zb rfl)) Zb rfl))));case g3=>refine' Zky PassesOwn.never (Z0 (pv 3) (fun _=>rfl)) (Zd (Z1 (i:=4) nd rfl ?s (Zvf PySem.F.plainAttrs_list PySem.F.slot_list_pop PySem.F.type_list_pop Zvp (pv 3))) (Zj (Zac PassesOwn.never rfl (Yo (Zt Yz (pv 1) (pv 4) (?l))) (Zl (i:=5) nd rfl ?s) (Zj (Xo (Zuz (Zog hu (pv 5) (pv 2)) rfl) (Zd (Zst hu (pv 2) (pv 5) X7 rfl) (Zj (Xy (Zg7 PySem.F.plainAttrs_list PySem.F.slot_list_append PySem.F.type_list_append Xi (pv 3) (Za (pv 5) Zb rfl))))) Z4)))))
 refine fun S nS=>⟨_,rfl,Zc,[(Sum.inl (i:Int),V.bl true)],rfl,by simp,?_⟩;have s1:Same H (upd (upd H S (.dK [])) S (.dK (Zcv [] [(Sum.inl (i:Int),V.bl true)]))):=fun b o e=>by rw [Zh (Zi e nS),Zh (Zi e nS)];exact e
 have e1:upd (upd H S (.dK [])) S (.dK (Zcv [] [(Sum.inl (i:Int),V.bl true)])) S=some (.dK (kvT [(i:Int)])):=Zc;generalize upd (upd H S (.dK [])) S (.dK (Zcv [] [(Sum.inl (i:Int),V.bl true)]))=H1 at s1 e1 ⊢;refine ⟨_,rfl,z1_,fun L nL=>?_⟩;have s2:Same H1 (upd H1 L (.lst [.int (i:Int)])):=Same.new nL;have e2:upd H1 L (.lst [.int (i:Int)]) L=some (.lst ([(i:Int)].map V.int)):=Zc;have nSL:S≠L:=Zi e1 nL;have nL0:=Yj s1 nL;have e1':=s2 _ _ e1;generalize upd H1 L (.lst [.int (i:Int)])=H2 at s2 e2 e1' ⊢;have s02:=s1.trans s2;have o0:SeenOk A' n i [(i:Int)] [(i:Int)]:=⟨by simp,by simp,fun x hx=>⟨i,by simpa using hx,hi,.refl⟩,fun x hx=>hx,fun a b h1 h2=>absurd h1 h2,n11_ _⟩;dsimp only [Zy,tSeq];refine Zj1 (fun σ H3=>∃ w4 w5 ks ls,σ=[some (.int (i:Int)),some (.ref F),some (.ref S),some (.ref L),w4,w5]∧Same H H3∧H3 S=some (.dK (kvT ks))∧H3 L=some (.lst (ls.map V.int))∧SeenOk A' n i ks ls) (fun σ H3=>match H3 L,H3 S with|some (.lst xs),some (.dK kvs)=>2*(n-kvs.length)+xs.length|_,_=>0) ⟨_,_,_,_,rfl,s02,e1',e2,o0⟩ ?_ ?_
 · rintro σ H3 ⟨w4,w5,ks,ls,rfl,s3,eS,eL,ok⟩
   refine ⟨_,rfl,_,.inl ⟨_,SqL.of eL,rfl⟩,?_⟩
   rcases List.eq_nil_or_concat ls with rfl|⟨ls0,z,rfl⟩
   · refine iteF ?_;refine ⟨_,rfl,S,kvT ks,ks,rfl,eS,by rw [n64_];rfl,by have:=Zkb ok;omega,fun l ms nl pm so=>?_⟩;generalize gG:upd H3 l (.lst (ms.map V.int))=H4;obtain ⟨s4,e4⟩:=gen_upd gG nl;refine ⟨l,_,rfl,.inl ⟨SqL.of e4,fun t nt=>?_⟩⟩;exact q _ t ms (s3.trans (s4.trans (Same.new nt))) (Yj (s3.trans s4) nt) Zc (Zoa hi ok.nd ok.st ok.co (fun a b ha hb ab=>ok.cl a b ha ?g hb ab) pm so)
   · rw [List.concat_eq_append] at eL ok ⊢;refine (show (if (!List.isEmpty (List.map V.int (ls0++[z])))=true then _ else _) from ?_);rw [show (!List.isEmpty (List.map V.int (ls0++[z])))=true by simp];refine iteT ?_;refine ⟨_,rfl,.inl ⟨rfl,_,SqL.of eL⟩,L,_,.int z,rfl,rfl,eL,by simp,?_⟩;rw [n46_,show List.dropLast (List.map V.int ls0++List.map V.int [z])=ls0.map V.int by simp];obtain ⟨z',rfl,hz,cz⟩:=ok.co z (ok.sub z ?g);obtain ⟨b,hb⟩:∃ b,as[z']? = some b:=⟨_,n1_ (by rw [N.len];exact hz)⟩;have eb:=N.at_ z' b hb;have s4:Same H (upd H3 L (.lst (ls0.map V.int))):=fun x o e=>by rw [Zh (Zi e nL0)];exact s3 _ _ e
     have eS4:upd H3 L (.lst (ls0.map V.int)) S=some (.dK (kvT ks)):=by rw [Zh nSL];exact eS
     have eL4:upd H3 L (.lst (ls0.map V.int)) L=some (.lst (ls0.map V.int)):=Zc;generalize upd H3 L (.lst (ls0.map V.int))=H4 at s4 eS4 eL4 ⊢;refine ⟨_,rfl,_,rfl,F,_,(z':Int),.ref b,rfl,rfl,SqL.of (s4 _ _ N.eF),Zca (by rw [n7_,hb];rfl),b,rfl,⟨_,SqL.of (s4 _ _ eb)⟩,?_⟩;refine Zc6 (xs:=(nf z').map V.int) (fun m σ H5=>∃ w5 nw,σ=[some (.int (i:Int)),some (.ref F),some (.ref S),some (.ref L),some (.int (z':Int)),w5]∧Same H H5∧H5 S=some (.dK (kvT (ks++nw)))∧H5 L=some (.lst ((ls0++nw).map V.int))∧(ks++nw).Nodup∧(∀ x∈nw,∃ m:Nat,x=m∧m<n∧Conn A' n i m)∧∀ x∈(nf z').take m,x∈ks++nw) ⟨_,[],rfl,s4,by simpa using eS4,by simpa using eL4,by simpa using ok.nd,by simp,by simp⟩ ?_ ?_ ?_
     · rintro m σ H5 _ ⟨_,_,_,s5,_⟩
       exact SqL.of (s5 _ _ eb)
     · rintro m w σ H5 hw ⟨w5',nw,rfl,s5,eS5,eL5,nd5,co5,al5⟩
       rw [n7_] at hw;obtain ⟨x,ex,rfl⟩:=n14_.mp hw;obtain ⟨x',rfl,hx,ax⟩:=(N.mem z' hz _).mp (n6_ ex);have coa:∀ y∈ks++nw,∃ m:Nat,y=m∧m<n∧Conn A' n i m:=fun y hy=>(n28_.mp hy).elim (ok.co y) (co5 y);have ln:(ks++nw).length≤n:=Zrs nd5 fun y hy=>let ⟨m,a,b,_⟩:=coa y hy;⟨m,a,b⟩
       have lz:(ls0++nw).length≤n:=by
        have:=ok.le
        rw [n21_] at this ln ⊢;omega
       refine ⟨_,rfl,_,rfl,S,_,rfl,DGet.kq (k:=Sum.inl (x':Int)) eS5,_,rfl,?_⟩;rw [valT]
       by_cases c:(x':Int)∈ks++nw
       · rw [if_pos c];refine iteF ?_;refine ⟨_,nw,rfl,s5,eS5,eL5,nd5,co5,fun y hy=>?_⟩;rw [n61_,ex] at hy
         rcases n28_.mp hy with hy|hy
         · exact al5 y hy
         · rw [show y=x' by simpa using hy];exact c
       · rw [if_neg c];refine iteT ?_;refine ⟨_,rfl,_,rfl,S,_,rfl,DPut.kq (k:=Sum.inl (x':Int)) eS5 (by rw [Zs0,sizeLine_eq];omega),?_⟩;rw [putT c];refine ⟨_,rfl,.inl ⟨rfl,_,SqL.of (by rw [Zh nSL.symm];exact eL5)⟩,_,rfl,L,_,_,rfl,rfl,(by rw [Zh nSL.symm];exact eL5),(by rw [n5_,sizeLine_eq];omega),?_⟩;refine ⟨_,nw++[(x':Int)],rfl,fun y o e=>?_,?_,?_,?_,fun y hy=>?_,fun y hy=>?_⟩
         · rw [Zh (Zi e nL0),Zh (Zi e nS)];exact s5 _ _ e
         · rw [Zh nSL,Zc,n49_]
         · rw [Zc];simp
         · rw [← n49_,n62_];exact ⟨nd5,by simp,fun a ha b hb e=>c (by rw [← n25_.mp hb,← e];exact ha)⟩
         · rcases n28_.mp hy with hy|hy
           · exact co5 y hy
           · exact ⟨x',by simpa using hy,hx,cz.trans (.one hz hx ax)⟩
         · rw [← n49_];rw [n61_,ex] at hy
           rcases n28_.mp hy with hy|hy
           · exact n74_ _ (al5 y hy)
           · rw [show y=x' by simpa using hy];simp
     · rintro σ H5 ⟨w5',nw,rfl,s5,eS5,eL5,nd5,co5,al5⟩
       rw [n5_,List.take_length] at al5
       have ok':SeenOk A' n i (ks++nw) (ls0++nw):=by
        refine ⟨nd5,n74_ _ ok.st,fun y hy=>(n28_.mp hy).elim (ok.co y) (co5 y),fun x hx=>?_,fun a b1 ha hn hb1 ab=>?_,?_⟩
        · rcases n28_.mp hx with hx|hx
          · exact n74_ _ (ok.sub x (n74_ _ hx))
          · exact n29_ _ hx
        · rw [n28_,not_or] at hn;have hk:(a:Int)∈ks:=(n28_.mp ha).elim id fun z=>absurd z hn.2
          by_cases c:a=z'
          · subst c;exact al5 _ ((N.mem a hz _).mpr ⟨b1,rfl,hb1,ab⟩)
          · refine n74_ _ (ok.cl a b1 hk ?_ hb1 ab);rw [n28_,not_or];exact ⟨hn.1,fun z=>c (by have:=n25_.mp z;omega)⟩
        · have:=ok.le
          rw [n21_,List.length_singleton] at this;rw [n21_,n21_];omega
       refine ⟨⟨_,_,_,_,rfl,s5,eS5,eL5,ok'⟩,?_⟩;have l1:=Zkb ok';rw [eS5,eL5,eS,eL];dsimp only;rw [n5_,n5_,n5_,n5_,n21_,n21_,n21_,List.length_singleton];rw [n21_] at l1;omega
 · rintro σ H' Q1 Q2 hq ⟨v,e,k,t,q'⟩
   exact ⟨v,e,k,t,hq _ _ q'⟩
abbrev Zfl:Stmt:=top 38
theorem Zpn (F:Fun K "parts" "parts" Zfl f fd) (Cd_:a24_ P w K mg base) (Cx_:a25_ P w K mg base) (Can_:a26_ P w K mg base):FnOk P w K mg base CX0 7 f fd ["plate"] Zjz:=by
 have sc:FnScope ["plate","near"] ["plate"] (Zf Zfl):=fsc (?j);refine F.ok sc (fun vs H Q E h=>by obtain ⟨v,P',rfl,_⟩:=h;rfl) ?z;obtain ⟨v,P',rfl,hv,ok,p20,q⟩:=h;have nd:=sc.nd;refine' ?A
 case term=>refine' Zd (Xy (Zm Cd_ hr ?f rfl (Za (pv 0) Zb rfl))) (Zd (Z1 (i:=1) nd rfl (Or.inr rfl) (Zm Cx_ hr ?f rfl (Za (pv 0) Zb rfl))) (Zj (Zo (Zk (Zco rfl) rfl T.b_sorted Y8 (Za (Zvh hr rfl (N:=["start","near"]) (fr:=[none,some 1]) (Yc (XN:=["plate","near"]) (Scope.names (Zf Zfl)) rfl rfl rfl (fun _ h=>Zw h) (?j) rfl) (Zhx rfl T.b_range (Za (Zk Zp rfl T.b_len Yw (Za (pv 1) Zb rfl)) Zb rfl)) (fun _ _ _ _=>pgB 0) (fun _ _ _ _=>Zm Can_ hr ?f rfl (Za (pv 0) (Za (pv 1) Zb rfl) rfl))) Zb rfl)))))
 refine ⟨_,rfl,v,P',rfl,hv,ok,fun H1 s1=>?_⟩;refine ⟨_,rfl,v,P',rfl,hv.tk s1.tk,pc3 ok,p20,fun H2 F as nf s2 nF N=>?_⟩;refine ⟨_,rfl,F,_,rfl,.inl (SqL.of N.eF),_,rfl,by rw [n5_,N.len];omega,by rw [n5_,N.len];omega,fun D nD=>?_⟩;have eN:((as.map V.ref).length:Int).toNat=P'.ps.length:=by rw [n5_,N.len];rfl
 rw [eN];generalize hn:P'.ps.length=n at *;have s3:Same H2 (upd H2 D (setU (Xb w) D [])):=Same.new nD;refine ⟨fun i m σ H3=>m=n-i∧i≤n∧(∃ u,σ=[u,some (.ref F)])∧Same H2 H3∧∃ kl,H3 D=some (setU (Xb w) D kl)∧(∀ x∈kl,tpl H3 x)∧kl.length≤i∧(kl.map (·.2)).Nodup∧∀ l,l∈kl.map (·.2)↔∃ j,j<i∧PartOk (Adj P'.ps) n j l,⟨_,rfl,n42_ _,⟨_,rfl⟩,s3,[],Zc,by simp,by simp,by simp,by simp⟩,?_⟩;rintro i m σ H3 ⟨rfl,hi,⟨u,rfl⟩,s03,kl,eD,tp,lk,nd',mem⟩
 by_cases hlt:i<n
 · refine .inr ⟨hlt,fun x H4 y=>?_⟩;obtain ⟨rfl,rfl⟩:=y;refine ⟨_,rfl,_,rfl,i,n,F,as,Adj P'.ps,nf,by rw [Int.zero_add],?_,?d,hlt,fun H5 t l s5 nt tt pt=>?_⟩
   · exact ⟨s03 _ _ N.eF,N.len,fun j b hb=>s03 _ _ (N.at_ j b hb),N.mem,N.le⟩
   have nDt:t≠D:=fun z=>by rw [z,eD] at nt;cases nt
   have s6:∀ o,Tk H5 (upd H5 D o):=fun o b xs e=>by
    have:=s5 _ _ eD
    rw [Zh (fun z=>by rw [z,this] at e;cases e)];exact e
   refine ⟨kl,t,l,s5 _ _ eD,rfl,tt,fun x hx=>s5 _ _ (tp x hx),?d,n-(i+1),?d,rfl,hlt,⟨_,rfl⟩,fun b o e=>?_,addU kl (t,l),Zc,fun x hx=>?_,?_,Zm2 nd',fun l'=>?_⟩
   · rw [Zh (Zi e nD)];exact s5 _ _ (s03 _ _ e)
   · rcases Zjs hx with h|h
     · exact s6 _ _ _ (s5 _ _ (tp x h))
     · subst h;exact s6 _ _ _ tt
   · have:=Zk3 kl (t,l);omega
   · rw [Zgz,mem l'];constructor
     · rintro (⟨j,hj,p⟩|e)
       · exact ⟨j,?d,p⟩
       · exact ⟨i,?d,by rw [show l'=l from e];exact pt⟩
     · rintro ⟨j,hj,p⟩
       by_cases c:j=i
       · subst c;exact .inr (p.eq pt)
       · exact .inl ⟨j,?d,p⟩
 · have e:i=n:=?d
   subst e;refine .inl ⟨n11_ _,D,kl,rfl,eD,tp,fun x hx=>?_,?d,fun l ql nl pm rs=>?_⟩
   · obtain ⟨j,hj,p⟩:=(mem x.2).mp (n47_ hx);exact List.length_pos_of_mem ((p.mem j).mpr ⟨j,rfl,hj,.refl⟩)
   have s4:Same H3 (upd H3 l (.lst (refs ql))):=Same.new nl;exact q _ l ql (s1.trans (s2.trans (s03.trans s4))) (Yj (s1.trans (s2.trans s03)) nl) Zc (fun x hx=>s4 _ _ (tp x (pm.mem_iff.mp hx))) ⟨Zba rs,fun l'=>(pm.map (·.2)).mem_iff.trans (mem l')⟩
abbrev Zj5:Stmt:=top 39
theorem Zt3 (F:Fun K "room" "room" Zj5 f fd) (Cd_:a24_ P w K mg base) (Ck_:a6_ P w K mg base):FnOk P w K mg base CX0 7 f fd ["plate"] Zm3:=by
 have sc:FnScope ["plate"] ["plate"] (Zf Zj5):=fsc (?j);refine F.ok sc (fun vs H Q E h=>by obtain ⟨v,P',rfl,_⟩:=h;rfl) ?z;obtain ⟨v,P',rfl,hv,ok,p20,q⟩:=h;refine' ?A
 case term=>refine' Zd (Xy (Zm Cd_ hr ?f rfl (Za (pv 0) Zb rfl))) (Zj (Zo (Zk (Znl rfl) rfl T.b_sum Zu5 (Za (Xe (N:=["piece","plate"]) (fr:=[none,some 0]) rfl (Yc (XN:=["plate"]) (Scope.names (Zf Zj5)) rfl rfl rfl (fun _ h=>Zw h) (?j) rfl) (Y0 (Zt Z7 (pv 0) Zg (?l))) (fun _ _ _ _=>pgB 0) (fun _ _ _ _=>Zq) (fun _ _ _ _=>Zk Zkw rfl T.b_abs Zrf (Za (Zm Ck_ hr ?f rfl (Za (Zt (Yb K rfl) (pv 1) Zg (?l)) (Za (pv 0) Zb rfl) rfl)) Zb rfl))) Zb rfl))))
 refine ⟨_,rfl,v,P',rfl,hv,ok,fun H1 s1=>?_⟩;obtain ⟨a,c,p,t,st,rfl,ha,hc,⟨b,ws,rfl,hb,bl⟩,ht,hs⟩:=hv.tk s1.tk;have hl:=bl.1;refine ⟨_,rfl,a,_,1,_,rfl,rfl,SqT.of ha,rfl,b,rfl,⟨_,SqT.of hb⟩,fun D nD=>?_⟩;refine lc_T (k:=.t) (vs:=ws) RI hRI (P'.ps.map fun p=>absI (dOf P'.cs p)) (by simp [hl]) (?d) nD hb (fun i w H2 C hw s2 c'=>?_) (fun H2 us s2 e2 a2=>?_)
 · obtain ⟨p',ep,rp⟩:=bl.get hw;have pk:=ok.pc p' (n6_ ep);refine ⟨_,rfl,a,_,0,_,rfl,rfl,SqT.of (s2 _ _ ha),rfl,_,rfl,c,w,P'.cs,p',rfl,hc.tk s2.tk,rp.tk s2.tk,pk.len,pk.bd,ok.nr,_,rfl,?_⟩;exact c' _ _ (absI (dOf P'.cs p')) (Same.refl _) (by rw [n7_,ep];rfl) rfl
 · have:=a2.ints
   subst this;exact ⟨D,_,rfl,SqL.of e2,q _ (s1.trans s2)⟩
abbrev Xl:Stmt:=top 41
theorem Zc2 (F:Fun K "look_at_finer" "look_at_finer" Xl f fd) (Cd_:a24_ P w K mg base) (Cf_:a23_ P w K mg base):FnOk P w K mg base CX0 8 f fd ["plate"] Zcz:=by
 have sc:FnScope ["plate","corners","pieces"] ["plate"] (Zf Xl):=fsc (?j);refine F.ok sc (fun vs H Q E h=>by obtain ⟨v,P',rfl,_⟩:=h;rfl) ?z;obtain ⟨v,P',rfl,hv,ok,p4,c6,wd,q⟩:=h;have nd:=sc.nd;refine' ?A
 case term=>refine' Zd (Xy (Zm Cd_ hr ?f rfl (Za (pv 0) Zb rfl))) ?g1;case g1=>refine' Zd (Z1 (i:=1) nd rfl ?s (Zv Ys (Zk Zp rfl T.b_len Yw (Za (Zt Z7 (pv 0) Zg (?l)) Zb rfl)) (Zk Zn9 rfl T.b_len Yw (Za (Zm Cf_ hr ?f rfl (Za (pv 0) Zb rfl)) Zb rfl)))) ?g2;case g2=>refine' Zd (Xo (Yn Zpu (pv 1) (Xk T.n_MOST_CORNERS rfl) (Y1 _)) Zb4 Z4) ?g3;case g3=>refine' Zd (Z1 (i:=2) nd rfl ?s (Zv Yh Zg (Zk Zp rfl T.b_len Yw (Za (Zt Z7 (pv 0) Zg (?l)) Zb rfl)))) ?g4;case g4=>refine' Zd (Xo (Yn Zpu (pv 2) (Xk T.n_MOST_PIECES rfl) (Y1 _)) Zb4 Z4) ?g5;case g5=>refine' Zj ?g6;case g6=>refine' Xo ?g7 Zb4 Z4;case g7=>refine' Z0 ?g8 (fun _=>rfl);case g8=>refine' Zk (Zhj rfl) rfl T.b_any Zq7 ?g9;case g9=>refine' Za (Zq4 (N:=["corner","part"]) (fr:=[none,none]) rfl (Ye ?f rfl ?f rfl rfl) (Y0 (Zt Z7 (pv 0) Zg (?l))) (fun _ _ _ _=>pgB 0) (fun _ _ _ _=>Zi4 K rfl (pv 0)) (fun _ _ _ _=>pgB 1) (fun _ _ _ _=>Zak Zpu (Zv Yh Zg (Zk Zkw rfl T.b_abs Zrf (Za (pv 1) Zb rfl))) (Xk T.n_FARTHEST rfl) (Y1 _))) Zb rfl
 obtain ⟨a,c,p,t,st,rfl,ha,⟨c,cvs,rfl,hc,cal⟩,⟨p,pvs,rfl,hp,pal⟩,ht,hst⟩:=hv;have hv:IsPl H (.ref a) P':=⟨a,.ref c,.ref p,t,st,rfl,ha,⟨c,cvs,rfl,hc,cal⟩,⟨p,pvs,rfl,hp,pal⟩,ht,hst⟩;have cl:=cal.1;have pl:=pal.1;refine ⟨_,rfl,.ref a,P',rfl,hv,ok,fun H1 s1=>?_⟩;refine ⟨_,rfl,a,_,0,_,rfl,rfl,SqT.of (s1 _ _ ha),rfl,c,_,rfl,.inr (SqT.of (s1 _ _ hc)),?_⟩;refine ⟨_,rfl,.ref a,P',rfl,hv.tk s1.tk,pc3 ok,?d,fun H2 D g ads s2 o2 gi=>⟨D,_,rfl,o2.dt,?_⟩⟩
 have gl:(kvO g ads).length≤12:=by
  rw [Zir o2.len]
  have:=gi.len
  rw [X4] at this;omega
 refine ⟨_,_,rfl,rfl,?_⟩;have s12:=s1.trans s2;refine ⟨_,rfl,_,_,rfl,rfl,_,rfl,decF (?d) ?_⟩;refine ⟨_,rfl,a,_,1,_,rfl,rfl,SqT.of (s12 _ _ ha),rfl,p,_,rfl,.inr (SqT.of (s12 _ _ hp)),_,_,rfl,rfl,mul3 ?f (?d),?_⟩;refine ⟨_,rfl,_,_,rfl,rfl,_,rfl,decF (?d) ?_⟩;refine ⟨_,rfl,a,_,0,_,rfl,rfl,SqT.of (s12 _ _ ha),rfl,c,rfl,⟨_,SqT.of (s12 _ _ hc)⟩,fun D2 nD2=>?_⟩;refine Zwj (c:=false) (vs:=cvs) (xss:=P'.cs.map fun p=>[p.1,p.2]) (SqT.of (s12 _ _ hc)) ⟨by rw [n5_];exact cl,fun i v x e1 e2=>?_⟩ (?d) (fun ns hns=>?_) nD2 (fun w n H3 C hn s3 c=>?_) (fun H3 bs s3 e3 hb3=>?_)
 · obtain ⟨y,ey,b,rfl,hb⟩:=cal.get e1;rw [n7_,ey] at e2;cases e2
   exact ⟨b,rfl,SqT.of (s12 _ _ hb)⟩
 · obtain ⟨y,_,rfl⟩:=n24_.mp hns;exact (by decide:2≤1000)
 · obtain ⟨ns,hns,hn⟩:=hn;obtain ⟨y,hy,rfl⟩:=n24_.mp hns;have w:=wd y hy
   have hn':-50≤n∧n≤50:=by
    simp only [n9_,n10_,or_false] at hn
    rcases hn with rfl|rfl
    · exact w.1
    · exact w.2
   refine ⟨_,rfl,n,rfl,_,_,rfl,rfl,mul3 ?f (by split<;>omega),_,_,rfl,rfl,?_⟩;rw [n36_ (by split<;>omega)];exact c H3 (Same.refl _)
 · have:bs.any id=false:=by
    rw [List.any_eq_false];exact fun x hx=>by rw [hb3 x hx];decide
   refine ⟨D2,bs,rfl,SqL.of e3,_,rfl,?_⟩;rw [this];exact iteF (q _ (s12.trans s3))
abbrev Za6:Stmt:=top 42
theorem Ziy (F:Fun K "quarters" "quarters" Za6 f fd) (Ci_:a22_ P w K mg base):FnOk P w K mg base CX0 3 f fd ["piece","middles"] Zbm:=by
 have sc:FnScope ["piece","middles","first","second","third","low","mid","high"] ["piece","middles"] (Zf Za6):=fsc (?j);refine F.ok sc (fun vs H Q E h=>by obtain ⟨v,M,p,n,ks,rfl,_⟩:=h;rfl) ?z;obtain ⟨v,M,p,n,ks,rfl,⟨a,rfl,ha⟩,h3,⟨kvs,hM,hk⟩,hs,q⟩:=h;have nd:=sc.nd;have hu:=Zid hr;refine' ?A
 case term=>refine' Zd (Zaa (pv 0) (Z8 (n:=3) rfl (Ze (Zl (i:=2) nd rfl ?s) (Ze (Zl (i:=3) nd rfl ?s) (Ze (Zl (i:=4) nd rfl ?s) Zu))))) (Zd (Zaa (Xe (N:=["side","middles"]) (fr:=[none,some 1]) rfl (Yc (XN:=["piece","middles","first","second","third","low","mid","high"]) (Scope.names (Zf Za6)) rfl rfl rfl (fun _ h=>Zw h) (?j) rfl) (Yo (Zm Ci_ hr ?f rfl (Za (pv 0) Zb rfl))) (fun _ _ _ _=>pgB 0) (fun _ _ _ _=>Zq) (fun _ _ _ _=>Zip hu (pv 1) (pv 0) (?l))) (Zrj (n:=3) rfl (Ze (Zl (i:=5) nd rfl ?s) (Ze (Zl (i:=6) nd rfl ?s) (Ze (Zl (i:=7) nd rfl ?s) Zu))))) (Zj (Zo (Xd (Za (Zz (Za (pv 2) (Za (pv 5) (Za (pv 6) Zb rfl) rfl) rfl)) (Za (Zz (Za (pv 3) (Za (pv 5) (Za (pv 7) Zb rfl) rfl) rfl)) (Za (Zz (Za (pv 4) (Za (pv 6) (Za (pv 7) Zb rfl) rfl) rfl)) (Za (Zz (Za (pv 5) (Za (pv 6) (Za (pv 7) Zb rfl) rfl) rfl)) Zb rfl) rfl) rfl) rfl)))))
 obtain ⟨i,j,k,rfl⟩:=len3 h3;refine ⟨_,rfl,a,_,rfl,SqT.of ha,rfl,_,_,rfl,_,_,rfl,_,_,rfl,rfl,?_⟩;refine ⟨_,rfl,.ref a,_,rfl,⟨a,rfl,ha⟩,rfl,fun H1 L al s1 nL eL tp ek=>⟨L,rfl,⟨_,SqL.of eL⟩,fun D nD=>?_⟩⟩
 have la:(refs al).length=3:=by
  have:=congrArg List.length ek
  simpa [Zn] using this
 refine lc_T (k:=.l) (vs:=refs al) RI hRI ((Zn [i,j,k]).map (mdl n ks)) (by rw [la];rfl) (?d) nD eL (fun x w H2 C hw s2 c=>?_) (fun H2 us s2 e2 a2=>?_)
 · rw [n7_] at hw;obtain ⟨y,ey,rfl⟩:=n14_.mp hw;have ey2:(Zn [i,j,k])[x]? = some y.2:=by rw [← ek,n7_,ey];rfl
   have hy:=hk y.2 (hs _ (n6_ ey2));refine ⟨_,rfl,_,rfl,M,_,rfl,?_,c _ _ (mdl n ks y.2) (Same.refl _) (by rw [n7_,ey2];rfl) rfl⟩;rw [← hy];exact DGet.tq (s2 _ _ (s1 _ _ hM)) (by rw [kVs];exact s2 _ _ (tp y (n6_ ey)))
 · obtain rfl:=a2.ints;generalize el:mdl n ks [i,j]=l;generalize em:mdl n ks [i,k]=m;generalize eg:mdl n ks [j,k]=g;have eq:Zr n ks [i,j,k]=[[i,l,m],[j,l,g],[k,m,g],[l,m,g]]:=by rw [← el,← em,← eg];rfl
   rw [show (Zn [i,j,k]).map (mdl n ks)=[l,m,g] by rw [← el,← em,← eg];rfl] at e2;rw [eq] at q;refine ⟨D,_,rfl,SqL.of e2,rfl,_,_,rfl,_,_,rfl,_,_,rfl,rfl,?_⟩;refine ⟨_,rfl,_,rfl,_,rfl,z3_,?_⟩;intro p1 n1;generalize hH1:upd H2 p1 _=H1;have S1:Same H2 H1:=by (rw [← hH1];exact Same.new n1)
   have A1:=(congrFun hH1 p1).symm;rw [Zc] at A1;clear hH1;refine ⟨_,rfl,_,rfl,_,rfl,z3_,?_⟩;intro p2 n2;generalize hH2:upd H1 p2 _=H2;have S2:Same H1 H2:=by (rw [← hH2];exact Same.new n2)
   have A2:=(congrFun hH2 p2).symm;rw [Zc] at A2;clear hH2;refine ⟨_,rfl,_,rfl,_,rfl,z3_,?_⟩;intro p3 n3;generalize hH3:upd H2 p3 _=H3;have S3:Same H2 H3:=by (rw [← hH3];exact Same.new n3)
   have A3:=(congrFun hH3 p3).symm;rw [Zc] at A3;clear hH3;refine ⟨_,rfl,_,rfl,_,rfl,z3_,?_⟩;intro p4 n4;generalize hH4:upd H3 p4 _=H4;have S4:Same H3 H4:=by (rw [← hH4];exact Same.new n4)
   have A4:=(congrFun hH4 p4).symm;rw [Zc] at A4;clear hH4;refine ⟨z4_,?_⟩;intro p5 n5;generalize hH5:upd H4 p5 _=H5;have S5:Same H4 H5:=by (rw [← hH5];exact Same.new n5)
   have A5:=(congrFun hH5 p5).symm;rw [Zc] at A5;clear hH5;refine q _ p5 [(p1,[i,l,m]),(p2,[j,l,g]),(p3,[k,m,g]),(p4,[l,m,g])] ((s1.trans s2).trans (S1.trans (S2.trans (S3.trans (S4.trans S5))))) (Yj ((s1.trans s2).trans (S1.trans (S2.trans (S3.trans S4)))) n5) A5 (fun x hx=>?_) rfl;simp only [n9_,n10_,or_false] at hx
   rcases hx with rfl|rfl|rfl|rfl
   · exact (S5 _ _ (S4 _ _ (S3 _ _ (S2 _ _ A1))))
   · exact (S5 _ _ (S4 _ _ (S3 _ _ A2)))
   · exact (S5 _ _ (S4 _ _ A3))
   · exact (S5 _ _ A4)
abbrev Zcf:Stmt:=top 43
theorem Zpe (F:Fun K "finer" "finer" Zcf f fd) (Cn_:a27_ P w K mg base) (Cf_:a23_ P w K mg base) (Cal_:a28_ P w K mg base):FnOk P w K mg base CX0 9 f fd ["plate"] Zc7:=by
 have sc:FnScope ["plate","corners","pieces","thicks","stuff","ends","points","middles","parted"] ["plate"] (Zf Zcf):=fsc (?j);refine F.ok sc (fun vs H Q E h=>by obtain ⟨v,P',rfl,_⟩:=h;rfl) ?z;obtain ⟨v,P',rfl,hv,ok,p4,c6,wd,q⟩:=h;have nd:=sc.nd;have hu:=Zid hr;have hu1:=Nat.lt_of_succ_lt hu;refine' ?A
 case term=>refine' Zd (Xy (Zm Cn_ hr ?f rfl (Za (pv 0) Zb rfl))) ?g1;case g1=>refine' Zd (Zaa (pv 0) (Z8 (n:=4) rfl (Ze (Zl (i:=1) nd rfl (Or.inr rfl)) (Ze (Zl (i:=2) nd rfl ?s) (Ze (Zl (i:=3) nd rfl ?s) (Ze (Zl (i:=4) nd rfl ?s) Zu)))))) ?g2;case g2=>refine' Zd (Z1 (i:=5) nd rfl ?s (Zk (Zh6 rfl) rfl T.b_sorted Y8 (Za (Zm Cf_ hr ?f rfl (Za (pv 0) Zb rfl)) Zb rfl))) ?g3;case g3=>refine' Zd (Zef (g:=?C) (N:=["x","y"]) (fr:=[none,none]) rfl rfl (Zl (i:=6) nd rfl ?s) (Ye ?f rfl ?f rfl rfl) (Y0 (pv 1)) ?D (fun _ _ _ _=>Zq) (fun _ _ _ _=>Zz (Za (Zv Yh Zg (pv 0)) (Za (Zv Yh Zg (pv 1)) Zb rfl) rfl))) ?g4;case g4=>refine' Zd (Zv2 (i:=6) nd rfl ?s (Xe (g:=?C) (N:=["one","other","corners"]) (fr:=[none,none,some 1]) rfl (Yc (XN:=["plate","corners","pieces","thicks","stuff","ends","points","middles","parted"]) (Scope.names (Zf Zcf)) rfl rfl rfl (fun _ h=>Zw h) (?j) rfl) (Yo (pv 5)) ?D (fun _ _ _ _=>Zq) (fun _ _ _ _=>Zz (Za (Zv Ys (Zt (Yb K rfl) (Zt (Yb K rfl) (pv 2) (pv 0) (?l)) Zg (?l)) (Zt (Yb K rfl) (Zt (Yb K rfl) (pv 2) (pv 1) (?l)) Zg (?l))) (Za (Zv Ys (Zt (Yb K rfl) (Zt (Yb K rfl) (pv 2) (pv 0) (?l)) Zg (?l)) (Zt (Yb K rfl) (Zt (Yb K rfl) (pv 2) (pv 1) (?l)) Zg (?l))) Zb rfl) rfl))) Zso) ?g5;case g5=>refine' Zd ?g6 ?g7;(case g6=>refine' Z1 (i:=7) nd rfl (Or.inr rfl) (Zwg (g:=?C) (N:=["at","side","corners"]) (fr:=[none,none,some 1]) hu1 rfl (Yc (XN:=["plate","corners","pieces","thicks","stuff","ends","points","middles","parted"]) (Scope.names (Zf Zcf)) rfl rfl rfl (fun _ h=>Zw h) (?j) rfl) (Zdf .l rfl T.b_enumerate (Za (pv 5) Zb rfl)) ?D (fun _ _ _ _=>pv 1) (fun _ _ _ _=>Zv Ys (Zk (Zaf K rfl) rfl T.b_len Yw (Za (pv 2) Zb rfl)) (pv 0))));case g7=>refine' Zd ?g8 ?g9;(case g8=>refine' Z1 (i:=8) nd rfl ?s ?ga;case ga=>refine' Zk (Zcu (hq3 hr)) rfl T.b_sorted Y8 ?gb;case gb=>refine' Za (Zq4 (g0:=?C) (N:=["piece","thick","part","middles"]) (fr:=[none,none,none,some 7]) rfl (Yc (XN:=["plate","corners","pieces","thicks","stuff","ends","points","middles","parted"]) (Scope.names (Zf Zcf)) rfl rfl rfl (fun _ h=>Zw h) (?j) rfl) (Zk0 .t .t rfl T.b_zip (Za (pv 2) (Za (pv 3) Zb rfl) rfl)) ?D (fun _ _ _ _=>Zpw K rfl (Zm Cal_ hr ?f rfl (Za (pv 0) (Za (pv 3) Zb rfl) rfl))) (fun _ _ _ _=>pgB 2) (fun _ _ _ _=>Zz (Za (pv 2) (Za (pv 1) Zb rfl) rfl))) Zb rfl);case g9=>refine' Zj ?gc;case gc=>refine' Zo ?gd;case gd=>refine' Zz ?ge;case ge=>refine' Za (Z3 Zx rfl T.b_tuple Yp (Za (pv 6) Zb rfl)) ?gf rfl;case gf=>refine' Za (Z3 Zx rfl T.b_tuple Yp (Za (Xe (g:=?C) (N:=["part","thick"]) (fr:=[none,none]) rfl (Ye ?f rfl ?f rfl rfl) (Yo (pv 8)) ?D (fun _ _ _ _=>Zq) (fun _ _ _ _=>pv 0)) Zb rfl)) (Za (Z3 Zx rfl T.b_tuple Yp (Za (Xe (g:=?C) (N:=["part","thick"]) (fr:=[none,none]) rfl (Ye ?f rfl ?f rfl rfl) (Yo (pv 8)) ?D (fun _ _ _ _=>Zq) (fun _ _ _ _=>pv 1)) Zb rfl)) (Za (pv 4) Zb rfl) rfl) rfl
 obtain ⟨a,c,p,t,st,rfl,ha,⟨c,cvs,rfl,hc,cal⟩,⟨p,pvs,rfl,hp,pal⟩,⟨t,rfl,ht⟩,⟨st,rfl,hst⟩⟩:=hv;have hv:IsPl H (.ref a) P':=⟨a,.ref c,.ref p,.ref t,.ref st,rfl,ha,⟨c,cvs,rfl,hc,cal⟩,⟨p,pvs,rfl,hp,pal⟩,⟨t,rfl,ht⟩,⟨st,rfl,hst⟩⟩;have cl:=cal.1;have pl:=pal.1;have t1:=ok.t1;refine ⟨_,rfl,.ref a,P',rfl,hv,ok,p4,c6,wd,fun H1 s1=>?_⟩;refine ⟨_,rfl,a,_,rfl,SqT.of (s1 _ _ ha),rfl,_,_,rfl,_,_,rfl,_,_,rfl,_,_,rfl,rfl,?_⟩;refine ⟨_,rfl,.ref a,P',rfl,hv.tk s1.tk,pc3 ok,?d,fun H2 D g ads s2 o2 gi=>?_⟩;refine ⟨D,kvO g ads,g.map (·.1),rfl,o2.dt,Zpi o2.len,gi.nd,Zva gi,Zsf gi (?d),fun l ql nl tp pm rs=>?_⟩;generalize gG:upd H2 l (.lst (refs ql))=H3;obtain ⟨s3,e3⟩:=gen_upd gG nl;have s03:=s1.trans (s2.trans s3);have tp3:∀ x∈ql,tpl H3 x:=fun x hx=>s3 _ _ (tp x hx);have E:Edg P'.ps (ql.map (·.2)):=⟨Zba rs,fun k=>pm.mem_iff.trans (Zsr gi k)⟩
 have lq:ql.length≤12:=by
  have h1:=pm.length_eq;have h2:=gi.len;rw [n5_,n5_] at h1;rw [X4] at h2;omega
 refine ⟨_,rfl,c,rfl,⟨_,SqT.of (s03 _ _ hc)⟩,fun D1 nD1=>?_⟩;refine Zj9 (s03 _ _ hc) (cal.imp fun v x r=>r.tk s03.tk) ok.nr ok.c30 nD1 fun H4 us4 s4 e4 a4=>?_;have s04:=s03.trans s4;have cal4:=cal.imp fun v x r=>r.tk s04.tk;have tp4:∀ x∈ql,tpl H4 x:=fun x hx=>s4 _ _ (tp3 x hx);refine ⟨_,rfl,_,rfl,l,rfl,⟨_,SqL.of (s4 _ _ e3)⟩,fun D2 nD2=>?_⟩;refine Zke (s04 _ _ hc) cal4 (s4 _ _ e3) tp4 lq (Zft ok E) nD2 fun H5 us5 s5 e5 a5=>?_;have l4:=a4.1;have l5:=a5.1;rw [n5_] at l4 l5;rw [n5_] at l5;have e45:=s5 _ _ e4;have fD1:=Yj s03 nD1;refine ⟨D1,D2,us4,us5,rfl,rfl,e45,e5,by (have:=ok.c30;rw [sizeLine_eq];omega),?_⟩;have tk6:Tk H5 (upd H5 D1 (.lst (us4++us5))):=Tk.upd_lst e45;have s06:Same H (upd H5 D1 (.lst (us4++us5))):=fun b o eb=>by rw [Zh (Zi eb fD1)];exact s5 _ _ (s04 _ _ eb)
 have nlD:l≠D1:=fun z=>by rw [z] at e3;rw [e3] at nD1;cases nD1
 have el6:upd H5 D1 (.lst (us4++us5)) l=some (.lst (refs ql)):=by rw [Zh nlD];exact s5 _ _ (s4 _ _ e3)
 have e6:upd H5 D1 (.lst (us4++us5)) D1=some (.lst (us4++us5)):=Zc;have tp6:∀ x∈ql,tpl (upd H5 D1 (.lst (us4++us5))) x:=fun x hx=>tk6 _ _ (s5 _ _ (tp4 x hx));have a6:Al (IsP (upd H5 D1 (.lst (us4++us5)))) (us4++us5) (Xq P'.cs (ql.map (·.2))):=Znx (a4.imp fun v x r=>(r.tk s5.tk).tk tk6) (a5.imp fun v x r=>r.tk tk6);generalize upd H5 D1 (.lst (us4++us5))=H6 at s06 el6 e6 tp6 a6 ⊢;refine ⟨_,rfl,l,rfl,⟨_,SqL.of el6⟩,fun M nM=>?_⟩;refine Zqu (s06 _ _ hc) el6 tp6 lq (Yq E.rise) nM fun H7 s7 mid=>?_;rw [cl] at mid;have s07:=s06.trans s7;refine ⟨_,rfl,_,rfl,p,t,rfl,⟨_,SqT.of (s07 _ _ hp)⟩,⟨_,SqT.of (s07 _ _ ht)⟩,fun D3 nD3=>?_⟩;refine Zpz (s07 _ _ hp) (pal.imp fun v x r=>r.tk s07.tk) (s07 _ _ ht) mid (pc3 ok) (fun q hq s hs=>E.side hq hs) t1 p4 nD3 fun H8 us8 s8 e8 a8=>?_;obtain ⟨al,rfl,pal2,eal⟩:=Zni a8
 have lal:al.length≤16:=by
  have h1:=congrArg List.length eal;rw [n5_,Zit,List.length_zip] at h1;omega
 have kal:al.map (·.k)=P'.ps.flatMap (Zr P'.cs.length (ql.map (·.2))):=by
  have h1:=congrArg (List.map (·.1)) eal;rw [n64_,Zo5 t1] at h1;exact h1
 obtain ⟨tr3,bd3⟩:=Zen ok;refine ⟨D3,al,rfl,SqL.of e8,pal2,by rw [kal];exact E.nd4 tr3 bd3 (Zvs ok),?d,fun l2 ql2 nl2 pm2 rs2=>?_⟩;have s9:Same H8 (upd H8 l2 (.lst (Zai ql2))):=Same.new nl2;have e9:upd H8 l2 (.lst (Zai ql2)) l2=some (.lst (Zai ql2)):=Zc;have pi9:∀ x∈ql2,pi2 (upd H8 l2 (.lst (Zai ql2))) x:=fun x hx=>let ⟨h1,h2⟩:=pal2 x (pm2.mem_iff.mp hx);⟨s9 _ _ h1,s9 _ _ h2⟩;generalize upd H8 l2 (.lst (Zai ql2))=H9 at s9 e9 pi9 ⊢;have s79:=s7.trans (s8.trans s9);have s09:=s06.trans s79;have lq2:=pm2.length_eq;exact Zju (ip:=6) (ir:=8) (is:=4) rfl rfl rfl (s79 _ _ e6) (a6.imp fun v x r=>r.tk s79.tk) e9 pi9 (?d) (s09 _ _ hst) E rs2 (by rw [← eal];exact pm2.map _) fun H' v' P2 sA i2 F2=>q H' v' P2 _ (s09.trans sA) i2 F2
abbrev Xx:Stmt:=top 45
theorem Zdm (F:Fun K "_law_cell_at" "_law_cell_at" Xx f fd):FnOk P w K mg base CX0 1 f fd ["_law_script","_law_k"] (Zn1 K):=by
 have sc:FnScope ["_law_script","_law_k"] ["_law_script","_law_k"] (Zf Xx):=fsc (?j);refine F.ok sc (fun vs H Q E h=>by obtain ⟨a,ns,k,rfl,_⟩:=h;rfl) ?z;obtain ⟨a,ns,k,rfl,hS,q⟩:=h;refine' ?A
 case term=>refine' Zd (Xo (Yn Ztn (pv 1) (Zk Zp rfl T.b_len Yw (Za (pv 0) Zb rfl)) (Y1 _)) (Zj (Zo (Zt Yz (pv 0) (pv 1) (?l)))) Z4) (Zj (Zo Zg))
 refine ⟨_,rfl,_,rfl,a,_,rfl,.inl hS,_,_,rfl,rfl,_,rfl,?_⟩;refine ite2 (fun hlt=>?_) (fun _=>q 0)
 have hk:k<ns.length:=by
  have z:=n52_ hlt;rw [n5_] at z;omega
 exact ⟨_,rfl,_,rfl,a,_,_,_,rfl,rfl,hS,Zca (by rw [n7_,n1_ hk];rfl),q _⟩
abbrev Za4:Stmt:=top 46
theorem Zfu (F:Fun K "_law_state" "_law_state" Za4 f fd) (Cq_:a29_ P w K mg base):FnOk P w K mg base CX0 2 f fd ["_law_script","_law_k"] (Zkx K):=by
 have sc:FnScope ["_law_script","_law_k","_law_cell"] ["_law_script","_law_k"] (Zf Za4):=fsc (?j);refine F.ok sc (fun vs H Q E h=>by obtain ⟨a,ns,k,rfl,_⟩:=h;rfl) ?z;obtain ⟨a,ns,k,rfl,hS,q⟩:=h;have nd:=sc.nd;refine' ?A
 case term=>refine' Zd (Z1 (i:=2) nd rfl ?s (Zm Cq_ hr ?f rfl (Za (pv 0) (Za (pv 1) Zb rfl) rfl))) (Zj (Zo (Xd (Za (Zk (Zge rfl) rfl T.b_max Zoo (Za Zg (Za (Zv Zaq (pv 2) (Zv Zvo Zg Zg)) Zb rfl) rfl)) (Za (Zv Ys (Zv Zb7 (pv 2) Zg) Zg) (Za Zg Zb rfl) rfl) rfl))))
 refine ⟨_,rfl,_,rfl,a,ns,k,rfl,hS,fun c=>?_⟩;refine ⟨_,rfl,_,_,rfl,rfl,⟨by decide,by decide,by decide⟩,_,_,rfl,rfl,_,_,rfl,?_⟩;refine ⟨_,rfl,_,_,rfl,rfl,(by show (2147483629:Int)≠0;decide),_,_,rfl,rfl,(z3_),fun p hp=>q p _ hp (Same.new hp) ⟨_,_,_,Zc,?_,?_⟩⟩
 · have:=Int.fmod_nonneg_of_pos c (b:=2147483629) ?f
   omega
 · have:=Int.fmod_lt_of_pos c (b:=2147483629) ?f
   omega
abbrev Zag:Stmt:=top 47
theorem Zd6 (F:Fun K "_law_choice" "_law_choice" Zag f fd):FnOk P w K mg base CX0 1 f fd ["_law_state_here","_law_many"] Zdg:=by
 have sc:FnScope ["_law_state_here","_law_many","_law_found","_law_mixed"] ["_law_state_here","_law_many"] (Zf Zag):=fsc (?j);refine F.ok sc (fun vs H Q E h=>by obtain ⟨l,m,rfl,_⟩:=h;rfl) ?z;obtain ⟨l,m,rfl,⟨s0,s1,s2,hl,h0,h1⟩,hm,hz,q⟩:=h;have nd:=sc.nd;refine' ?A
 case term=>refine' Zd ?g1 ?g2;(case g1=>refine' Xo (Yn Zpu (Zt Yz (pv 0) Zg (?l)) Zg (Y1 _)) ?g3 Z4;case g3=>refine' Zd (Z1 (i:=2) nd rfl ?s (Zv Zb7 (Zt Yz (pv 0) Zg (?l)) (pv 1))) (Zd (Zaa (Zv Zkg (Zt Yz (pv 0) Zg (?l)) (pv 1)) (Zj4 (pv 0) Zg Zda)) (Zj (Zo (pv 2)))));case g2=>refine' Zd (Zaa (Zv Ys (Zt Yz (pv 0) Zg (?l)) Zg) (Zj4 (pv 0) Zg Zda)) ?g4;case g4=>refine' Zd ?g5 ?g6;(case g5=>refine' Zaa ?g7 (Zj4 (pv 0) Zg Zda);case g7=>refine' Zv Zb7 ?g8 Zg;case g8=>refine' Zv Ys (Zv Ys (Zv Yh (Zt Yz (pv 0) Zg (?l)) Zg) Zg) (Zt Yz (pv 0) Zg (?l)));case g6=>refine' Zd ?g9 (Zd (Z1 (i:=3) nd rfl ?s (Zv Zb7 (Zv Ys (Zv Yh (pv 3) (pv 3)) (Zv Yh Zg (pv 3))) Zg)) (Zj (Zo (Zv Zb7 (Zv Zkg (pv 3) Zg) (pv 1)))));case g9=>refine' Z1 (i:=3) nd rfl ?s ?ga;case ga=>refine' Zv Zb7 ?gb Zg;case gb=>refine' Zv Ys ?gc Zg;case gc=>refine' Zv Ys ?gd (Zv Yh Zg (Zt Yz (pv 0) Zg (?l)));case gd=>refine' Zv Yh (Zt Yz (pv 0) Zg (?l)) (Zt Yz (pv 0) Zg (?l))
 have hm0:m≠0:=?d
 refine ⟨_,rfl,l,_,0,_,rfl,rfl,SqL.of hl,rfl,_,_,rfl,rfl,_,rfl,?_⟩;refine ite2 (fun _=>?_) (fun _=>?_)
 · refine ⟨_,rfl,l,_,0,_,rfl,rfl,SqL.of hl,rfl,_,rfl,_,_,rfl,rfl,hm0,?_⟩;refine ⟨_,rfl,l,_,0,_,rfl,rfl,SqL.of hl,rfl,_,rfl,_,_,rfl,rfl,⟨hm0,hz⟩,?_⟩;refine ⟨_,rfl,l,_,0,0,rfl,rfl,hl,rfl,?_⟩;exact ⟨_,rfl,q _ _ (Int.fmod_nonneg_of_pos _ hm) (Int.fmod_lt_of_pos _ hm) Keep.upd ⟨_,_,_,Zc,h0,h1⟩⟩
 ·
  refine ⟨_,rfl,l,_,2,_,rfl,rfl,SqL.of hl,rfl,_,_,rfl,rfl,?_⟩;refine ⟨_,rfl,l,_,2,2,rfl,rfl,hl,rfl,?_⟩;refine ⟨_,rfl,l,_,1,_,rfl,rfl,SqL.of Zc,rfl,_,_,rfl,rfl,mulS (by rw [p64];omega) ?f,_,_,rfl,rfl,?_⟩;refine ⟨_,rfl,l,_,2,_,rfl,rfl,SqL.of Zc,rfl,_,_,rfl,rfl,_,_,rfl,rfl,(by show (2147483647:Int)≠0;decide),?_⟩;refine ⟨_,rfl,l,_,1,1,rfl,rfl,Zc,rfl,?_⟩;generalize hs:Int.fmod (s1*48271+29+(s2+1)) 2147483647=u;have u0:0≤u:=by rw [← hs];exact Int.fmod_nonneg_of_pos _ ?f
  have u1:u<2147483647:=by rw [← hs];exact Int.fmod_lt_of_pos _ ?f
  refine ⟨_,rfl,l,_,1,_,rfl,rfl,SqL.of Zc,rfl,_,rfl,l,_,1,_,rfl,rfl,SqL.of Zc,rfl,u,u,by rw [← hs],by rw [← hs],mulS (by rw [p64];omega) (by rw [p64];omega),?_⟩;refine ⟨_,rfl,l,_,1,_,rfl,rfl,SqL.of Zc,rfl,39373,u,rfl,by rw [← hs],mulS ?f (by rw [p64];omega),_,_,rfl,rfl,_,_,rfl,rfl,_,_,rfl,rfl,(by show (2147483629:Int)≠0;decide),?_⟩;generalize hv:Int.fmod (u*u+39373*u+7) 2147483629=v;have v0:0≤v:=by rw [← hv];exact Int.fmod_nonneg_of_pos _ ?f
  have v1:v<2147483629:=by rw [← hv];exact Int.fmod_lt_of_pos _ ?f
  refine ⟨_,rfl,_,rfl,v,v,by rw [← hv],by rw [← hv],mulS (by rw [p64];omega) (by rw [p64];omega),_,rfl,50021,v,rfl,by rw [← hv],mulS ?f (by rw [p64];omega),_,_,rfl,rfl,_,_,rfl,rfl,(by show (2147483587:Int)≠0;decide),?_⟩;refine ⟨_,rfl,_,_,rfl,rfl,⟨by decide,Xp ?f⟩,_,rfl,_,_,rfl,rfl,hm0,?_⟩;exact q _ _ (Int.fmod_nonneg_of_pos _ hm) (Int.fmod_lt_of_pos _ hm) (Keep.upd.trans Keep.upd) ⟨_,u,_,by rw [← hs];exact Zc,u0,?d⟩
abbrev Zav:Stmt:=top 48
theorem Zgd (F:Fun K "_law_order" "_law_order" Zav f fd) (Ca_:a30_ P w K mg base):FnOk P w K mg base CX0 2 f fd ["_law_state_here","_law_many"] Zkm:=by
 have sc:FnScope ["_law_state_here","_law_many","_law_left","_law_found"] ["_law_state_here","_law_many"] (Zf Zav):=fsc (?j);refine F.ok sc (fun vs H Q E h=>by obtain ⟨l,n,rfl,_⟩:=h;rfl) ?z;obtain ⟨l,n,rfl,hl,h60,q⟩:=h;have nd:=sc.nd;have hu:=Zid hr;have hu1:=Nat.lt_of_succ_lt hu;refine' ?A
 case term=>refine' Zd (Zoh rfl nd (i:=2) (j:=3) rfl rfl ?f rfl rfl (Za (Z3 (Zk5 rfl) rfl T.b_list Zsm (Za (Zvy rfl T.b_range (Za (pv 1) Zb rfl)) Zb rfl)) (Za (Xd Zb) Zb rfl) rfl) rfl) (Zd (Zky PassesOwn.never (Yn (Zu9 hu1) (pv 2) (Xd Zb) (Y1 _)) (Zj (Xy (Zg7 PySem.F.plainAttrs_list PySem.F.slot_list_append PySem.F.type_list_append Xi (pv 3) (Za (Zg7 PySem.F.plainAttrs_list PySem.F.slot_list_pop PySem.F.type_list_pop Zpa (pv 2) (Za (Zm Ca_ hr ?f rfl (Za (pv 0) (Za (Zk Zp rfl T.b_len Yw (Za (pv 2) Zb rfl)) Zb rfl) rfl)) Zb rfl)) Zb rfl))))) (Zj (Zo (pv 3))))
 refine ⟨_,rfl,n,rfl,fun R nR=>?_⟩;refine ⟨R,n,rfl,Zc,?d,fun L nL=>?_⟩;have s1:Same H (upd H R (.rng 0 n)):=Same.new nR;generalize upd H R (.rng 0 n)=H1 at s1 nL ⊢
 have nL0:H L=none:=by
  cases e:H L with
  | none=>rfl
  | some o=>rw [s1 _ _ e] at nL;cases nL
 generalize gG:upd H1 L (.lst ((List.range n).map fun i:Nat=>V.int i))=H2;obtain ⟨s2,e2⟩:=gen_upd gG nL;refine ⟨z0_,fun F nF=>?_⟩;have s3:Same H2 (upd H2 F (.lst [])):=Same.new nF;have e3:upd H2 F (.lst []) F=some (.lst []):=Zc;have nLF:L≠F:=Zi e2 nF;generalize upd H2 F (.lst [])=H3 at s3 e3 ⊢;have s03:=s1.trans (s2.trans s3)
 have nF0:H F=none:=by
  cases e:H F with
  | none=>rfl
  | some o=>rw [s2 _ _ (s1 _ _ e)] at nF;cases nF
 have nLl:L≠l:=hl.neN nL0;have nFl:F≠l:=hl.neN nF0;refine ⟨_,_,rfl,?_⟩;refine Zj1 (fun σ H2=>σ=[some (.ref l),some (.int n),some (.ref L),some (.ref F)]∧Keep l H H2∧StAt H2 l∧∃ xs ys:?e,H2 L=some (.lst (xs.map V.int))∧H2 F=some (.lst (ys.map V.int))∧(ys++xs).Perm ((List.range n).map fun i:Nat=>(i:Int))) (fun σ H2=>match H2 L with|some (.lst xs)=>xs.length|_=>0) ⟨rfl,s03.keep,hl.same s03,(List.range n).map fun i:Nat=>(i:Int),[],?_,e3,.refl _⟩ ?_ ?_
 · rw [n64_];exact s3 _ _ e2
 · rintro σ H4 ⟨rfl,k4,l4,xs,ys,eL,eF,pm⟩
   refine ⟨_,rfl,z0_,fun E nE=>?_⟩;generalize gG:upd H4 E (.lst [])=H5;obtain ⟨s5,e5⟩:=gen_upd gG nE;refine ⟨L,E,_,rfl,rfl,SqL.of (s5 _ _ eL),SqL.of e5,_,rfl,?_⟩;cases xs with
   | nil =>
     refine iteF ?_;refine ⟨_,rfl,q H5 F ys (k4.trans s5.keep) (l4.same s5) nF0 (s5 _ _ eF) ?_⟩
     simpa using pm
   | cons x xs =>
     refine iteT ?_
     have len:ys.length+(x :: xs).length=n:=by
      have:=pm.length_eq
      simpa using this
     have l5:=l4.same s5;refine ⟨_,rfl,.inl ⟨rfl,_,SqL.of (s5 _ _ eF)⟩,_,rfl,.inl ⟨rfl,_,SqL.of (s5 _ _ eL)⟩,_,rfl,_,rfl,L,_,rfl,.inl (SqL.of (s5 _ _ eL)),l,_,rfl,l5,?_,?_,fun r H6 r0 r1 k6 l6=>?_⟩
     · simp
     · rw [n5_];refine Xp ?_;show _<18446744073709551616
       simp at len ⊢;omega
     · rw [n5_] at r1;have hr:r.toNat<(x :: xs).length:=?d
       have eL6:=k6 _ _ nLl (s5 _ _ eL);have eF6:=k6 _ _ nFl (s5 _ _ eF);refine ⟨L,_,r,r.toNat,.int ((x :: xs)[r.toNat]),rfl,rfl,eL6,?d,?_,seqI r0 (by rw [n5_];exact r1),by rw [n7_,n1_ hr];rfl,?_⟩
       · have:(n:Int)≤60:=?d
         have:((x :: xs).length:Int)≤n:=?d
         omega
       · refine ⟨F,_,_,rfl,rfl,by rw [Zh nLF.symm];exact eF6,?_,?_⟩
         · rw [n5_,sizeLine_eq];omega
         · have eL7:∀ o,upd (upd H6 L (.lst (((x :: xs).map V.int).eraseIdx r.toNat))) F o L=some (.lst (((x :: xs).map V.int).eraseIdx r.toNat)):=fun o=>by rw [Zh nLF,Zc]
           refine ⟨⟨rfl,?_,?_,(x :: xs).eraseIdx r.toNat,ys++[(x :: xs)[r.toNat]],?_,?_,?_⟩,?_⟩
           · intro b o nb e;rw [Zh (Zi e nF0),Zh (Zi e nL0)];exact k6 _ _ nb (s5 _ _ (k4 _ _ nb e))
           · obtain ⟨a,b,c,e,r⟩:=l6;exact ⟨a,b,c,by rw [Zh nFl.symm,Zh nLl.symm];exact e,r⟩
           · rw [eL7,Zg8]
           · rw [Zc,n46_];rfl
           · refine List.Perm.trans ?_ pm;rw [n49_];refine List.Perm.append_left ys ?_;exact X2 _ _ hr
           · rw [eL7,eL];dsimp only;rw [List.length_eraseIdx_of_lt (by rw [n5_];exact hr)]
             simp
 · rintro σ H' Q1 Q2 hq ⟨v,e,z,f⟩
   refine ⟨v,e,z,fun p np=>?_⟩;obtain ⟨a,b,xs,e1,e2,h1,h2,k,t,q'⟩:=f p np;exact ⟨a,b,xs,e1,e2,h1,h2,k,t,hq _ _ q'⟩
abbrev Zae:Stmt:=top 49
theorem Zd0 (F:Fun K "_law_shapes" "_law_shapes" Zae f fd):FnOk P w K mg base CX0 1 f fd [] Zgv:=by
 have sc:FnScope ["_law_one","_law_two","_law_hub","_law_hinge","_law_apart","_law_strip","_law_cross","_law_chain"] [] (Zf Zae):=fsc (?j);refine F.ok sc (fun vs H Q E h=>by obtain ⟨rfl,_⟩:=h;rfl) ?z;obtain ⟨rfl,q⟩:=h;have nd:=sc.nd;refine' ?A
 case term=>refine' Zd ?g1 ?g2;(case g1=>refine' @Z1 _ _ (0) _ _ _ _ nd rfl ?s ?g3 (by rfl) (by first|exact Or.inl rfl|exact Or.inr rfl|assumption);case g3=>refine' @Xw _ _ (([(0,0),(2,0),(0,3)],[[0,1,2]])) rfl);case g2=>refine' Zd ?g4 ?g5;(case g4=>refine' @Z1 _ _ (1) _ _ _ _ nd rfl ?s ?g6 (by rfl) (by first|exact Or.inl rfl|exact Or.inr rfl|assumption);case g6=>refine' @Xw _ _ (([(0,0),(3,0),(3,2),(0,2)],[[0,1,2],[0,2,3]])) rfl);case g5=>refine' Zd ?g7 ?g8;(case g7=>refine' @Z1 _ _ (2) _ _ _ _ nd rfl ?s ?g9 (by rfl) (by first|exact Or.inl rfl|exact Or.inr rfl|assumption);case g9=>refine' @Xw _ _ (([(0,0),(6,0),(0,6),(2,1)],[[0,1,3],[0,2,3],[1,2,3]])) rfl);case g8=>refine' Zd ?ga ?gb;(case ga=>refine' @Z1 _ _ (3) _ _ _ _ nd rfl ?s ?gc (by rfl) (by first|exact Or.inl rfl|exact Or.inr rfl|assumption);case gc=>refine' @Xw _ _ (([(0,0),(2,1),(2,-1),(-2,1),(-3,-1)],[[0,1,2],[0,3,4]])) rfl);case gb=>refine' Zd ?gd ?ge;(case gd=>refine' @Z1 _ _ (4) _ _ _ _ nd rfl ?s ?gf (by rfl) (by first|exact Or.inl rfl|exact Or.inr rfl|assumption);case gf=>refine' @Xw _ _ (([(0,0),(2,0),(0,2),(4,0),(6,1),(4,3)],[[0,1,2],[3,4,5]])) rfl);case ge=>refine' Zd ?gg ?gh;(case gg=>refine' @Z1 _ _ (5) _ _ _ _ nd rfl ?s ?gi (by rfl) (by first|exact Or.inl rfl|exact Or.inr rfl|assumption);case gi=>refine' @Xw _ _ (([(0,0),(0,2),(2,0),(3,2),(5,0)],[[0,1,2],[1,2,3],[2,3,4]])) rfl);case gh=>refine' Zd ?gj ?gk;(case gj=>refine' @Z1 _ _ (6) _ _ _ _ nd rfl ?s ?gl (by rfl) (by first|exact Or.inl rfl|exact Or.inr rfl|assumption);case gl=>refine' @Xw _ _ (([(0,0),(2,0),(0,3),(-2,0),(0,-1)],[[0,1,2],[0,2,3],[0,3,4],[0,1,4]])) rfl);case gk=>refine' Zd ?gm ?gn;(case gm=>refine' @Z1 _ _ (7) _ _ _ _ nd rfl ?s ?go (by rfl) (by first|exact Or.inl rfl|exact Or.inr rfl|assumption);case go=>refine' @Xw _ _ (([(0,0),(1,2),(2,0),(3,2),(4,0),(5,3)],[[0,1,2],[2,3,4],[3,4,5]])) rfl);case gn=>refine' Zj ?gp;case gp=>refine' Zo ?gq;case gq=>refine' Xd (Za (pv 0) (Za (pv 1) (Za (pv 3) (Za (pv 4) (Za (pv 2) (Za (pv 5) (Za (pv 7) (Za (pv 6) Zb rfl) rfl) rfl) rfl) rfl) rfl) rfl) rfl)
 intro H1 v_one s1 h_one;intro H2 v_two s2 h_two;intro H3 v_hub s3 h_hub;intro H4 v_hinge s4 h_hinge;intro H5 v_apart s5 h_apart;intro H6 v_strip s6 h_strip;intro H7 v_cross s7 h_cross;intro H8 v_chain s8 h_chain;replace h_one:=h_one.tk s2.tk;replace h_one:=h_one.tk s3.tk;replace h_one:=h_one.tk s4.tk;replace h_one:=h_one.tk s5.tk;replace h_one:=h_one.tk s6.tk;replace h_one:=h_one.tk s7.tk;replace h_one:=h_one.tk s8.tk;replace h_two:=h_two.tk s3.tk;replace h_two:=h_two.tk s4.tk;replace h_two:=h_two.tk s5.tk;replace h_two:=h_two.tk s6.tk;replace h_two:=h_two.tk s7.tk;replace h_two:=h_two.tk s8.tk;replace h_hub:=h_hub.tk s4.tk;replace h_hub:=h_hub.tk s5.tk;replace h_hub:=h_hub.tk s6.tk;replace h_hub:=h_hub.tk s7.tk;replace h_hub:=h_hub.tk s8.tk;replace h_hinge:=h_hinge.tk s5.tk;replace h_hinge:=h_hinge.tk s6.tk;replace h_hinge:=h_hinge.tk s7.tk;replace h_hinge:=h_hinge.tk s8.tk;replace h_apart:=h_apart.tk s6.tk;replace h_apart:=h_apart.tk s7.tk;replace h_apart:=h_apart.tk s8.tk;replace h_strip:=h_strip.tk s7.tk;replace h_strip:=h_strip.tk s8.tk;replace h_cross:=h_cross.tk s8.tk;refine ⟨_,rfl,_,rfl,_,rfl,_,rfl,_,rfl,_,rfl,_,rfl,_,rfl,by show 8≤sizeLine;decide,fun r nr=>?_⟩;have s9:Same H8 (upd H8 r (.lst [v_one,v_two,v_hinge,v_apart,v_hub,v_strip,v_chain,v_cross])):=Same.new nr;have s08:=(((((((s1.trans s2).trans s3).trans s4).trans s5).trans s6).trans s7).trans s8);refine q _ r _ (s08.trans s9) ?_ Zc ?_
 · cases e:H r with
   | none=>rfl
   | some o=>rw [s08 _ _ e] at nr;cases nr
 · exact (.cons (h_one.tk s9.tk) (.cons (h_two.tk s9.tk) (.cons (h_hinge.tk s9.tk) (.cons (h_apart.tk s9.tk) (.cons (h_hub.tk s9.tk) (.cons (h_strip.tk s9.tk) (.cons (h_chain.tk s9.tk) (.cons (h_cross.tk s9.tk) .nil))))))))
abbrev Y4:Stmt:=top 50
theorem Ze6 (F:Fun K "_law_plate" "_law_plate" Y4 f fd) (Ca_:a30_ P w K mg base) (Cy_:a31_ P w K mg base) (Cu_:a32_ P w K mg base):FnOk P w K mg base CX0 3 f fd ["_law_state_here","_law_most"] Zh3:=by
 have sc:FnScope ["_law_state_here","_law_most","_law_points","_law_pieces","_law_a","_law_b","_law_c","_law_d","_law_s","_law_t","_law_order_here","_law_corners","_law_at","_law_x","_law_y","_law_rows","_law_thicks"] ["_law_state_here","_law_most"] (Zf Y4):=fsc (?j);refine F.ok sc (fun vs H Q E h=>by obtain ⟨l,m,rfl,_⟩:=h;rfl) ?z;obtain ⟨l,m,rfl,hl,hm1,hm8,q'⟩:=h;have nd:=sc.nd;refine' ?A
 case term=>refine' Zd ?g1 ?g2;(case g1=>refine' Zaa ?g3 (Z8 (n:=2) rfl (Ze (Zl (i:=2) nd rfl ?s) (Ze (Zl (i:=3) nd rfl ?s) Zu)));case g3=>refine' Zt Yz (Zsd Cu_ hr ?f rfl) (Zm Ca_ hr ?f rfl (Za (pv 0) (Za (pv 1) Zb rfl) rfl)) (?l));case g2=>refine' Zd (Zmo rfl nd (i:=4) (j:=5) (k:=6) rfl rfl rfl ?f ?f ?f rfl rfl rfl (Za (Zv Ys Zg (Zm Ca_ hr ?f rfl (Za (pv 0) (Za Zg Zb rfl) rfl))) (Za (Zv Zaq (Zm Ca_ hr ?f rfl (Za (pv 0) (Za Zg Zb rfl) rfl)) Zg) (Za (Zv Zaq (Zm Ca_ hr ?f rfl (Za (pv 0) (Za Zg Zb rfl) rfl)) Zg) Zb rfl) rfl) rfl) rfl) ?g4;case g4=>refine' Zd (Zmo rfl nd (i:=7) (j:=8) (k:=9) rfl rfl rfl ?f ?f ?f rfl rfl rfl (Za (Zv Zaq (Zm Ca_ hr ?f rfl (Za (pv 0) (Za Zg Zb rfl) rfl)) Zg) (Za (Zv Zaq (Zm Ca_ hr ?f rfl (Za (pv 0) (Za Zg Zb rfl) rfl)) Zg) (Za (Zv Zaq (Zm Ca_ hr ?f rfl (Za (pv 0) (Za Zg Zb rfl) rfl)) Zg) Zb rfl) rfl) rfl) rfl) ?g5;case g5=>refine' Zd ?g6 ?g7;(case g6=>refine' Xo (Yn Zp5 (Zv Yh (pv 4) (pv 7)) (Zv Yh (pv 5) (pv 6)) (Y1 _)) ?g8 Z4;case g8=>refine' Zj ?g9;case g9=>refine' Zaa ?ga (Z8 (n:=4) rfl (Ze (Zl (i:=4) nd rfl ?s) (Ze (Zl (i:=5) nd rfl ?s) (Ze (Zl (i:=6) nd rfl ?s) (Ze (Zl (i:=7) nd rfl ?s) Zu)))));case ga=>refine' Zz ?gb;case gb=>refine' Za Zg (Za (pv 5) (Za Zg (Za Zg Zb rfl) rfl) rfl) rfl);case g7=>refine' Zd (Z1 (i:=10) nd rfl (Or.inr rfl) (Zm Cy_ hr ?f rfl (Za (pv 0) (Za (Zk Zp rfl T.b_len Yw (Za (pv 2) Zb rfl)) Zb rfl) rfl))) ?gc;case gc=>refine' Zd (Z1 (i:=11) nd rfl ?s (Zv Zt7 (Xd (Za (Zz (Za Zg (Za Zg Zb rfl) rfl)) Zb rfl)) (Zk Zp rfl T.b_len Yw (Za (pv 2) Zb rfl)))) ?gd;case gd=>refine' Zd ?ge ?gf;(case ge=>refine' Zac PassesOwn.never rfl (Zdf .t rfl T.b_enumerate (Za (pv 2) Zb rfl)) (Z8 (n:=2) rfl (Ze (Zl (i:=12) nd rfl ?s) (Ze (Z8 (n:=2) rfl (Ze (Zl (i:=13) nd rfl ?s) (Ze (Zl (i:=14) nd rfl ?s) Zu))) Zu))) ?gg;case gg=>refine' Zj ?gh;case gh=>refine' Zaa (Zz (Za (Zv Ys (Zv Ys (Zv Yh (pv 4) (pv 13)) (Zv Yh (pv 5) (pv 14))) (pv 8)) (Za (Zv Ys (Zv Ys (Zv Yh (pv 6) (pv 13)) (Zv Yh (pv 7) (pv 14))) (pv 9)) Zb rfl) rfl)) ?gi;case gi=>refine' Zj4 (pv 11) ?gj Zda;case gj=>refine' Zt Yz (pv 10) (pv 12) (?l));case gf=>refine' Zd ?gk ?gl;(case gk=>refine' Z1 (i:=15) nd rfl ?s ?gm;case gm=>refine' Zk Zg2 rfl T.b_sorted Y8 ?gn;case gn=>refine' Za ?go Zb rfl;case go=>refine' Xe (N:=["_law_piece","_law_order_here"]) (fr:=[none,some 10]) rfl (Yc (XN:=["_law_state_here","_law_most","_law_points","_law_pieces","_law_a","_law_b","_law_c","_law_d","_law_s","_law_t","_law_order_here","_law_corners","_law_at","_law_x","_law_y","_law_rows","_law_thicks"]) (Scope.names (Zf Y4)) rfl rfl rfl (fun _ h=>Zw h) (?j) rfl) (Y0 (pv 3)) (fun _ _ _ _=>pgB 0) (fun _ _ _ _=>Zq) (fun _ _ _ _=>Z3 (Zd7 K rfl) rfl T.b_tuple Yp (Za (Zk (Zfw K rfl) rfl T.b_sorted Y8 (Za (Xe (N:=["_law_at","_law_order_here"]) (fr:=[none,some 1]) rfl (Yc (XN:=["_law_piece","_law_order_here"]) (relN _ (Scope.names (Zf Y4))) rfl rfl rfl (fun _ h=>Zot (?j) h) (?j) rfl) (Zi4 K rfl (pv 0)) (fun _ _ _ _=>pgB 0) (fun _ _ _ _=>Zq) (fun _ _ _ _=>Zt (Zkc K rfl) (pv 1) (pv 0) (?l))) Zb rfl)) Zb rfl)));case gl=>refine' Zd ?gp ?gq;(case gp=>refine' Z1 (i:=16) nd rfl ?s ?gr;case gr=>refine' Z3 Zx rfl T.b_tuple Yp ?gs;case gs=>refine' Za ?gt Zb rfl;case gt=>refine' Xe (N:=["_law_row","_law_state_here"]) (fr:=[none,some 0]) rfl (Yc (XN:=["_law_state_here","_law_most","_law_points","_law_pieces","_law_a","_law_b","_law_c","_law_d","_law_s","_law_t","_law_order_here","_law_corners","_law_at","_law_x","_law_y","_law_rows","_law_thicks"]) (Scope.names (Zf Y4)) rfl rfl rfl (fun _ h=>Zw h) (?j) rfl) (Yo (pv 15)) (fun _ _ _ _=>pgB 0) (fun _ _ _ _=>Zq) (fun _ _ _ _=>Zv Ys Zg (Zm Ca_ hr ?f rfl (Za (pv 1) (Za (Zt (Zkc K rfl) (Xd (Za Zg (Za Zg Zb rfl) rfl)) (Zm Ca_ hr ?f rfl (Za (pv 1) (Za Zg Zb rfl) rfl)) (?l)) Zb rfl) rfl))));case gq=>refine' Zj ?gu;case gu=>refine' Zo ?gv;case gv=>refine' Zz ?gw;case gw=>refine' Za (Z3 Zx rfl T.b_tuple Yp (Za (pv 11) Zb rfl)) (Za (Z3 Zx rfl T.b_tuple Yp (Za (pv 15) Zb rfl)) (Za (pv 16) (Za (Zz (Za (Zm Ca_ hr ?f rfl (Za (pv 0) (Za Zg Zb rfl) rfl)) (Za (Zv Ys Zg (Zm Ca_ hr ?f rfl (Za (pv 0) (Za Zg Zb rfl) rfl))) Zb rfl) rfl)) Zb rfl) rfl) rfl) rfl
 refine ⟨rfl,fun H0 R us0 s0 nR eR al0=>?_⟩;have nRl:R≠l:=hl.neN nR;refine ⟨_,rfl,_,rfl,l,m,rfl,hl.same s0,?d,Xp (by show _<18446744073709551616;omega),fun r0 H1 r00 r01 k1 l1=>?_⟩;have al1:Al (IsSh H1) us0 Zbt:=al0.imp fun v x r=>r.tk (tkS k1 (hl.same s0));obtain ⟨u,sh,eu,hsh,msh⟩:=Zp3 al1 r00 (show r0<8 by omega);have B:=Zlo msh;obtain ⟨pts,pcs⟩:=sh;obtain ⟨a0,c,p,rfl,ha0,hc0,hp0⟩:=hsh;obtain ⟨c,cvs,rfl,hc7,cal⟩:=hc0;obtain ⟨p,pvs,rfl,hp7,pal⟩:=hp0;replace cal:Al (IsP H1) cvs pts:=cal;replace pal:Al (IsI H1) pvs pcs:=pal;replace B:Base pts pcs:=B;have n6:pts.length≤6:=B.n6;have clen:=cal.1;refine ⟨R,us0,_,_,rfl,rfl,SqL.of (k1 _ _ nRl eR),eu,?_⟩;refine ⟨a0,_,rfl,SqT.of ha0,rfl,_,_,rfl,_,_,rfl,rfl,?_⟩;refine ⟨_,rfl,l,3,rfl,l1,by decide,Xp ?f,fun r1 H2 r10 r11 k2 l2=>⟨_,_,rfl,rfl,?_⟩⟩;refine ⟨_,rfl,l,5,rfl,l2,by decide,Xp ?f,fun r2 H3 r20 r21 k3 l3=>⟨_,_,rfl,rfl,?_⟩⟩;refine ⟨_,rfl,l,5,rfl,l3,by decide,Xp ?f,fun r3 H4 r30 r31 k4 l4=>⟨_,_,rfl,rfl,?_⟩⟩;refine ⟨_,_,_,rfl,?_⟩;refine ⟨_,rfl,l,7,rfl,l4,by decide,Xp ?f,fun r4 H5 r40 r41 k5 l5=>⟨_,_,rfl,rfl,?_⟩⟩;refine ⟨_,rfl,l,41,rfl,l5,by decide,Xp ?f,fun r5 H6 r50 r51 k6 l6=>⟨_,_,rfl,rfl,?_⟩⟩;refine ⟨_,rfl,l,9,rfl,l6,by decide,Xp ?f,fun r6 H7 r60 r61 k7 l7=>⟨_,_,rfl,rfl,?_⟩⟩;refine ⟨_,_,_,rfl,?_⟩;have k17:=k2.trans (k3.trans (k4.trans (k5.trans (k6.trans k7))));have t7:Tk H1 H7:=tkS k17 l1;have kk:Keep l H H7:=s0.keep.trans (k1.trans k17);dsimp only;refine Zt5 (R:=fun σ Hn=>∃ A:Aff,σ=[some (.ref l),some (.int m),some (.ref c),some (.ref p),some (.int A.a),some (.int A.b),some (.int A.c),some (.int A.d),some (.int A.s),some (.int A.t),none,none,none,none,none,none,none]∧A.det≠0∧Small A∧(A.b.natAbs≤2∧A.c.natAbs≤2∧A.s.natAbs≤20∧A.t.natAbs≤4)∧Same H7 Hn) ?_ ?_ ?_ ?_ ?_
 · refine ⟨_,rfl,_,rfl,_,_,rfl,rfl,mul4 (?d) (?d),_,rfl,_,rfl,_,_,rfl,rfl,mul4 (?d) (?d),rfl,_,rfl,?_⟩;refine ite2 (fun hd=>?_) (fun hd=>?_)
   · refine ⟨_,rfl,z4_,fun Z nZ=>?_⟩;exact ⟨Z,_,rfl,SqT.of Zc,rfl,_,_,rfl,_,_,rfl,_,_,rfl,_,_,rfl,rfl,Aff.mk 1 (r2-2) 0 1 (r5-20) (r6-4),rfl,by show (1:Int)*1-(r2-2)*0≠0;omega,⟨by show (1:Int).natAbs≤3;decide,by show (r2-2).natAbs≤3;omega,by show (0:Int).natAbs≤3;decide,by show (1:Int).natAbs≤3;decide,by show (r5-20).natAbs≤30;omega,by show (r6-4).natAbs≤30;omega⟩,⟨by show (r2-2).natAbs≤2;omega,by show (0:Int).natAbs≤2;decide,by show (r5-20).natAbs≤20;omega,by show (r6-4).natAbs≤4;omega⟩,Same.new nZ⟩
   · refine ⟨Aff.mk (1+r1) (r2-2) (r3-2) (r4-3) (r5-20) (r6-4),rfl,fun z=>?_,⟨by show (1+r1).natAbs≤3;omega,by show (r2-2).natAbs≤3;omega,by show (r3-2).natAbs≤3;omega,by show (r4-3).natAbs≤3;omega,by show (r5-20).natAbs≤30;omega,by show (r6-4).natAbs≤30;omega⟩,⟨by show (r2-2).natAbs≤2;omega,by show (r3-2).natAbs≤2;omega,by show (r5-20).natAbs≤20;omega,by show (r6-4).natAbs≤4;omega⟩,Same.refl _⟩;refine hd (n32_ (congrArg V.int ?_));have z':(1+r1)*(r4-3)-(r2-2)*(r3-2)=0:=z;omega
 · rintro Q1 Q2 hq ⟨v1,e1,v2,e2,i1,j1,f1,f2,m1,v3,e3,v4,e4,i2,j2,f3,f4,m2,f5,k,f6,q6⟩
   exact ⟨v1,e1,v2,e2,i1,j1,f1,f2,m1,v3,e3,v4,e4,i2,j2,f3,f4,m2,f5,k,f6,hq _ _ q6⟩
 · rintro key H1' ⟨v1,e1,z1,f1⟩
   refine ⟨v1,e1,z1,fun Z nZ=>?_⟩;obtain ⟨b1,xs1,g1,g2,g3,x1,y1,g4,x2,y2,g5,x3,y3,g6,x4,y4,g7,g8,q8⟩:=f1 Z nZ;exact ⟨b1,xs1,g1,g2,g3,x1,y1,g4,x2,y2,g5,x3,y3,g6,x4,y4,g7,g8,key _ _ q8⟩
 · exact fun key H1' r=>key _ _ r
 rintro σ H7n ⟨A,rfl,hdet,W,W2,s7n⟩
 replace t7:=t7.trans s7n.tk;replace kk:=kk.trans s7n.keep;replace l7:=l7.same s7n;clear k1 k2 k3 k4 k5 k6 k7 k17;have Wa:=W.a;have Wb:=W.b;have Wc:=W.c;have Wd:=W.d;obtain ⟨Aa,Ab,Ac,Ad,As,At⟩:=A;replace Wa:Aa.natAbs≤1000:=n53_ Wa ?f;replace Wb:Ab.natAbs≤1000:=n53_ Wb ?f;replace Wc:Ac.natAbs≤1000:=n53_ Wc ?f;replace Wd:Ad.natAbs≤1000:=n53_ Wd ?f;refine ⟨_,rfl,_,rfl,c,cvs,rfl,.inr (SqT.of (t7 _ _ hc7)),l,cvs.length,rfl,l7,?d,fun H8 O o k8 l8 nO eO pm=>?_⟩;rw [cal.1] at pm;have CO:=Zuc pm;have t8:Tk H1 H8:=t7.trans (tkS k8 l7);refine ⟨z2_,fun z nz=>?_⟩;generalize gG:upd H8 z (.tup [.int 0,.int 0])=H9;obtain ⟨s9,e9⟩:=gen_upd gG nz;refine ⟨z1_,fun y ny=>?_⟩;generalize gG:upd H9 y (.lst [.ref z])=H10;obtain ⟨s10,e10⟩:=gen_upd gG ny;have t10:Tk H1 H10:=t8.trans (s9.trans s10).tk;refine ⟨_,rfl,c,cvs,rfl,.inr (SqT.of (t10 _ _ hc7)),y,cvs.length,_,rfl,rfl,e10,?d,?d,by simp;rw [sizeLine_eq];omega,fun C nC=>?_⟩;rw [n63_,Zkp];have s11:Same H10 (upd H10 C (.lst (List.replicate cvs.length (.ref z)))):=Same.new nC;have e11:upd H10 C (.lst (List.replicate cvs.length (.ref z))) C=some (.lst (List.replicate cvs.length (.ref z))):=Zc;have nCl:C≠l:=(l8.same (s9.trans s10)).neN nC;generalize upd H10 C (.lst (List.replicate cvs.length (.ref z)))=H11 at s11 e11 ⊢;have s811:=s9.trans (s10.trans s11);have t11:Tk H1 H11:=t8.trans s811.tk;have l11:=l8.same s811;have k11:Keep l H H11:=(kk.trans k8).trans s811.keep;have eO11:=s811 _ _ eO;have nOC:O≠C:=Zi (s9.trans s10 _ _ eO) nC
 have nC0:H C=none:=by
  cases e:H C with
  | none=>rfl
  | some ob =>
    have:=(kk.trans k8).trans (s9.trans s10).keep _ _ nCl e
    rw [this] at nC;cases nC
 refine ⟨_,rfl,c,rfl,⟨_,SqT.of (t11 _ _ hc7)⟩,?_⟩;refine Zcd (n:=pts.length) (fun i σ H2=>Keep C H11 H2∧(∃ x1 x2 x3,σ=[some (.ref l),some (.int m),some (.ref c),some (.ref p),some (.int Aa),some (.int Ab),some (.int Ac),some (.int Ad),some (.int As),some (.int At),some (.ref O),some (.ref C),x1,x2,x3,none,none])∧∃ us cs,H2 C=some (.lst us)∧Al (IsP H2) us cs∧cs.length=pts.length∧∀ j:Nat,j<i→cs[(o.getD j 0).toNat]? = some ((Aff.mk Aa Ab Ac Ad As At).at (pts.getD j (0,0)))) ⟨Keep.refl _ _,⟨_,_,_,rfl⟩,_,List.replicate cvs.length (0,0),e11,Zrv ⟨z,rfl,s11 _ _ (s10 _ _ e9)⟩ _,by simp [cal.1],fun j hj=>absurd hj (Nat.not_lt_zero _)⟩ (fun i σ H2 hi p=>?_) (fun σ H2 p=>?_) (fun i x σ H2 H3 hi y p=>?_) (fun σ H2 p=>?_)
 · have t2:Tk H11 H2:=Tk.of_keep p.1 e11;exact ⟨cvs,cvs[i]'(by rw [cal.1];exact hi),SqT.of (t2 _ _ (t11 _ _ hc7)),n1_ _⟩
 · have t2:Tk H11 H2:=Tk.of_keep p.1 e11;exact ⟨cvs,SqT.of (t2 _ _ (t11 _ _ hc7)),cal.1⟩
 · obtain ⟨k2,⟨x1,x2,x3,rfl⟩,us,cs,eC,alc,lc,hc⟩:=p;obtain ⟨g,x,rfl,ng,rfl,y1⟩:=y;have t2:Tk H11 H2:=Tk.of_keep k2 e11;have ex:=y1 cvs (SqT.of (t2 _ _ (t11 _ _ hc7)));obtain ⟨pt,ept,b,rfl,hb⟩:=cal.get ex;have hpt:=Zqc (B.bd pt (n6_ ept));generalize gG:upd H2 g (.tup [.int i,.ref b])=H3;obtain ⟨sg,eg⟩:=gen_upd gG ng;have hb3:=sg _ _ (t2 _ _ (t11 _ _ hb));refine ⟨g,_,rfl,SqT.of eg,rfl,_,_,rfl,_,_,rfl,⟨b,_,rfl,SqT.of hb3,rfl,_,_,rfl,_,_,rfl,rfl,rfl,?_⟩⟩;refine ⟨_,rfl,_,rfl,_,_,rfl,rfl,mul4 Wa hpt.1,_,rfl,_,rfl,_,_,rfl,rfl,mul4 Wb hpt.2,_,_,rfl,rfl,_,rfl,_,_,rfl,rfl,?_⟩;refine ⟨_,rfl,_,rfl,_,_,rfl,rfl,mul4 Wc hpt.1,_,rfl,_,rfl,_,_,rfl,rfl,mul4 Wd hpt.2,_,_,rfl,rfl,_,rfl,_,_,rfl,rfl,?_⟩;refine ⟨z2_,fun w nw=>?_⟩;generalize hH4:upd H3 w _=H4;have sw:Same H3 H4:=by (rw [← hH4];exact Same.new nw)
   have ew0:=(congrFun hH4 w).symm;rw [Zc] at ew0;have ew:H4 w=some (.tup [.int (Aa*pt.1+Ab*pt.2+As),.int (Ac*pt.1+Ad*pt.2+At)]):=ew0;clear ew0 hH4;have s24:=sg.trans sw;have eO4:H4 O=some (.lst (o.map V.int)):=s24 _ _ (k2 _ _ nOC eO11);have bo:=CO.bd i hi;have eC4:=s24 _ _ eC;refine ⟨_,rfl,_,rfl,_,rfl,O,_,(i:Int),_,rfl,rfl,SqL.of eO4,o_at CO (Int.natCast_nonneg i) (Int.ofNat_lt.mpr hi),?_⟩;have ulen:us.length=pts.length:=by rw [alc.1,lc]
   refine ⟨C,us,_,(o.getD i 0).toNat,rfl,rfl,eC4,Zq2 bo.1 (by rw [ulen];exact bo.2),?_⟩;have tC:Tk H4 (upd H4 C (.lst (us.set (o.getD i 0).toNat (.ref w)))):=Tk.upd_lst eC4;refine ⟨fun b' o' nb e=>?_,⟨_,_,_,rfl⟩,_,cs.set (o.getD i 0).toNat ((Aff.mk Aa Ab Ac Ad As At).at pt),Zc,?_,by simp [lc],fun j hj=>?_⟩
   · rw [Zh nb];exact s24 _ _ (k2 _ _ nb e)
   · exact Zwe (alc.imp fun v x r=>r.tk (s24.tk.trans tC)) _ ⟨w,rfl,tC _ _ ew⟩
   · rw [List.getElem?_set]
     by_cases hji:j=i
     · subst hji;rw [if_pos rfl,if_pos (by rw [lc];omega),n4_ (l:=pts),ept];rfl
     · rw [if_neg (fun z=>hji (CO.inj j i (?d) hi (by have b2:=CO.bd j (?d);omega)))];exact hc j (?d)
 · obtain ⟨k2,⟨x1,x2,x3,rfl⟩,us,cs,eC,alc,lc,hc⟩:=p;have t2:Tk H11 H2:=Tk.of_keep k2 e11;have t12:=t11.trans t2;have eO2:=k2 _ _ nOC eO11
   have l2:StAt H2 l:=by
    obtain ⟨a',b',c',e,r⟩:=l11;exact ⟨a',b',c',k2 _ _ nCl.symm e,r⟩
   have k02:Keep l H H2:=fun b' o' nb e=>k2 _ _ (Zi e nC0) (k11 _ _ nb e);have hp2:=t12 _ _ hp7;refine ⟨_,rfl,p,rfl,⟨_,SqT.of hp2⟩,fun D nD=>?_⟩;refine lc_T (k:=.t) (vs:=pvs) (fun H v pc=>∃ r,IsI H v r∧(r.Perm (pc.map (oAt o))∧r.Pairwise (·≤·))) (fun H1 H2 v x t r=>let ⟨r',i,j⟩:=r;⟨r',i.tk t,j⟩) pcs (by rw [pal.1]) (by rw [pal.1];have:=B.p4;omega) nD hp2 (fun i w H4 C' hw s4 c'=>?_) (fun H4 vs s4 e4 a4=>?_)
   · obtain ⟨pc,epc,b,rfl,hb⟩:=pal.get hw;have hb4:=s4 _ _ (t12 _ _ hb);obtain ⟨i1,j1,k1,rfl,bi,bj,bk,_⟩:=Zop (B.pc _ (n6_ epc));refine ⟨_,rfl,b,rfl,⟨_,SqT.of hb4⟩,fun E nE=>?_⟩;refine lc_T (k:=.t) (vs:=[i1,j1,k1].map V.int) RI hRI ([i1,j1,k1].map (oAt o)) ?g ?g nE hb4 (fun n x H6 C6 hx s6 c6=>?_) (fun H6 us6 s6 e6 a6=>?_)
     · rw [n7_] at hx;obtain ⟨y,ey,rfl⟩:=n14_.mp hx
       have by':0≤y∧y<(pts.length:Int):=by
        have:=n6_ ey
        simp only [n9_,n10_,or_false] at this
        rcases this with rfl|rfl|rfl<;>assumption
       exact ⟨_,rfl,_,rfl,O,_,y,_,rfl,rfl,SqL.of (s6 _ _ (s4 _ _ eO2)),o_at CO by'.1 by'.2,c6 _ _ _ (Same.refl _) (by rw [n7_,ey];rfl) rfl⟩
     · rw [a6.ints] at e6;refine ⟨E,_,rfl,SqL.of e6,by simp,fun L ns' nL pm' so'=>?_⟩;have s7:Same H6 (upd H6 L (.lst (ns'.map V.int))):=Same.new nL;have e7:upd H6 L (.lst (ns'.map V.int)) L=some (.lst (ns'.map V.int)):=Zc;generalize upd H6 L (.lst (ns'.map V.int))=H7' at s7 e7 ⊢;refine ⟨L,_,rfl,.inl ⟨SqL.of e7,fun T' nT=>?_⟩⟩;exact c' _ _ [i1,j1,k1] (s6.trans (s7.trans (Same.new nT))) epc ⟨ns',⟨T',rfl,Zc⟩,pm',so'⟩
   · obtain ⟨kl,klen,kal,kT⟩:=Zoi a4;have DR:∀ q:List Nat,q.Perm (List.range pcs.length)→Drawn pts pcs (Aff.mk Aa Ab Ac Ad As At) o cs kl q:=fun q hq=>.of B hdet W CO lc hc klen (fun i hi=>kT i hi) hq;have D0:=DR _ (List.Perm.refl _);have p4:=B.p4;refine ⟨D,vs,kl,3,rfl,SqL.of e4,kal.1,fun i v hv=>?_,D0.knd,by rw [klen];omega,fun k hk=>?_,by decide,fun L q nL qp rise=>?_⟩
     · obtain ⟨k,ek,b,rfl,hb⟩:=kal.get hv;exact ⟨b,k,rfl,ek,hb⟩
     · obtain ⟨n,hn,rfl⟩:=n48_ hk;rw [klen] at hn;obtain ⟨_,_,_,x,y,z,_,e,_⟩:=D0.piece hn
       have:kl[n]=[x,y,z]:=by rw [← e,n4_,n1_ (by rw [klen];exact hn)];rfl
       rw [this];rfl
     · rw [klen] at qp;have D1:=DR q qp;have s5:Same H4 (upd H4 L (.lst (q.map fun i=>vs.getD i .non))):=Same.new nL;have e5:upd H4 L (.lst (q.map fun i=>vs.getD i .non)) L=some (.lst (q.map fun i=>vs.getD i .non)):=Zc;have nLl:L≠l:=(l2.same s4).neN nL;generalize upd H4 L (.lst (q.map fun i=>vs.getD i .non))=H5 at s5 e5 ⊢;have s25:=s4.trans s5;have l5:=l2.same s25;have k05:=k02.trans s25.keep;have qlen:q.length=pcs.length:=by rw [qp.length_eq,n76_]
       refine ⟨_,rfl,L,rfl,⟨_,SqL.of e5⟩,fun E nE=>?_⟩;refine Zsn (n:=pcs.length) (l:=l) (fun H v (x:Int)=>v=.int x∧1≤x∧x≤9) (fun _ _ _ _ _ r=>r) (?d) (fun σ=>∃ u,σ=[u,some (.ref l)]) ⟨_,rfl⟩ nE l5 (fun i H6 k6 hi=>⟨_,_,SqL.of (k6 _ _ nLl e5),n1_ (by simp [qlen];exact hi)⟩) (fun H6 k6=>⟨_,SqL.of (k6 _ _ nLl e5),by simp [qlen]⟩) (fun i x σ2 H6 H7' C' hi k6 l6 y o' c'=>?_) (fun H6 ts ys k6 l6 e6 hy a6=>?_)
       · obtain ⟨u,rfl⟩:=o';obtain ⟨rfl,y2⟩:=y;refine ⟨_,rfl,z2_,fun W' nW=>?_⟩;have s8':Same H7' (upd H7' W' (.lst [.int 9,.int 2])):=Same.new nW;have e8':upd H7' W' (.lst [.int 9,.int 2]) W'=some (.lst [.int 9,.int 2]):=Zc;have nWl:W'≠l:=l6.neN nW;generalize upd H7' W' (.lst [.int 9,.int 2])=H8' at s8' e8' ⊢;refine ⟨_,rfl,l,2,rfl,l6.same s8',by decide,Xp ?f,fun r9 H9' r90 r91 k9 l9=>?_⟩;have hr9:r9=0∨r9=1:=?d
         have fin:∀ m:Int,0<m→m≤9→Zdg [.ref l,.int m] H9' (fun v H=>rI0 (fun i j=>V.int (i+j)) (V.int 1) v H (C' [some x,some (.ref l)])) E0:=fun m m0 m9=>⟨l,m,rfl,l9,m0,Xp (by show _<18446744073709551616;omega),fun r10 H10' ra rb k10 l10=>⟨_,_,rfl,rfl,c' _ _ _ _ ⟨_,rfl⟩ (s8'.keep.trans (k9.trans k10)) l10 ⟨rfl,?d,?d⟩⟩⟩
         rcases hr9 with rfl|rfl
         · exact ⟨W',_,_,_,rfl,rfl,SqL.of (k9 _ _ nWl e8'),rfl,fin 9 ?f ?f⟩
         · exact ⟨W',_,_,_,rfl,rfl,SqL.of (k9 _ _ nWl e8'),rfl,fin 2 ?f ?f⟩
       · have ets:ts=ys.map V.int:=by
          refine (Al.ints (ns:=ys) ?_);exact a6.imp fun v x r=>r.1
         refine ⟨E,ts,rfl,.inl ⟨SqL.of e6,fun T' nT=>?_⟩⟩;have s7:Same H6 (upd H6 T' (.tup ts)):=Same.new nT;have e7:upd H6 T' (.tup ts) T'=some (.tup (ys.map V.int)):=by rw [Zc,ets]
         generalize upd H6 T' (.tup ts)=H7' at s7 e7 ⊢;have t57:Tk H5 H7':=(tkS k6 l5).trans s7.tk;have t27:Tk H2 H7':=s25.tk.trans t57;have k07:=k05.trans (k6.trans s7.keep);have l7':=l6.same s7;have nDl:C≠l:=nCl;have eC7:H7' C=some (.lst us):=s7 _ _ (k6 _ _ nCl (s25 _ _ eC));have eL7:H7' L=some (.lst (q.map fun i=>vs.getD i .non)):=s7 _ _ (k6 _ _ nLl e5);refine ⟨_,rfl,C,us,rfl,.inl ⟨SqL.of eC7,fun T1 n1=>?_⟩⟩;generalize gG:upd H7' T1 (.tup us)=G1;obtain ⟨u1,f1⟩:=gen_upd gG n1;refine ⟨_,rfl,L,_,rfl,.inl ⟨SqL.of (u1 _ _ eL7),fun T2 n2=>?_⟩⟩;generalize gG:upd G1 T2 (.tup (q.map fun i=>vs.getD i .non))=G2;obtain ⟨u2,f2⟩:=gen_upd gG n2;have u02:=u1.trans u2;refine ⟨_,rfl,_,rfl,l,10,rfl,l7'.same u02,by decide,Xp ?f,fun rl G3 rl0 rl1 k3' l3'=>?_⟩;refine ⟨_,rfl,l,9,rfl,l3',by decide,Xp ?f,fun rm G4 rm0 rm1 k4' l4'=>⟨_,_,rfl,rfl,z2_,fun T4 n4=>?_⟩⟩;generalize gG:upd G4 T4 (.tup [.int rl,.int (1+rm)])=G5;obtain ⟨u5,f5⟩:=gen_upd gG n4;refine ⟨z4_,fun T5 n5=>?_⟩;have u6:Same G5 (upd G5 T5 (.tup [.ref T1,.ref T2,.ref T',.ref T4])):=Same.new n5;have w24:Tk G2 G4:=(tkS k3' (l7'.same u02)).trans (tkS k4' l3');have w26:Tk G2 (upd G5 T5 (.tup [.ref T1,.ref T2,.ref T',.ref T4])):=w24.trans (u5.trans u6).tk;have w76:=u02.tk.trans w26;refine q' _ _ ⟨cs,q.map fun i=>kl.getD i [],ys,rl,1+rm⟩ (k07.trans (u02.keep.trans (k3'.trans (k4'.trans (u5.trans u6).keep)))) (l4'.same (u5.trans u6)) ⟨T5,_,_,_,_,rfl,Zc,⟨T1,us,rfl,w26 _ _ (u2 _ _ f1),alc.imp fun v x r=>r.tk (t27.trans w76)⟩,⟨T2,_,rfl,w26 _ _ f2,?_⟩,⟨T',rfl,w76 _ _ e7⟩,⟨T4,rfl,u6 _ _ f5⟩⟩ (D1.ok rise (by rw [hy]) (fun t ht=>?_) ⟨rl0,?d⟩ ⟨?d,?d⟩) (show (q.map fun i=>kl.getD i []).length≤4 by rw [n5_,qlen];exact p4) (show cs.length≤6 by rw [lc];exact n6) (Zll D1 W2) ⟨pts,pcs,_,o,kl,q,D1,rfl,Zlb msh⟩
         · refine (Zv9 kal (q:=q) fun i hi=>?_).imp fun v x r=>r.tk (s5.tk.trans (t57.trans w76));rw [klen];exact n35_.mp (qp.mem_iff.mp hi)
         · obtain ⟨i,hi,e⟩:=n48_ ht;obtain ⟨v,_,r⟩:=a6.got (show ys[i]? = some t by rw [n1_ hi,e]);exact r.2
abbrev Zbf:Stmt:=top 51
theorem Zg9 (F:Fun K "_law_same" "_law_same" Zbf f fd):FnOk P w K mg base CX0 2 f fd ["_law_found","_law_due"] Zjv:=by
 have sc:FnScope ["_law_found","_law_due"] ["_law_found","_law_due"] (Zf Zbf):=fsc (?j);refine F.ok sc (fun vs H Q E h=>by obtain ⟨a,b,x,y,x',y',P',rfl,_⟩:=h;rfl) ?z;obtain ⟨a,b,x,y,x',y',P',rfl,ha,hb,h1,h2,h3,h4,ok,q⟩:=h;refine' ?A
 case term=>refine' Zj (Zo (Zak Zp5 (Zk (Zem hr) rfl T.b_repr Zf6 (Za (pv 0) Zb rfl)) (Zk (Zem hr) rfl T.b_repr Zf6 (Za (pv 1) Zb rfl)) (Y1 _)))
 have dt:∀ {u w:V},IsPl H u P'→IsPl H w P'→Dts (fun _=>False) H 64 [u,w] [dPl P',dPl P']:=fun h1 h2=>.cons (dtPl h1 ok ?f) (.cons (dtPl h2 ok ?f) .nil);have z1:PyData.hasDictAll [dPl P',dPl P']=false:=by simp only [PyData.hasDictAll,hdPl,Bool.or_self]
 have z2:PyData.depthAll [dPl P',dPl P']≤19:=by
  have:=Zjd P'
  simp only [PyData.depthAll];omega
 have z3:Zbp [dPl P',dPl P']≤7999:=by
  have:=nzPl ok
  simp only [Zbp];omega
 refine ⟨_,rfl,_,64,a,_,_,rfl,ha,dt h1 h2,z1,by decide,z2,z3,_,rfl,_,64,b,_,_,rfl,hb,dt h3 h4,z1,by decide,z2,z3,rfl,?_⟩;rw [n32_ rfl];exact q
abbrev Za0:Stmt:=top 52
theorem Zfz (F:Fun K "_law_sides" "_law_sides" Za0 f fd):FnOk P w K mg base CX0 2 f fd ["_law_sheet"] Zhn:=by
 have sc:FnScope ["_law_sheet","_law_found","_law_a","_law_b","_law_c"] ["_law_sheet"] (Zf Za0):=fsc (?j);refine F.ok sc (fun vs H Q E h=>by obtain ⟨v,P',rfl,_⟩:=h;rfl) ?z;obtain ⟨v,P',rfl,⟨z,c0,u0,t0,st0,rfl,hz,hc0,⟨a,us,rfl,ha,al⟩,ht0,hs0⟩,ok,p4,q⟩:=h;have nd:=sc.nd;refine' ?A
 case term=>refine' Zd (Z1 (i:=1) nd rfl ?s (Xd Zb)) (Zd (Zac PassesOwn.never rfl (Y0 (Zt Z7 (pv 0) Zg (?l))) (Z8 (n:=3) rfl (Ze (Zl (i:=2) nd rfl ?s) (Ze (Zl (i:=3) nd rfl ?s) (Ze (Zl (i:=4) nd rfl ?s) Zu)))) (Zj (Z1 (i:=1) nd rfl ?s (Zv Zrk (pv 1) (Xd (Za (Zz (Za (pv 2) (Za (pv 3) Zb rfl) rfl)) (Za (Zz (Za (pv 2) (Za (pv 4) Zb rfl) rfl)) (Za (Zz (Za (pv 3) (Za (pv 4) Zb rfl) rfl)) Zb rfl) rfl) rfl)))))) (Zj (Zo (Zk (Zco rfl) rfl T.b_sorted Y8 (Za (Z3 (Zmm rfl hr) rfl T.b_set Zre (Za (pv 1) Zb rfl)) Zb rfl)))))
 have h3:=pc3 ok;have h20:P'.ps.length≤20:=?d
 have hl:=al.1;refine ⟨z0_,fun L0 n0=>?_⟩;generalize gG:upd H L0 (.lst [])=H1;obtain ⟨s1,e1⟩:=gen_upd gG n0;refine ⟨_,rfl,z,_,1,_,rfl,rfl,SqT.of (s1 _ _ hz),rfl,a,rfl,⟨_,SqT.of (s1 _ _ ha)⟩,?_⟩;refine Zo7 (xs:=us) (fun n σ H2=>∃ w2 w3 w4 L bl,σ=[some (.ref z),some (.ref L),w2,w3,w4]∧Same H H2∧H L=none∧H2 L=some (.lst (refs bl))∧(∀ x∈bl,tpl H2 x)∧bl.map (·.2)=Zs (P'.ps.take n)) ⟨_,_,_,L0,[],rfl,s1,n0,e1,by simp,by simp [Zs]⟩ ?_ ?_ ?_
 · rintro n σ H2 _ ⟨_,_,_,_,_,_,s2,_⟩
   exact SqT.of (s2 _ _ ha)
 · rintro n x σ H2 hx ⟨w2,w3,w4,L,bl,rfl,s2,nL,eL,tp,ek⟩
   obtain ⟨p',ep,pa,rfl,hp⟩:=al.get hx;obtain ⟨i,j,k,rfl⟩:∃ i j k,p'=[i,j,k]:=⟨_,_,_,Zvt (h3 p' (n6_ ep))⟩;have hn:=Yt ep
   have lb:bl.length≤60:=by
    have:=congrArg List.length ek
    rw [n5_,Za2,n59_] at this;omega
   refine ⟨pa,_,rfl,SqT.of (s2 _ _ hp),rfl,_,_,rfl,_,_,rfl,_,_,rfl,rfl,?_⟩;refine ⟨_,rfl,_,rfl,_,rfl,z2_,?_⟩;intro pb1 nb1;generalize hHb1:upd H2 pb1 _=Hb1;have Sb1:Same H2 Hb1:=by (rw [← hHb1];exact Same.new nb1)
   have Ab1:=(congrFun hHb1 pb1).symm;rw [Zc] at Ab1;clear hHb1;refine ⟨_,rfl,_,rfl,z2_,?_⟩;intro pb2 nb2;generalize hHb2:upd Hb1 pb2 _=Hb2;have Sb2:Same Hb1 Hb2:=by (rw [← hHb2];exact Same.new nb2)
   have Ab2:=(congrFun hHb2 pb2).symm;rw [Zc] at Ab2;clear hHb2;refine ⟨_,rfl,_,rfl,z2_,?_⟩;intro pb3 nb3;generalize hHb3:upd Hb2 pb3 _=Hb3;have Sb3:Same Hb2 Hb3:=by (rw [← hHb3];exact Same.new nb3)
   have Ab3:=(congrFun hHb3 pb3).symm;rw [Zc] at Ab3;clear hHb3;refine ⟨z3_,?_⟩;intro q4 nb4;generalize hHb4:upd Hb3 q4 _=Hb4;have Sb4:Same Hb3 Hb4:=by (rw [← hHb4];exact Same.new nb4)
   have Ab4:=(congrFun hHb4 q4).symm;rw [Zc] at Ab4;clear hHb4;have SS:Same H2 Hb4:=(Sb1.trans (Sb2.trans (Sb3.trans Sb4)));have T1:tpl Hb4 (pb1,[i,j]):=(Sb4 _ _ (Sb3 _ _ (Sb2 _ _ Ab1)));have T2:tpl Hb4 (pb2,[i,k]):=(Sb4 _ _ (Sb3 _ _ Ab2));have T3:tpl Hb4 (pb3,[j,k]):=(Sb4 _ _ Ab3);have TL:Hb4 q4=some (.lst (refs [(pb1,[i,j]),(pb2,[i,k]),(pb3,[j,k])])):=Ab4;generalize Hb4=HB at SS T1 T2 T3 TL ⊢;refine ⟨L,q4,_,_,rfl,rfl,SS _ _ eL,TL,by (have:=sizeLine_eq;rw [n5_,n5_,n18_,n18_,n18_,n79_];omega),fun L2 nL2=>?_⟩;have s6:Same HB (upd HB L2 (.lst (refs bl++refs [(pb1,[i,j]),(pb2,[i,k]),(pb3,[j,k])]))):=Same.new nL2;refine ⟨_,_,_,L2,bl++[(pb1,[i,j]),(pb2,[i,k]),(pb3,[j,k])],rfl,s2.trans (SS.trans s6),Yj (s2.trans SS) nL2,?_,fun x hx=>?_,?_⟩
   · rw [Zc];exact congrArg (fun z=>some (HO.lst z)) (n46_ ..).symm
   · rcases n28_.mp hx with hx|hx
     · exact s6 _ _ (SS _ _ (tp x hx))
     · simp only [n9_,n10_,or_false] at hx
       rcases hx with rfl|rfl|rfl
       · exact s6 _ _ T1
       · exact s6 _ _ T2
       · exact s6 _ _ T3
   · rw [n46_,ek,n61_,ep,show P'.ps.take n++(some ([i,j,k]:?e)).toList=P'.ps.take n++[[i,j,k]] from rfl,Zfc];rfl
 · rintro σ H2 ⟨w2,w3,w4,L,bl,rfl,s2,nL,eL,tp,ek⟩
   rw [n45_ (?d)] at ek
   have lb:bl.length≤12:=by
    have:=congrArg List.length ek
    rw [n5_,Za2] at this;omega
   refine ⟨_,rfl,L,bl,rfl,SqL.of eL,tp,?d,fun S nS=>?_⟩;generalize hG:upd H2 S _=H3;have s3:Same H2 H3:=by rw [← hG];exact Same.new nS
   have e3:=(congrFun hG S).symm;rw [Zc] at e3;clear hG;refine ⟨S,metU bl,rfl,e3,fun x hx=>s3 _ _ (tp x (Zc5 hx)),fun x hx=>?_,by have:=Zjq bl;omega,fun l ql nl pm rs=>?_⟩
   · have:x.2∈bl.map (·.2):=n47_ (Zc5 hx)
     rw [ek] at this;rw [Zcr this];decide
   have s4:Same H3 (upd H3 l (.lst (refs ql))):=Same.new nl;exact q _ l ql (s2.trans (s3.trans s4)) (Yj (s2.trans s3) nl) Zc (fun x hx=>s4 _ _ (s3 _ _ (tp x (Zc5 (pm.mem_iff.mp hx))))) rs fun k=>(pm.map (·.2)).mem_iff.trans (Zn0.trans (by rw [ek]))
abbrev Ym:Stmt:=top 53
theorem Zfs (F:Fun K "_law_finer" "_law_finer" Ym f fd) (Cz_:a33_ P w K mg base):FnOk P w K mg base CX0 4 f fd ["_law_sheet"] Zc7:=by
 have sc:FnScope ["_law_sheet","_law_corners","_law_pieces","_law_thicks","_law_stuff","_law_edges","_law_rows","_law_points","_law_spots","_law_piece","_law_thick","_law_corner","_law_at"] ["_law_sheet"] (Zf Ym):=fsc (?j);refine F.ok sc (fun vs H Q E h=>by obtain ⟨v,P',rfl,_⟩:=h;rfl) ?z;obtain ⟨v,P',rfl,hv,ok,p4,c6,wd,q⟩:=h;have nd:=sc.nd;have hu:=Zid hr;refine' ?A
 case term=>refine' Zd (Zaa (pv 0) (Z8 (n:=4) rfl (Ze (Zl (i:=1) nd rfl (Or.inr rfl)) (Ze (Zl (i:=2) nd rfl ?s) (Ze (Zl (i:=3) nd rfl ?s) (Ze (Zl (i:=4) nd rfl ?s) Zu)))))) ?g1;case g1=>refine' Zd (Zoh rfl nd (i:=5) (j:=6) rfl rfl ?f rfl rfl (Za (Zm Cz_ hr ?f rfl (Za (pv 0) Zb rfl)) (Za (Xd Zb) Zb rfl) rfl) rfl) ?g2;case g2=>refine' Zd (Zef (g:=?C) (N:=["_law_x","_law_y"]) (fr:=[none,none]) rfl rfl (Zl (i:=7) nd rfl ?s) (Ye ?f rfl ?f rfl rfl) (Y0 (pv 1)) ?D (fun _ _ _ _=>Zq) (fun _ _ _ _=>Zz (Za (Zv Yh Zg (pv 0)) (Za (Zv Yh Zg (pv 1)) Zb rfl) rfl))) ?g3;case g3=>refine' Zd (Z1 (i:=7) nd rfl ?s (Zv Zrk (pv 7) (Xe (g:=?C) (N:=["_law_a","_law_b","_law_corners"]) (fr:=[none,none,some 1]) rfl (Yc (XN:=["_law_sheet","_law_corners","_law_pieces","_law_thicks","_law_stuff","_law_edges","_law_rows","_law_points","_law_spots","_law_piece","_law_thick","_law_corner","_law_at"]) (Scope.names (Zf Ym)) rfl rfl rfl (fun _ h=>Zw h) (?j) rfl) (Yo (pv 5)) ?D (fun _ _ _ _=>Zq) (fun _ _ _ _=>Zz (Za (Zv Ys (Zt (Yb K rfl) (Zt (Yb K rfl) (pv 2) (pv 0) (?l)) Zg (?l)) (Zt (Yb K rfl) (Zt (Yb K rfl) (pv 2) (pv 1) (?l)) Zg (?l))) (Za (Zv Ys (Zt (Yb K rfl) (Zt (Yb K rfl) (pv 2) (pv 0) (?l)) Zg (?l)) (Zt (Yb K rfl) (Zt (Yb K rfl) (pv 2) (pv 1) (?l)) Zg (?l))) Zb rfl) rfl))))) ?g4;case g4=>refine' Zd (Z1 (i:=8) nd rfl (Or.inr rfl) (Z3 (Zk9 rfl (Zu0 hr)) rfl T.b_dict Zr4 (Za (Xe (g:=?C) (N:=["_law_at","_law_side","_law_corners"]) (fr:=[none,none,some 1]) rfl (Yc (XN:=["_law_sheet","_law_corners","_law_pieces","_law_thicks","_law_stuff","_law_edges","_law_rows","_law_points","_law_spots","_law_piece","_law_thick","_law_corner","_law_at"]) (Scope.names (Zf Ym)) rfl rfl rfl (fun _ h=>Zw h) (?j) rfl) (Zdf .l rfl T.b_enumerate (Za (pv 5) Zb rfl)) ?D (fun _ _ _ _=>Zq) (fun _ _ _ _=>Zz (Za (pv 1) (Za (Zv Ys (Zk (Zaf K rfl) rfl T.b_len Yw (Za (pv 2) Zb rfl)) (pv 0)) Zb rfl) rfl))) Zb rfl))) ?g5;case g5=>refine' Zd ?g6 ?g7;(case g6=>refine' Zac PassesOwn.never rfl (Zk0 .t .t rfl T.b_zip (Za (pv 2) (Za (pv 3) Zb rfl) rfl)) (Z8 (n:=2) rfl (Ze (Zl (i:=9) nd rfl (Or.inr rfl)) (Ze (Zl (i:=10) nd rfl ?s) Zu))) ?g8;case g8=>refine' Zd (Zac PassesOwn.never rfl (Y0 (pv 9)) (Zl (i:=11) nd rfl (Or.inr rfl)) (Zd (Zef (N:=["_law_side","_law_corner","_law_piece","_law_spots"]) (fr:=[none,some 11,some 9,some 8]) rfl rfl (Zl (i:=12) nd rfl ?s) (Yc (XN:=["_law_sheet","_law_corners","_law_pieces","_law_thicks","_law_stuff","_law_edges","_law_rows","_law_points","_law_spots","_law_piece","_law_thick","_law_corner","_law_at"]) (Scope.names (Zf Ym)) rfl rfl rfl (fun _ h=>Zw h) (?j) rfl) (Yo (pv 5)) (fun _ _ _ _=>pgB 0) (fun _ _ _ _=>Zfq (PW.pt (Zmr (Yn (X3 K rfl) (pv 1) (pv 0) rfl) (Zmr (Yn (X3 K rfl) (Zt (Yb K rfl) (pv 0) Zg (?l)) (pv 2) rfl) (Zo1 (Yn (X3 K rfl) (Zt (Yb K rfl) (pv 0) Zg (?l)) (pv 2) rfl)))))) (fun _ _ _ _=>Zip hu (pv 3) (pv 0) (?l))) (Zj (Xy (Zg7 PySem.F.plainAttrs_list PySem.F.slot_list_append PySem.F.type_list_append Xi (pv 6) (Za (Zz (Za (Zz (Za (pv 11) (Za (Zk (Znt rfl) rfl T.b_min Zru (Za (pv 12) Zb rfl)) (Za (Zk (Zov rfl) rfl T.b_max Zoo (Za (pv 12) Zb rfl)) Zb rfl) rfl) rfl)) (Za (pv 10) Zb rfl) rfl)) Zb rfl)))))) (Zj (Xy (Zg7 PySem.F.plainAttrs_list PySem.F.slot_list_append PySem.F.type_list_append Xi (pv 6) (Za (Zz (Za (Z3 Zx rfl T.b_tuple Yp (Za (Zk Zcy rfl T.b_sorted Y8 (Za (Xe (N:=["_law_side","_law_piece","_law_spots"]) (fr:=[none,some 9,some 8]) rfl (Yc (XN:=["_law_sheet","_law_corners","_law_pieces","_law_thicks","_law_stuff","_law_edges","_law_rows","_law_points","_law_spots","_law_piece","_law_thick","_law_corner","_law_at"]) (Scope.names (Zf Ym)) rfl rfl rfl (fun _ h=>Zw h) (?j) rfl) (Yo (pv 5)) (fun _ _ _ _=>pgB 0) (fun _ _ _ _=>Zfq (PW.pt (Zmr (Yn (X3 K rfl) (Zt (Yb K rfl) (pv 0) Zg (?l)) (pv 1) rfl) (Zo1 (Yn (X3 K rfl) (Zt (Yb K rfl) (pv 0) Zg (?l)) (pv 1) rfl))))) (fun _ _ _ _=>Zip hu (pv 2) (pv 0) (?l))) Zb rfl)) Zb rfl)) (Za (pv 10) Zb rfl) rfl)) Zb rfl)))));case g7=>refine' Zd (Z1 (i:=6) nd rfl ?s (Zk (Zcu (hq3 hr)) rfl T.b_sorted Y8 (Za (pv 6) Zb rfl))) ?g9;case g9=>refine' Zj ?ga;case ga=>refine' Zo ?gb;case gb=>refine' Zz ?gc;case gc=>refine' Za (Z3 Zx rfl T.b_tuple Yp (Za (pv 7) Zb rfl)) ?gd rfl;case gd=>refine' Za (Z3 Zx rfl T.b_tuple Yp (Za (Xe (g:=?C) (N:=["_law_piece","_law_thick"]) (fr:=[none,none]) rfl (Ye ?f rfl ?f rfl rfl) (Yo (pv 6)) ?D (fun _ _ _ _=>Zq) (fun _ _ _ _=>pv 0)) Zb rfl)) (Za (Z3 Zx rfl T.b_tuple Yp (Za (Xe (g:=?C) (N:=["_law_piece","_law_thick"]) (fr:=[none,none]) rfl (Ye ?f rfl ?f rfl rfl) (Yo (pv 6)) ?D (fun _ _ _ _=>Zq) (fun _ _ _ _=>pv 1)) Zb rfl)) (Za (pv 4) Zb rfl) rfl) rfl
 obtain ⟨a,c,p,t,st,rfl,ha,⟨c,cvs,rfl,hc,cal⟩,⟨p,pvs,rfl,hp,pal⟩,⟨t,rfl,ht⟩,⟨st,rfl,hst⟩⟩:=hv;have hv:IsPl H (.ref a) P':=⟨a,.ref c,.ref p,.ref t,.ref st,rfl,ha,⟨c,cvs,rfl,hc,cal⟩,⟨p,pvs,rfl,hp,pal⟩,⟨t,rfl,ht⟩,⟨st,rfl,hst⟩⟩;have cl:=cal.1;have pl:=pal.1;have t1:=ok.t1;refine ⟨_,rfl,a,_,rfl,SqT.of ha,rfl,_,_,rfl,_,_,rfl,_,_,rfl,_,_,rfl,rfl,?_⟩;refine ⟨_,rfl,.ref a,P',rfl,hv,ok,p4,fun H3 l ql s03 nl e3 tp3 rs mk=>⟨z0_,fun W nW=>⟨_,_,rfl,?_⟩⟩⟩;have E:Edg P'.ps (ql.map (·.2)):=⟨Zba rs,mk⟩
 have lq:ql.length≤12:=by
  have h1:=Zep (Yq E.rise) fun k hk=>(E.mem k).mp hk;rw [n5_,Za2] at h1;omega
 have sW:Same H3 (upd H3 W (.lst [])):=Same.new nW;have eW:upd H3 W (.lst []) W=some (.lst []):=Zc;have fW:=Yj s03 nW;generalize upd H3 W (.lst [])=H3' at sW eW ⊢;have s03':=s03.trans sW;refine ⟨_,rfl,c,rfl,⟨_,SqT.of (s03' _ _ hc)⟩,fun D1 nD1=>?_⟩;refine Zj9 (s03' _ _ hc) (cal.imp fun v x r=>r.tk s03'.tk) ok.nr ok.c30 nD1 fun H4 us4 s4 e4 a4=>?_;have s34:=sW.trans s4;have s04:=s03.trans s34;refine ⟨_,rfl,_,rfl,l,rfl,⟨_,SqL.of (s34 _ _ e3)⟩,fun D2 nD2=>?_⟩;refine Zke (s04 _ _ hc) (cal.imp fun v x r=>r.tk s04.tk) (s34 _ _ e3) (fun x hx=>s34 _ _ (tp3 x hx)) lq (Zft ok E) nD2 fun H5 us5 s5 e5 a5=>?_;have l4:=a4.1;have l5:=a5.1;rw [n5_] at l4 l5;rw [n5_] at l5;refine ⟨D1,D2,us4,us5,rfl,rfl,s5 _ _ e4,e5,by (have:=ok.c30;rw [sizeLine_eq];omega),fun D0 nD0=>?_⟩;generalize gG:upd H5 D0 (.lst (us4++us5))=H6;obtain ⟨s6,e6⟩:=gen_upd gG nD0;have s46:=s4.trans (s5.trans s6);have s36:=sW.trans s46;have s06:=s03.trans s36;have a6:Al (IsP H6) (us4++us5) (Xq P'.cs (ql.map (·.2))):=Znx (a4.imp fun v x r=>r.tk (s5.trans s6).tk) (a5.imp fun v x r=>r.tk s6.tk);have el6:=s36 _ _ e3;have tp6:∀ x∈ql,tpl H6 x:=fun x hx=>s36 _ _ (tp3 x hx);refine ⟨_,rfl,l,rfl,⟨_,SqL.of el6⟩,fun D3 nD3=>?_⟩;refine Zpx (s06 _ _ hc) el6 tp6 lq (Yq E.rise) nD3 fun H7 us7 ps7 s7 e7 l7 a7 m7=>⟨D3,us7,ps7,rfl,e7,l7,a7,fun M nM=>?_⟩;have s8:Same H7 (upd H7 M (.dT (L2.Zcn [] ps7))):=Same.new nM;have mid:MidOk (upd H7 M (.dT (L2.Zcn [] ps7))) M P'.cs.length (ql.map (·.2)):=by rw [← cl];exact m7.ok Zc
 generalize upd H7 M (.dT (L2.Zcn [] ps7))=H8 at s8 mid ⊢;have s68:=s7.trans s8;have s08:=s06.trans s68;have nlW:l≠W:=fun z=>by rw [z] at e3;rw [e3] at nW;cases nW
 have eW8:H8 W=some (.lst []):=s68 _ _ (s46 _ _ eW);obtain ⟨tr3,bd3⟩:=Zen ok;have lz:(P'.ps.zip P'.ts).length=P'.ps.length:=by rw [List.length_zip];omega
 have hp8:=s08 _ _ hp;have ht8:=s08 _ _ ht;have npW:p≠W:=fun z=>by rw [z] at hp;rw [hp] at fW;cases fW
 have ntW:t≠W:=fun z=>by rw [z] at ht;rw [ht] at fW;cases fW
 have el8:=s68 _ _ el6;have tp8:∀ x∈ql,tpl H8 x:=fun x hx=>s68 _ _ (tp6 x hx);have ntp:∀ x∈ql,x.1≠W:=fun x hx z=>by have:=tp8 x hx;rw [tpl,z,eW8] at this;cases this
 have nMW:M≠W:=fun z=>by obtain ⟨kvs,h,_⟩:=mid.ex;rw [z,eW8] at h;cases h
 refine ⟨_,rfl,_,rfl,p,t,rfl,⟨_,SqT.of hp8⟩,⟨_,SqT.of ht8⟩,?_⟩;refine Zcd (n:=P'.ps.length) (fun i σ H2=>∃ w9 w10 w11 w12 us,σ=[some (.ref a),some (.ref c),some (.ref p),some (.ref t),some (.ref st),some (.ref l),some (.ref W),some (.ref D0),some (.ref M),w9,w10,w11,w12]∧Keep W H8 H2∧H2 W=some (.lst us)∧us.length=4*i∧Al (IsPr H2) us (((P'.ps.zip P'.ts).take i).flatMap fun x=>(Zr P'.cs.length (ql.map (·.2)) x.1).map fun q=>(q,x.2))) ⟨_,_,_,_,[],rfl,fun b o _ e=>e,eW8,rfl,.nil⟩ (fun i σ H2 hi pp=>?_) (fun σ H2 pp=>?_) (fun i x σ H2 H3 hi y pp=>?_) (fun σ H2 pp=>?_)
 · obtain ⟨_,_,_,_,_,_,kp,_⟩:=pp;exact ⟨pvs,P'.ts.map V.int,pvs[i]'(?d),(P'.ts.map V.int)[i]'(by simp;omega),SqT.of (kp _ _ npW hp8),SqT.of (kp _ _ ntW ht8),n1_ _,n1_ _⟩
 · obtain ⟨_,_,_,_,_,_,kp,_⟩:=pp;exact ⟨pvs,P'.ts.map V.int,SqT.of (kp _ _ npW hp8),SqT.of (kp _ _ ntW ht8),.inl (?d)⟩
 · obtain ⟨w9,w10,w11,w12,us,rfl,kp,e2,l2,a2⟩:=pp;obtain ⟨z,v,w,rfl,nz,rfl,y1,y2⟩:=y;have ev:=y1 pvs (SqT.of (kp _ _ npW hp8));have ew:=y2 _ (SqT.of (kp _ _ ntW ht8));rw [n7_] at ew;obtain ⟨th,et,rfl⟩:=n14_.mp ew;obtain ⟨q,eq,b,rfl,hb⟩:=pal.get ev;have ez:(P'.ps.zip P'.ts)[i]? = some (q,th):=List.getElem?_zip_eq_some.mpr ⟨eq,et⟩;have mq:=n6_ eq;have nbW:b≠W:=fun h=>by rw [h] at hb;rw [hb] at fW;cases fW
   generalize gG:upd H2 z (.tup [.ref b,.int th])=H3;obtain ⟨s3,e3'⟩:=gen_upd gG nz;have kp3:Keep W H8 H3:=fun b' o ne e=>s3 _ _ (kp b' o ne e);have hb8:=s08 _ _ hb;have lq3:=(tr3 q mq).len;refine ⟨z,_,rfl,SqT.of e3',rfl,_,_,rfl,_,_,rfl,rfl,?_⟩;refine ⟨_,rfl,b,rfl,⟨_,SqT.of (kp3 _ _ nbW hb8)⟩,?_⟩
   refine Zo7 (xs:=q.map V.int) (fun j σ H'=>∃ w11 w12 us',σ=[some (.ref a),some (.ref c),some (.ref p),some (.ref t),some (.ref st),some (.ref l),some (.ref W),some (.ref D0),some (.ref M),some (.ref b),some (.int th),w11,w12]∧Keep W H8 H'∧H' W=some (.lst us')∧us'.length=4*i+j∧Al (IsPr H') us' (((P'.ps.zip P'.ts).take i).flatMap (fun x=>(Zr P'.cs.length (ql.map (·.2)) x.1).map fun q=>(q,x.2))++((Zr P'.cs.length (ql.map (·.2)) q).map fun r=>(r,th)).take j))
    ⟨_,_,us,rfl,kp3,s3 _ _ e2,l2,by rw [List.take_zero,List.append_nil];exact a2.imp fun v x r=>Zle _ _ v x s3.tk r⟩ ?_ ?_ ?_
   · rintro j σ H' _ ⟨_,_,_,_,kp',_⟩
     exact SqT.of (kp' _ _ nbW hb8)
   · rintro j x σ H' hx ⟨w11',w12',us',rfl,kp',e',l',a'⟩
     rw [n7_] at hx;obtain ⟨cc,ec,rfl⟩:=n14_.mp hx;have hj:=Yt ec;have el':=kp' _ _ nlW el8;have tp':∀ x∈ql,tpl H' x:=fun x hx=>kp' _ _ (ntp x hx) (tp8 x hx);have mid':=mid.keep kp' nMW;have hb':=kp' _ _ nbW hb8;obtain ⟨m1,m2,mlt,em,eq3⟩:=E.own2 tr3 mq (bd3 q mq) ec;refine ⟨_,rfl,l,rfl,⟨_,SqL.of el'⟩,fun G nG=>?_⟩;refine Zn6 (n:=P'.cs.length) (fun s=>decide (cc∈s)&&(decide (s.getD 0 0∈q)&&decide (s.getD 1 0∈q))) el' lq nG (fun y hy G2 Q s2 k=>?_) (fun y hy G2 Q s2 k=>Znc (im:=3) (mid'.same s2) hy (s2 _ _ (tp' y hy)) rfl rfl k) (fun G2 s2 eG=>?_)
     · obtain ⟨i1,j1,e1,t1'⟩:=Zon ok E hy (s2 _ _ (tp' y hy));rw [e1] at k;refine ⟨_,rfl,_,rfl,Znf (ns:=[i1,j1]) (SqT.of t1') ⟨_,rfl,?_⟩⟩
       by_cases h:cc∈[i1,j1]
       · rw [n32_ h] at k ⊢;exact iteT (Zq6 (ip:=2) rfl rfl t1' (s2 _ _ hb') k)
       · rw [n36_ h] at k ⊢;exact iteF k
     · rw [em] at eG;refine ⟨_,rfl,.inl ⟨rfl,_,SqL.of (s2 _ _ e')⟩,_,rfl,_,rfl,Zu8 mlt (SqL.of eG) ⟨_,rfl,Zt4 mlt (SqL.of eG) ⟨z3_,fun T1 nT1=>?_⟩⟩⟩;generalize gG:upd G2 T1 (.tup [.int cc,.int m1,.int m2])=G3;obtain ⟨s4',e4'⟩:=gen_upd gG nT1;refine ⟨_,rfl,z2_,fun T2 nT2=>?_⟩;generalize gG:upd G3 T2 (.tup [.ref T1,.int th])=G4;obtain ⟨s5',e5'⟩:=gen_upd gG nT2;have sG:=s2.trans (s4'.trans s5');obtain ⟨r1,r2,r3,r4⟩:=Zkh (r:=[cc,m1,m2]) kp' sG e' a' (s5' _ _ e4') e5' l';refine ⟨W,us',_,rfl,rfl,sG _ _ e',by rw [sizeLine_eq];omega,_,_,_,rfl,r1,r2,by rw [r3];omega,?_⟩;rw [n61_,n7_,eq3,← n49_];exact r4
   · rintro σ H' ⟨w11',w12',us',rfl,kp',e',l',a'⟩
     rw [n5_,lq3] at l' a';have el':=kp' _ _ nlW el8;have tp':∀ x∈ql,tpl H' x:=fun x hx=>kp' _ _ (ntp x hx) (tp8 x hx);have mid':=mid.keep kp' nMW;have hb':=kp' _ _ nbW hb8;obtain ⟨k1,k2,k3,kl1,kl2,em,eq3⟩:=E.own3 tr3 mq (bd3 q mq);refine ⟨_,rfl,.inl ⟨rfl,_,SqL.of e'⟩,_,rfl,l,rfl,⟨_,SqL.of el'⟩,fun G nG=>?_⟩;refine Zn6 (n:=P'.cs.length) (fun s=>decide (s.getD 0 0∈q)&&decide (s.getD 1 0∈q)) el' lq nG (fun y hy G2 Q s2 k=>?_) (fun y hy G2 Q s2 k=>Znc (im:=2) (mid'.same s2) hy (s2 _ _ (tp' y hy)) rfl rfl k) (fun G2 s2 eG=>?_)
     · obtain ⟨i1,j1,e1,t1'⟩:=Zon ok E hy (s2 _ _ (tp' y hy));rw [e1] at k;exact Zq6 (ip:=1) rfl rfl t1' (s2 _ _ hb') k
     · rw [em] at eG;refine ⟨G,[k1,k2,k3],rfl,SqL.of eG,(by decide:3<64),fun S ns nS pmS soS=>?_⟩
       have:ns=[k1,k2,k3]:=(Zbo pmS soS).trans (Zbo (.refl _) (by simp;omega)).symm
       subst this;generalize gG:upd G2 S (.lst ([k1,k2,k3].map V.int))=G3;obtain ⟨s4',e4'⟩:=gen_upd gG nS;refine ⟨S,_,rfl,.inl ⟨SqL.of e4',fun T1 nT1=>?_⟩⟩;generalize gG:upd G3 T1 (.tup ([k1,k2,k3].map V.int))=G4;obtain ⟨s5',e5'⟩:=gen_upd gG nT1;refine ⟨_,rfl,z2_,fun T2 nT2=>?_⟩;generalize gG:upd G4 T2 (.tup [.ref T1,.int th])=G5;obtain ⟨s6',e6'⟩:=gen_upd gG nT2;have sG:=s2.trans (s4'.trans (s5'.trans s6'));obtain ⟨r1,r2,r3,r4⟩:=Zkh (r:=[k1,k2,k3]) kp' sG e' a' (s6' _ _ e5') e6' l';refine ⟨W,us',_,rfl,rfl,sG _ _ e',by rw [sizeLine_eq];omega,_,_,_,_,_,rfl,r1,r2,by rw [r3];omega,?_⟩;rw [n61_,ez,List.flatMap_append];refine (congrArg (Al (IsPr _) _) ?_).mp r4;have e4:((Zr P'.cs.length (ql.map (·.2)) q).map fun r=>(r,th))[3]? = some ([k1,k2,k3],th):=by rw [n7_,eq3];rfl
       have h:=n61_ (l:=(Zr P'.cs.length (ql.map (·.2)) q).map fun r=>(r,th)) (i:=3);rw [e4,n45_ (by simp [Zr])] at h;rw [n49_];exact congrArg _ (h.symm.trans ?g)
 · obtain ⟨w9,w10,w11,w12,us,rfl,kp,e2,l2,a2⟩:=pp;rw [n45_ (?d)] at a2;obtain ⟨al,rfl,pal2,eal⟩:=Zni a2
   have lal:al.length≤16:=by
    have h1:=congrArg List.length eal;rw [n5_,Zit,List.length_zip] at h1;omega
   have kal:al.map (·.k)=P'.ps.flatMap (Zr P'.cs.length (ql.map (·.2))):=by
    have h1:=congrArg (List.map (·.1)) eal;rw [n64_,Zo5 t1] at h1;exact h1
   refine ⟨_,rfl,W,al,rfl,SqL.of e2,pal2,by rw [kal];exact E.nd4 tr3 bd3 (Zvs ok),?d,fun l2 ql2 nl2 pm2 rs2=>?_⟩;have s9:Same H2 (upd H2 l2 (.lst (Zai ql2))):=Same.new nl2;have e9:upd H2 l2 (.lst (Zai ql2)) l2=some (.lst (Zai ql2)):=Zc;have pi9:∀ x∈ql2,pi2 (upd H2 l2 (.lst (Zai ql2))) x:=fun x hx=>let ⟨h1,h2⟩:=pal2 x (pm2.mem_iff.mp hx);⟨s9 _ _ h1,s9 _ _ h2⟩;generalize upd H2 l2 (.lst (Zai ql2))=H9 at s9 e9 pi9 ⊢;have lq2:=pm2.length_eq;have nDW:D0≠W:=fun z=>by rw [← z] at eW;rw [s5 _ _ (s4 _ _ eW)] at nD0;cases nD0
   have s09:Same H H9:=fun b o eb=>s9 _ _ (kp _ _ (Zi eb fW) (s08 _ _ eb));have tk89:Tk H8 H9:=fun b xs eb=>s9 _ _ (kp _ _ (Zim eb eW8 (by intro z;cases z)) eb);exact Zju (ip:=7) (ir:=6) (is:=4) rfl rfl rfl (s9 _ _ (kp _ _ nDW (s68 _ _ e6))) (a6.imp fun v x r=>(r.tk s68.tk).tk tk89) e9 pi9 (?d) (s09 _ _ hst) E rs2 (by rw [← eal];exact pm2.map _) fun H' v' P2 sA i2 F2=>q H' v' P2 _ (s09.trans sA) i2 F2
abbrev Zfn:Stmt:=top 54
theorem Zvx (F:Fun K "law" "law" Zfn f fd) (Caa_:a34_ P w K mg base) (Cm_:a35_ P w K mg base) (Cae_:a36_ P w K mg base) (Cab_:a37_ P w K mg base) (Caf_:a38_ P w K mg base) (Ch_:a21_ P w K mg base) (Cag_:a39_ P w K mg base) (Cao_:a40_ P w K mg base):FnOk P w K mg base CX0 12 f fd ["_law_script"] (Zkr K):=by
 have sc:FnScope ["_law_script","_law_nth","_law_state_here","_law_sheet","_law_stood","_law_due","_law_found"] ["_law_script"] (Zf Zfn):=fsc (?j);refine F.ok sc (fun vs H Q E h=>by obtain ⟨a,ns,rfl,_⟩:=h;rfl) ?z;obtain ⟨a,ns,rfl,hS,hlen,q⟩:=h;have nd:=sc.nd;refine' ?A
 case term=>refine' Zd ?g1 (Zj (Zo X7));case g1=>refine' Zac PassesOwn.never rfl (Zhx rfl T.b_range (Za (Zk (Zge rfl) rfl T.b_max Zoo (Za Zg (Za (Zk (Zmv rfl) rfl T.b_min Zru (Za (Zk Zp rfl T.b_len Yw (Za (pv 0) Zb rfl)) (Za Zg Zb rfl) rfl)) Zb rfl) rfl)) Zb rfl)) (Zl (i:=1) nd rfl ?s) ?g2;case g2=>refine' Zd (Z1 (i:=2) nd rfl ?s (Zm Cab_ hr ?f rfl (Za (pv 0) (Za (pv 1) Zb rfl) rfl))) ?g3;case g3=>refine' Zj ?g4;case g4=>refine' Zac PassesOwn.never rfl (Yo (Xd (Za (Zm Cm_ hr ?f rfl (Za (pv 2) (Za Zg Zb rfl) rfl)) (Za (Zm Cm_ hr ?f rfl (Za (pv 2) (Za Zg Zb rfl) rfl)) Zb rfl) rfl))) (Zl (i:=3) nd rfl ?s) ?g5;case g5=>refine' Zd (Zoh rfl nd (i:=4) (j:=5) rfl rfl ?f rfl rfl (Za (Zk (Zeg hr) rfl T.b_repr Zf6 (Za (pv 3) Zb rfl)) (Za (Zm Caa_ hr ?f rfl (Za (pv 3) Zb rfl)) Zb rfl) rfl) rfl) ?g6;case g6=>refine' Zd (Z1 (i:=6) nd rfl ?s (Zm Caf_ hr ?f rfl (Za (pv 3) Zb rfl))) ?g7;case g7=>refine' Zd ?g8 (Zd (Xo (PW.pt (Ziw (Yn Zk7 (Zm Ch_ hr ?f rfl (Za (pv 6) Zb rfl)) X7 (Y1 _)) (Zdx (Yn Zqs (Zm Cao_ hr ?f rfl (Za (pv 6) Zb rfl)) (Zv Yh Zg (Zm Cao_ hr ?f rfl (Za (pv 3) Zb rfl))) (Y1 _))))) (Zj (Zo X7)) Z4) (Zj (Xo (Yn Zqs (Zk Zp rfl T.b_len Yw (Za (Zm Cag_ hr ?f rfl (Za (pv 6) Zb rfl)) Zb rfl)) (Zk Zp rfl T.b_len Yw (Za (Zm Cag_ hr ?f rfl (Za (pv 3) Zb rfl)) Zb rfl)) (Y1 _)) (Zj (Zo X7)) Z4)));case g8=>refine' Xo ?g9 (Zj (Zo X7)) Z4;case g9=>refine' PW.pt ?ga;case ga=>refine' Ziw ?gb (Zdx (Yn Zqs (Zk (Zeg hr) rfl T.b_repr Zf6 (Za (pv 3) Zb rfl)) (pv 4) (Y1 _)));case gb=>refine' Xc ?gc;case gc=>refine' Z0 (Zm Cae_ hr ?f rfl (Za (Xd (Za (pv 6) (Za (Zm Caf_ hr ?f rfl (Za (pv 3) Zb rfl)) Zb rfl) rfl)) (Za (Xd (Za (pv 5) (Za (pv 5) Zb rfl) rfl)) Zb rfl) rfl)) (fun _=>rfl)
 refine ⟨_,rfl,a,_,rfl,.inl hS,_,_,rfl,_,_,rfl,_,rfl,?_,?_,?_⟩
 · split<;>(try split)<;>omega
 · rw [n5_];split<;>(try split)<;>omega
 refine Znv (fun i σ H2=>∃ v1 v2 v3 v4 v5 v6:Option V,σ=[some (.ref a),v1,v2,v3,v4,v5,v6]∧Same H H2) ⟨_,_,_,_,_,_,rfl,Same.refl H⟩ ?_ ?_
 rotate_left
 · rintro σ H9 ⟨v1,v2,v3,v4,v5,v6,rfl,s9⟩
   exact q H9
 rintro i σ H2 _ ⟨v1,v2,v3,v4,v5,v6,rfl,s2⟩
 refine ⟨_,rfl,_,rfl,a,ns,i,by rw [Int.zero_add],s2.seq hS,fun l H3 nl s3 st3=>?_⟩;refine ⟨_,rfl,l,8,rfl,st3,by decide,by decide,fun H6 x1 P1 k6 st6 hP1 ok1 n1 c1 w1 d1=>⟨_,rfl,l,5,rfl,st6,by decide,by decide,fun H7 x2 P2 k7 st7 hP2 ok2 n2 c2 w2 d2=>⟨z2_,fun LL nL=>?_⟩⟩⟩
 have K27:Same H H7:=fun b o e=>by
  have e2:=s2 _ _ e;have nb:=Zi e2 nl;exact k7 _ _ nb (k6 _ _ nb (s3 _ _ e2))
 have S9:Same H7 (upd H7 LL (.lst [x1,x2])):=Same.new nL;have e9:upd H7 LL (.lst [x1,x2]) LL=some (.lst [x1,x2]):=Zc
 have TP:∀ z∈([x1,x2]:List V),∃ P',IsPl (upd H7 LL (.lst [x1,x2])) z P'∧PlOk P'∧P'.ps.length≤4∧P'.cs.length≤6∧Wide P'∧DrF P':=by
  intro z hz;simp only [n9_,n10_,or_false] at hz
  rcases hz with rfl|rfl
  · exact ⟨P1,(hP1.tk (tkS k7 st6)).tk S9.tk,ok1,n1,c1,w1,d1⟩
  · exact ⟨P2,hP2.tk S9.tk,ok2,n2,c2,w2,d2⟩
 generalize ([x1,x2]:List V)=XS at TP S9 e9 ⊢;generalize upd H7 LL (.lst XS)=H9 at TP S9 e9 ⊢;refine ⟨LL,rfl,⟨_,SqL.of e9⟩,?_⟩;refine Zc6 (xs:=XS) (fun i σ H2=>∃ u1 u3 u4 u5 u6:Option V,σ=[some (.ref a),u1,some (.ref l),u3,u4,u5,u6]∧Same H9 H2) ⟨_,_,_,_,_,rfl,Same.refl _⟩ ?_ ?_ ?_
 · rintro i σ G _ ⟨_,_,_,_,_,_,g⟩
   exact SqL.of (g _ _ e9)
 · rintro i z σ G hz ⟨u1,u3,u4,u5,u6,rfl,g⟩
   obtain ⟨P',hP0,ok,p4,c6,wd,pts,pcs,A,o,kl,q',D,hps,S⟩:=TP z (n6_ hz);have hP:=hP0.tk g.tk;refine ⟨_,rfl,(fun _=>False),64,z,_,rfl,dtPl hP ok ?f,by decide,n53_ (Zjd _) ?f,n53_ (nzPl ok) ?f,_,rfl,z,P',rfl,hP,ok,p4,c6,wd,fun Ga va Pa ka ga ia Fa=>⟨_,_,rfl,?_⟩⟩;refine ⟨_,rfl,z,P',rfl,hP.tk ga.tk,ok,p4,c6,wd,fun Gb vb Pb kb gb ib Fb=>?_⟩;obtain rfl:=Fa.eq Fb;have okF:=Zu3 Fa ok D hps S wd;have l20:Pa.ps.length≤20:=by rw [Zvg Fa ok.t1];omega
   have gab:=ga.trans gb;refine ⟨_,rfl,_,rfl,z,P',rfl,hP.tk gab.tk,ok,p4,c6,wd,fun Gc vc Pc kc gc ic Fc=>⟨z2_,fun L1 n1=>?_⟩⟩;obtain rfl:=Fa.eq Fc;generalize gG:upd Gc L1 (.lst [vb,vc])=Gd;obtain ⟨gd,ed⟩:=gen_upd gG n1;refine ⟨_,rfl,_,rfl,z2_,fun L2 n2=>?_⟩;generalize gG:upd Gd L2 (.lst [va,va])=Ge;obtain ⟨ge,ee⟩:=gen_upd gG n2;have gce:=gc.trans (gd.trans ge);have gae:=gab.trans gce;have ib':=ib.tk gce.tk;have ia':=ia.tk (gb.trans gce).tk;have hP':=hP.tk gae.tk;refine ⟨L1,L2,vb,vc,va,va,Pa,rfl,ge _ _ ed,ee,ib',ic.tk (gd.trans ge).tk,ia',ia',okF,_,rfl,iteF ?_⟩;refine ⟨_,rfl,(fun _=>False),64,z,_,rfl,dtPl hP' ok ?f,by decide,n53_ (Zjd _) ?f,n53_ (nzPl ok) ?f,_,rfl,rfl,_,rfl,?_⟩;rw [n32_ rfl];refine iteF ?_;refine ⟨_,rfl,vb,Pa,rfl,ib',okF,fun Gf gf=>⟨true,rfl,rfl,_,rfl,iteF ?_⟩⟩;have hPf:=hP'.tk gf.tk;refine ⟨_,rfl,vb,Pa,rfl,ib'.tk gf.tk,okF,l20,fun Gg gg=>⟨_,rfl,z,P',rfl,hPf.tk gg.tk,ok,?d,fun Gh gh=>⟨_,_,rfl,rfl,⟨Xp ?f,Xp (Nat.lt_of_le_of_lt (Zsa ok) (by show _<18446744073709551616;omega))⟩,rfl,_,rfl,?_⟩⟩⟩;rw [Fa.room ok,n32_ rfl];refine iteF ?_;have gfh:=gf.trans (gg.trans gh);refine ⟨_,rfl,vb,Pa,rfl,ib'.tk gfh.tk,okF,l20,fun Gi r1 al1 gi nr1 er1 tp1 po1=>⟨r1,_,rfl,.inl (SqL.of er1),_,rfl,z,P',rfl,(hP'.tk gfh.tk).tk gi.tk,ok,?d,fun Gj r2 al2 gj nr2 er2 tp2 po2=>⟨r2,_,rfl,.inl (SqL.of er2),rfl,_,rfl,?_⟩⟩⟩;have lp:=Fa.parts ok po1 po2;rw [n5_,n5_] at lp;rw [n5_,n5_,lp,n32_ rfl];exact iteF ⟨_,_,_,_,_,rfl,g.trans (gae.trans (gfh.trans (gi.trans gj)))⟩
 · rintro σ G ⟨u1,u3,u4,u5,u6,rfl,g⟩
   exact ⟨_,_,_,_,_,_,rfl,K27.trans (S9.trans g)⟩
end
structure Lk (K:PySem.W.Frag) (b:Str) (st:Stmt) (f:Addr):Prop where
 fn:∃ fd,Fun K b b st f fd
 a:PySem.W.nsIn K mainGlobals b=some (some (.ref f))
 k:PySem.W.keepIn K (.ref f)=true
theorem Zwp {K:PySem.W.Frag} {b:Str} {st:Stmt} {f:Addr} {od an:Option Addr} {sl:Array (Option Value)} {oc kV dc pm cd ct:Value} (a:PySem.W.nsIn K mainGlobals b=some (some (.ref f))) (l:K.lookup f=some ⟨oc,od,.func (PySem.W.fnOf b b (X1 st) (Xh st) (Zf st) .none kV dc pm an cd ct),sl⟩) (c:PySem.W.codeIn K cd b=true) (k:PySem.W.keepIn K (.ref f)=true):Lk K b st f:=⟨⟨_,Zrq (st:=st) l c k⟩,a,k⟩
theorem Lk.cal {P:Program} {w:World} {K:PySem.W.Frag} {h:Heap} {mg:Str→Option Value} {base:Heap} {b:Str} {st:Stmt} {f:Addr} {k:Nat} {ps:List Str} {sp:Sp} (L:Lk K b st f) (X:K.In h) (G:h.Ns mainGlobals mg) (ok:∀ {fd},Fun K b b st f fd→FnOk P w K mg base CX0 k f fd ps sp) (hb:∀ (kV doc pm:Value) (an:Option Addr) (cdv ct:Value) (us:?q),us.length=ps.length→bindArgs (PySem.W.fnOf b b (X1 st) (Xh st) (Zf st) .none kV doc pm an cdv ct) ⟨us,[]⟩=pure (ps.zip us)):Cal P w K mg base b k ps sp :=
 let ⟨_,F⟩:=L.fn
 ⟨f,_,ok F,PySem.W.mg_of X G L.a,L.k,F.binds (ps:=ps) hb⟩
theorem lnS {n:Nat} {P:?q→Prop} (h:∀ x us,us.length=n→P (x :: us)):∀ us:?q,us.length=n+1→P us:=fun us e=>by
 cases us with
 | nil=>cases e
 | cons x t=>exact h x t (Nat.succ.inj e)
theorem ln0 {P:?q→Prop} (h:P []):∀ us:?q,us.length=0→P us:=fun us e=>by
 cases us with
 | nil=>exact h
 | cons x t=>cases e
theorem ln1 {P:?q→Prop} (h:∀ x0,P [x0]):∀ us:?q,us.length=1→P us:=lnS fun x0=>ln0 (P:=fun us=>P (x0 :: us)) (h x0)
theorem ln2 {P:?q→Prop} (h:∀ x0 x1,P [x0,x1]):∀ us:?q,us.length=2→P us:=lnS fun x0=>ln1 (P:=fun us=>P (x0 :: us)) (h x0)
theorem ln3 {P:?q→Prop} (h:∀ x0 x1 x2,P [x0,x1,x2]):∀ us:?q,us.length=3→P us:=lnS fun x0=>ln2 (P:=fun us=>P (x0 :: us)) (h x0)
theorem Zuk {l:PySem.W.OpenLaw} {w:World} {K:PySem.W.Frag} {h:Heap} {mg:Str→Option Value} {fa:Addr} (X:K.In h) (G:h.Ns mainGlobals mg) (hfa:mg "law" = some (.ref fa))
 {f_0:Addr} (h_0:Lk K "is_whole" Zcb f_0)
 {f_1:Addr} (h_1:Lk K "is_between" Zau f_1)
 {f_2:Addr} (h_2:Lk K "is_row" Zf2 f_2)
 {f_3:Addr} (h_3:Lk K "are_rising" Zan f_3)
 {f_4:Addr} (h_4:Lk K "is_corner" Zbl f_4)
 {f_5:Addr} (h_5:Lk K "are_corners" Zam f_5)
 {f_6:Addr} (h_6:Lk K "turn" Zn2 f_6)
 {f_7:Addr} (h_7:Lk K "turn_of" Zdk f_7)
 {f_8:Addr} (h_8:Lk K "is_piece" Za9 f_8)
 {f_9:Addr} (h_9:Lk K "are_pieces" Xv f_9)
 {f_10:Addr} (h_10:Lk K "are_thicks" Zay f_10)
 {f_11:Addr} (h_11:Lk K "is_stuff" Zcc f_11)
 {f_12:Addr} (h_12:Lk K "triangle" Za7 f_12)
 {f_13:Addr} (h_13:Lk K "edges" Zi5 f_13)
 {f_14:Addr} (h_14:Lk K "lies_in" Zbx f_14)
 {f_15:Addr} (h_15:Lk K "parts_from" Xs f_15)
 {f_16:Addr} (h_16:Lk K "are_apart" Zbe f_16)
 {f_17:Addr} (h_17:Lk K "every_corner_is_used" Yl f_17)
 {f_18:Addr} (h_18:Lk K "no_strange_corner" Z5 f_18)
 {f_19:Addr} (h_19:Lk K "fit_together" Yr f_19)
 {f_20:Addr} (h_20:Lk K "is_plate" Zch f_20)
 {f_21:Addr} (h_21:Lk K "look_at_plate" Xm f_21)
 {f_22:Addr} (h_22:Lk K "sides_of" Zcg f_22)
 {f_23:Addr} (h_23:Lk K "owners" Zf0 f_23)
 {f_24:Addr} (h_24:Lk K "neighbours" Za3 f_24)
 {f_25:Addr} (h_25:Lk K "part_of" Zdc f_25)
 {f_26:Addr} (h_26:Lk K "parts" Zfl f_26)
 {f_27:Addr} (h_27:Lk K "room" Zj5 f_27)
 {f_28:Addr} (h_28:Lk K "look_at_finer" Xl f_28)
 {f_29:Addr} (h_29:Lk K "quarters" Za6 f_29)
 {f_30:Addr} (h_30:Lk K "finer" Zcf f_30)
 {f_31:Addr} (h_31:Lk K "_law_cell_at" Xx f_31)
 {f_32:Addr} (h_32:Lk K "_law_state" Za4 f_32)
 {f_33:Addr} (h_33:Lk K "_law_choice" Zag f_33)
 {f_34:Addr} (h_34:Lk K "_law_order" Zav f_34)
 {f_35:Addr} (h_35:Lk K "_law_shapes" Zae f_35)
 {f_36:Addr} (h_36:Lk K "_law_plate" Y4 f_36)
 {f_37:Addr} (h_37:Lk K "_law_same" Zbf f_37)
 {f_38:Addr} (h_38:Lk K "_law_sides" Za0 f_38)
 {f_39:Addr} (h_39:Lk K "_law_finer" Ym f_39)
 {f_law:Addr} {od_law an_law:Option Addr} {sl_law:Array (Option Value)} {oc_law kV_law dc_law pm_law cd_law ct_law:Value}
 (a_law:PySem.W.nsIn K mainGlobals "law" = some (some (.ref f_law)))
 (l_law:K.lookup f_law=some ⟨oc_law,od_law,.func (PySem.W.fnOf "law" "law" (X1 Zfn) (Xh Zfn) (Zf Zfn) .none kV_law dc_law pm_law an_law cd_law ct_law),sl_law⟩)
 (c_law:PySem.W.codeIn K cd_law "law" = true) (k_law:PySem.W.keepIn K (.ref f_law)=true)
 (z_abs:PySem.W.nsIn K mainGlobals "abs" = some none)
 (z_all:PySem.W.nsIn K mainGlobals "all" = some none)
 (z_any:PySem.W.nsIn K mainGlobals "any" = some none)
 (z_bool:PySem.W.nsIn K mainGlobals "bool" = some none)
 (z_dict:PySem.W.nsIn K mainGlobals "dict" = some none)
 (z_enumerate:PySem.W.nsIn K mainGlobals "enumerate" = some none)
 (z_int:PySem.W.nsIn K mainGlobals "int" = some none)
 (z_isinstance:PySem.W.nsIn K mainGlobals "isinstance" = some none)
 (z_len:PySem.W.nsIn K mainGlobals "len" = some none)
 (z_list:PySem.W.nsIn K mainGlobals "list" = some none)
 (z_max:PySem.W.nsIn K mainGlobals "max" = some none)
 (z_min:PySem.W.nsIn K mainGlobals "min" = some none)
 (z_range:PySem.W.nsIn K mainGlobals "range" = some none)
 (z_repr:PySem.W.nsIn K mainGlobals "repr" = some none)
 (z_set:PySem.W.nsIn K mainGlobals "set" = some none)
 (z_sorted:PySem.W.nsIn K mainGlobals "sorted" = some none)
 (z_sum:PySem.W.nsIn K mainGlobals "sum" = some none)
 (z_tuple:PySem.W.nsIn K mainGlobals "tuple" = some none)
 (z_zip:PySem.W.nsIn K mainGlobals "zip" = some none)
 {tn_FARTHEST:Tok} (n_FARTHEST:PySem.W.nsIn K mainGlobals "FARTHEST" = some (some (.int 100 tn_FARTHEST)))
 {tn_FEWEST_CORNERS:Tok} (n_FEWEST_CORNERS:PySem.W.nsIn K mainGlobals "FEWEST_CORNERS" = some (some (.int 3 tn_FEWEST_CORNERS)))
 {tn_MOST_CORNERS:Tok} (n_MOST_CORNERS:PySem.W.nsIn K mainGlobals "MOST_CORNERS" = some (some (.int 30 tn_MOST_CORNERS)))
 {tn_MOST_PIECES:Tok} (n_MOST_PIECES:PySem.W.nsIn K mainGlobals "MOST_PIECES" = some (some (.int 40 tn_MOST_PIECES)))
 {tn_MOST_STUFF:Tok} (n_MOST_STUFF:PySem.W.nsIn K mainGlobals "MOST_STUFF" = some (some (.int 9 tn_MOST_STUFF)))
 {tn_THICKEST:Tok} (n_THICKEST:PySem.W.nsIn K mainGlobals "THICKEST" = some (some (.int 9 tn_THICKEST)))
 : ∃ fd:FuncData,(∀ (s:Shared) (v:Value),BindsTo s fd ⟨[v],[]⟩ [("_law_script",v)])∧∀ base:Heap,K.In base→base.Ns mainGlobals mg→FnOk l.prog w K mg base CX0 12 fa fd ["_law_script"] (Zkr K):=by
 have e:=hfa.symm.trans (PySem.W.mg_of X G a_law);cases e
 have T:Bt mg:=⟨n37_ X G z_abs,n37_ X G z_all,n37_ X G z_any,n37_ X G z_bool,n37_ X G z_dict,n37_ X G z_enumerate,n37_ X G z_int,n37_ X G z_isinstance,n37_ X G z_len,n37_ X G z_list,n37_ X G z_max,n37_ X G z_min,n37_ X G z_range,n37_ X G z_repr,n37_ X G z_set,n37_ X G z_sorted,n37_ X G z_sum,n37_ X G z_tuple,n37_ X G z_zip,⟨_,PySem.W.mg_of X G n_FARTHEST⟩,⟨_,PySem.W.mg_of X G n_FEWEST_CORNERS⟩,⟨_,PySem.W.mg_of X G n_MOST_CORNERS⟩,⟨_,PySem.W.mg_of X G n_MOST_PIECES⟩,⟨_,PySem.W.mg_of X G n_MOST_STUFF⟩,⟨_,PySem.W.mg_of X G n_THICKEST⟩⟩;have F_law:=Zrq (st:=Zfn) l_law c_law k_law;refine ⟨PySem.W.fnOf "law" "law" (X1 Zfn) (Xh Zfn) (Zf Zfn) .none kV_law dc_law pm_law an_law cd_law ct_law,fun s v=>.of_eq rfl,fun base _ _=>?_⟩;have C_0:a0_ l.prog w K mg base:=h_0.cal X G (fun F=>Zi0 T F) fun _ _ _ _ _ _=>ln1 fun _=>rfl;have C_1:a1_ l.prog w K mg base:=h_1.cal X G (fun F=>Zf5 T F C_0) fun _ _ _ _ _ _=>ln3 fun _ _ _=>rfl;have C_2:a2_ l.prog w K mg base:=h_2.cal X G (fun F=>Zmn T F) fun _ _ _ _ _ _=>ln3 fun _ _ _=>rfl;have C_x3:a5_ l.prog w K mg base:=h_3.cal X G (fun F=>Zd4 T F) fun _ _ _ _ _ _=>ln1 fun _=>rfl;have C_x4:a7_ l.prog w K mg base:=h_3.cal X G (fun F=>Zd1 T F) fun _ _ _ _ _ _=>ln1 fun _=>rfl;have C_4:a3_ l.prog w K mg base:=h_4.cal X G (fun F=>Zhg T F C_1 C_2) fun _ _ _ _ _ _=>ln1 fun _=>rfl;have C_5:a15_ l.prog w K mg base:=h_5.cal X G (fun F=>Zdz T F C_4 C_2) fun _ _ _ _ _ _=>ln1 fun _=>rfl;have C_6:a4_ l.prog w K mg base:=h_6.cal X G (fun F=>Zsy T F) fun _ _ _ _ _ _=>ln3 fun _ _ _=>rfl;have C_7:a6_ l.prog w K mg base:=h_7.cal X G (fun F=>Zk8 T F C_6) fun _ _ _ _ _ _=>ln2 ?l;have C_8:a8_ l.prog w K mg base:=h_8.cal X G (fun F=>Zis T F C_x3 C_1 C_2 C_7) fun _ _ _ _ _ _=>ln2 ?l;have C_9:a16_ l.prog w K mg base:=h_9.cal X G (fun F=>Ze8 T F C_x4 C_8 C_2) fun _ _ _ _ _ _=>ln2 ?l;have C_10:a17_ l.prog w K mg base:=h_10.cal X G (fun F=>Zf4 T F C_1 C_2) fun _ _ _ _ _ _=>ln2 ?l;have C_11:a20_ l.prog w K mg base:=h_11.cal X G (fun F=>Zjh T F C_1 C_2) fun _ _ _ _ _ _=>ln1 fun _=>rfl;have C_12:a14_ l.prog w K mg base:=h_12.cal X G (fun F=>Zin T F C_6) fun _ _ _ _ _ _=>ln2 ?l
 have C_13:a9_ l.prog w K mg base:=h_13.cal X G (fun F=>Zpy T F) fun _ _ _ _ _ _=>ln1 fun _=>rfl;have C_14:a11_ l.prog w K mg base:=h_14.cal X G (fun F=>Zlv T F C_13 C_6) fun _ _ _ _ _ _=>ln2 ?l;have C_15:a10_ l.prog w K mg base:=h_15.cal X G (fun F=>Zfd T F C_13 C_6) fun _ _ _ _ _ _=>ln2 ?l;have C_16:a12_ l.prog w K mg base:=h_16.cal X G (fun F=>Zhq T F C_15) fun _ _ _ _ _ _=>ln2 ?l;have C_17:a18_ l.prog w K mg base:=h_17.cal X G (fun F=>Zaj T F) fun _ _ _ _ _ _=>ln2 ?l;have C_18:a13_ l.prog w K mg base:=h_18.cal X G (fun F=>Zbc T F C_14) fun _ _ _ _ _ _=>ln3 fun _ _ _=>rfl;have C_19:a19_ l.prog w K mg base:=h_19.cal X G (fun F=>Zdt T F C_16 C_18 C_12) fun _ _ _ _ _ _=>ln2 ?l;have C_20:a21_ l.prog w K mg base:=h_20.cal X G (fun F=>Zii T F C_5 C_9 C_10 C_17 C_19 C_2 C_11) fun _ _ _ _ _ _=>ln1 fun _=>rfl;have C_21:a24_ l.prog w K mg base:=h_21.cal X G (fun F=>Zc1 T F C_20) fun _ _ _ _ _ _=>ln1 fun _=>rfl;have C_22:a22_ l.prog w K mg base:=h_22.cal X G (fun F=>Zi8 T F) fun _ _ _ _ _ _=>ln1 fun _=>rfl;have C_23:a23_ l.prog w K mg base:=h_23.cal X G (fun F=>Znk T F C_22) fun _ _ _ _ _ _=>ln1 fun _=>rfl;have C_24:a25_ l.prog w K mg base:=h_24.cal X G (fun F=>Zfe T F C_23) fun _ _ _ _ _ _=>ln1 fun _=>rfl;have C_25:a26_ l.prog w K mg base:=h_25.cal X G (fun F=>Zlu T F) fun _ _ _ _ _ _=>ln2 ?l;have C_26:a39_ l.prog w K mg base:=h_26.cal X G (fun F=>Zpn T F C_21 C_24 C_25) fun _ _ _ _ _ _=>ln1 fun _=>rfl;have C_27:a40_ l.prog w K mg base:=h_27.cal X G (fun F=>Zt3 T F C_21 C_7) fun _ _ _ _ _ _=>ln1 fun _=>rfl;have C_28:a27_ l.prog w K mg base:=h_28.cal X G (fun F=>Zc2 T F C_21 C_23) fun _ _ _ _ _ _=>ln1 fun _=>rfl;have C_29:a28_ l.prog w K mg base:=h_29.cal X G (fun F=>Ziy T F C_22) fun _ _ _ _ _ _=>ln2 ?l;have C_30:a38_ l.prog w K mg base:=h_30.cal X G (fun F=>Zpe T F C_28 C_23 C_29) fun _ _ _ _ _ _=>ln1 fun _=>rfl;have C_31:a29_ l.prog w K mg base:=h_31.cal X G (fun F=>Zdm T F) fun _ _ _ _ _ _=>ln2 ?l;have C_32:a37_ l.prog w K mg base:=h_32.cal X G (fun F=>Zfu T F C_31) fun _ _ _ _ _ _=>ln2 ?l
 have C_33:a30_ l.prog w K mg base:=h_33.cal X G (fun F=>Zd6 T F) fun _ _ _ _ _ _=>ln2 ?l;have C_34:a31_ l.prog w K mg base:=h_34.cal X G (fun F=>Zgd T F C_33) fun _ _ _ _ _ _=>ln2 ?l;have C_35:a32_ l.prog w K mg base:=h_35.cal X G (fun F=>Zd0 T F) fun _ _ _ _ _ _=>ln0 rfl;have C_36:a35_ l.prog w K mg base:=h_36.cal X G (fun F=>Ze6 T F C_33 C_34 C_35) fun _ _ _ _ _ _=>ln2 ?l;have C_37:a36_ l.prog w K mg base:=h_37.cal X G (fun F=>Zg9 T F) fun _ _ _ _ _ _=>ln2 ?l;have C_38:a33_ l.prog w K mg base:=h_38.cal X G (fun F=>Zfz T F) fun _ _ _ _ _ _=>ln1 fun _=>rfl;have C_39:a34_ l.prog w K mg base:=h_39.cal X G (fun F=>Zfs T F C_38) fun _ _ _ _ _ _=>ln1 fun _=>rfl;exact Zvx T F_law C_39 C_36 C_37 C_32 C_30 C_20 C_26 C_27
theorem walk {l:PySem.W.OpenLaw} {q:Program} {loose:List Str} {XP:(Str→Option Value)→Heap→Prop} {YP:World→Heap→Prop} {d:DefRec} {K:Params→PySem.W.Frag} (hn:l.most=some 63) (hdf:d.params.defaults=[])
 (hY:∀ (w:World) (h:Heap),YP w h→(K w.params).In h)
 (F:∀ (w:World) (mg:Str→Option Value) (fa:Addr) (h:Heap),(K w.params).In h→h.Ns mainGlobals mg→mg d.name=some (.ref fa) →
   ∃ fd:FuncData,(∀ (s:Shared) (u:Value),BindsTo s fd ⟨[u],[]⟩ [("_law_script",u)])∧∀ base:Heap,(K w.params).In base→base.Ns mainGlobals mg→FnOk l.prog w (K w.params) mg base CX0 12 fa fd ["_law_script"] (Zkr (K w.params))) (him:importsNone q=true:=by decide +kernel) :
 PySem.W.WalkO q loose XP YP l.row.toRowW d [] (fun f vs=>PySem.call f vs) :=
 L2.Zt2 (n:=63) (k:=12) (x := "_law_script") (CX:=fun _=>CX0) (sp:=fun w=>Zkr (K w.params)) hn ?f hdf ⟨rfl,by decide,by decide,rfl⟩ hY F (fun _ _ a ns hl _ hS=>⟨a,ns,rfl,hS,hl,fun _=>rfl⟩) (fun _ _ _ _ _ z=>z) him
end My

namespace My
open PySem PySem.W PyProof.Rows L2
set_option maxRecDepth 1000000
set_option maxHeartbeats 0
def gE (P:Params) (n:Str) (t:Tok) (v:Value):DictEntry:=⟨PySem.PyData.keyHash P n,.str n t,v⟩
def gR (P:Params) (n:Str) (t:Tok) (a:Addr):DictEntry:=gE P n t (.ref a)
def fO (n:Str) (i:Nat) (m:Str) (mt:Tok) (c:Addr) (dv:Value):Obj:={ cls:=.type "function",data:=.func (PySem.W.fnOf n n (X1 (top i)) (Xh (top i)) (Zf (top i)) dv .none .none (.str m mt) none (.ref c) .none) }
def cO (n:Str) (a:Tok) (l k:Int) (r s:Addr) (u v:Value) (t:Nat):Obj:={ cls:=.type "code",data:=.fields (Array.mk [.str n a,.str n (a+1),.str "/claim/cut.py" (a+2),.int l 0,.int k 0,.int 0 0,.int 0 0,.int 3 0,.ref r,.bool true,.int 181 0,.ref (r+1),.none,u,v,.ref s,.int t 0,.int l 0,.str "/claim/cut.py" (t+1)]) }
def dR (n:Str) (i:Nat) (m:Str) (mt a:Tok) (l k:Int) (r:Addr) (t:Nat):Frag:=[(r+6,fO n i m mt (r+5) .none),(r+5,cO n a l k r (r+4) (.ref (r+2)) (.ref (r+3)) t)]
def dN (n:Str) (i:Nat) (m:Str) (mt a:Tok) (l k:Int) (r:Addr) (t:Nat):Frag:=[(r+4,fO n i m mt (r+3) .none),(r+3,cO n a l k r (r+2) .none .none t)]
def Zug (s:Stmt):Pos:=match s with|.FunctionDef _ _ _ _ _ _ _ _ _ p=>p|_=>⟨0,0,0,0⟩
def m0:Str := "platerest.quotients"
def m1:Str := "platerest.plates"
def m2:Str := "platerest.finer"
def m3:Str := "law_platerest_k56_finer_plates"
noncomputable def kK (P:Params):Frag:=(3,{ cls:=.type "dict",data:=(.dict #[gE P "__name__" 165 (.str "law_platerest_k56_finer_plates" 492),
gE P "__doc__" 166 (.none),
gE P "__package__" 167 (.none),
gE P "__loader__" 168 (.builtin "__main__.__loader__#opaque"),
gE P "__spec__" 169 (.none),
gR P "__annotations__" 170 6,
gR P "__builtins__" 171 4,
gE P "__file__" 173 (.str "/claim/cut.py" 172),
gE P "__cached__" 174 (.none),
gR P "PlateError" 206 24,
gR P "NoPlate" 222 37,
gR P "TooMany" 249 56,
gR P "is_whole" 258 65,
gE P "FEWEST_CORNERS" 262 (.int 3 261),
gE P "MOST_CORNERS" 264 (.int 30 263),
gE P "FARTHEST" 266 (.int 100 265),
gE P "MOST_PIECES" 268 (.int 40 267),
gE P "THICKEST" 270 (.int 9 269),
gE P "MOST_STUFF" 272 (.int 9 271),
gR P "is_between" 281 72,
gR P "is_row" 290 79,
gR P "are_rising" 296 84,
gR P "is_corner" 302 89,
gR P "are_corners" 308 94,
gR P "turn" 318 101,
gR P "turn_of" 326 108,
gR P "is_piece" 332 113,
gR P "are_pieces" 338 118,
gR P "are_thicks" 344 123,
gR P "is_stuff" 351 130,
gR P "triangle" 357 135,
gR P "edges" 364 142,
gR P "lies_in" 370 147,
gR P "parts_from" 376 152,
gR P "are_apart" 384 159,
gR P "every_corner_is_used" 390 164,
gR P "no_strange_corner" 396 169,
gR P "fit_together" 402 174,
gR P "is_plate" 413 181,
gR P "look_at_plate" 420 188,
gR P "sides_of" 430 195,
gR P "owners" 441 202,
gR P "neighbours" 447 207,
gR P "part_of" 459 214,
gR P "parts" 465 219,
gR P "room" 471 224,
gR P "look_at_finer" 479 229,
gR P "quarters" 485 234,
gR P "finer" 491 239,
gR P "_law_cell_at" 501 246,
gR P "_law_state" 510 253,
gR P "_law_choice" 520 260,
gR P "_law_order" 530 267,
gR P "_law_shapes" 544 274,
gR P "_law_plate" 550 279,
gR P "_law_same" 558 286,
gR P "_law_sides" 569 293,
gR P "_law_finer" 575 298,
gR P "law" 588 305] 59) }) :: (dR "is_whole" 5 m0 250 252 13 1 59 256 ++
dR "is_between" 13 m1 259 273 22 3 66 279 ++
dR "is_row" 14 m1 259 282 24 3 73 288 ++
dN "are_rising" 15 m1 259 291 26 1 80 294 ++
dN "is_corner" 16 m1 259 297 28 1 85 300 ++
dN "are_corners" 17 m1 259 303 30 1 90 306 ++
dR "turn" 18 m1 259 309 34 3 95 316 ++
dR "turn_of" 19 m1 259 319 37 2 102 324 ++
dN "is_piece" 20 m1 259 327 39 2 109 330 ++
dN "are_pieces" 21 m1 259 333 43 2 114 336 ++
dN "are_thicks" 22 m1 259 339 47 2 119 342 ++
dR "is_stuff" 23 m1 259 345 51 1 124 349 ++
dN "triangle" 24 m1 259 352 55 2 131 355 ++
dR "edges" 25 m1 259 358 60 1 136 362 ++
dN "lies_in" 26 m1 259 365 62 2 143 368 ++
dN "parts_from" 27 m1 259 371 64 2 148 374 ++
dR "are_apart" 28 m1 259 377 69 2 153 382 ++
dN "every_corner_is_used" 29 m1 259 385 71 2 160 388 ++
dN "no_strange_corner" 30 m1 259 391 73 3 165 394 ++
dN "fit_together" 31 m1 259 397 76 2 170 400 ++
dR "is_plate" 32 m1 259 403 84 1 175 411 ++
dR "look_at_plate" 33 m1 259 414 93 1 182 418 ++
dR "sides_of" 34 m1 259 421 96 1 189 428 ++
dR "owners" 35 m1 259 431 99 1 196 439 ++
dN "neighbours" 36 m1 259 442 105 1 203 445 ++
dR "part_of" 37 m1 259 448 111 2 208 457 ++
dN "parts" 38 m1 259 460 121 1 215 463 ++
dN "room" 39 m1 259 466 125 1 220 469 ++
dN "look_at_finer" 41 m2 472 474 129 1 225 477 ++
dN "quarters" 42 m2 472 480 139 2 230 483 ++
dN "finer" 43 m2 472 486 143 1 235 489 ++
dR "_law_cell_at" 45 m3 492 494 153 2 240 499 ++
dR "_law_state" 46 m3 492 502 157 2 247 508 ++
dR "_law_choice" 47 m3 492 511 160 2 254 518 ++
dR "_law_order" 48 m3 492 521 170 2 261 528 ++
dR "_law_shapes" 49 m3 492 531 175 0 268 542 ++
dN "_law_plate" 50 m3 492 545 185 2 275 548 ++
dR "_law_same" 51 m3 492 551 198 2 280 556 ++
dR "_law_sides" 52 m3 492 559 200 1 287 567 ++
dN "_law_finer" 53 m3 492 570 205 1 294 573 ++
dR "law" 54 m3 492 576 218 1 299 586)
def kA:List Addr:=[3,65,64,72,71,79,78,84,83,89,88,94,93,101,100,108,107,113,112,118,117,123,122,130,129,135,134,142,141,147,146,152,151,159,158,164,163,169,168,174,173,181,180,188,187,195,194,202,201,207,206,214,213,219,218,224,223,229,228,234,233,239,238,246,245,253,252,260,259,267,266,274,273,279,278,286,285,293,292,298,297,305,304]
theorem kAs:∀ P,kA=(kK P).map (·.1):=fun _=>by kernel_rfl
theorem h3:∀ w os,(topK pw 3978 w os).map (fun s=>kA.map s.abs.heap.get?)=some ((kK w.params).map fun p=>some p.2):=fun w os=>by
  unfold topK topStub;rw [PySem.W.Fast.te4652649595001227023,PySem.W.Fast.te14364793385576792824,PySem.W.Fast.te17154629097778926822,PySem.W.Fast.te12822647523644345616]
  kernel_rfl
theorem left:LeftO pw qq ll (fun s=>xlAt qq [] s&&recOk (RowW.records (OpenRow.toRowW rr)) s) (Hook.obs (kHook kK kA kAs)) (Hook.val (kHook kK kA kAs)) 3978 :=
  Zi9 (T0:=bootT) (life:={}) ?w ?w (fun s=>by kernel_rfl) Zo9 Zmp (Zgr (R:=topK pw 3978) h1 h2 h3)
theorem lk4 {P:Params} {b:Str} {i:Nat} {f:Addr} (c:Addr) (m:Str) (mt:Tok) (h:((kK P).lookup f,PySem.W.nsIn (kK P) mainGlobals b,PySem.W.codeIn (kK P) (.ref c) b,PySem.W.keepIn (kK P) (.ref f))=(some (fO b i m mt c .none),some (some (.ref f)),true,true)):Lk (kK P) b (top i) f:=Zwp (Prod.mk.inj (Prod.mk.inj h).2).1 (Prod.mk.inj h).1 (Prod.mk.inj (Prod.mk.inj (Prod.mk.inj h).2).2).1 (Prod.mk.inj (Prod.mk.inj (Prod.mk.inj h).2).2).2
theorem Zvm (P:Params):(kK P).lookup 305=some (fO "law" 54 m3 492 304 .none):=by kernel_rfl
theorem Zu1 (P:Params):PySem.W.nsIn (kK P) mainGlobals "law" = some (some (.ref 305)):=by kernel_rfl
theorem Zvc (P:Params):PySem.W.codeIn (kK P) (.ref 304) "law" = true:=by kernel_rfl
theorem Zus (P:Params):PySem.W.keepIn (kK P) (.ref 305)=true:=by kernel_rfl
def dL:DefRec:=⟨"law",X1 (top 54),Xh (top 54),Zf (top 54),Zug (top 54)⟩
theorem hdL:defOf qq (OpenRow.toRowW rr).name=some (dL,[]):=by kernel_rfl
theorem hpL:(OpenRow.toRowW rr).prog.theDef (OpenRow.toRowW rr).name=some (dL.params,dL.body,dL.scope):=by kernel_rfl
theorem hkL:kwWritten? dL.params.kwonlyargs dL.params.kw_defaults=some []:=by kernel_rfl
theorem okL:(chainsOk qq&&opensWell (OpenRow.toRowW rr).prog&&(frees (OpenRow.toRowW rr)&&(OpenRow.toRowW rr).within.isEmpty))=true:=by kernel_rfl
theorem dfL:dL.params.defaults=[]:=by kernel_rfl
theorem wkL:WalkO qq ll (XL qq []) (Hook.says (kHook kK kA kAs)) (OpenRow.toRowW rr) dL [] (fun f vs=>PySem.call f vs):=by
  refine My.walk (l:=PySem.Challenge.rw_platerest_k56_finer_plates) rfl dfL (fun w h Y=>PySem.W.kIn_of Y) ?F;intro w mg fa h KX G hmg;exact Zuk KX G hmg (lk4 (f:=65) 64 m0 250 ?w) (lk4 (f:=72) 71 m1 259 ?w) (lk4 (f:=79) 78 m1 259 ?w) (lk4 (f:=84) 83 m1 259 ?w) (lk4 (f:=89) 88 m1 259 ?w) (lk4 (f:=94) 93 m1 259 ?w) (lk4 (f:=101) 100 m1 259 ?w) (lk4 (f:=108) 107 m1 259 ?w) (lk4 (f:=113) 112 m1 259 ?w) (lk4 (f:=118) 117 m1 259 ?w) (lk4 (f:=123) 122 m1 259 ?w) (lk4 (f:=130) 129 m1 259 ?w) (lk4 (f:=135) 134 m1 259 ?w) (lk4 (f:=142) 141 m1 259 ?w) (lk4 (f:=147) 146 m1 259 ?w) (lk4 (f:=152) 151 m1 259 ?w) (lk4 (f:=159) 158 m1 259 ?w) (lk4 (f:=164) 163 m1 259 ?w) (lk4 (f:=169) 168 m1 259 ?w) (lk4 (f:=174) 173 m1 259 ?w) (lk4 (f:=181) 180 m1 259 ?w) (lk4 (f:=188) 187 m1 259 ?w) (lk4 (f:=195) 194 m1 259 ?w) (lk4 (f:=202) 201 m1 259 ?w) (lk4 (f:=207) 206 m1 259 ?w) (lk4 (f:=214) 213 m1 259 ?w) (lk4 (f:=219) 218 m1 259 ?w) (lk4 (f:=224) 223 m1 259 ?w) (lk4 (f:=229) 228 m2 472 ?w) (lk4 (f:=234) 233 m2 472 ?w) (lk4 (f:=239) 238 m2 472 ?w) (lk4 (f:=246) 245 m3 492 ?w) (lk4 (f:=253) 252 m3 492 ?w) (lk4 (f:=260) 259 m3 492 ?w) (lk4 (f:=267) 266 m3 492 ?w) (lk4 (f:=274) 273 m3 492 ?w) (lk4 (f:=279) 278 m3 492 ?w) (lk4 (f:=286) 285 m3 492 ?w) (lk4 (f:=293) 292 m3 492 ?w) (lk4 (f:=298) 297 m3 492 ?w) (Zu1 _) (Zvm _) (Zvc _) (Zus _) ?w ?w ?w ?w ?w ?w ?w ?w ?w ?w ?w ?w ?w ?w ?w ?w ?w ?w ?w (tn_FARTHEST:=265) ?w (tn_FEWEST_CORNERS:=261) ?w (tn_MOST_CORNERS:=263) ?w (tn_MOST_PIECES:=267) ?w (tn_MOST_STUFF:=271) ?w (tn_THICKEST:=269) ?w
end My
open PySem PySem.W PyProof.Rows
set_option maxRecDepth 1000000 in
set_option maxHeartbeats 0 in
theorem PySem.Challenge.cw_platerest_k56_finer_plates_holds : PySem.Challenge.rw_platerest_k56_finer_plates.Holds := by
  refine holds_law My.ws fun said=>?_;refine holds_open (q:=My.qq) (loose:=My.ll) (Xt:=fun s=>xlAt My.qq [] s&&recOk (RowW.records (OpenRow.toRowW My.rr)) s) (XP:=XL My.qq []) (Yf:=Hook.obs (kHook My.kK My.kA My.kAs)) (Ya:=Hook.val (kHook My.kK My.kA My.kAs)) (YP:=Hook.says (kHook My.kK My.kA My.kAs)) My.left (Hook.of (kHook My.kK My.kA My.kAs)) (Hook.keeps (kHook My.kK My.kA My.kAs)) (fun s e=>xl_of s (Bool.and_eq_true_iff.mp e).1) XL.keeps My.hdL My.hpL My.hkL (fun s e=>recFacts_of (Bool.and_eq_true_iff.mp e).2) rfl said My.okL ⟨rfl,rfl,rfl,rfl,rfl,?j⟩ ?hw My.wkL
  case hw=>w_witness2
