import PyProof.Rows.All
import Wide.All
import OpenK.AllK
import Wide.FinOn
import Lean
import PyProof.EqAt
import PyProof.EqKinds
import PyProof.TupleCall
import PyProof.NeKinds
import PyProof.ConsumeWalk
import PyProof.ReprRoads
import PyProof.ReprLen
import PyProof.ZipIter
import PyProof.Draws
import PyProof.EnumMake
import PySem.SetTable
import PyProof.TupleKey
import PyProof.Rows.SetFrom
import PyProof.InstEq
import PyProof.WalksMore
import PyProof.SumWalkG
import PyProof.Rows.SortWalk
import PyProof.ListRange
import KE.KSortTup
import PyProof.ListMulRoad
import PyProof.FactsAll.tuple_2
import PyProof.DictItems
import KE.KPairComp
import PyProof.DictCompW
import PyProof.SetKind
import PyProof.DictKinds
import PyProof.SetRoads
import PyProof.Walks
import PyProof.CollectWalk
import PyProof.Rows.SortShell
import PyProof.CollectIter
import PyProof.TupleOfGen
import PySem.Challenge.RW_platerest_k50_frames_of_lots
set_option Elab.async false
set_option linter.all false
set_option maxRecDepth 100000
abbrev PySem.Shared.z (s:PySem.Shared):Nat:=s.heap.objs.size
abbrev n0_:=@PySem.wpAny_bind
abbrev n1_:=@List.getElem?_eq_getElem
abbrev n2_:=@PySem.Heap.get?_push_of_some
abbrev n3_:=@PySem.wpAny_pure
abbrev n4_:=@List.getElem?_map
abbrev n5_:=@List.getD_eq_getElem?_getD
abbrev n6_:=@List.mem_of_getElem?
abbrev n7_:=@List.length_map
abbrev n8_:=@PySem.Heap.get?_push_size
abbrev n9_:=@Nat.lt_of_lt_of_le
abbrev n10_:=@Nat.lt_of_le_of_lt
abbrev n11_:=@Nat.le_refl
abbrev n12_:=@Option.map_eq_some_iff
abbrev n13_:=@List.mem_cons
abbrev n14_:=@PySem.Heap.lt_size
abbrev n15_:=@List.not_mem_nil
abbrev n16_:=@List.size_toArray
abbrev n17_:=@List.mem_cons_of_mem
abbrev n18_:=@List.getElem?_eq_some_iff
abbrev n19_:=@Bool.false_eq_true
abbrev n20_:=@PySem.Builtin.SmallTypes.nextOf
abbrev n21_:=@List.length_cons
abbrev n22_:=@List.mem_singleton
abbrev n23_:=@Nat.pow_le_pow_right
abbrev n24_:=@List.mem_cons_self
abbrev n25_:=@List.mem_map
abbrev n26_:=@Nat.ne_of_lt
abbrev n27_:=@Bool.false_ne_true
abbrev n28_:=@List.getElem_mem
abbrev n29_:=@decide_eq_false
abbrev n30_:=@List.length_append
abbrev n31_:=@PySem.Builtin.SmallTypes.ownedTupleIsFree
abbrev n32_:=@Rat.intCast_mul
abbrev n33_:=@List.mem_append_right
abbrev n34_:=@PySem.wpAny_holding
abbrev n35_:=@Bool.and_eq_true
abbrev n36_:=@Nat.le_trans
abbrev n37_:=@List.take_of_length_le
abbrev n38_:=@List.map_cons
abbrev n39_:=@List.mem_append
abbrev n40_:=@PySem.mem_of_lookup
abbrev n41_:=@PySem.W.mg_none_of
abbrev n42_:=@List.mem_range
abbrev n43_:=@List.length_take
abbrev n44_:=@decide_eq_true
abbrev n45_:=@Nat.zero_le
abbrev n46_:=@List.getD_cons_zero
abbrev n47_:=@List.getD_cons_succ
abbrev n48_:=@of_decide_eq_true
abbrev n49_:=@List.all_eq_true
abbrev n50_:=@PySem.Heap.size_push
abbrev n51_:=@List.map_append
abbrev n52_:=@List.getElem_of_mem
abbrev n53_:=@PySem.Heap.get?_update_self
abbrev n54_:=@Nat.lt_succ_of_lt
abbrev n55_:=@PySem.wpAny_mono
abbrev n56_:=@Int.natAbs_mul
abbrev n57_:=@Nat.mul_le_mul
abbrev n58_:=@PyProof.Rows.callWith_type1
abbrev n59_:=@List.nil_append
abbrev n60_:=@List.take_succ
abbrev n61_:=@Int.toNat_natCast
abbrev n62_:=@List.zipWith_cons_cons
abbrev n63_:=@Int.fmod_nonneg_of_pos
abbrev n64_:=@List.map_nil
abbrev n65_:=@List.sum_cons
abbrev n66_:=@List.length_range
abbrev n67_:=@Option.bind_eq_some_iff
abbrev n68_:=@Nat.ne_of_gt
abbrev n69_:=@List.take_succ_eq_append_getElem
abbrev n70_:=@Int.mul_comm
abbrev n71_:=@Rat.intCast_add
abbrev n72_:=@PySem.W.kia_one
abbrev n73_:=@List.zipWith_nil_right
abbrev n74_:=@List.cons_append
abbrev n75_:=@List.take_succ_cons
abbrev n76_:=@List.replicate_succ
abbrev n77_:=@Rat.divInt_eq_div
abbrev n78_:=@List.append_assoc
abbrev n79_:=@List.zipWith_nil_left
abbrev n80_:=@List.foldl_cons
abbrev n81_:=@Nat.lt_succ_self
abbrev n82_:=@List.filter_cons_of_pos
abbrev n83_:=@List.filter_cons_of_neg
abbrev n84_:=@List.mem_map_of_mem
abbrev n85_:=@List.getElem?_range
abbrev n86_:=@List.drop_succ_cons
abbrev n87_:=@List.getElem?_append_right
abbrev n88_:=@List.getElem?_eq_none
abbrev n89_:=@List.take_length
abbrev n90_:=@List.pairwise_iff_getElem
abbrev n91_:=@List.getElem?_append_left
abbrev n92_:=@Int.fmod_lt_of_pos
abbrev n93_:=@PySem.W.mg_of
abbrev n94_:=@Nat.lt_irrefl
set_option hygiene false in
local macro_rules
|`(?d)=>`(by omega)
|`(?e)=>`((by decide))
|`(?f)=>`((by simp))
|`(?g)=>`(List Int)
|`(?i)=>`(by decide +kernel)
|`(?j)=>`(fun _ _=>rfl)
|`(?k)=>`(Shared→Prop)
|`(?l)=>`((Or.inl rfl))
|`(?o)=>`(by kernel_rfl)
|`(?p)=>`(Inv X pins σ H s)
|`(?q)=>`(List Value)
|`(?s)=>`((model prog w))
|`(?t)=>`(by decide)
|`(?w)=>`((pcOf P n))
|`(?y)=>`(Hp→Prop)
|`(?z)=>`((model X.prog X.w))
|`(?A)=>`(List (Addr×Obj))
|`(?B)=>`(fun cdv A outer s H vs Q E hr h=>?_)
|`(?C)=>`(⟨_,?term,?read⟩)
|`(?D)=>`(Option Value)
|`(?E)=>`(Same H H')
|`(?G)=>`(.type "tuple")
|`(?H)=>`(Array Value)
|`(?I)=>`(s.heap.get? b)
|`(?J)=>`((Za Ze Zb rfl))
|`(?K)=>`((fun _ _ _ _=>Zu))
|`(?L)=>`((Za (pv 0) Zb rfl))
|`(?M)=>`((Za (pv 1) Zb rfl))
|`(?N)=>`(List V→Hp→VK→Prop)
|`(?O)=>`((fun _ _ _ _=>pgB 0))
|`(?P)=>`((blk X scope cl C N s3 H3 fp))
|`(?Q)=>`(q.map fun i=>kl.getD i [])
|`(?R)=>`((gTup K 2 (Yt (Ye 0) (Yt (Ye 1) gNil))))
|`(?S)=>`((fun _ _ _ _=>Z0 (n:=2) rfl (Zg (pgB 0) (Zg (pgB 1) Zs))))
|`(?T)=>`(SetTable.insertAt es p (h,Value.ref a))
|`(?U)=>`(absurd (show false=true from hs) n27_)
|`(?V)=>`((by first|exact Or.inl rfl|exact Or.inr rfl|assumption))
|`(?W)=>`((∀ e u,e≠z→e≠o→e≠i→e≠j→s.heap.get? e=some u→h1.get? e=some u))
|`(?X)=>`(((s.heap.update a (Obj.mapSeq fun _=>#[])).push (seqObj "tuple" vs.toArray 0)).push (seqObj "list" #[] 0))
|`(?Y)=>`(wpAny_comprehension_free (use:=none) rfl hs L.clos L.kind L.names (thn (hi pins s σ H _ I h) fun v s1 h1=>thn h1 fun itv s2 h2=>?_))
namespace L2
open PySem PySem.W PyProof.Rows
def topRunT (tb:String→Option Builtin) (p:Program) (w:World) (n0:Nat) (ann:?D):Nat→SharedT→Thread→Option SharedT
  | 0,_,_=>none
  | n+1,s,t=>match through t with
    | true=>some s
    | false=>match stepOk n0 ann t with
      | false=>none
      | true=>match stepT (denote tb) p w s t with
        | some (s',t')=>topRunT tb p w n0 ann n s' t'
        | none=>none
variable {α:Type} {w:World}
theorem Zhh {tb:String→Option Builtin} {p:Program} {n0:Nat} {ann:?D}:∀ {n:Nat} {s s':SharedT} {t:Thread},topRunT tb p w n0 ann n s t=some s'→topRun tb p w n0 ann n s.abs t=some s'.abs
  | 0,_,_,_,h=>by cases h
  | n+1,s,s',t,h=>by
    unfold topRunT at h;unfold topRun;cases he:through t with
    | true=>rw [he] at h;cases h;rfl
    | false =>
      rw [he] at h;cases hk:stepOk n0 ann t with
      | false=>rw [hk] at h;cases h
      | true =>
        rw [hk] at h;cases hs:stepT (denote tb) p w s t with
        | none=>rw [hs] at h;cases h
        | some r=>obtain ⟨s2,t2⟩:=r;rw [hs] at h;rw [stepT_spec hs];exact Zhh h
def btOf:List Obj→Nat→BT→BT
  | [],_,t=>t
  | o :: os,n,t=>btOf os (n+1) (t.ins n o)
theorem Zju {p q:Program} {loose:List Str} {Xt:Shared→Bool} {Yf:Shared→α} {Ya:World→α} {N:Nat} {g0:Bool} {T0:Params→BT} {n0:Nat} {life:Life} {ann:?D}
    (e:opening p=plainProg p.main.scope.names) (hN:Nat.ble 600 N=true) (f:∀ s,fenceModules? p s=some s)
    (h0:∀ P,absHeap (T0 P) n0 life=boot_heap P)
    (size:∀ P,((boot_heap P).isNs mainGlobals,(boot_heap P).objs.size,(boot_heap P).nsMap mainGlobals "__annotations__")=(true,n0,ann))
    (run:∀ (w:World) (os:OsState),(topRunT treeTable p w n0 ann N ⟨T0 w.params,n0,life,Array.mk [],boot_drawn,boot_toks,os⟩ (topStub p)).map (fun s=>((staticsOk (importedModules p.main.body) (boot_heap w.params) s.abs.heap&&namesBound p s.abs.heap&&gensDone s.abs&&laidKept (boot_heap w.params) s.abs.heap),openSeen q loose (importedModules p.main.body) Xt g0 s.abs,Yf s.abs))=some (true,openGood q loose,Ya w)):LeftO p q loose Xt Yf Ya N g0:=fun w=>by
  obtain ⟨⟨h,gs,d,k,os⟩,e1,e2⟩:=n12_.mp (boot_open e hN f w);obtain ⟨rfl,rfl,rfl,rfl⟩:h=boot_heap w.params∧gs=Array.mk []∧d=boot_drawn∧k=boot_toks:=by simpa using e2
  obtain ⟨z1,z2,z3⟩:_∧_∧_:=by simpa only [Prod.mk.injEq] using size w.params
  obtain ⟨s,r1,r2⟩:=n12_.mp (run w os);obtain ⟨l1,l2,l3⟩:_∧_∧_:=by simpa only [Prod.mk.injEq] using r2
  have r:=Zhh r1
  have ha:SharedT.abs ⟨T0 w.params,n0,life,Array.mk [],boot_drawn,boot_toks,os⟩=⟨boot_heap w.params,Array.mk [],boot_drawn,boot_toks,os⟩:=by
    unfold SharedT.abs;rw [h0]
  rw [ha] at r
  have t:topFrom treeTable p w N ⟨boot_heap w.params,Array.mk [],boot_drawn,boot_toks,os⟩=some s.abs:=by
    unfold topFrom;dsimp only;rw [z1,z2,z3,r];show (match staticsOk (importedModules p.main.body) (boot_heap w.params) s.abs.heap&&namesBound p s.abs.heap&&gensDone s.abs&&laidKept (boot_heap w.params) s.abs.heap with|true=>_|false=>_)=_
    rw [l1]
  unfold openEnds;rw [e1];show (topFrom treeTable p w N _).map _=_
  rw [t];exact congrArg some (Prod.ext l2 l3)
lay_quick L2.topRunT
end L2
namespace L2
open PySem PySem.W PyProof.Rows
variable {α:Type}
theorem Zif {p q:Program} {loose:List Str} {Xt:Shared→Bool} {Yf:Shared→α} {Ya:World→α} {g0:Bool} {R:World→OsState→Option SharedT}
    (h1:∀ w os,(R w os).map (fun s=>(staticsOk (importedModules p.main.body) (boot_heap w.params) s.abs.heap&&namesBound p s.abs.heap&&gensDone s.abs&&laidKept (boot_heap w.params) s.abs.heap))=some true)
    (h2:∀ w os,(R w os).map (fun s=>openSeen q loose (importedModules p.main.body) Xt g0 s.abs)=some (openGood q loose))
    (h3:∀ w os,(R w os).map (fun s=>Yf s.abs)=some (Ya w)) (w:World) (os:OsState) :
    (R w os).map (fun s=>((staticsOk (importedModules p.main.body) (boot_heap w.params) s.abs.heap&&namesBound p s.abs.heap&&gensDone s.abs&&laidKept (boot_heap w.params) s.abs.heap),openSeen q loose (importedModules p.main.body) Xt g0 s.abs,Yf s.abs))=some (true,openGood q loose,Ya w):=by
  have a:=h1 w os;have b:=h2 w os;have c:=h3 w os;cases e:R w os with
  | none=>rw [e] at a;cases a
  | some s =>
    rw [e] at a b c;exact congrArg some (Prod.ext (Option.some.inj a) (Prod.ext (Option.some.inj b) (Option.some.inj c)))
noncomputable abbrev bootT (P:Params):BT:=btOf (boot_heap P).objs.toList 0 .nil
noncomputable def topK (p:Program) (N:Nat) (w:World) (os:OsState):Option SharedT:=topRunT treeTable p w 11 (some (.ref 6)) N ⟨bootT w.params,11,{},Array.mk [],boot_drawn,boot_toks,os⟩ (topStub p)
theorem Zp9:∀ P,absHeap (bootT P) 11 {}=boot_heap P:=fun P=>?o
theorem Znd:∀ P,((boot_heap P).isNs mainGlobals,(boot_heap P).objs.size,(boot_heap P).nsMap mainGlobals "__annotations__")=(true,11,some (.ref 6)):=fun P=>?o
def Zsx (p:Program) (names:List Str):List Str:=((p.main.body.flatMap bindsAtTop).filter fun x=>!startupNames.contains x&&!names.contains x).eraseDups
end L2

namespace My
open PySem PySem.W PyProof.Rows L2
noncomputable abbrev pw:Program:=PySem.Challenge.pw_platerest_k50_frames_of_lots
noncomputable abbrev rr:OpenRow:=OpenLaw.row PySem.Challenge.rw_platerest_k50_frames_of_lots
noncomputable abbrev qq:Program:=view pw [83]
noncomputable abbrev ll:List Str:=Zsx pw ["law"]
set_option maxRecDepth 1000000
set_option maxHeartbeats 0
theorem ws:OpenLaw.wellSaid PySem.Challenge.rw_platerest_k50_frames_of_lots=true:=?o
theorem h1:∀ w os,(topK pw 5516 w os).map (fun s=>(staticsOk (importedModules pw.main.body) (boot_heap w.params) s.abs.heap&&namesBound pw s.abs.heap&&gensDone s.abs&&laidKept (boot_heap w.params) s.abs.heap))=some true:=fun w os=>by
  unfold topK topStub;rw [PySem.W.Fast.te4652649595001227023,PySem.W.Fast.te14364793385576792824,PySem.W.Fast.te17154629097778926822,PySem.W.Fast.te12822647523644345616]
  kernel_rfl
theorem h2:∀ w os,(topK pw 5516 w os).map (fun s=>openSeen qq ll (importedModules pw.main.body) (fun s=>xlAt qq [] s&&recOk (RowW.records (OpenRow.toRowW rr)) s) true s.abs)=some (openGood qq ll):=fun w os=>by
  unfold topK topStub;rw [PySem.W.Fast.te4652649595001227023,PySem.W.Fast.te14364793385576792824,PySem.W.Fast.te17154629097778926822,PySem.W.Fast.te12822647523644345616,PySem.W.Fast.te4187177175401517315]
  kernel_rfl
end My
noncomputable section
set_option Elab.async false
set_option linter.all false
set_option maxRecDepth 100000
namespace L2
open PySem PySem.Spec PyProof.Rows
theorem z0_:0≤sizeLine:=?t
theorem z1_:1≤sizeLine:=?t
theorem z2_:2≤sizeLine:=?t
theorem z3_:3≤sizeLine:=?t
theorem z4_:4≤sizeLine:=?t
theorem z5_:5≤sizeLine:=?t
abbrev Key:=Sum Int Str
def Zlk:Key→Value→Bool
 | .inl k,v=>Value.isInt k v
 | .inr x,v=>Value.isStrOf x v
def keyH (w:World):Key→Int
 | .inl k=>hashInt k
 | .inr x=>hashStr w x
theorem Yi:∀ {k:Key} {v:Value},Zlk k v=true→(∃ i t,k=Sum.inl i∧v=Value.int i t)∨(∃ x t,k=Sum.inr x∧v=Value.str x t)
 | .inl i,v,h=>by
   obtain ⟨t,e⟩:=Value.isInt_shape (k:=i) (v:=v) h;exact .inl ⟨i,t,rfl,e⟩
 | .inr x,v,h=>by
   obtain ⟨t,e⟩:=Value.isStrOf_shape (x:=x) (v:=v) h;exact .inr ⟨x,t,rfl,e⟩
theorem Zoj (i:Int) (t:Tok):Zlk (.inl i) (.int i t)=true:=by simp [Zlk,Value.isInt]
theorem Zm5 (x:Str) (t:Tok):Zlk (.inr x) (.str x t)=true:=by simp [Zlk,Value.isStrOf]
theorem Zvr (a b:Int):decide ((Sum.inl a:Key)=Sum.inl b)=(a == b):=by
 by_cases e:a=b
 · subst e;simp
 · have h:¬ (Sum.inl a:Key)=Sum.inl b:=fun q=>e (Sum.inl.inj q);rw [n29_ h];exact (beq_eq_false_iff_ne.mpr e).symm
theorem Zvy (a b:Str):decide ((Sum.inr a:Key)=Sum.inr b)=decide (a=b):=by
 by_cases e:a=b
 · subst e;simp
 · have h:¬ (Sum.inr a:Key)=Sum.inr b:=fun q=>e (Sum.inr.inj q);rw [n29_ h,n29_ e]
theorem Zt9 (a:Int) (b:Str):decide ((Sum.inl a:Key)=Sum.inr b)=false:=n29_ (fun q=>nomatch q)
theorem Zvc (a:Str) (b:Int):decide ((Sum.inr a:Key)=Sum.inl b)=false:=n29_ (fun q=>nomatch q)
def Y5 (prog:Program) (w:World):PySem.KeyKind prog w Key where
 is:=Zlk
 hash:=keyH w
 inj:=fun v a b ha hb=>by
  rcases Yi ha with ⟨i,t,rfl,rfl⟩|⟨x,t,rfl,rfl⟩
  · rcases Yi hb with ⟨j,u,rfl,e⟩|⟨y,u,rfl,e⟩
    · injection e with e1 _;rw [e1]
    · exact nomatch e
  · rcases Yi hb with ⟨j,u,rfl,e⟩|⟨y,u,rfl,e⟩
    · exact nomatch e
    · injection e with e1 _;rw [e1]
 byValue:=fun k v h=>by
  rcases Yi h with ⟨i,t,rfl,rfl⟩|⟨x,t,rfl,rfl⟩<;>rfl
 pyHash:=fun hv h=>by
  rcases Yi hv with ⟨i,t,rfl,rfl⟩|⟨x,t,rfl,rfl⟩
  · exact wpAny_pyHash_int h
  · exact wpAny_pyHash_str h
 eqBool:=fun hu hv h=>by
  rcases Yi hu with ⟨i,t,rfl,rfl⟩|⟨x,t,rfl,rfl⟩
  · rcases Yi hv with ⟨j,u,rfl,rfl⟩|⟨y,u,rfl,rfl⟩
    · rw [Zvr] at h;exact wpAny_eqBool_int h
    · rw [Zt9] at h;exact SeqAt.EqAt.int_str i t y u _ _ _ _ h
  · rcases Yi hv with ⟨j,u,rfl,rfl⟩|⟨y,u,rfl,rfl⟩
    · rw [Zvc] at h;exact SeqAt.EqAt.str_int x t j u _ _ _ _ h
    · rw [Zvy] at h;exact wpAny_eqBool_str h
 «strs»:=fun k x t v h=>by
  rcases Yi h with ⟨i,u,rfl,e⟩|⟨y,u,rfl,e⟩
  · exact nomatch e
  · injection e with e1 _
    subst e1;cases v<;>rfl
theorem Zjl (prog:Program) (w:World) (i:Int) (t:Tok):(Y5 prog w).is (.inl i) (.int i t)=true:=Zoj i t
theorem Zjz (prog:Program) (w:World) (x:Str) (t:Tok):(Y5 prog w).is (.inr x) (.str x t)=true:=Zm5 x t
inductive V where
 | non|bl (b:Bool)|int (i:Int)|str (x:Str)|byt (b:Array UInt8)|flt (b:UInt64)|ref (a:Addr)|ty (n:String)
 deriving DecidableEq
def RelV:V→Value→Prop
 | .non,u=>u=Value.none
 | .bl b,u=>u=Value.bool b
 | .int i,u=>∃ t,u=Value.int i t
 | .str x,u=>∃ t,u=Value.str x t
 | .byt b,u=>∃ t,u=Value.bytes b t
 | .flt b,u=>∃ t,u=Value.float b t
 | .ref a,u=>u=Value.ref a
 | .ty n,u=>u=Value.type n
abbrev Vals:List V→?q→Prop:=Paired RelV
variable {α:Type} {C a b f it:Addr} {A:Around} {X:Cx} {e iter tg:Expr} {fd:FuncData} {h:Heap} {H H':Hp} {pins:?A} {ch fp:List Addr} {N ps:List Str} {vs xs:List V} {its us:?q} {M:Model} {i j k n t':Nat} {o:Obj} {p pos:Pos} {P:Program} {scope:Scope} {s:Shared} {σ:St} {qual x:Str} {ta:TA} {te tl:TE} {g:TG} {wi:TI} {v y:V} {u:Value} {E Q:Value→?k} {w:World}
theorem Vals.length (r:Vals xs us):xs.length=us.length:=Paired.length r
theorem Vals.get:∀ {xs:List V} {us:?q} {i:Nat} {x:V},Vals xs us→xs[i]? = some x→∃ u,us[i]? = some u∧RelV x u
 | _,_,_,_,.nil,e=>by simp at e
 | _,_,0,_,.cons r _,e=>by simp at e;subst e;exact ⟨_,rfl,r⟩
 | _,_,i+1,x,.cons _ t,e=>by
   obtain ⟨u,h1,h2⟩:=Vals.get (i:=i) (x:=x) t (by simpa using e);exact ⟨u,by simpa using h1,h2⟩
theorem Vals.set {x:V} (r:RelV x u):∀ {xs:List V} {us:?q} (i:Nat),Vals xs us→Vals (xs.set i x) (us.set i u)
 | _,_,_,.nil=>.nil
 | _,_,0,.cons _ t=>.cons r t
 | _,_,i+1,.cons q t=>.cons q (Vals.set r i t)
theorem Vals.append {ys:List V} {ws:?q} (h:Vals xs us) (s:Vals ys ws):Vals (xs++ys) (us++ws):=by
 induction h with
 | nil=>exact s
 | cons r _ ih=>exact .cons r ih
theorem Vals.take (n:Nat) (h:Vals xs us):Vals (xs.take n) (us.take n):=by
 induction h generalizing n with
 | nil=>cases n<;>exact .nil
 | cons r _ ih =>
   cases n with
   | zero=>exact .nil
   | succ n=>exact .cons r (ih n)
theorem Vals.drop:∀ {xs:List V} {us:?q} (n:Nat),Vals xs us→Vals (xs.drop n) (us.drop n)
 | _,_,0,r=>r
 | _,_,_+1,.nil=>.nil
 | _,_,n+1,.cons _ t=>Vals.drop n t
def RelO:Option V→?D→Prop
 | some v,some u=>RelV v u
 | none,none=>True
 | _,_=>False
def KV {κ:Type}:List (κ×V)→List (κ×Value)→Prop:=Paired fun (p:κ×V) (q:κ×Value)=>p.1=q.1∧RelV p.2 q.2
def kV:Key→V
 | .inl i=>.int i
 | .inr x=>.str x
inductive HO where
 | lst (xs:List V)
 | tup (xs:List V)
 | dK (kvs:List (Key×V))|dT (kvs:List (List Key×V))
 | set (S:Int→Bool) (n:Nat)
 | ins (C dx:Addr) (fs:List (Str×V))
 | own (x:Addr)
 | xd (fs:List (Str×V))
 | met (f x:Addr)
 | rng (lo hi:Int)
 | frz (o:Obj) (u:HO)
 | tbl (ps:?H)
 | ext (φ:Heap→Prop)
abbrev Hp:=Addr→Option HO
def upd (H:Hp) (a:Addr) (o:HO):Hp:=fun b=>if b=a then some o else H b
theorem Zc {o:HO}:upd H a o a=some o:=by unfold upd;rw [if_pos rfl]
theorem Zk {o:HO} (h:b≠a):upd H a o b=H b:=by unfold upd;rw [if_neg h]
theorem Zst {o u:HO}:upd (upd H a o) a u=upd H a u:=by
 funext b;unfold upd;split<;>rfl
theorem Zox {o u:HO} (h:H a=some o) (h':H b=some u) (d:o≠u):a≠b:=by
 intro e;subst e;rw [h] at h';exact d (Option.some.inj h')
theorem Zm {o:HO} (h:H a=some o) (h':H b=none):a≠b:=by
 intro e;subst e;rw [h] at h';cases h'
def IsTupN (h:Heap) (a:Addr) (its:?H):Prop:=∃ o,h.get? a=some o∧(o.cls=?G ∧ o.dict=none)∧∃ n,o.data=.seq its n
theorem IsTupN.is {its:?H} (x:IsTupN h a its):IsTup h a its:=let ⟨o,e,c,n,d⟩:=x;⟨o,e,c.1,n,d⟩
theorem IsTupN.new (h:Heap) (its:?H):IsTupN (h.push { cls:=?G,data:=.seq its }) h.objs.size its:=⟨_,n8_ _ rfl,⟨rfl,rfl⟩,_,rfl⟩
section
variable (P:Program) (w:World)
def ObjOk (H:Hp) (h:Heap) (a:Addr):HO→Prop
 | .lst xs=>xs.length≤sizeLine∧∃ (its:?q) (n:Nat),Vals xs its∧h.get? a=some { cls:=.type "list",data:=.seq its.toArray n }
 | .tup xs=>xs.length≤sizeLine∧∃ its:?q,Vals xs its∧IsTupN h a its.toArray
 | .dK kvs=>kvs.length≤sizeLine∧(a == sysModules)=false∧∃ vs,KV kvs vs∧h.DictOf (Y5 P w) a vs
 | .dT kvs=>kvs.length≤sizeLine∧(a == sysModules)=false∧∃ xs:List (List Key×Addr×Value),
    Paired (fun (p:List Key×V) (q:List Key×Addr×Value)=>p.1=q.1∧H q.2.1=some (.tup (p.1.map kV))∧RelV p.2 q.2.2) kvs xs ∧
    ∃ o es ep,h.get? a=some o∧o.ExactDict∧o.data=.dict es ep∧es.toList=xs.map (entryOfKey (tupleKind (Y5 P w)))∧(xs.map (·.1)).Nodup
 | .set S n=>h.SetOf (intKind P w) a S n
 | .ins C dx fs=>H dx=some (.own a)∧fs.length≤1000∧dx≠a∧h.get? a=some (PySem.W.instObj C dx) ∧
    ∃ mA,h.Ns1 dx mA∧(∀ f,RelO (fs.lookup f) (mA f))∧PySem.Within mA (fs.map (·.1))
 | .own _=>∃ o,h.get? a=some o
 | .xd fs=>∃ mA,h.Ns1 a mA∧∀ f,RelO (fs.lookup f) (mA f)
 | .rng lo hi=>∃ t u v,h.get? a=some { cls:=.type "range",data:=.fields #[.int lo t,.int hi u,.int 1 v] }
 | .frz o u=>h.get? a=some o∧ObjOk H h a u
 | .tbl ps=>h.get? a=some { cls:=.none,data:=.fields ps }
 | .met f x=>h.get? a=some (PySem.W.methodObj (.ref f) (.ref x))
 | .ext φ=>φ h∧(∃ o,h.get? a=some o)∧∀ h1 h2:Heap,φ h1→(∀ o,h1.get? a=some o→h2.get? a=some o)→φ h2
def HOk (H:Hp) (h:Heap):Prop:=∀ a o,H a=some o→ObjOk P w H h a o
end
section
variable {P:Program} {w:World} {H H':Hp} {h h':Heap} {a:Addr} {o:HO}
theorem ObjOk.lt (x:ObjOk P w H h a o):a<h.objs.size:=by
 cases o with
 | lst xs=>obtain ⟨_,_,_,_,e⟩:=x;exact n14_ e
 | tup xs=>obtain ⟨_,_,_,p⟩:=x;exact p.is.lt
 | dK kvs=>obtain ⟨_,_,_,_,o,_,_,e,_⟩:=x;exact n14_ e
 | dT kvs=>obtain ⟨_,_,_,_,o,_,_,e,_⟩:=x;exact n14_ e
 | set S n=>obtain ⟨o,_,_,_,e,_⟩:=x;exact n14_ e
 | ins C dx fs=>obtain ⟨_,_,_,e,_⟩:=x;exact n14_ e
 | own y=>obtain ⟨_,e⟩:=x;exact n14_ e
 | xd fs=>obtain ⟨_,⟨_,_,_,e,_⟩,_⟩:=x;exact n14_ e
 | rng lo hi=>obtain ⟨_,_,_,e⟩:=x;exact n14_ e
 | frz ob u=>obtain ⟨e,_⟩:=x;exact n14_ e
 | tbl ps=>exact n14_ (show h.get? a=some _ from x)
 | met f y=>exact n14_ (show h.get? a=some _ from x)
 | ext φ=>obtain ⟨_,⟨_,e⟩,_⟩:=x;exact n14_ e
theorem Paired.mapP {β:Type} {F G:α→β→Prop} {l₁:List α} {l₂:List β} (h:Paired F l₁ l₂) (f:∀ a b,F a b→G a b):Paired G l₁ l₂:=by
 induction h with
 | nil=>exact .nil
 | cons r _ ih=>exact .cons (f _ _ r) ih
theorem ObjOk.stay (x:ObjOk P w H h a o) (k:∀ b u,(b=a∨H b=some (.own a))→h.get? b=some u→h'.get? b=some u)
 (ho:∀ b,H b=some (.own a)→H' b=some (.own a)) (ht:∀ b xs,H b=some (.tup xs)→H' b=some (.tup xs)):ObjOk P w H' h' a o:=by
 induction o with
 | lst xs=>obtain ⟨z,its,n,r,e⟩:=x;exact ⟨z,its,n,r,k _ _ (.inl rfl) e⟩
 | tup xs=>obtain ⟨z,its,r,ob,e,c⟩:=x;exact ⟨z,its,r,ob,k _ _ (.inl rfl) e,c⟩
 | dK kvs=>obtain ⟨z,y,vs,r,ob,es,ep,e,c⟩:=x;exact ⟨z,y,vs,r,ob,es,ep,k _ _ (.inl rfl) e,c⟩
 | dT kvs =>
   obtain ⟨z,y,xs,r,ob,es,ep,e,c⟩:=x;exact ⟨z,y,xs,Paired.mapP r fun p q z=>⟨z.1,ht _ _ z.2.1,z.2.2⟩,ob,es,ep,k _ _ (.inl rfl) e,c⟩
 | set S n=>obtain ⟨ob,es,ep,t,e,c⟩:=x;exact ⟨ob,es,ep,t,k _ _ (.inl rfl) e,c⟩
 | ins C dx fs =>
   obtain ⟨d,z,ne,e,mA,⟨od,es,ep,e2,c⟩,r⟩:=x;exact ⟨ho _ d,z,ne,k _ _ (.inl rfl) e,mA,⟨od,es,ep,k _ _ (.inr d) e2,c⟩,r⟩
 | own y=>obtain ⟨ob,e⟩:=x;exact ⟨ob,k _ _ (.inl rfl) e⟩
 | xd fs=>obtain ⟨mA,⟨od,es,ep,e,c⟩,r⟩:=x;exact ⟨mA,⟨od,es,ep,k _ _ (.inl rfl) e,c⟩,r⟩
 | rng lo hi=>obtain ⟨t,u,v,e⟩:=x;exact ⟨t,u,v,k _ _ (.inl rfl) e⟩
 | frz ob u ih=>obtain ⟨e,q⟩:=x;exact ⟨k _ _ (.inl rfl) e,ih q⟩
 | tbl ps =>
   have e:h.get? a=some { cls:=.none,data:=.fields ps }:=x;show h'.get? a=some { cls:=.none,data:=.fields ps }
   exact k a _ (.inl rfl) e
 | met f y =>
   have e:h.get? a=some (PySem.W.methodObj (.ref f) (.ref y)):=x;show h'.get? a=some (PySem.W.methodObj (.ref f) (.ref y))
   exact k a _ (.inl rfl) e
 | ext φ=>obtain ⟨p,⟨o,e⟩,st⟩:=x;exact ⟨st _ _ p fun o q=>k _ _ (.inl rfl) q,⟨o,k _ _ (.inl rfl) e⟩,st⟩
theorem HOk.lt (x:HOk P w H h) (e:H a=some o):a<h.objs.size:=(x a o e).lt
theorem HOk.fresh (x:HOk P w H h) (e:h.objs.size≤a):H a=none:=by
 cases q:H a with
 | none=>rfl
 | some u=>exact absurd (n9_ (x.lt q) e) (n94_ _)
theorem HOk.kept (x:HOk P w H h) (k:∀ b u,h.get? b=some u→h'.get? b=some u):HOk P w H h':=fun a o e =>
 (x a o e).stay (fun b u _ q=>k b u q) (fun _ q=>q) fun _ _ q=>q
theorem HOk.laid (x:HOk P w H h) (k:∀ b u,h.get? b=some u→h'.get? b=some u) (hp:h.objs.size≤a) (new:ObjOk P w (upd H a o) h' a o):HOk P w (upd H a o) h':=fun b u e=>by
 have hn:=x.fresh hp
 by_cases hb:b=a
 · subst hb;rw [Zc] at e;cases e;exact new
 · rw [Zk hb] at e;exact (x b u e).stay (fun c v _ q=>k c v q) (fun c q=>by rw [Zk (Zm q hn)];exact q) fun c xs q=>by rw [Zk (Zm q hn)];exact q
end
def Rd (H:Hp) (a:Addr) (u:HO):Prop:=H a=some u∨∃ o,H a=some (.frz o u)
theorem Rd.ok {u:HO} (r:Rd H a u) (x:HOk P w H h):ObjOk P w H h a u:=by
 rcases r with r|⟨o,r⟩
 · exact x a u r
 · obtain ⟨_,q⟩:=x a _ r;exact q
def Mut:Option HO→Prop
 | some (.lst _)=>True
 | some (.dK _)=>True
 | some (.dT _)=>True
 | some (.set _ _)=>True
 | some (.ins _ _ _)=>True
 | some (.ext _)=>True
 | _=>False
section
variable {P:Program} {w:World} {H:Hp} {h h':Heap} {x e:Addr} {o':HO}
theorem HOk.write (ok:HOk P w H h) (mu:Mut (H x)) (he:e=x∨H e=some (.own x)) (k:∀ b u,b≠e→h.get? b=some u→h'.get? b=some u) (heo:∃ u,h'.get? e=some u)
 (new:ObjOk P w (upd H x o') h' x o'):HOk P w (upd H x o') h':=fun b u q=>by
 have nown:∀ c y,H c=some (.own y)→c≠x:=fun c y r z=>by subst z;rw [r] at mu;exact mu
 have ntup:∀ c xs,H c=some (.tup xs)→c≠x:=fun c xs r z=>by subst z;rw [r] at mu;exact mu
 by_cases hb:b=x
 · subst hb;rw [Zc] at q;cases q;exact new
 · rw [Zk hb] at q
   by_cases hbe:b=e
   · have q':H b=some (.own x):=by
      rcases he with z|z
      · exact absurd (hbe.trans z) hb
      · rw [hbe];exact z
     rw [q] at q';cases q';obtain ⟨v,hv⟩:=heo;exact ⟨v,by rw [hbe];exact hv⟩
   · refine (ok b u q).stay (fun c v hc r=>k c v ?_ r) (fun c r=>by rw [Zk (nown c b r)];exact r) fun c xs r=>by rw [Zk (ntup c xs r)];exact r
     rcases hc with rfl|hc
     · exact hbe
     · rintro rfl
       rcases he with z|z
       · exact nown c b hc z
       · rw [hc] at z;cases z;exact hb rfl
end
structure Un (fs ex:List Addr) (H H':Hp) (h h':Heap):Prop where
 keep:∀ b o,h.get? b=some o→H b=none→b∉fs→b∉ex→h'.get? b=some o
 slot:∀ b o,h.get? b=some o→H b=none→b∈fs→b∉ex→∃ sl,h'.get? b=some { o with slots:=sl }
 free:∀ b o,h.get? b=some o→H b=none→b∉ex→H' b=none
 there:∀ b o,h.get? b=some o→b∉ex→∃ o',h'.get? b=some o'
 tups:∀ b xs,H b=some (.tup xs)→H' b=some (.tup xs)
 frzs:∀ b o u,H b=some (.frz o u)→H' b=some (.frz o u)
 tbls:∀ b ps,H b=some (.tbl ps)→∃ more,H' b=some (.tbl (ps++more))
section
variable {fs fs' ex ex':List Addr} {H H1 H2:Hp} {h h1 h2 h':Heap} {a x e:Addr} {o:HO}
theorem Un.any (u:Un fs ex H H1 h h1) {ob:Obj} (q:h.get? b=some ob) (n:H b=none) (hx:b∉ex):∃ sl,h1.get? b=some { ob with slots:=sl }:=by
 by_cases hb:b∈fs
 · exact u.slot b ob q n hb hx
 · exact ⟨ob.slots,u.keep b ob q n hb hx⟩
theorem Un.kept (k:∀ b u,h.get? b=some u→h'.get? b=some u):Un fs ex H H h h' :=
 ⟨fun b ob q _ _ _=>k b ob q,fun b ob q _ _ _=>⟨ob.slots,k b ob q⟩,fun _ _ _ n _=>n,fun b ob q _=>⟨ob,k b ob q⟩,fun _ _ q=>q,fun _ _ _ q=>q,fun _ ps q=>⟨#[],by rw [q];simp⟩⟩
theorem Un.refl:Un fs ex H H h h:=Un.kept fun _ _ q=>q
theorem Un.laid (k:∀ b u,h.get? b=some u→h'.get? b=some u) (hp:h.objs.size≤a) (hn:H a=none):Un fs ex H (upd H a o) h h' where
 keep:=fun b u q _ _ _=>k b u q
 slot:=fun b u q _ _ _=>⟨u.slots,k b u q⟩
 free:=fun b u q n _=>by rw [Zk (n26_ (n9_ (n14_ q) hp))];exact n
 there:=fun b u q _=>⟨u,k b u q⟩
 tups:=fun b xs q=>by rw [Zk (Zm q hn)];exact q
 frzs:=fun b u xs q=>by rw [Zk (Zm q hn)];exact q
 tbls:=fun b ps q=>⟨#[],by rw [Zk (Zm q hn),q];simp⟩
theorem Un.write (mu:Mut (H x)) (he:e=x∨H e=some (.own x)) (k:∀ b u,b≠e→h.get? b=some u→h'.get? b=some u) (heo:∃ u,h'.get? e=some u):Un fs ex H (upd H x o) h h':=by
 have hx:∀ b,H b=none→b≠x:=fun b n z=>by subst z;rw [n] at mu;exact mu
 have hb:∀ b,H b=none→b≠e:=fun b n z=>by
  subst z
  rcases he with r|r
  · exact hx b n r
  · rw [n] at r;cases r
 have hm:∀ b u,H b=some u→¬ Mut (some u)→b≠x:=fun b u q nm z=>by subst z;rw [q] at mu;exact nm mu
 refine ⟨fun b u q n _ _=>k b u (hb b n) q,fun b u q n _ _=>⟨u.slots,k b u (hb b n) q⟩,fun b u q n _=>by rw [Zk (hx b n)];exact n,fun b u q _=>?_,
  fun b xs q=>by rw [Zk (hm b _ q fun z=>z)];exact q,fun b u xs q=>by rw [Zk (hm b _ q fun z=>z)];exact q,fun b ps q=>⟨#[],by rw [Zk (hm b _ q fun z=>z),q];simp⟩⟩
 by_cases hbe:b=e
 · subst hbe;exact heo
 · exact ⟨u,k b u hbe q⟩
end
def trk (h:Heap) (H:Hp):List Addr:=(List.range h.objs.size).filter fun a=>(H a).isSome
def hidT (h:Heap) (H:Hp):Heap:=PySem.W.hideAll h (trk h H)
theorem Zop (h:Heap) (H:Hp):(hidT h H).objs.size=h.objs.size:=PySem.W.hideAll_size _ _
theorem Zqu (e:h.get? b=some o) (n:H b=none):(hidT h H).get? b=some o :=
 PySem.W.hideAll_get _ e fun hm=>by
  have q:(H b).isSome=true:=(List.mem_filter.mp hm).2;rw [n] at q;simp at q
theorem Ztr (e:(hidT h H).get? b=some o):h.get? b=some o∧H b=none:=by
 have e':h.get? b=some o:=PySem.W.of_hideAll (trk h H) e;refine ⟨e',?_⟩;cases q:H b with
 | none=>rfl
 | some x =>
   have hm:b∈trk h H:=List.mem_filter.mpr ⟨n42_.mpr (n14_ e'),by simp [q]⟩;have z:(hidT h H).get? b=none:=PySem.W.hideAll_none (trk h H) hm;rw [z] at e;cases e
structure Mod (K:PySem.W.Frag) (mg:Str→?D) (base:Heap):Prop where
 kin:K.In base
 glob:base.Ns mainGlobals mg
 blt:∃ mb,base.Ns builtinsNs mb∧∀ x:Str,x ≠ "__name__" → mb x=bootBuiltins x
 nolimit:base.NoLimit
 seer:base.NoSeer
 digits:base.NoDigits
structure Cx where
 prog:Program
 w:World
 K:PySem.W.Frag
 mg:Str→?D
 base:Heap
 A:Around
 N:List Str
 s₀:Shared
 H₀:Hp
 env:Env
 outer:List Env
 stack:List Env
 ex:List Addr
 fn:Str→Bool
 calm:Bool
 pn:?A
 xe:Value→?k
def frs (l:List Env):List Addr:=l.filterMap (·.frame)
abbrev Cx.fs (X:Cx):List Addr:=frs X.outer
def Vis (sc:Scope) (x:Str):Prop:=sc.names.lookup x=some .local∨sc.names.lookup x=some .cell∨sc.names.lookup x=some .free
def Loc (sc:Scope) (x:Str):Prop:=sc.names.lookup x=some .local∨sc.names.lookup x=some .cell
def Look (env:Env) (h:Heap) (m:Str→?D) (x:Str) (u:Value):Prop :=
 (env.kindOf x=some .local∧m x=some u)∨((env.kindOf x=some .cell∨env.kindOf x=some .free)∧∃ c,env.cells.lookup x=some c∧h.IsCell c (some u))
structure Cx.Ok (X:Cx):Prop where
 mod:Mod X.K X.mg X.base
 kind:X.env.scope.kind=.function
 glob:X.env.globals=mainGlobals
 blt:X.env.builtins=builtinsNs
 above:X.s₀.z≤X.env.locals
 inj:∀ x y c,X.env.cells.lookup x=some c→X.env.cells.lookup y=some c→x=y
 has:∀ x,(X.env.kindOf x=some .cell∨X.env.kindOf x=some .free)→∃ c,X.env.cells.lookup x=some c
 cab:∀ x c,X.fn x=true→X.env.cells.lookup x=some c→X.s₀.z≤c
 hd:X.calm=true→X.A.handled=none
 frames:X.A.frames=some X.stack
 stk:X.stack=X.outer∨(X.stack=X.env :: X.outer∧X.env.frame=some X.env.locals)
 exf:∀ b∈X.ex,b≠X.env.locals∧∀ x c,X.env.cells.lookup x=some c→c≠b
 bs:∀ b o,X.base.get? b=some o→X.s₀.heap.get? b=some o∧X.H₀ b=none
 bsz:X.base.objs.size≤X.s₀.z
 noex:∀ b o,X.base.get? b=some o→b∉X.ex
 exfs:∀ b∈X.ex,b∉X.fs
 funs:X.s₀.heap.FunFrames X.base X.outer
 frf:∀ b∈X.fs,X.H₀ b=none
structure Inv (X:Cx) (pins:?A) (σ:List (Option V)) (H:Hp) (s:Shared):Prop where
 ok:X.Ok
 os:s.os=X.s₀.os
 bare:AllBare s.gens
 base:Un X.fs X.ex X.H₀ H X.s₀.heap s.heap
 loc:∃ m,s.heap.Ns X.env.locals m∧∀ (i:Nat) (x:Str) (v:V),X.N[i]? = some x→σ[i]? = some (some v)→Vis X.env.scope x→∃ u,RelV v u∧Look X.env s.heap m x u
 cell:∀ x c,X.env.cells.lookup x=some c→∃ v,s.heap.IsCell c v
 free:H X.env.locals=none
 freeC:∀ x c,X.env.cells.lookup x=some c→H c=none∨(X.fn x=false∧∃ o u,H c=some (.frz o u))
 pin:∀ p∈X.pn++pins,s.heap.get? p.1=some p.2∧H p.1=none∧p.1≠X.env.locals∧p.1∉X.fs∧∀ v,p.2.data≠.cell v
 hok:HOk X.prog X.w H s.heap
 len:σ.length=X.N.length
section
variable {X:Cx} {pins:?A} {σ:List (Option V)} {H H':Hp} {s:Shared} {h':Heap}
theorem Cx.Ok.nofr (ok:X.Ok) (e:X.base.get? b=some o):b∉X.fs:=fun hb=>by
 have:=(ok.funs.mem hb).1
 rw [e] at this;cases this
theorem Inv.bs (I:?p):∀ b o,X.base.get? b=some o→?I=some o∧H b=none:=fun b o e =>
 ⟨I.base.keep b o (I.ok.bs b o e).1 (I.ok.bs b o e).2 (I.ok.nofr e) (I.ok.noex b o e),I.base.free b o (I.ok.bs b o e).1 (I.ok.bs b o e).2 (I.ok.noex b o e)⟩
theorem Inv.bk (I:?p):∀ b o,X.base.get? b=some o→?I=some o:=fun b o e=>(I.bs b o e).1
theorem Inv.mod (I:?p):Mod X.K X.mg X.base:=I.ok.mod
theorem Inv.kIn (I:?p):X.K.In s.heap:=I.ok.mod.kin.keeps I.bk
theorem Inv.lt (I:?p):X.env.locals<s.z:=let ⟨_,hn,_⟩:=I.loc;hn.lt
theorem Inv.sz (I:?p):X.s₀.z≤s.z:=n36_ I.ok.above (Nat.le_of_lt I.lt)
theorem Inv.nofs (I:?p) (h:s.z≤a):a∉X.fs:=fun hb=>by
 obtain ⟨_,o,ho,_⟩:=I.ok.funs.mem hb;exact absurd (n9_ (n14_ ho) (n36_ I.sz h)) (n94_ _)
theorem Inv.cne (I:?p):∀ x c,X.env.cells.lookup x=some c→c≠X.env.locals:=fun x c e z=>by
 obtain ⟨v,o,ho,hd⟩:=I.cell x c e;obtain ⟨m,⟨o',es,ep,ho',hd',_⟩,_⟩:=I.loc;rw [z,ho'] at ho;cases ho;rw [hd'] at hd;cases hd
theorem Inv.funs (I:?p):s.heap.FunFrames X.base X.outer:=by
 have all:∀ (l:List Env),(∀ b∈frs l,b∈X.fs)→X.s₀.heap.FunFrames X.base l→s.heap.FunFrames X.base l:=by
  intro l
  induction l with
  | nil=>intro _ _;trivial
  | cons env r ih =>
    intro hs hl;obtain ⟨hk,⟨L,o,hf,hn,ho,hd⟩,hr⟩:=hl;have hL:L∈X.fs:=hs L (by unfold frs;rw [List.filterMap_cons,hf];exact n24_);obtain ⟨sl,e⟩:=I.base.slot L o ho (I.ok.frf L hL) hL fun z=>I.ok.exfs L z hL;exact ⟨hk,⟨L,_,hf,hn,e,hd⟩,ih (fun b hb=>hs b (by unfold frs;rw [List.filterMap_cons,hf];exact n17_ _ hb)) hr⟩
 exact all X.outer (fun _ hb=>hb) I.ok.funs
theorem Inv.stack (I:?p):s.heap.FunFrames X.base X.stack:=by
 rcases I.ok.stk with e|⟨e,hf⟩
 · rw [e];exact I.funs
 · rw [e];obtain ⟨m,hn,_⟩:=I.loc;refine .cons (by rw [I.ok.kind];decide) hf hn ?_ I.funs;exact Heap.get?_none_of_le (n36_ I.ok.bsz I.ok.above)
theorem Inv.stkSub (I:?p):∀ b∈frs X.stack,b∈X.env.locals :: X.fs:=fun b hb=>by
 rcases I.ok.stk with e|⟨e,hf⟩
 · rw [e] at hb;exact n17_ _ hb
 · rw [e] at hb;unfold frs at hb;rw [List.filterMap_cons,hf] at hb;exact hb
theorem Inv.stkFree (I:?p):∀ b∈frs X.stack,H b=none:=fun b hb=>by
 rcases n13_.mp (I.stkSub b hb) with e|hb
 · rw [e];exact I.free
 · obtain ⟨_,o,ho,_⟩:=I.ok.funs.mem hb;exact I.base.free b o ho (I.ok.frf b hb) fun z=>I.ok.exfs b z hb
theorem Inv.step {g':Array GenState} {d':Drawn} (I:?p)
 (hch:∀ b∈ch,(b∈X.ex∨X.s₀.z≤b)∧b≠X.env.locals∧(∀ x c,X.env.cells.lookup x=some c→c≠b)∧∀ p∈X.pn++pins,p.1≠b)
 (keep:∀ b o,b≠X.env.locals→b∉X.fs→b∉ch→?I=some o→H b=none→h'.get? b=some o)
 (slot:∀ b o,b≠X.env.locals→b∈X.fs→b∉ch→?I=some o→H b=none→∃ sl,h'.get? b=some { o with slots:=sl }) (free:∀ b o,b∉ch→?I=some o→H b=none→H' b=none)
 (there:∀ b o,b∉ch→?I=some o→∃ o',h'.get? b=some o')
 (tups:∀ b xs,H b=some (.tup xs)→H' b=some (.tup xs)) (frzs:∀ b o u,H b=some (.frz o u)→H' b=some (.frz o u)) (tbls:∀ b ps,H b=some (.tbl ps)→∃ more,H' b=some (.tbl (ps++more)))
 (ns:∀ m,s.heap.Ns X.env.locals m→h'.Ns X.env.locals m) (hok:HOk X.prog X.w H' h') (hg:AllBare g') :
 Inv X pins σ H' { s with heap:=h',gens:=g',drawn:=d',toks:=t' }:=by
 have neL:∀ b o,X.s₀.heap.get? b=some o→b≠X.env.locals:=fun b o e=>n26_ (n9_ (n14_ e) I.ok.above)
 have neC:∀ b o,X.s₀.heap.get? b=some o→b∉X.ex→b∉ch:=fun b o e hx hb=>by
  rcases (hch b hb).1 with z|z
  · exact hx z
  · exact absurd (n9_ (n14_ e) z) (n94_ _)
 have cellK:∀ x c,X.env.cells.lookup x=some c→∀ v,s.heap.IsCell c v→h'.IsCell c v:=fun x c e v ⟨o,ho,hd⟩=>by
  have nch:c∉ch:=fun z=>(hch c z).2.2.1 x c e rfl
  rcases I.freeC x c e with fz|⟨_,o',u',fz⟩
  · by_cases hc:c∈X.fs
    · obtain ⟨sl,q⟩:=slot c o (I.cne x c e) hc nch ho fz;exact ⟨_,q,hd⟩
    · exact ⟨o,keep c o (I.cne x c e) hc nch ho fz,hd⟩
  · have h1:=(I.hok c _ fz).1;rw [ho] at h1;cases h1;exact ⟨o,(hok c _ (frzs c o u' fz)).1,hd⟩
 refine ⟨I.ok,I.os,hg,⟨fun b o e n hb hx=>?_,fun b o e n hb hx=>?_,fun b o e n hx=>?_,fun b o e hx=>?_,fun b xs e=>tups b xs (I.base.tups b xs e),fun b o xs e=>frzs b o xs (I.base.frzs b o xs e),fun b ps e=>?_⟩,?_,fun x c e=>?_,?_,fun x c e=>?_,fun p hp=>?_,hok,I.len⟩
 · exact keep b o (neL b o e) hb (neC b o e hx) (I.base.keep b o e n hb hx) (I.base.free b o e n hx)
 · obtain ⟨sl,e1⟩:=I.base.slot b o e n hb hx;obtain ⟨sl',e2⟩:=slot b _ (neL b o e) hb (neC b o e hx) e1 (I.base.free b o e n hx);exact ⟨sl',e2⟩
 · obtain ⟨o',e1⟩:=I.base.there b o e hx;exact free b o' (neC b o e hx) e1 (I.base.free b o e n hx)
 · obtain ⟨o',e1⟩:=I.base.there b o e hx;exact there b o' (neC b o e hx) e1
 · obtain ⟨m1,e1⟩:=I.base.tbls b ps e;obtain ⟨m2,e2⟩:=tbls b _ e1;exact ⟨m1++m2,by rw [e2,Array.append_assoc]⟩
 · obtain ⟨m,hn,hl⟩:=I.loc;refine ⟨m,ns m hn,fun i x v e1 e2 e3=>?_⟩;obtain ⟨u,r,l⟩:=hl i x v e1 e2 e3;refine ⟨u,r,?_⟩
   rcases l with l|⟨k,c,e,z⟩
   · exact .inl l
   · exact .inr ⟨k,c,e,cellK x c e _ z⟩
 · obtain ⟨v,z⟩:=I.cell x c e;exact ⟨v,cellK x c e v z⟩
 · obtain ⟨m,⟨o,_,_,ho,_⟩,_⟩:=I.loc;exact free _ o (fun z=>(hch _ z).2.1 rfl) ho I.free
 · obtain ⟨v,o,ho,hd⟩:=I.cell x c e;exact (I.freeC x c e).imp (fun fz=>free c o (fun z=>(hch c z).2.2.1 x c e rfl) ho fz) fun ⟨q,o',u',fz⟩=>⟨q,o',u',frzs c o' u' fz⟩
 · obtain ⟨e,n,ne,nf,d⟩:=I.pin p hp;have nch:p.1∉ch:=fun z=>(hch p.1 z).2.2.2 p hp rfl;exact ⟨keep p.1 p.2 ne nf nch e n,free p.1 p.2 nch e n,ne,nf,d⟩
theorem Inv.un (I:?p) (u:Un X.fs [] H H' s.heap h') (hok:HOk X.prog X.w H' h'):Inv X pins σ H' { s with heap:=h',toks:=t' }:=by
 obtain ⟨m,⟨o,es,ep,ho,r⟩,_⟩:=id I.loc;obtain ⟨sl,hL⟩:=u.any ho I.free ?f
 exact I.step (g':=s.gens) (d':=s.drawn) (ch:=[]) (fun _ z=>nomatch z) (fun b o _ hb _ e n=>u.keep b o e n hb ?f) (fun b o _ hb _ e n=>u.slot b o e n hb ?f) (fun b o _ e n=>u.free b o e n ?f) (fun b o _ e=>u.there b o e ?f) u.tups u.frzs u.tbls (fun m' hm=>by
  obtain ⟨o',es',ep',ho',r'⟩:=hm;rw [ho] at ho';cases ho';exact ⟨_,es',ep',hL,r'⟩) hok I.bare
theorem Inv.call {g':Array GenState} {d':Drawn} (I:?p) (u:Un (frs X.stack) ch H H' s.heap h') (hok:HOk X.prog X.w H' h') (hg:AllBare g')
 (hch:∀ b∈ch,(b∈X.ex∨X.s₀.z≤b)∧b≠X.env.locals∧(∀ x c,X.env.cells.lookup x=some c→c≠b)∧∀ p∈X.pn++pins,p.1≠b) :
 Inv X pins σ H' { s with heap:=h',gens:=g',drawn:=d',toks:=t' }:=by
 obtain ⟨m,⟨o,es,ep,ho,r⟩,_⟩:=id I.loc;obtain ⟨sl,hL⟩:=u.any ho I.free fun z=>(hch _ z).2.1 rfl
 exact I.step (ch:=ch) hch (fun b o hL hb hc e n=>u.keep b o e n (fun z=>(n13_.mp (I.stkSub b z)).elim hL hb) hc) (fun b o _ _ hc e n=>u.any e n hc) (fun b o hc e n=>u.free b o e n hc) (fun b o hc e=>u.there b o e hc) u.tups u.frzs u.tbls (fun m' hm=>by
  obtain ⟨o',es',ep',ho',r'⟩:=hm;rw [ho] at ho';cases ho';exact ⟨_,es',ep',hL,r'⟩) hok hg
theorem Inv.turned (I:?p) (k:∀ b o,b≠it→?I=some o→h'.get? b=some o) (hn:H it=none) (hL:it≠X.env.locals)
 (h1:it∈X.ex∨X.s₀.z≤it) (h2:∀ x c,X.env.cells.lookup x=some c→c≠it) (h3:∀ p∈X.pn++pins,p.1≠it):Inv X pins σ H { s with heap:=h',toks:=t' }:=by
 have nit:∀ b u,H b=some u→b≠it:=fun b u e z=>by rw [z,hn] at e;cases e
 refine I.step (g':=s.gens) (d':=s.drawn) (ch:=[it]) (fun b hb=>?_) (fun b o _ _ hc e _=>k b o (fun z=>hc (by simp [z])) e) (fun b o _ _ hc e _=>⟨o.slots,k b o (fun z=>hc (by simp [z])) e⟩) (fun _ _ _ _ n=>n)
  (fun b o hc e=>⟨o,k b o (fun z=>hc (by simp [z])) e⟩) (fun _ _ e=>e) (fun _ _ _ e=>e) (fun b ps e=>⟨#[],by rw [e];simp⟩) (fun m hm=>?_) (fun b u e=>?_) I.bare
 · have e:b=it:=by simpa using hb
   subst e;exact ⟨h1,hL,h2,h3⟩
 · obtain ⟨o,es,ep,ho,r⟩:=hm;exact ⟨o,es,ep,k _ o (Ne.symm hL) ho,r⟩
 · refine (I.hok b u e).stay (fun c v hc q=>k c v ?_ q) (fun _ q=>q) fun _ _ q=>q
   rcases hc with z|z
   · rw [z];exact nit b u e
   · exact nit c _ z
theorem Inv.tok (I:?p) (t:Nat):Inv X pins σ H { s with toks:=t }:=I.un (h':=s.heap) (t':=t) Un.refl I.hok
theorem Inv.kept (I:?p) (k:∀ b u,?I=some u→h'.get? b=some u):Inv X pins σ H { s with heap:=h',toks:=t' }:=I.un (Un.kept k) (I.hok.kept k)
theorem Inv.laid {o:HO} (I:?p) (k:∀ b u,?I=some u→h'.get? b=some u) (hp:s.z≤a) (new:ObjOk X.prog X.w (upd H a o) h' a o) :
 Inv X pins σ (upd H a o) { s with heap:=h',toks:=t' }:=I.un (Un.laid k hp (I.hok.fresh hp)) (I.hok.laid k hp new)
theorem Inv.write {x e:Addr} {o:HO} (I:?p) (mu:Mut (H x)) (he:e=x∨H e=some (.own x)) (k:∀ b u,b≠e→?I=some u→h'.get? b=some u) (heo:∃ u,h'.get? e=some u)
 (new:ObjOk X.prog X.w (upd H x o) h' x o):Inv X pins σ (upd H x o) { s with heap:=h',toks:=t' }:=I.un (Un.write mu he k heo) (I.hok.write mu he k heo new)
theorem Inv.pins_of {pins':?A} (I:?p) (h:∀ p∈pins',s.heap.get? p.1=some p.2∧H p.1=none∧p.1≠X.env.locals∧p.1∉X.fs∧∀ v,p.2.data≠.cell v):Inv X pins' σ H s :=
 ⟨I.ok,I.os,I.bare,I.base,I.loc,I.cell,I.free,I.freeC,fun p hp=>(n39_.mp hp).elim (fun z=>I.pin p (List.mem_append_left _ z)) (h p),I.hok,I.len⟩
theorem Zku (hN:N.Nodup) (a:N[i]? = some x) (b:N[j]? = some x):i=j:=by
 obtain ⟨h1,e1⟩:=n18_.mp a;obtain ⟨h2,e2⟩:=n18_.mp b;exact (List.getElem_inj hN).mp (e1.trans e2.symm)
theorem Zn2 {Q:Unit→?k} (I:?p) (hN:X.N.Nodup) (hi:X.N[i]? = some x) (hx:Loc X.env.scope x) (r:RelV v u)
 (h:∀ s',Inv X pins (σ.set i (some v)) H s'→(∃ a,Heap.SameBut a s.heap s'.heap∧(a=X.env.locals∨X.env.cells.lookup x=some a))→Q () s') (hf:X.fn x=true∨X.env.scope.names.lookup x=some .local:=by first|exact .inl rfl|exact .inr rfl|assumption):wpAny M A (storeName X.env x u) Q E s:=by
 obtain ⟨m,hn,hl⟩:=id I.loc;have hcls:(X.env.scope.kind == .class||(X.env.scope.kind == .module&&X.env.locals != X.env.globals))=false:=by rw [I.ok.kind];rfl
 have hiσ:i<σ.length:=by rw [I.len];exact (n18_.mp hi).1
 have cne:=I.cne
 have tracked:∀ {a:Addr} {h':Heap},(∃ o,s.heap.get? a=some o∧H a=none)→Heap.SameBut a s.heap h'→HOk X.prog X.w H h':=fun {a h'} ha hs b ob e=>by
  obtain ⟨_,_,hfree⟩:=ha;refine (I.hok b ob e).stay (fun c w' hc q=>(hs.2 c ?_).trans q) (fun _ q=>q) fun _ _ q=>q;rintro rfl
  rcases hc with rfl|hc
  · rw [hfree] at e;cases e
  · rw [hfree] at hc;cases hc
 rcases hx with hk|hk
 · refine wpAny_storeName_local hk hn (fun h' hn' hs=>?_) hcls;obtain ⟨oL,_,_,hoL,_⟩:=id hn;refine h _ ⟨I.ok,I.os,I.bare,⟨fun b o e n hb hx=>?_,fun b o e n hb hx=>?_,I.base.free,fun b o e hx=>?_,I.base.tups,I.base.frzs,I.base.tbls⟩,⟨_,hn',fun j y v' e1 e2 e3=>?_⟩,fun y c e=>?_,I.free,I.freeC,fun p hp=>?_,tracked ⟨oL,hoL,I.free⟩ hs,by simpa using I.len⟩ ⟨_,hs,.inl rfl⟩
   · exact (hs.2 b (n26_ (n9_ (n14_ e) I.ok.above))).trans (I.base.keep b o e n hb hx)
   · obtain ⟨sl,e1⟩:=I.base.slot b o e n hb hx;exact ⟨sl,(hs.2 b (n26_ (n9_ (n14_ e) I.ok.above))).trans e1⟩
   · obtain ⟨o',e1⟩:=I.base.there b o e hx;exact ⟨o',(hs.2 b (n26_ (n9_ (n14_ e) I.ok.above))).trans e1⟩
   · by_cases hj:j=i
     · subst hj;rw [hi] at e1;cases e1;rw [List.getElem?_set_self hiσ] at e2;cases e2
       exact ⟨u,r,.inl ⟨hk,by simp⟩⟩
     · rw [List.getElem?_set_ne (Ne.symm hj)] at e2;obtain ⟨u',r',q⟩:=hl j y v' e1 e2 e3;refine ⟨u',r',?_⟩
       rcases q with ⟨k,e⟩|⟨k,c,e,z⟩
       · refine .inl ⟨k,?_⟩
         have:y≠x:=fun e=>hj (Zku hN e1 (e ▸ hi))
         simp [this,e]
       · exact .inr ⟨k,c,e,z.sameBut hs (cne y c e)⟩
   · obtain ⟨w',z⟩:=I.cell y c e;exact ⟨w',z.sameBut hs (cne y c e)⟩
   · obtain ⟨e,n,ne,nf,d⟩:=I.pin p hp;exact ⟨(hs.2 p.1 ne).trans e,n,ne,nf,d⟩
 · have hfn:X.fn x=true:=by
    rcases hf with z|z
    · exact z
    · rw [z] at hk;cases hk
   obtain ⟨c,hc⟩:=I.ok.has x (.inl hk);obtain ⟨w',z⟩:=I.cell x c hc;refine wpAny_storeName_cell I.ok.kind hk hc z (fun h' hc' hs=>?_);obtain ⟨oc,hoc,hocd⟩:=id z;refine h { s with heap:=h' } ⟨I.ok,I.os,I.bare,⟨fun b o e n hb hx=>?_,fun b o e n hb hx=>?_,I.base.free,fun b o e hx=>?_,I.base.tups,I.base.frzs,I.base.tbls⟩,⟨m,hn.sameBut hs (Ne.symm (cne x c hc)),fun j y v' e1 e2 e3=>?_⟩,fun y c' e=>?_,I.free,I.freeC,fun p hp=>?_,tracked ⟨oc,hoc,(I.freeC x c hc).elim id fun z=>(by rw [hfn] at z;cases z.1)⟩ hs,by simpa using I.len⟩ ⟨c,hs,.inr hc⟩
   · exact (hs.2 b (n26_ (n9_ (n14_ e) (I.ok.cab x c hfn hc)))).trans (I.base.keep b o e n hb hx)
   · obtain ⟨sl,e1⟩:=I.base.slot b o e n hb hx;exact ⟨sl,(hs.2 b (n26_ (n9_ (n14_ e) (I.ok.cab x c hfn hc)))).trans e1⟩
   · obtain ⟨o',e1⟩:=I.base.there b o e hx;exact ⟨o',(hs.2 b (n26_ (n9_ (n14_ e) (I.ok.cab x c hfn hc)))).trans e1⟩
   · by_cases hj:j=i
     · subst hj;rw [hi] at e1;cases e1;rw [List.getElem?_set_self hiσ] at e2;cases e2
       exact ⟨u,r,.inr ⟨.inl hk,c,hc,hc'⟩⟩
     · rw [List.getElem?_set_ne (Ne.symm hj)] at e2;obtain ⟨u',r',q⟩:=hl j y v' e1 e2 e3;refine ⟨u',r',?_⟩
       rcases q with q|⟨k,c',e,z'⟩
       · exact .inl q
       · refine .inr ⟨k,c',e,z'.sameBut hs ?_⟩;rintro rfl
         exact hj (Zku hN e1 (I.ok.inj _ _ _ e hc ▸ hi))
   · by_cases hcc:c'=c
     · subst hcc;exact ⟨_,hc'⟩
     · obtain ⟨w2,z2⟩:=I.cell y c' e;exact ⟨w2,z2.sameBut hs hcc⟩
   · obtain ⟨e,n,ne,nf,d⟩:=I.pin p hp;refine ⟨(hs.2 p.1 ?_).trans e,n,ne,nf,d⟩;intro q;rw [q,hoc] at e;have q':oc=p.2:=Option.some.inj e;exact d w' (by rw [← q'];exact hocd)
theorem Zaf {Q:Unit→?k} (I:?p) (hN:X.N.Nodup) (hi:X.N[i]? = some x) (hx:Loc X.env.scope x) (r:RelV v u)
 (h:∀ s',Inv X pins (σ.set i (some v)) H s'→Q () s') (hf:X.fn x=true∨X.env.scope.names.lookup x=some .local:=by first|exact .inl rfl|exact .inr rfl|assumption):wpAny M A (storeName X.env x u) Q E s :=
 Zn2 I hN hi hx r (fun s' I' _=>h s' I') hf
theorem Inv.call' {s':Shared} (I:?p) (ho:s'.os=s.os) (u:Un (frs X.stack) ch H H' s.heap s'.heap) (hok:HOk X.prog X.w H' s'.heap) (hg:AllBare s'.gens)
 (hch:∀ b∈ch,(b∈X.ex∨X.s₀.z≤b)∧b≠X.env.locals∧(∀ x c,X.env.cells.lookup x=some c→c≠b)∧∀ p∈X.pn++pins,p.1≠b):Inv X pins σ H' s':=by
 obtain ⟨h',g',d',t',o'⟩:=s';have e:o'=s.os:=ho;subst e;exact I.call (g':=g') (t':=t') (d':=d') u hok hg hch
end
abbrev XK:=Value→Option Addr→?y
abbrev St:=List (Option V)
abbrev VK:=V→?y
abbrev TE:=St→Hp→VK→Prop
abbrev TT:=St→Hp→(Bool→?y)→Prop
abbrev TA:=St→Hp→(List V→?y)→Prop
structure Ends where
 nx:St→?y
 rt:VK
 bk:St→?y:=fun _ _=>False
 ct:St→?y:=fun _ _=>False
abbrev TS:=Ends→St→?y
def EP (X:Cx) (pins:?A) (σ:St) (Q:VK) (u:Value) (s':Shared):Prop:=∃ v H',Inv X pins σ H' s'∧RelV v u∧Q v H'
def TP (X:Cx) (pins:?A) (σ:St) (Q:Bool→?y) (b:Bool) (s':Shared):Prop:=∃ H',Inv X pins σ H' s'∧Q b H'
def AP (X:Cx) (pins:?A) (σ:St) (Q:List V→?y) (us:?q) (s':Shared):Prop:=∃ vs H',Inv X pins σ H' s'∧Vals vs us∧Q vs H'
def SP (X:Cx) (pins:?A) (D:Ends) (f:Flow) (s':Shared):Prop :=
 match f with
 | .next=>∃ σ' H',Inv X pins σ' H' s'∧D.nx σ' H'
 | .brk=>∃ σ' H',Inv X pins σ' H' s'∧D.bk σ' H'
 | .cont=>∃ σ' H',Inv X pins σ' H' s'∧D.ct σ' H'
 | .ret u=>∃ v σ' H',Inv X pins σ' H' s'∧RelV v u∧D.rt v H'
def PE (X:Cx) (e:Expr) (t:TE):Prop :=
 ∀ (pins:?A) (s:Shared) (σ:St) (H:Hp) (Q:VK),?p→t σ H Q→wpAny ?z X.A (eval e X.env) (EP X pins σ Q) X.xe s
def PT (X:Cx) (e:Expr) (t:TT):Prop :=
 ∀ (pins:?A) (s:Shared) (σ:St) (H:Hp) (Q:Bool→?y),?p→t σ H Q→wpAny ?z X.A (isTrue e X.env (eval e X.env)) (TP X pins σ Q) X.xe s
def PW (X:Cx) (e:Expr) (t:TT):Prop :=
 ∀ (whole:Sem Value) (pins:?A) (s:Shared) (σ:St) (H:Hp) (Q:Bool→?y),?p→t σ H Q→wpAny ?z X.A (isTrue e X.env whole) (TP X pins σ Q) X.xe s
theorem PW.pt {t:TT} (h:PW X e t):PT X e t:=h _
def PA (X:Cx) (es:List Expr) (t:TA):Prop :=
 ∀ (pos:Pos) (pins:?A) (s:Shared) (σ:St) (H:Hp) (Q:List V→?y),?p→t σ H Q→wpAny ?z X.A (spliced (backTo pos (starEach es X.env))) (AP X pins σ Q) X.xe s
def PS (X:Cx) (st:Stmt) (t:TS):Prop :=
 ∀ (pins:?A) (s:Shared) (σ:St) (H:Hp) (D:Ends),?p→t D σ H→wpAny ?z X.A (exec st X.env) (SP X pins D) X.xe s
def PSs (X:Cx) (st:List Stmt) (t:TS):Prop :=
 ∀ (pins:?A) (s:Shared) (σ:St) (H:Hp) (D:Ends),?p→t D σ H→wpAny ?z X.A (execs st X.env) (SP X pins D) X.xe s
theorem thn {t:Sem α} {Q Q':α→?k} (h:wpAny M A t Q E s) (hQ:∀ a s,Q a s→Q' a s):wpAny M A t Q' E s:=n55_ h hQ fun _ _ x=>x
section
variable {X:Cx}
inductive BxTVar (i:Nat) (σ:St) (H:Hp) (Q:VK):Prop
 | mk (v:_) (q1:σ[i]? = some (some v)) (q2:Q v H):BxTVar i σ H Q
def tVar (i:Nat):TE:=fun σ H Q=>BxTVar i σ H Q
def tC (v:V):TE:=fun _ H Q=>Q v H
theorem Zv2 (hN:X.N[i]? = some x) (hv:Vis X.env.scope x) (hd:(x == ("__debug__" : Str))=false:=by decide) (hcd:(x == ("__classdict__" : Str))=false:=by decide):PE X (.Name x pos) (tVar i):=by
 intro pins s σ H Q I h;obtain ⟨v,e,h⟩:=h;obtain ⟨m,hn,hl⟩:=I.loc;obtain ⟨u,r,l⟩:=hl i x v hN e hv;have fin:EP X pins σ Q u s:=⟨v,H,I,r,h⟩
 rcases l with ⟨hk,hm⟩|⟨hk,c,hc,hcell⟩
 · exact wpAny_Name (wpAny_loadName_local I.ok.kind hk hn hm fin) hd
 · rcases hk with hk|hk
   · exact wpAny_Name (wpAny_loadName_cell I.ok.kind hk hc hcell fin) hd
   · exact wpAny_Name (wpAny_loadName_free I.ok.kind hk hc hcell fin hcd) hd
theorem Ze {i j pos}:PE X (.Constant (.int i) j pos) (tC (.int i)):=fun _ _ _ H _ I h=>wpAny_Constant_int ⟨.int i,H,I.tok _,⟨_,rfl⟩,h⟩
theorem Za6 {b j pos}:PE X (.Constant (.bool b) j pos) (tC (.bl b)):=fun _ _ _ H _ I h=>Constant_bool ⟨.bl b,H,I,rfl,h⟩
def Gl (X:Cx) (x:Str):Prop:=X.env.kindOf x=some .globalImplicit
theorem Ziu (I:?p) (hg:Gl X x) (hm:X.mg x=some u) (h:Q u s)
 (hd:(x == ("__debug__" : Str))=false:=by decide):wpAny ?z X.A (eval (.Name x pos) X.env) Q E s :=
 Calls.Name_function_global I.ok.kind hg (Calls.loadGlobal_global (by rw [I.ok.glob];exact I.mod.glob.keeps I.bk) hm h) hd
theorem Zbu (I:?p) (hg:Gl X x) (hm:X.mg x=none) (hv:bootBuiltins x=some u) (h:Q u s)
 (hn:x ≠ "__name__" := by decide) (hd:(x == ("__debug__" : Str))=false:=by decide):wpAny ?z X.A (eval (.Name x pos) X.env) Q E s:=by
 obtain ⟨mb,h1,h2⟩:=I.mod.blt;exact Calls.Name_function_global I.ok.kind hg (Calls.loadGlobal_builtin (by rw [I.ok.glob];exact I.mod.glob.keeps I.bk) hm (by rw [I.ok.blt];exact h1.keeps I.bk) ((h2 x hn).trans hv) h) hd
theorem Ztp (hg:Gl X x) (hm:X.mg x=some u) (r:RelV v u) (hd:(x == ("__debug__" : Str))=false:=by decide):PE X (.Name x pos) (tC v) :=
 fun _ _ _ H _ I h=>Ziu I hg hm ⟨v,H,I,r,h⟩ hd
theorem Zg0 (hg:Gl X x) (hm:X.mg x=none) (hv:bootBuiltins x=some u) (r:RelV v u) (hn:x ≠ "__name__" := by decide) (hd:(x == ("__debug__" : Str))=false:=by decide):PE X (.Name x pos) (tC v) :=
 fun _ _ _ H _ I h=>Zbu I hg hm hv ⟨v,H,I,r,h⟩ hn hd
variable {a b:Expr} {ta tb:TE} {pos:Pos}
def PC (X:Cx) (op:CmpOp) (a b:Expr) (t:TE):Prop :=
 ∀ (pins:?A) (s:Shared) (σ:St) (H:Hp) (Q:VK),?p→t σ H Q →
   wpAny ?z X.A (eval a X.env) (fun v s₁=>wpAny ?z X.A (eval b X.env) (fun u s₂=>wpAny ?z X.A (compareOp op v u) (EP X pins σ Q) X.xe s₂) X.xe s₁) X.xe s
inductive BxTB (Q:Bool→?y) (x:V) (H1:Hp):Prop
 | mk (c:_) (q1:x=.bl c) (q2:Q c H1):BxTB Q x H1
def tB (t:TE):TT:=fun σ H Q=>t σ H fun x H1=>BxTB Q x H1
theorem Zvs {op:CmpOp} {t:TE} (h:PC X op a b t) (h1:behindInMarks op b=false:=by first|exact nobehind _ ?e ?e|rfl):PT X (.Compare a [op] [b] pos) (tB t):=by
 intro pins s σ H Q I hw;refine wpAny_isTrue_Compare1 (thn (h pins s σ H _ I hw) fun v s1 h1=>thn h1 fun u s2 h2=>thn h2 fun c s3 ⟨x,H1,I1,r1,q1⟩=>?_) h1;obtain ⟨d,rfl,q⟩:=q1;cases r1
 exact wpAny_truthy_bool ⟨H1,I1,q⟩
variable {tA tB':TT} {rest:List Expr}
def tOr (t u:TT):TT:=fun σ H Q=>t σ H fun c H1=>if c=true then Q true H1 else u σ H1 Q
def tNot (t:TT):TT:=fun σ H Q=>t σ H fun c H1=>Q (!c) H1
theorem Ze5 (ha:PT X a tA):PW X (.BoolOp .Or [a] pos) tA:=by
 intro wh pins s σ H Q I h;refine isTrue_or (thn (ha pins s σ H Q I h) fun c s1 e=>?_);cases c with
 | false=>exact isTrue_or_nil e
 | true=>exact e
theorem Zlu (ha:PT X a tA) (hb:PW X (.BoolOp .Or (b :: rest) pos) tB'):PW X (.BoolOp .Or (a :: b :: rest) pos) (tOr tA tB'):=by
 intro wh pins s σ H Q I h;refine isTrue_or (thn (ha pins s σ H _ I h) fun c s1 ⟨H1,I1,q1⟩=>?_);cases c with
 | true=>exact ⟨H1,I1,q1⟩
 | false=>exact hb wh pins s1 σ H1 Q I1 q1
theorem Yz (ha:PT X a tA):PT X (.UnaryOp .Not a pos) (tNot tA):=by
 intro pins s σ H Q I h;exact isTrue_not (ha pins s σ H (fun c H1=>Q (!c) H1) I h)
inductive BxTAndV (tb:TE) (σ:St) (Q:VK) (x:V) (H1:Hp):Prop
 | mk (c:_) (q1:x=.bl c) (q2:if c=true then tb σ H1 Q else Q (.bl false) H1):BxTAndV tb σ Q x H1
def Zwg (ta tb:TE):TE:=fun σ H Q=>ta σ H fun x H1=>BxTAndV tb σ Q x H1
inductive BxTOrV (tb:TE) (σ:St) (Q:VK) (x:V) (H1:Hp):Prop
 | mk (c:_) (q1:x=.bl c) (q2:if c=true then Q (.bl true) H1 else tb σ H1 Q):BxTOrV tb σ Q x H1
def tOrV (ta tb:TE):TE:=fun σ H Q=>ta σ H fun x H1=>BxTOrV tb σ Q x H1
inductive BxTNotV (Q:VK) (x:V) (H1:Hp):Prop
 | mk (c:_) (q1:x=.bl c) (q2:Q (.bl (!c)) H1):BxTNotV Q x H1
def Zv7 (ta:TE):TE:=fun σ H Q=>ta σ H fun x H1=>BxTNotV Q x H1
theorem Zbz {op} {t:TE} (h:PE X a t):PE X (.BoolOp op [a] pos) t:=fun pins s σ H Q I hw=>BoolOp_one (h pins s σ H Q I hw)
theorem Zc2 (ha:PE X a ta) (hb:PE X (.BoolOp .And (b :: rest) pos) tb):PE X (.BoolOp .And (a :: b :: rest) pos) (Zwg ta tb):=by
 intro pins s σ H Q I h;refine BoolOp_and (thn (ha pins s σ H _ I h) fun v s1 ⟨x,H1,I1,r1,q1⟩=>?_);obtain ⟨c,rfl,q1⟩:=q1;cases r1
 refine wpAny_truthy_bool ?_;cases c with
 | true=>exact hb pins s1 σ H1 Q I1 q1
 | false=>exact ⟨.bl false,H1,I1,rfl,q1⟩
theorem Zwh (ha:PE X a ta) (hb:PE X (.BoolOp .Or (b :: rest) pos) tb):PE X (.BoolOp .Or (a :: b :: rest) pos) (tOrV ta tb):=by
 intro pins s σ H Q I h;refine BoolOp_or (thn (ha pins s σ H _ I h) fun v s1 ⟨x,H1,I1,r1,q1⟩=>?_);obtain ⟨c,rfl,q1⟩:=q1;cases r1
 refine wpAny_truthy_bool ?_;cases c with
 | false=>exact hb pins s1 σ H1 Q I1 q1
 | true=>exact ⟨.bl true,H1,I1,rfl,q1⟩
theorem Zrs (ha:PE X a ta):PE X (.UnaryOp .Not a pos) (Zv7 ta):=by
 intro pins s σ H Q I h;refine UnaryOp_ (thn (ha pins s σ H _ I h) fun v s1 ⟨x,H1,I1,r1,q1⟩=>?_);obtain ⟨c,rfl,q1⟩:=q1;cases r1
 exact not_of (wpAny_truthy_bool ⟨.bl (!c),H1,I1,rfl,q1⟩)
def tIf (t:TT) (ta tb:TE):TE:=fun σ H Q=>t σ H fun c H1=>if c=true then ta σ H1 Q else tb σ H1 Q
theorem Zki {c:Expr} (hc:PT X c tA) (ha:PE X a ta) (hb:PE X b tb):PE X (.IfExp c a b pos) (tIf tA ta tb):=by
 intro pins s σ H Q I h;refine wpAny_IfExp (thn (hc pins s σ H _ I h) fun d s1 ⟨H1,I1,q1⟩=>?_);cases d with
 | true=>exact ha pins s1 σ H1 Q I1 q1
 | false=>exact hb pins s1 σ H1 Q I1 q1
end
def SqL (K:PySem.W.Frag) (H:Hp) (a:Addr) (xs:List V):Prop :=
 Rd H a (.lst xs) ∨
  ∃ (o:Obj) (its:?H) (n:Nat),K.lookup a=some o∧o.cls=.type "list" ∧ o.dict=none∧o.data=.seq its n∧its.size≤sizeLine∧Vals xs its.toList
def SqT (K:PySem.W.Frag) (H:Hp) (a:Addr) (xs:List V):Prop :=
 Rd H a (.tup xs) ∨
  ∃ (o:Obj) (its:?H) (n:Nat),K.lookup a=some o∧o.cls=?G ∧ o.data=.seq its n∧its.size≤sizeLine∧Vals xs its.toList
def absV:Value→Option V
 | .none=>some .non
 | .bool b=>some (.bl b)
 | .int i _=>some (.int i)
 | .str x _=>some (.str x)
 | .bytes b _=>some (.byt b)
 | .float b _=>some (.flt b)
 | .ref a=>some (.ref a)
 | .type n=>some (.ty n)
 | _=>none
theorem RelV.abs {x:V} (r:RelV x u):absV u=some x:=by
 cases x with
 | non=>cases r;rfl
 | bl _=>cases r;rfl
 | int _=>obtain ⟨t,rfl⟩:=r;rfl
 | str _=>obtain ⟨t,rfl⟩:=r;rfl
 | byt _=>obtain ⟨t,rfl⟩:=r;rfl
 | flt _=>obtain ⟨t,rfl⟩:=r;rfl
 | ref _=>cases r;rfl
 | ty _=>cases r;rfl
theorem RelV.inj {x:V} (r:RelV x u) (q:RelV y u):x=y:=Option.some.inj (r.abs.symm.trans q.abs)
theorem Vals.inj {ys:List V} (h:Vals xs us) (h':Vals ys us):xs=ys:=by
 induction h generalizing ys with
 | nil=>cases h';rfl
 | cons r _ ih =>
   cases h' with
   | cons r' t'=>rw [r.inj r',ih t']
section
variable {X:Cx} {pins:?A} {σ:St} {H:Hp} {s:Shared} {a:Addr} {xs ys:List V}
theorem SqL.of {K:PySem.W.Frag} (h:H a=some (.lst xs)):SqL K H a xs:=.inl (.inl h)
theorem SqT.of {K:PySem.W.Frag} (h:H a=some (.tup xs)):SqT K H a xs:=.inl (.inl h)
theorem Inv.list (I:?p) (h:SqL X.K H a xs):∃ its:?q,Vals xs its∧PlainL s.heap a its.toArray∧xs.length≤sizeLine:=by
 rcases h with h|⟨o,its,n,hk,hc,hd,hs,hz,r⟩
 · obtain ⟨z,its,n,r,e⟩:=h.ok I.hok;exact ⟨its,r,⟨_,n,e,rfl,rfl,rfl⟩,z⟩
 · refine ⟨its.toList,r,⟨o,n,I.kIn a o hk,hc,hd,by simpa using hs⟩,?_⟩;have e:=r.length;simp only [Array.length_toList] at e;omega
theorem Inv.tuple (I:?p) (h:SqT X.K H a xs):∃ its:?q,Vals xs its∧IsTup s.heap a its.toArray∧xs.length≤sizeLine:=by
 rcases h with h|⟨o,its,n,hk,hc,hs,hz,r⟩
 · obtain ⟨z,its,r,p⟩:=h.ok I.hok;exact ⟨its,r,p.is,z⟩
 · refine ⟨its.toList,r,⟨o,I.kIn a o hk,hc,n,by simpa using hs⟩,?_⟩;have e:=r.length;simp only [Array.length_toList] at e;omega
theorem Inv.list_inj (I:?p) (h:SqL X.K H a xs) (h':SqL X.K H a ys):xs=ys:=by
 obtain ⟨its,r,⟨o,n,e,_,_,d⟩,_⟩:=I.list h;obtain ⟨its',r',⟨o',n',e',_,_,d'⟩,_⟩:=I.list h';rw [e] at e';cases e';rw [d] at d';injection d' with d1 _
 have:its=its':=by simpa using congrArg Array.toList d1
 subst this;exact r.inj r'
theorem Inv.tuple_inj (I:?p) (h:SqT X.K H a xs) (h':SqT X.K H a ys):xs=ys:=by
 obtain ⟨its,r,⟨o,e,_,n,d⟩,_⟩:=I.tuple h;obtain ⟨its',r',⟨o',e',_,n',d'⟩,_⟩:=I.tuple h';rw [e] at e';cases e';rw [d] at d';injection d' with d1 _
 have:its=its':=by simpa using congrArg Array.toList d1
 subst this;exact r.inj r'
end
abbrev Cx.wish (X:Cx) (E:Value→?k):Cx:={ X with xe:=E }
abbrev Cx.nox (X:Cx):Cx:=X.wish fun _ _=>False
theorem Cx.Ok.wish (ok:X.Ok) (E:Value→?k):(X.wish E).Ok :=
 ⟨ok.mod,ok.kind,ok.glob,ok.blt,ok.above,ok.inj,ok.has,ok.cab,ok.hd,ok.frames,ok.stk,ok.exf,ok.bs,ok.bsz,ok.noex,ok.exfs,ok.funs,ok.frf⟩
theorem Cx.Ok.unwish (ok:(X.wish E).Ok):X.Ok :=
 ⟨ok.mod,ok.kind,ok.glob,ok.blt,ok.above,ok.inj,ok.has,ok.cab,ok.hd,ok.frames,ok.stk,ok.exf,ok.bs,ok.bsz,ok.noex,ok.exfs,ok.funs,ok.frf⟩
section
variable {X:Cx} {pins:?A} {σ:St} {H:Hp} {s:Shared} {E:Value→?k}
theorem Inv.wish (I:?p) (E:Value→?k):Inv (X.wish E) pins σ H s:=⟨I.ok.wish E,I.os,I.bare,I.base,I.loc,I.cell,I.free,I.freeC,I.pin,I.hok,I.len⟩
theorem Inv.unwish (I:Inv (X.wish E) pins σ H s):?p:=⟨I.ok.unwish,I.os,I.bare,I.base,I.loc,I.cell,I.free,I.freeC,I.pin,I.hok,I.len⟩
theorem SP.unwish {D:Ends} {f:Flow} {s':Shared} (h:SP (X.wish E) pins D f s'):SP X pins D f s':=by
 cases f with
 | next=>obtain ⟨σ',H',I,q⟩:=h;exact ⟨σ',H',I.unwish,q⟩
 | brk=>obtain ⟨σ',H',I,q⟩:=h;exact ⟨σ',H',I.unwish,q⟩
 | cont=>obtain ⟨σ',H',I,q⟩:=h;exact ⟨σ',H',I.unwish,q⟩
 | ret u=>obtain ⟨v,σ',H',I,r,q⟩:=h;exact ⟨v,σ',H',I.unwish,r,q⟩
theorem PSs.nox {st:List Stmt} {t:TS} (h:PSs X.nox st t):PSs X st t:=fun pins s σ H D I hw =>
 n55_ (h pins s σ H D (I.wish _) hw) (fun _ _ q=>q.unwish) fun _ _ z=>False.elim z
end
section
variable {X:Cx} {st:Stmt} {rest:List Stmt} {t u:TS} {e:Expr} {te:TE} {pos:Pos}
def Zwm:TS:=fun D σ H=>D.nx σ H
def tSeq (t u:TS):TS:=fun D σ H=>t { D with nx:=u D } σ H
theorem Z9:PSs X [] Zwm:=fun _ _ σ H _ I h=>wpAny_execs_nil ⟨σ,H,I,h⟩
theorem Zd (h1:PS X st t) (h2:PSs X rest u):PSs X (st :: rest) (tSeq t u):=by
 intro pins s σ H D I h;refine wpAny_execs_cons (thn (h1 pins s σ H { D with nx:=u D } I h) fun f s1 q=>?_);cases f with
 | next =>
   obtain ⟨σ',H',I',q⟩:=q;exact h2 pins s1 σ' H' D I' q
 | ret v=>exact q
 | brk=>exact q
 | cont=>exact q
theorem Zh (h1:PS X st t):PSs X [st] t:=by
 intro pins s σ H D I h;refine wpAny_execs_cons (thn (h1 pins s σ H D I h) fun f s1 q=>?_);cases f with
 | next=>exact wpAny_execs_nil q
 | ret v=>exact q
 | brk=>exact q
 | cont=>exact q
theorem Inv.quiet (I:?p):interactive X.env=false:=by simp [interactive,I.ok.kind]
def Zwo (te:TE):TS:=fun D σ H=>te σ H fun _ H1=>D.nx σ H1
theorem Zai (he:PE X e te) (hs:swapsWith e none pos.line X.env=pure false:=by rfl):PS X (.Expr e pos) (Zwo te):=by
 intro pins s σ H D I h;exact wpAny_Expr_any (thn (he pins s σ H _ I h) fun v s1 ⟨x,H1,I1,r1,q1⟩=>⟨σ,H1,I1,q1⟩) I.quiet hs
def tRet (te:TE):TS:=fun D σ H=>te σ H D.rt
theorem Zo (he:PE X e te):PS X (.Return (some e) pos) (tRet te):=by
 intro pins s σ H D I h;exact wpAny_Return_some (thn (he pins s σ H _ I h) fun v s1 ⟨x,H1,I1,r1,q1⟩=>⟨x,σ,H1,I1,r1,q1⟩)
def tIfS (c:TT) (t u:TS):TS:=fun D σ H=>c σ H fun b H1=>if b=true then t D σ H1 else u D σ H1
theorem Xv {c:Expr} {a b:List Stmt} {tc:TT} (hc:PT X c tc) (ha:PSs X a t) (hb:PSs X b u):PS X (.If c a b pos) (tIfS tc t u):=by
 intro pins s σ H D I h;refine wpAny_If (thn (hc pins s σ H _ I h) fun d s1 ⟨H1,I1,q1⟩=>?_);cases d with
 | true=>exact ha pins s1 σ H1 D I1 q1
 | false=>exact hb pins s1 σ H1 D I1 q1
def Zun:TS:=fun _ _ _=>False
theorem Zdl {sts:List Stmt}:PSs X sts Zun:=fun _ _ _ _ _ _ h=>h.elim
end
abbrev TG:=V→St→Hp→(St→?y)→Prop
abbrev TGs:=List V→St→Hp→(St→?y)→Prop
def PG (X:Cx) (target:Expr) (t:TG):Prop :=
 ∀ (pins:?A) (s:Shared) (σ:St) (H:Hp) (v:V) (u:Value) (Q:St→?y),?p→RelV v u→t v σ H Q →
   wpAny ?z X.A (assign target X.env u) (fun _ s'=>∃ σ' H',Inv X pins σ' H' s'∧Q σ' H') X.xe s
def PGs (X:Cx) (ts:List Expr) (t:TGs):Prop :=
 ∀ (pins:?A) (s:Shared) (σ:St) (H:Hp) (vs:List V) (us:?q) (Q:St→?y),?p→Vals vs us→t vs σ H Q →
   wpAny ?z X.A (assignInOrder ((assignEach ts X.env).map (·.2)) us) (fun _ s'=>∃ σ' H',Inv X pins σ' H' s'∧Q σ' H') X.xe s
abbrev TSet:=V→V→V→Hp→(?y)→Prop
def PSet (X:Cx) (t:TSet):Prop :=
 ∀ (pins:?A) (s:Shared) (σ:St) (H:Hp) (o i v:V) (ov iv u:Value) (Q:?y),?p→RelV o ov→RelV i iv→RelV v u→t o i v H Q →
   wpAny ?z X.A (setItem ov iv u) (fun _ s'=>∃ H',Inv X pins σ H' s'∧Q H') X.xe s
section
variable {X:Cx} {pos:Pos}
def Ye (i:Nat):TG:=fun v σ H Q=>Q (σ.set i (some v)) H
theorem Zi (hN:X.N.Nodup) (hi:X.N[i]? = some x) (hx:Loc X.env.scope x) (hf:X.fn x=true∨X.env.scope.names.lookup x=some .local:=by first|exact .inl rfl|exact .inr rfl|assumption):PG X (.Name x pos) (Ye i):=by
 intro pins s σ H v u Q I r h;exact wpAny_assign_Name (Zaf I hN hi hx r (fun s' I'=>⟨_,H,I',h⟩) hf)
inductive BxGNil (vs:List V) (σ:St) (H:Hp) (Q:St→?y):Prop
 | mk  (q1:vs=[]) (q2:Q σ H):BxGNil vs σ H Q
def gNil:TGs:=fun vs σ H Q=>BxGNil vs σ H Q
inductive BxGCons (t:TG) (u:TGs) (vs:List V) (σ:St) (H:Hp) (Q:St→?y):Prop
 | mk (v:_) (r:_) (q1:vs=v :: r) (q2:t v σ H fun σ' H'=>u r σ' H' Q):BxGCons t u vs σ H Q
def Yt (t:TG) (u:TGs):TGs:=fun vs σ H Q=>BxGCons t u vs σ H Q
theorem Zs:PGs X [] gNil:=by
 intro pins s σ H vs us Q I r h;obtain ⟨e,h⟩:=h;subst e;cases r
 exact assignInOrder_nil ⟨σ,H,I,h⟩
theorem Zg {es:List Expr} {t:TG} {u:TGs} (h1:PG X e t) (h2:PGs X es u)
 (hs:(assignEach (e :: es) X.env).map (·.2)=assign e X.env :: (assignEach es X.env).map (·.2):=by rfl):PGs X (e :: es) (Yt t u):=by
 intro pins s σ H vs us Q I r h;obtain ⟨v,vr,e1,h⟩:=h;subst e1;cases r with
 | cons r rr =>
   rw [hs];refine assignInOrder_cons (thn (h1 pins s σ H _ _ _ I r h) fun _ s1 ⟨σ1,H1,I1,q1⟩=>?_);exact h2 pins s1 σ1 H1 _ _ Q I1 rr q1
inductive BxGTup (K:PySem.W.Frag) (n:Nat) (t:TGs) (v:V) (σ:St) (H:Hp) (Q:St→?y):Prop
 | mk (a:_) (xs:_) (q1:v=.ref a) (q2:SqT K H a xs) (q3:xs.length=n) (q4:t xs σ H Q):BxGTup K n t v σ H Q
def gTup (K:PySem.W.Frag) (n:Nat) (t:TGs):TG:=fun v σ H Q=>BxGTup K n t v σ H Q
theorem Z0 {es:List Expr} {k:Nat} {t:TGs} {n:Nat} (hc:X.calm=true) (h:PGs X es t)
 (hn:(assignEach es X.env).length=n:=by rfl) (hst:(assignEach es X.env).findIdx? (·.1)=none:=by rfl):PG X (.Tuple es k pos) (gTup X.K n t):=by
 intro pins s σ H v u Q I r hw;obtain ⟨a,xs,e1,hq,hl,hw⟩:=hw;subst e1;cases r
 obtain ⟨its,rv,ht,hz⟩:=I.tuple hq;refine assign_Tuple_tuple (I.ok.hd hc) ht (by simp [hn,← hl,rv.length]) hst fun h' hx=>?_;have I1:Inv X pins σ H { s with heap:=h' }:=I.kept (t':=s.toks) fun b o e=>hx b o (n26_ (n14_ e)) e;exact h pins _ σ H xs _ Q I1 (by simpa using rv) hw
def gSub (to ti:TE) (t:TSet):TG:=fun v σ H Q=>to σ H fun o H1=>ti σ H1 fun i H2=>t o i v H2 fun H3=>Q σ H3
theorem Zc1 {o i:Expr} {to ti:TE} {t:TSet} (ho:PE X o to) (hi:PE X i ti) (hs:PSet X t)
 (ha:∀ v,assign (.Subscript o i pos) X.env v=(do
   let ov ← holding [v] (eval o X.env)
   let iv ← holding [v,ov] (eval i X.env)
   standAt pos
   holding [v,ov,iv] (setItem ov iv v)
   release [v,ov,iv] []):=by intro _;rfl):PG X (.Subscript o i pos) (gSub to ti t):=by
 intro pins s σ H v u Q I r h;rw [ha];refine n0_ (n34_ (thn (ho pins s σ H _ I h) fun ov s1 ⟨x,H1,I1,r1,q1⟩=>?_));refine n0_ (n34_ (thn (hi pins s1 σ H1 _ I1 q1) fun iv s2 ⟨y,H2,I2,r2,q2⟩=>?_));refine n0_ (wpAny_standAt (n0_ (n34_ (thn (hs pins s2 σ H2 x y v ov iv u _ I2 r1 r2 r q2) fun _ s3 ⟨H3,I3,q3⟩=>?_))));exact wpAny_release ⟨σ,H3,I3,q3⟩
def tAsg (te:TE) (g:TG):TS:=fun D σ H=>te σ H fun x H1=>g x σ H1 D.nx
theorem Ym (he:PE X e te) (hg:PG X tg g) (hs:swapsWithSole [tg] e pos.line X.env=pure false:=by rfl) (hw:swappedStores [tg] e X.env=pure none:=by rfl)
 (h1:(assignEach [tg] X.env).map (·.2)=[assign tg X.env]:=by rfl):PS X (.Assign [tg] e pos) (tAsg te g):=by
 intro pins s σ H D I h;refine wpAny_Assign_stores (thn (he pins s σ H _ I h) fun v s1 ⟨x,H1,I1,r1,q1⟩=>?_) hs hw;rw [h1];exact thn (hg pins s1 σ H1 x v _ I1 r1 q1) fun _ s2 q=>q
theorem Zx {i:Nat} {x:Str} {e:Expr} {te:TE} {pos':Pos} (hN:X.N.Nodup) (hi:X.N[i]? = some x) (hx:Loc X.env.scope x) (he:PE X e te) (hs:swapsWith e (some (.Name x pos')) pos.line X.env=pure false:=by rfl) (hf:X.fn x=true∨X.env.scope.names.lookup x=some .local:=by first|exact .inl rfl|exact .inr rfl|assumption) :
 PS X (.Assign [.Name x pos'] e pos) (tAsg te (Ye i)):=by
 intro pins s σ H D I h;refine wpAny_Assign_Name (thn (he pins s σ H _ I h) fun v s1 ⟨y,H1,I1,r1,q1⟩=>?_) hs;exact Zaf I1 hN hi hx r1 (fun s2 I2=>⟨_,H1,I2,q1⟩) hf
inductive BxTPar (i j:Nat) (D:Ends) (σ:St) (vs:List V) (H1:Hp):Prop
 | mk (v:_) (w:_) (q1:vs=[v,w]) (q2:D.nx ((σ.set i (some v)).set j (some w)) H1):BxTPar i j D σ vs H1
def tPar (i j:Nat) (ta:TA):TS:=fun D σ H=>ta σ H fun vs H1=>BxTPar i j D σ vs H1
theorem Zcv {i j:Nat} {x y:Str} {a b:Expr} {ta:TA} {px py pt:Pos} {kt k2 pt2} (hc:X.calm=true) (hN:X.N.Nodup) (hi:X.N[i]? = some x) (hj:X.N[j]? = some y) (hij:i≠j)
 (hx:X.env.scope.names.lookup x=some .local) (hy:X.env.scope.names.lookup y=some .local) (ha:PA X [a,b] ta)
 (hw:swappedStores [.Tuple [.Name x px,.Name y py] kt pt] (.Tuple [a,b] k2 pt2) X.env=pure (some [x,y]))
 (hs:swapsWithSole [.Tuple [.Name x px,.Name y py] kt pt] (.Tuple [a,b] k2 pt2) pos.line X.env=pure false:=by rfl) :
 PS X (.Assign [.Tuple [.Name x px,.Name y py] kt pt] (.Tuple [a,b] k2 pt2) pos) (tPar i j ta):=by
 intro pins s σ H D I h;rw [exec_Assign_arm];refine n0_ (wpAny_standAt ?_);rw [hs];refine n0_ (n3_ ?_);rw [if_neg ?e];refine n0_ (Tuple_ (thn (ha _ pins s σ H _ I h) fun us s1 ⟨vs,H1,I1,r1,q1⟩=>?_));obtain ⟨v,w,e1,q1⟩:=q1;subst e1
 obtain ⟨u1,u2,rfl,rv,rw'⟩:∃ u1 u2,us=[u1,u2]∧RelV v u1∧RelV w u2:=by
  cases r1 with
  | cons p q =>
    cases q with
    | cons p' q' =>
      cases q'
      exact ⟨_,_,rfl,p,p'⟩
 refine wpAny_newObj_type ?_ (z2_);have I2:Inv X pins σ H1 { s1 with heap:=s1.heap.push { cls:=?G,data:=.seq [u1,u2].toArray } }:=I1.kept (t':=s1.toks) fun b o e=>n2_ _ e;rw [hw];refine n0_ (n3_ ?_);show wpAny ?z X.A (do rule "assign.swapped-stores";let items ← unpackItems (.ref s1.z) 2 none;assignInOrder [fun v=>bindName X.env y v,fun v=>bindName X.env x v] items.reverse;pure Flow.next) _ _ _
 refine n0_ (wpAny_rule (n0_ (unpackItems_tuple (items:=#[u1,u2]) (I.ok.hd hc) (IsTup.new s1.heap _) fun h' hx'=>?_)));have I3:=I2.kept (h':=h') (t':=s1.toks) fun b o e=>hx' b o (n26_ (n14_ e)) e;show wpAny _ _ (assignInOrder [fun v=>bindName X.env y v,fun v=>bindName X.env x v] [u2,u1] >>= fun _=>pure Flow.next) _ _ _
 refine n0_ (assignInOrder_cons (wpAny_bindName (Zaf I3 hN hj (.inl hy) rw' (fun s2 I4=>?_) (.inr hy))));refine assignInOrder_cons (wpAny_bindName (Zaf I4 hN hi (.inl hx) rv (fun s3 I5=>assignInOrder_nil (n3_ ?_)) (.inr hx)));rw [List.set_comm _ _ (Ne.symm hij)] at I5;exact ⟨_,H1,I5,q1⟩
end
section
variable {X:Cx} {pos:Pos}
def Zrw (c:TT) (tb:TS):TS:=fun D σ H=>∃ W:Nat→St→?y,(∃ m,W m σ H)∧∀ m σ H,W m σ H →
 c σ H fun b H1=>if b=true then ∃ N:St→?y,(∀ σ' H',N σ' H'→∃ m',m'<m∧W m' σ' H')∧tb { D with nx:=N,ct:=N,bk:=D.nx } σ H1 else D.nx σ H1
theorem Zc9 {c:Expr} {body:List Stmt} {tc:TT} {tb:TS} (hp:PassesOwn ?z X.A X.env X.xe) (hc:PT X c tc) (hb:PSs X body tb):PS X (.While c body [] pos) (Zrw tc tb):=by
 intro pins s σ H D I h;obtain ⟨W,⟨m0,w0⟩,turn⟩:=h;refine wpAny_While (codeAny_whileLoop (fun n s'=>∃ σ' H',Inv X pins σ' H' s'∧W n σ' H') ?_ m0 ⟨σ,H,I,w0⟩);rintro n s1 ⟨σ1,H1,I1,w1⟩
 refine wpAny_passesOwn hp (thn (hc pins s1 σ1 H1 _ I1 (turn n σ1 H1 w1)) fun b s2 ⟨H2,I2,q2⟩=>?_);cases b with
 | true =>
   obtain ⟨N,hN,q2⟩:=q2;rw [if_pos rfl];refine wpAny_passesOwn hp (thn (hb pins s2 σ1 H2 _ I2 q2) fun f s3 q3=>?_);cases f with
   | next =>
     obtain ⟨σ3,H3,I3,n3⟩:=q3;obtain ⟨m',hm,w3⟩:=hN σ3 H3 n3;exact ⟨m',hm,σ3,H3,I3,w3⟩
   | cont =>
     obtain ⟨σ3,H3,I3,n3⟩:=q3;obtain ⟨m',hm,w3⟩:=hN σ3 H3 n3;exact ⟨m',hm,σ3,H3,I3,w3⟩
   | brk=>exact q3
   | ret v=>exact q3
 | false =>
   rw [if_neg n27_];exact wpAny_execs_nil ⟨σ1,H2,I2,q2⟩
end
structure It where
 go:Nat→?y
 yld:Nat→Hp→V→?y
 stop:Nat→?y
def FpOk (X:Cx) (pins:?A) (H:Hp) (b:Addr):Prop :=
 H b=none∧b≠X.env.locals∧b∉X.fs∧(b∈X.ex∨X.s₀.z≤b)∧(∀ x c,X.env.cells.lookup x=some c→c≠b)∧∀ p∈X.pn++pins,p.1≠b
theorem Inv.fpOk (I:?p) (hb:s.z≤b) (hn:H' b=none):FpOk X pins H' b:=by
 refine ⟨hn,n68_ (n9_ I.lt hb),I.nofs hb,.inr (n36_ I.sz hb),fun x c e z=>?_,fun p hp z=>?_⟩
 · obtain ⟨v,q⟩:=I.cell x c e;exact absurd (n9_ q.lt (by rw [z];exact hb)) (n94_ _)
 · exact absurd (n9_ (n14_ (I.pin p hp).1) (by rw [z];exact hb)) (n94_ _)
structure Turn (P:Program) (w:World) (K:PySem.W.Frag) (tg:Expr) (J:It) (fp:List Addr) (it:Addr) (tn:Nat→Heap→Prop):Prop where
 mem:it∈fp
 obj:∀ i h,tn i h→∀ b∈fp,∃ o,h.get? b=some o∧∀ v,o.data≠.cell v
 keep:∀ i h h',tn i h→(∀ b∈fp,∀ o,h.get? b=some o→h'.get? b=some o)→tn i h'
 item:∀ (X:Cx),X.prog=P→X.w=w→X.K=K→X.calm=true→∀ (i:Nat) (pins:?A) (s:Shared) (σ:St) (H:Hp) (E:Value→?k),?p→(∀ b∈fp,FpOk X pins H b)→tn i s.heap→J.go i H →
  wpAny (model P w) X.A (pyNext (.ref it)) (fun r s1=>∃ u,r=some u ∧
   wpAny (model P w) X.A (letOwnedTupleGo tg (.ref it) u) (fun _ s2=>∃ x H',Inv X pins σ H' s2∧RelV x u∧J.yld i H x H'∧tn (i+1) s2.heap∧∀ b∈fp,H' b=none) E s1) E s
 done:∀ (X:Cx),X.prog=P→X.w=w→X.K=K→X.calm=true→∀ (i:Nat) (pins:?A) (s:Shared) (σ:St) (H:Hp) (E:Value→?k),?p→(∀ b∈fp,FpOk X pins H b)→tn i s.heap→J.stop i H →
  wpAny (model P w) X.A (pyNext (.ref it)) (fun r s1=>r=none∧Inv X pins σ H s1) E s
 self:∀ (A:Around) (i:Nat) (s:Shared) (Q:Value→?k) (E:Value→?k),tn i s.heap→Q (.ref it) s→wpAny (model P w) A (pyIter (.ref it)) Q E s
abbrev TI:=St→Hp→(It→?y)→Prop
def PIE (X:Cx) (pins:?A) (σ:St) (tg:Expr) (R:It→?y) (itv:Value) (s2:Shared):Prop :=
 ∃ (it:Addr) (fp:List Addr) (tn:Nat→Heap→Prop) (J:It) (H':Hp),itv=.ref it∧Inv X pins σ H' s2∧Turn X.prog X.w X.K tg J fp it tn∧tn 0 s2.heap∧(∀ b∈fp,FpOk X pins H' b)∧R J H'
def PI (X:Cx) (tg iter:Expr) (wi:TI):Prop :=
 ∀ (pins:?A) (s:Shared) (σ:St) (H:Hp) (R:It→?y),?p→wi σ H R →
   wpAny ?z X.A (eval iter X.env) (fun v s1=>wpAny ?z X.A (pyIter v) (PIE X pins σ tg R) X.xe s1) X.xe s
theorem Zs5 {n:String} {vs:?H} {Q:Unit→?k} (ho:s.heap.get? it=some o) (hc:o.cls=.type n) (hd:o.data=.fields vs)
 (hn:["enumerate","zip","dict_itemiterator","dict_reverseitemiterator","odict_iterator","itertools.zip_longest","itertools.pairwise"].contains n=false) (hQ:Q () s):wpAny M A (letOwnedTupleGo tg (.ref it) u) Q E s:=by
 unfold letOwnedTupleGo
 cases tg<;>first
  | exact n3_ hQ
  | (cases u<;>first
      | exact n3_ hQ
      | (refine n0_ (wpAny_load ho ?_)
         rw [hc,hd];show wpAny M A (if (["enumerate","zip","dict_itemiterator","dict_reverseitemiterator","odict_iterator","itertools.zip_longest","itertools.pairwise"].contains n&&vs[0]? == some (rawInt _))=true then _ else _) Q E s
         rw [if_neg (by intro h;rw [hn,Bool.false_and] at h;cases h)];exact n3_ hQ))
def Itl (K:PySem.W.Frag) (a:Addr):It :=
 ⟨fun i H=>∃ xs x,SqL K H a xs∧xs[i]? = some x,fun i H x H'=>H'=H∧∀ xs,SqL K H a xs→xs[i]? = some x,fun i H=>∃ xs,SqL K H a xs∧xs.length≤i⟩
def Itt (K:PySem.W.Frag) (a:Addr):It :=
 ⟨fun i H=>∃ xs x,SqT K H a xs∧xs[i]? = some x,fun i H x H'=>H'=H∧∀ xs,SqT K H a xs→xs[i]? = some x,fun i H=>∃ xs,SqT K H a xs∧xs.length≤i⟩
def Itr (lo:Int) (n:Nat):It:=⟨fun i _=>i<n,fun i H x H'=>H'=H∧x=.int (lo+i),fun i _=>n≤i⟩
theorem Zl7 {K:PySem.W.Frag} (a it:Addr):Turn P w K tg (Itl K a) [it] it (fun i h=>h.IsListIter it a i) where
 mem:=by simp
 obj:=fun i h st b hb=>by
  have e:b=it:=by simpa using hb
  subst e;obtain ⟨o,e,c,d⟩:=st;exact ⟨o,e,fun v z=>by rw [d] at z;cases z⟩
 keep:=fun i h h' st k=>st.at fun o e=>k it ?f o e
 item:=by
  intro X hP hw hK hc i pins s σ H E I hf st hg;subst hP hw hK;obtain ⟨xs,x,hq,hx⟩:=hg;obtain ⟨its,rv,p,hz⟩:=I.list hq;obtain ⟨u,hu,ru⟩:=rv.get hx;obtain ⟨f0,f1,f2,f3,f4,f5⟩:=hf it ?f;refine wpAny_pyNext_list_item st p.isList (x:=u) (by simpa using hu) fun h' st' sb=>?_;have I1:Inv X pins σ H { s with heap:=h' }:=I.turned (t':=s.toks) (fun b o hb e=>(sb.2 b hb).trans e) f0 f1 f3 f4 f5;obtain ⟨o,e,c,d⟩:=id st';exact ⟨u,rfl,Zs5 (s:={ s with heap:=h' }) e c d ?e ⟨x,H,I1,ru,⟨rfl,fun ys hy=>by rw [I.list_inj hy hq];exact hx⟩,st',fun b hb=>(hf b hb).1⟩⟩
 done:=by
  intro X hP hw hK hc i pins s σ H E I hf st hg;subst hP hw hK;obtain ⟨xs,hq,hx⟩:=hg;obtain ⟨its,rv,p,hz⟩:=I.list hq;obtain ⟨f0,f1,f2,f3,f4,f5⟩:=hf it ?f;have hl:=rv.length;exact wpAny_pyNext_list_end (I.ok.hd hc) st p.isList (by simp;omega) fun h' eb=>⟨rfl,I.turned (t':=s.toks) (fun b o hb e=>eb b o hb e) f0 f1 f3 f4 f5⟩
 self:=fun _ _ _ _ _ st h=>wpAny_pyIter_listiter st h
theorem Zlx {K:PySem.W.Frag} (a it:Addr):Turn P w K tg (Itt K a) [it] it (fun i h=>h.IsTupleIter it a i) where
 mem:=by simp
 obj:=fun i h st b hb=>by
  have e:b=it:=by simpa using hb
  subst e;obtain ⟨o,e,c,d⟩:=st;exact ⟨o,e,fun v z=>by rw [d] at z;cases z⟩
 keep:=fun i h h' st k=>st.at fun o e=>k it ?f o e
 item:=by
  intro X hP hw hK hc i pins s σ H E I hf st hg;subst hP hw hK;obtain ⟨xs,x,hq,hx⟩:=hg;obtain ⟨its,rv,p,hz⟩:=I.tuple hq;obtain ⟨u,hu,ru⟩:=rv.get hx;obtain ⟨f0,f1,f2,f3,f4,f5⟩:=hf it ?f;refine wpAny_pyNext_tuple_item st (show s.heap.IsTuple a its.toArray from p) (x:=u) (by simpa using hu) fun h' st' sb=>?_;have I1:Inv X pins σ H { s with heap:=h' }:=I.turned (t':=s.toks) (fun b o hb e=>(sb.2 b hb).trans e) f0 f1 f3 f4 f5;obtain ⟨o,e,c,d⟩:=id st';exact ⟨u,rfl,Zs5 (s:={ s with heap:=h' }) e c d ?e ⟨x,H,I1,ru,⟨rfl,fun ys hy=>by rw [I.tuple_inj hy hq];exact hx⟩,st',fun b hb=>(hf b hb).1⟩⟩
 done:=by
  intro X hP hw hK hc i pins s σ H E I hf st hg;subst hP hw hK;obtain ⟨xs,hq,hx⟩:=hg;obtain ⟨its,rv,p,hz⟩:=I.tuple hq;obtain ⟨f0,f1,f2,f3,f4,f5⟩:=hf it ?f;have hl:=rv.length;exact wpAny_pyNext_tuple_end (I.ok.hd hc) st (show s.heap.IsTuple a its.toArray from p) (by simp;omega) fun h' eb=>⟨rfl,I.turned (t':=s.toks) (fun b o hb e=>eb b o hb e) f0 f1 f3 f4 f5⟩
 self:=fun _ _ _ _ _ st h=>wpAny_pyIter_tupleiter st h
theorem Zlc {K:PySem.W.Frag} (it:Addr) (lo:Int) (n:Nat):Turn P w K tg (Itr lo n) [it] it (fun i h=>IsRangeIter h it (lo+(i:Nat)*1) ((n:Int)-(i:Nat)) 1) where
 mem:=by simp
 obj:=fun i h st b hb=>by
  have e:b=it:=by simpa using hb
  subst e
  exact ⟨_,st,fun v z=>by
   have z':Data.fields _=Data.cell v:=z;cases z'⟩
 keep:=fun i h h' st k=>k it ?f _ st
 item:=by
  intro X hP hw hK hc i pins s σ H E I hf st hg;subst hP hw hK;obtain ⟨f0,f1,f2,f3,f4,f5⟩:=hf it ?f;have W:=Walks.range (prog:=X.prog) (w:=X.w) (I.ok.hd hc) it lo 1 n;refine W.item i s _ _ hg st fun v h' tk hv st' kk=>?_;obtain ⟨t,rfl⟩:=hv;have I1:Inv X pins σ H { s with heap:=h',toks:=tk }:=I.turned (fun b o hb e=>kk b o (by simpa using hb) e) f0 f1 f3 f4 f5;refine ⟨_,rfl,Zs5 (s:={ s with heap:=h',toks:=tk }) (n := "range_iterator") st' rfl rfl ?e ⟨.int (lo+i),H,I1,⟨t,?_⟩,⟨rfl,rfl⟩,st',fun b hb=>(hf b hb).1⟩⟩;rw [Int.mul_one]
 done:=by
  intro X hP hw hK hc i pins s σ H E I hf st hg;subst hP hw hK;obtain ⟨f0,f1,f2,f3,f4,f5⟩:=hf it ?f;exact wpAny_pyNext_range_end (I.ok.hd hc) st (by have:n≤i:=hg;omega) fun h' eb=>⟨rfl,I.turned (t':=s.toks) (fun b o hb e=>eb b o hb e) f0 f1 f3 f4 f5⟩
 self:=fun _ _ _ _ _ st h=>wpAny_pyIter_rangeiter st h
section
variable {X:Cx} {tg:Expr}
def Zur (K:PySem.W.Frag) (tl:TE):TI:=fun σ H R=>tl σ H fun x H1=>∃ a,x=.ref a∧(∃ xs,SqL K H1 a xs)∧R (Itl K a) H1
def iTup (K:PySem.W.Frag) (tl:TE):TI:=fun σ H R=>tl σ H fun x H1=>∃ a,x=.ref a∧(∃ xs,SqT K H1 a xs)∧R (Itt K a) H1
theorem Yh {l:Expr} (hl:PE X l tl):PI X tg l (Zur X.K tl):=by
 intro pins s σ H R I h;refine thn (hl pins s σ H _ I h) fun v s1 ⟨x,H1,I1,r1,q1⟩=>?_;obtain ⟨a,e,⟨xs,hq⟩,q⟩:=q1;subst e;cases r1
 obtain ⟨its,rv,p,hz⟩:=I1.list hq;refine wpAny_pyIter_list p.isList ?_;refine ⟨s1.z,[s1.z],_,_,H1,rfl,I1.kept (t':=s1.toks) fun b o e=>n2_ _ e,Zl7 a _,⟨_,n8_ _ rfl,rfl,rfl⟩,fun b hb=>?_,q⟩;have e:b=s1.z:=by simpa using hb
 subst e;exact I1.fpOk (n11_ _) (I1.hok.fresh (n11_ _))
theorem Yp {l:Expr} (hl:PE X l tl):PI X tg l (iTup X.K tl):=by
 intro pins s σ H R I h;refine thn (hl pins s σ H _ I h) fun v s1 ⟨x,H1,I1,r1,q1⟩=>?_;obtain ⟨a,e,⟨xs,hq⟩,q⟩:=q1;subst e;cases r1
 obtain ⟨its,rv,p,hz⟩:=I1.tuple hq;refine wpAny_pyIter_tuple (show s1.heap.IsTuple a its.toArray from p) ?_;refine ⟨s1.z,[s1.z],_,_,H1,rfl,I1.kept (t':=s1.toks) fun b o e=>n2_ _ e,Zlx a _,⟨_,n8_ _ rfl,rfl,rfl⟩,fun b hb=>?_,q⟩;have e:b=s1.z:=by simpa using hb
 subst e;exact I1.fpOk (n11_ _) (I1.hok.fresh (n11_ _))
theorem Zpg {R:It→?y} {lo hi:Int} {t u v:Tok} {tk:Nat} (I:?p) (h1:-(2^62)≤lo) (h2:lo<2^62) (h3:-(2^62)≤hi) (h4:hi<2^62)
 (q:R (Itr lo (hi-lo).toNat) H):wpAny ?z X.A (pyIter (.ref s.z)) (PIE X pins σ tg R) E { s with heap:=s.heap.push { cls:=.type "range",data:=.fields #[.int lo t,.int hi u,.int 1 v] },toks:=tk }:=by
 refine wpAny_pyIter_range (IsRange.new ..) (small_one h1 h2 h3 h4) ?_;have I1:Inv X pins σ H { s with heap:=s.heap.push { cls:=.type "range",data:=.fields #[.int lo t,.int hi u,.int 1 v] },toks:=tk }:=I.kept fun b o e=>n2_ _ e
 refine ⟨(s.heap.push { cls:=.type "range",data:=.fields #[.int lo t,.int hi u,.int 1 v] }).objs.size,[(s.heap.push { cls:=.type "range",data:=.fields #[.int lo t,.int hi u,.int 1 v] }).objs.size],_,_,H,rfl,
  I1.kept (t':=tk) fun b o e=>n2_ _ e,Zlc _ lo (hi-lo).toNat,?_,fun b hb=>?_,q⟩
 · have e1:lo+((0:Nat):Int)*1=lo:=by simp
   have e2:(((hi-lo).toNat:Nat):Int)-((0:Nat):Int)=Builtin.Range.rangeSize lo hi 1:=by rw [rangeSize_one];split<;>omega
   show IsRangeIter _ _ (lo+((0:Nat):Int)*1) ((((hi-lo).toNat:Nat):Int)-((0:Nat):Int)) 1
   rw [e1,e2];exact n8_ _ rfl
 · have e:b=(s.heap.push { cls:=.type "range",data:=.fields #[.int lo t,.int hi u,.int 1 v] }).objs.size:=by simpa using hb
   subst e;exact I1.fpOk (n11_ _) (I1.hok.fresh (n11_ _))
def Zwv (ta:TA):TI:=fun σ H R=>ta σ H fun vs H1=>∃ j:Int,vs=[.int j]∧-(2^62)≤j∧j<2^62∧R (Itr 0 j.toNat) H1
theorem Xu {a:Expr} (hg:Gl X "range") (hm:X.mg "range" = none) (ha:PA X [a] ta) (hs:starEach [a] X.env=[(false,eval a X.env)]:=by rfl):PI X tg (.Call (.Name "range" p) [a] [] pos) (Zwv ta):=by
 intro pins s σ H R I h;refine Call_ (Zbu I hg hm boot_range (n58_ (thn (ha pos pins s σ H _ I h) fun us s1 ⟨vs,H1,I1,r1,q1⟩=>?_) hs rfl));obtain ⟨j,e,q1,q2,q⟩:=q1;subst e;cases r1 with
 | cons r rr =>
   cases rr
   obtain ⟨t,rfl⟩:=r;exact call_range_1 (Zpg I1 (?d) (?d) q1 q2 (by simpa using q))
def tFor (wi:TI) (g:TG) (tb:TS):TS:=fun D σ H=>wi σ H fun J H1=>∃ W:Nat→Nat→St→?y,(∃ m,W 0 m σ H1)∧∀ i m σ H,W i m σ H →
 (J.stop i H∧D.nx σ H)∨(J.go i H∧∃ N:St→?y,(∀ σ' H',N σ' H'→∃ m',m'<m∧W (i+1) m' σ' H')∧∀ x H',J.yld i H x H'→g x σ H' fun σ2 H2=>tb { D with nx:=N,ct:=N,bk:=D.nx } σ2 H2)
def Zk6 (fp:List Addr) (h:Heap):?A:=fp.filterMap fun b=>(h.get? b).map fun o=>(b,o)
theorem Xd (hb:b∈fp) (e:h.get? b=some o):(b,o)∈Zk6 fp h:=List.mem_filterMap.mpr ⟨b,hb,by rw [e];rfl⟩
theorem Zn4 {p:Addr×Obj} (hp:p∈Zk6 fp h):p.1∈fp∧h.get? p.1=some p.2:=by
 obtain ⟨b,hb,e⟩:=List.mem_filterMap.mp hp;cases q:h.get? b with
 | none=>rw [q] at e;cases e
 | some o =>
   rw [q] at e;have e':(b,o)=p:=Option.some.inj e;subst e';exact ⟨hb,q⟩
theorem Inv.pinned (I:?p) (hf:∀ b∈fp,FpOk X pins H b) (ho:∀ b∈fp,∃ o,?I=some o∧∀ v,o.data≠.cell v):Inv X (pins++Zk6 fp s.heap) σ H s :=
 I.pins_of fun p hp=>(n39_.mp hp).elim (fun z=>I.pin p (n33_ _ z)) fun z=>by
  obtain ⟨hb,e⟩:=Zn4 z;obtain ⟨f0,f1,f2,_⟩:=hf p.1 hb;obtain ⟨o,e',d⟩:=ho p.1 hb;rw [e] at e';cases e';exact ⟨e,f0,f1,f2,d⟩
theorem Inv.unpinned {pl:?A} (I:Inv X (pins++pl) σ H s):?p:=I.pins_of fun p hp=>I.pin p (n33_ _ (List.mem_append_left _ hp))
theorem Yu {body:List Stmt} {tb:TS} (hp:PassesOwn ?z X.A X.env X.xe) (hc:X.calm=true) (hi:PI X tg iter wi) (hg:PG X tg g) (hb:PSs X body tb)
 (hs:∀ x,foldedSetIterable iter X.env x=pure x:=by intro _;rfl):PS X (.For tg iter body [] pos) (tFor wi g tb):=by
 intro pins s σ H D I h;refine wpAny_For (thn (hi pins s σ H _ I h) fun v s1 h1=>thn h1 fun itv s2 h2=>?_) hs;obtain ⟨it,fp,tn,J,H2,e,I2,T,st2,f2,W,⟨m0,w0⟩,turn⟩:=h2;subst e;have stat:∀ {H':Hp},(∀ b∈fp,H' b=none)→∀ b∈fp,FpOk X pins H' b:=fun hn b hb=>⟨hn b hb,(f2 b hb).2⟩;refine codeAny_forLoop_any (fun n s'=>∃ i σ' H',Inv X pins σ' H' s'∧tn i s'.heap∧(∀ b∈fp,H' b=none)∧W i n σ' H') ?_ m0 ⟨0,σ,H2,I2,st2,fun b hb=>(f2 b hb).1,w0⟩;rintro n s3 ⟨i,σ3,H3,I3,st3,fr3,w3⟩
 rcases turn i n σ3 H3 w3 with ⟨stop,qn⟩|⟨go,N,hN,step⟩
 · refine wpAny_passesOwn hp (thn (T.done X rfl rfl rfl hc i pins s3 σ3 H3 X.xe I3 (stat fr3) st3 stop) fun r s4 ⟨hr,I4⟩=>?_);subst hr;exact wpAny_execs_nil ⟨σ3,H3,I4,qn⟩
 · refine wpAny_passesOwn hp (thn (T.item X rfl rfl rfl hc i pins s3 σ3 H3 X.xe I3 (stat fr3) st3 go) fun r s4 ⟨u,hr,h4⟩=>?_);subst hr;refine wpAny_passesOwn hp (thn h4 fun _ s5 ⟨x,H5,I5,r5,y5,st5,fr5⟩=>?_);have I5':=I5.pinned (stat fr5) (T.obj _ _ st5);refine wpAny_passesOwn hp (thn (hg _ s5 σ3 H5 x u _ I5' r5 (step x H5 y5)) fun _ s6 ⟨σ6,H6,I6,q6⟩=>?_);refine wpAny_passesOwn hp (thn (hb _ s6 σ6 H6 _ I6 q6) fun f s7 q7=>?_)
   have again:∀ {σ7:St} {H7:Hp},Inv X (pins++Zk6 fp s5.heap) σ7 H7 s7→N σ7 H7→∃ m,m<n∧∃ i σ' H',Inv X pins σ' H' s7∧tn i s7.heap∧(∀ b∈fp,H' b=none)∧W i m σ' H':=fun {σ7 H7} I7 n7=>by
    obtain ⟨m',hm,w7⟩:=hN σ7 H7 n7;refine ⟨m',hm,i+1,σ7,H7,I7.unpinned,T.keep _ _ _ st5 fun b hb o e=>(I7.pin (b,o) (n33_ _ (n33_ _ (Xd hb e)))).1,fun b hb=>?_,w7⟩;obtain ⟨o,e,d⟩:=T.obj _ _ st5 b hb;exact (I7.pin (b,o) (n33_ _ (n33_ _ (Xd hb e)))).2.1
   cases f with
   | next=>obtain ⟨σ7,H7,I7,n7⟩:=q7;exact again I7 n7
   | cont=>obtain ⟨σ7,H7,I7,n7⟩:=q7;exact again I7 n7
   | brk=>obtain ⟨σ7,H7,I7,q7⟩:=q7;exact ⟨σ7,H7,I7.unpinned,q7⟩
   | ret v=>obtain ⟨x7,σ7,H7,I7,r7,q7⟩:=q7;exact ⟨x7,σ7,H7,I7.unpinned,r7,q7⟩
end
theorem Zdr {lo:Int} {tb:TS} {D:Ends} (Pv:Nat→St→?y) (h0:Pv 0 σ H)
 (hs:∀ i σ H,i<n→Pv i σ H→g (.int (lo+i)) σ H fun σ2 H2=>tb { D with nx:=Pv (i+1),ct:=Pv (i+1),bk:=D.nx } σ2 H2) (hd:∀ σ H,Pv n σ H→D.nx σ H) :
 ∃ W:Nat→Nat→St→?y,(∃ m,W 0 m σ H)∧∀ i m σ H,W i m σ H →
   ((Itr lo n).stop i H∧D.nx σ H)∨((Itr lo n).go i H∧∃ N:St→?y,(∀ σ' H',N σ' H'→∃ m',m'<m∧W (i+1) m' σ' H')∧∀ x H',(Itr lo n).yld i H x H'→g x σ H' fun σ2 H2=>tb { D with nx:=N,ct:=N,bk:=D.nx } σ2 H2):=by
 refine ⟨fun i m σ H=>m=n-i∧i≤n∧Pv i σ H,⟨n,by simp,n45_ _,h0⟩,?_⟩;rintro i m σ H ⟨rfl,hi,p⟩
 by_cases hlt:i<n
 · refine .inr ⟨hlt,Pv (i+1),fun σ' H' p'=>⟨n-(i+1),?d,rfl,hlt,p'⟩,fun x H' y=>?_⟩;obtain ⟨e,y⟩:=y;subst e y;exact hs i σ _ hlt p
 · have e:i=n:=?d
   subst e;exact .inl ⟨n11_ _,hd σ H p⟩
theorem Zda {c:TT} {tb:TS} {D:Ends} (Pv:St→?y) (μ:St→Hp→Nat) (h0:Pv σ H)
 (hs:∀ σ H,Pv σ H→c σ H fun b H1=>if b=true then tb { D with nx:=fun σ' H'=>Pv σ' H'∧μ σ' H'<μ σ H,ct:=fun σ' H'=>Pv σ' H'∧μ σ' H'<μ σ H,bk:=D.nx } σ H1 else D.nx σ H1)
 (mono:∀ σ H Q Q',(∀ b H1,Q b H1→Q' b H1)→c σ H Q→c σ H Q'):Zrw c tb D σ H:=by
 refine ⟨fun m σ H=>m=μ σ H∧Pv σ H,⟨_,rfl,h0⟩,?_⟩;rintro m σ H ⟨rfl,p⟩
 refine mono σ H _ _ (fun b H1 q=>?_) (hs σ H p);cases b with
 | true=>exact ⟨_,fun σ' H' ⟨p',l⟩=>⟨_,l,rfl,p'⟩,q⟩
 | false=>exact q
abbrev R2:=V→V→Hp→VK→Prop
def OpR (X:Cx) (f:Value→Value→Sem Value) (r:R2):Prop :=
 ∀ (pins:?A) (s:Shared) (σ:St) (H:Hp) (x y:V) (v u:Value) (Q:VK),?p→RelV x v→RelV y u→r x y H Q →
   wpAny ?z X.A (f v u) (EP X pins σ Q) X.xe s
def UnR (X:Cx) (f:Value→Sem Value) (r:V→Hp→VK→Prop):Prop :=
 ∀ (pins:?A) (s:Shared) (σ:St) (H:Hp) (x:V) (v:Value) (Q:VK),?p→RelV x v→r x H Q →
   wpAny ?z X.A (f v) (EP X pins σ Q) X.xe s
def Xe (X:Cx) (f:Value) (r:?N):Prop :=
 ∀ (pins:?A) (s:Shared) (σ:St) (H:Hp) (xs:List V) (us:?q) (Q:VK),?p→Vals xs us→r xs H Q →
   wpAny ?z X.A (call f us) (EP X pins σ Q) X.xe s
def TruR (X:Cx) (r:V→Hp→(Bool→?y)→Prop):Prop :=
 ∀ (pins:?A) (s:Shared) (σ:St) (H:Hp) (x:V) (v:Value) (Q:Bool→?y),?p→RelV x v→r x H Q →
   wpAny ?z X.A (truthy v) (TP X pins σ Q) X.xe s
def tOp (r:R2) (ta tb:TE):TE:=fun σ H Q=>ta σ H fun x H1=>tb σ H1 fun y H2=>r x y H2 Q
def tUn (r:V→Hp→VK→Prop) (ta:TE):TE:=fun σ H Q=>ta σ H fun x H1=>r x H1 Q
inductive BxRI (C:Int→Int→Prop) (g:Int→Int→V) (x y:V) (H:Hp) (Q:VK):Prop
 | mk (i:_) (j:_) (q1:x=.int i) (q2:y=.int j) (q3:C i j) (q4:Q (g i j) H):BxRI C g x y H Q
def rI (C:Int→Int→Prop) (g:Int→Int→V):R2:=fun x y H Q=>BxRI C g x y H Q
inductive BxRI0 (g:Int→Int→V) (x y:V) (H:Hp) (Q:VK):Prop
 | mk (i:_) (j:_) (q1:x=.int i) (q2:y=.int j) (q3:Q (g i j) H):BxRI0 g x y H Q
def rI0 (g:Int→Int→V):R2:=fun x y H Q=>BxRI0 g x y H Q
inductive BxRU (g:Int→V) (x:V) (H:Hp) (Q:VK):Prop
 | mk (i:_) (q1:x=.int i) (q2:Q (g i) H):BxRU g x H Q
def rU (g:Int→V):V→Hp→VK→Prop:=fun x H Q=>BxRU g x H Q
section
variable {X:Cx} {a b c:Expr} {ta tb tc:TE} {pos:Pos}
theorem binT (ha:PE X a ta) (hb:PE X b tb) {R:V→V→?y} (I:?p)
 (h:ta σ H fun x H1=>tb σ H1 fun y H2=>R x y H2) {f:Value→Value→Sem Value}
 (hf:∀ v u s2 x y H2,Inv X pins σ H2 s2→RelV x v→RelV y u→R x y H2→wpAny ?z X.A (f v u) Q X.xe s2) :
 wpAny ?z X.A (eval a X.env) (fun v s₁=>wpAny ?z X.A (eval b X.env) (fun u s₂=>wpAny ?z X.A (f v u) Q X.xe s₂) X.xe s₁) X.xe s:=by
 refine thn (ha pins s σ H _ I h) fun v s1 ⟨x,H1,I1,r1,q1⟩=>?_;refine thn (hb pins s1 σ H1 _ I1 q1) fun u s2 ⟨y,H2,I2,r2,q2⟩=>?_;exact hf v u s2 x y H2 I2 r1 r2 q2
theorem Zn {op:Operator} {r:R2} (ho:OpR X (binaryOp op) r) (ha:PE X a ta) (hb:PE X b tb):PE X (.BinOp a op b pos) (tOp r ta tb):=by
 intro pins s σ H Q I h;exact wpAny_BinOp (binT ha hb I h fun v u s2 x y H2 I2 rx ry q=>ho pins s2 σ H2 x y v u Q I2 rx ry q)
theorem Zsj {op:UnaryOp} {r:V→Hp→VK→Prop} (ho:UnR X (unaryOp op) r) (ha:PE X a ta):PE X (.UnaryOp op a pos) (tUn r ta):=by
 intro pins s σ H Q I h;exact UnaryOp_ (thn (ha pins s σ H _ I h) fun v s1 ⟨x,H1,I1,r1,q1⟩=>ho pins s1 σ H1 x v Q I1 r1 q1)
theorem opI {f:Value→Value→Sem Value} {C:Int→Int→Prop} {g:Int→Int→Int}
 (rule:∀ (i j:Int) (t u:Tok) (s:Shared) (Q:Value→?k) (E:Value→?k),C i j→Q (.int (g i j) s.toks) { s with toks:=s.toks+1 }→wpAny ?z X.A (f (.int i t) (.int j u)) Q E s) :
 OpR X f (rI C fun i j=>.int (g i j)):=by
 intro pins s σ H x y v u Q I rx ry h;obtain ⟨i,j,rfl,rfl,hc,q⟩:=h;obtain ⟨t,rfl⟩:=rx;obtain ⟨t',rfl⟩:=ry;exact rule i j t t' s _ _ hc ⟨.int (g i j),H,I.tok _,⟨_,rfl⟩,q⟩
theorem opI0 {f:Value→Value→Sem Value} {g:Int→Int→Int}
 (rule:∀ (i j:Int) (t u:Tok) (s:Shared) (Q:Value→?k) (E:Value→?k),Q (.int (g i j) s.toks) { s with toks:=s.toks+1 }→wpAny ?z X.A (f (.int i t) (.int j u)) Q E s) :
 OpR X f (rI0 fun i j=>.int (g i j)):=by
 intro pins s σ H x y v u Q I rx ry h;obtain ⟨i,j,rfl,rfl,q⟩:=h;obtain ⟨t,rfl⟩:=rx;obtain ⟨t',rfl⟩:=ry;exact rule i j t t' s _ _ ⟨.int (g i j),H,I.tok _,⟨_,rfl⟩,q⟩
theorem opB0 {f:Value→Value→Sem Value} {g:Int→Int→Bool}
 (rule:∀ (i j:Int) (t u:Tok) (s:Shared) (Q:Value→?k) (E:Value→?k),Q (.bool (g i j)) s→wpAny ?z X.A (f (.int i t) (.int j u)) Q E s) :
 OpR X f (rI0 fun i j=>.bl (g i j)):=by
 intro pins s σ H x y v u Q I rx ry h;obtain ⟨i,j,rfl,rfl,q⟩:=h;obtain ⟨t,rfl⟩:=rx;obtain ⟨t',rfl⟩:=ry;exact rule i j t t' s _ _ ⟨.bl (g i j),H,I,rfl,q⟩
def CPow (i j:Int):Prop:=0≤j∧j≤1000000∧i.natAbs<2^64
theorem Yd:OpR X (binaryOp .Add) (rI0 fun i j=>.int (i+j)):=opI0 fun _ _ _ _ _ _ _ q=>add_int q
theorem Yq:OpR X (binaryOp .Sub) (rI0 fun i j=>.int (i-j)):=opI0 fun _ _ _ _ _ _ _ q=>sub_int q
theorem X5:OpR X (binaryOp .Mod) (rI (fun _ j=>j≠0) fun i j=>.int (i.fmod j)):=opI fun _ _ _ _ _ _ _ hc q=>mod_int' hc q
theorem Zus:OpR X (binaryOp .Pow) (rI CPow fun i j=>.int (i^j.toNat)):=opI fun _ _ _ _ _ _ _ hc q=>pow_int_small hc.1 hc.2.1 hc.2.2 q
theorem unI {f:Value→Sem Value} {g:Int→Int}
 (rule:∀ (i:Int) (t:Tok) (s:Shared) (Q:Value→?k) (E:Value→?k),Q (.int (g i) s.toks) { s with toks:=s.toks+1 }→wpAny ?z X.A (f (.int i t)) Q E s) :
 UnR X f (rU fun i=>.int (g i)):=by
 intro pins s σ H x v Q I rx h;obtain ⟨i,rfl,q⟩:=h;obtain ⟨t,rfl⟩:=rx;exact rule i t s _ _ ⟨.int (g i),H,I.tok _,⟨_,rfl⟩,q⟩
theorem Zn8:UnR X (unaryOp .USub) (rU fun i=>.int (-i)):=unI fun _ _ _ _ _ q=>neg_int q
end
def scal:V→V→Bool
 | .non,.non=>true|.non,.int _=>true|.int _,.non=>true|.non,.bl _=>true|.bl _,.non=>true|.non,.str _=>true|.str _,.non=>true
 | .int _,.int _=>true|.bl _,.bl _=>true|.str _,.str _=>true|.byt _,.byt _=>true
 | .int _,.str _=>true|.str _,.int _=>true|.bl _,.str _=>true|.str _,.bl _=>true
 | _,_=>false
inductive BxREq (x y:V) (H:Hp) (Q:VK):Prop
 | mk  (q1:scal x y=true) (q2:Q (.bl (decide (x=y))) H):BxREq x y H Q
def rEq:R2:=fun x y H Q=>BxREq x y H Q
inductive BxRNe (x y:V) (H:Hp) (Q:VK):Prop
 | mk  (q1:scal x y=true) (q2:Q (.bl (!decide (x=y))) H):BxRNe x y H Q
def rNe:R2:=fun x y H Q=>BxRNe x y H Q
theorem Zof {i j:Int}:decide (V.int i=V.int j)=(i == j):=by
 rw [Bool.eq_iff_iff]
 simp
theorem Zrl {i j:Bool}:decide (V.bl i=V.bl j)=(i == j):=by
 rw [Bool.eq_iff_iff]
 simp
theorem Zmf {i j:Str}:decide (V.str i=V.str j)=(i == j):=by
 rw [Bool.eq_iff_iff]
 simp
theorem Zoh {i j:Array UInt8}:decide (V.byt i=V.byt j)=(i.toList == j.toList):=by
 rw [Bool.eq_iff_iff];cases i
 cases j
 simp
section
variable {X:Cx} {a b c:Expr} {ta tb tc:TE} {pos:Pos}
theorem Z8 {Q:VK} {k k':Bool} (I:?p) (q:Q (.bl k) H) (e:k=k'):EP X pins σ Q (.bool k') s:=by
 subst e;exact ⟨.bl k,H,I,rfl,q⟩
theorem Znv:OpR X (compareOp .Eq) rEq:=by
 intro pins s σ H x y v u Q I rx ry h;obtain ⟨hs,q⟩:=h;cases x with
 | non =>
   cases rx
   cases y with
   | non=>cases ry;exact PySem.EqNone.eq_none_none (Z8 I q ?f)
   | bl j=>cases ry;exact PySem.EqNone.eq_none_bool (Z8 I q ?f)
   | int j=>obtain ⟨t',rfl⟩:=ry;exact PySem.EqNone.eq_none_int (Z8 I q ?f)
   | str j=>obtain ⟨t',rfl⟩:=ry;exact PySem.EqNone.eq_none_str (Z8 I q ?f)
   | _=>exact ?U
 | bl i =>
   cases rx
   cases y with
   | non=>cases ry;exact PySem.EqNone.eq_bool_none (Z8 I q ?f)
   | bl j=>cases ry;exact eq_bool (Z8 I q Zrl)
   | str j=>obtain ⟨t',rfl⟩:=ry;exact PySem.EqMixed.eq_bool_str (Z8 I q ?f)
   | _=>exact ?U
 | int i =>
   obtain ⟨t,rfl⟩:=rx;cases y with
   | non=>cases ry;exact PySem.EqNone.eq_int_none (Z8 I q ?f)
   | int j=>obtain ⟨t',rfl⟩:=ry;exact eq_int (Z8 I q Zof)
   | str j=>obtain ⟨t',rfl⟩:=ry;exact PySem.EqMixed.eq_int_str (Z8 I q ?f)
   | _=>exact ?U
 | str i =>
   obtain ⟨t,rfl⟩:=rx;cases y with
   | non=>cases ry;exact PySem.EqNone.eq_str_none (Z8 I q ?f)
   | bl j=>cases ry;exact PySem.EqMixed.eq_str_bool (Z8 I q ?f)
   | int j=>obtain ⟨t',rfl⟩:=ry;exact PySem.EqMixed.eq_str_int (Z8 I q ?f)
   | str j=>obtain ⟨t',rfl⟩:=ry;exact eq_str (Z8 I q Zmf)
   | _=>exact ?U
 | byt i =>
   obtain ⟨t,rfl⟩:=rx;cases y with
   | byt j=>obtain ⟨t',rfl⟩:=ry;exact PySem.W.eq_bytes (Z8 I q Zoh)
   | _=>exact ?U
 | _=>cases y<;>exact ?U
theorem Zvb:OpR X (compareOp .NotEq) rNe:=by
 intro pins s σ H x y v u Q I rx ry h;obtain ⟨hs,q⟩:=h;cases x with
 | non =>
   cases rx
   cases y with
   | non=>cases ry;exact PySem.EqNone.ne_none_none (Z8 I q ?f)
   | bl j=>cases ry;exact PySem.EqNone.ne_none_bool (Z8 I q ?f)
   | int j=>obtain ⟨t',rfl⟩:=ry;exact PySem.EqNone.ne_none_int (Z8 I q ?f)
   | str j=>obtain ⟨t',rfl⟩:=ry;exact PySem.EqNone.ne_none_str (Z8 I q ?f)
   | _=>exact ?U
 | bl i =>
   cases rx
   cases y with
   | non=>cases ry;exact PySem.EqNone.ne_bool_none (Z8 I q ?f)
   | bl j=>cases ry;exact ne_bool (Z8 I q (congrArg not Zrl))
   | str j=>obtain ⟨t',rfl⟩:=ry;exact PySem.EqMixed.ne_bool_str (Z8 I q ?f)
   | _=>exact ?U
 | int i =>
   obtain ⟨t,rfl⟩:=rx;cases y with
   | non=>cases ry;exact PySem.EqNone.ne_int_none (Z8 I q ?f)
   | int j=>obtain ⟨t',rfl⟩:=ry;exact ne_int (Z8 I q (congrArg not Zof))
   | str j=>obtain ⟨t',rfl⟩:=ry;exact PySem.EqMixed.ne_int_str (Z8 I q ?f)
   | _=>exact ?U
 | str i =>
   obtain ⟨t,rfl⟩:=rx;cases y with
   | non=>cases ry;exact PySem.EqNone.ne_str_none (Z8 I q ?f)
   | bl j=>cases ry;exact PySem.EqMixed.ne_str_bool (Z8 I q ?f)
   | int j=>obtain ⟨t',rfl⟩:=ry;exact PySem.EqMixed.ne_str_int (Z8 I q ?f)
   | str j=>obtain ⟨t',rfl⟩:=ry;exact ne_str (Z8 I q (congrArg not Zmf))
   | _=>exact ?U
 | byt i =>
   obtain ⟨t,rfl⟩:=rx;cases y with
   | byt j=>obtain ⟨t',rfl⟩:=ry;exact PySem.W.ne_bytes (Z8 I q (congrArg not Zoh))
   | _=>exact ?U
 | _=>cases y<;>exact ?U
theorem Znq:OpR X (compareOp .Lt) (rI0 fun i j=>.bl (decide (i<j))):=opB0 fun _ _ _ _ _ _ _ q=>lt_int q
theorem Zoc:OpR X (compareOp .LtE) (rI0 fun i j=>.bl (decide (i≤j))):=opB0 fun _ _ _ _ _ _ _ q=>le_int q
theorem Zqf:OpR X (compareOp .Gt) (rI0 fun i j=>.bl (decide (j<i))):=opB0 fun _ _ _ _ _ _ _ q=>gt_int q
theorem Zwy:OpR X (compareOp .GtE) (rI0 fun i j=>.bl (decide (j≤i))):=opB0 fun _ _ _ _ _ _ _ q=>ge_int q
theorem Y0 (b:Expr) {op:CmpOp} (h:op≠.In:=by decide) (h2:op≠.NotIn:=by decide):behindInMarks op b=false:=by
 have e1:(op == CmpOp.In)=false:=by cases op<;>first|rfl|exact absurd rfl h
 have e2:(op == CmpOp.NotIn)=false:=by cases op<;>first|rfl|exact absurd rfl h2
 cases b<;>simp [behindInMarks,e1,e2]
theorem Zac {op:CmpOp} {r:R2} (ho:OpR X (compareOp op) r) (ha:PE X a ta) (hb:PE X b tb) (hm:behindInMarks op b=false):PE X (.Compare a [op] [b] pos) (tOp r ta tb):=by
 intro pins s σ H Q I h;exact wpAny_Compare1 (binT ha hb I h fun v u s2 x y H2 I2 rx ry q=>ho pins s2 σ H2 x y v u Q I2 rx ry q) hm
inductive BxTTest (Q:Bool→?y) (x:V) (H':Hp):Prop
 | mk (k:_) (q1:x=.bl k) (q2:Q k H'):BxTTest Q x H'
def Zw0 (t:TE):TT:=fun σ H Q=>t σ H fun x H'=>BxTTest Q x H'
theorem Y6 {op:CmpOp} {r:R2} (ho:OpR X (compareOp op) r) (ha:PE X a ta) (hb:PE X b tb) (hm:behindInMarks op b=false):PT X (.Compare a [op] [b] pos) (Zw0 (tOp r ta tb)):=by
 intro pins s σ H Q I h
 refine wpAny_isTrue_Compare1 (thn (ha pins s σ H _ I h) fun v s1 ⟨x,H1,I1,r1,q1⟩=>thn (hb pins s1 σ H1 _ I1 q1) fun u s2 ⟨y,H2,I2,r2,q2⟩ =>
  thn (ho pins s2 σ H2 x y v u _ I2 r1 r2 q2) fun c s3 ⟨z,H3,I3,r3,k,e,q3⟩=>?_) hm
 subst e;cases r3
 exact wpAny_truthy_bool ⟨H3,I3,q3⟩
inductive BxTChain (r':R2) (y:V) (tc:TE) (σ:St) (Q:VK) (z:V) (H3:Hp):Prop
 | mk (k:_) (q1:z=.bl k) (q2:(if k=true then tc σ H3 fun w' H4=>r' y w' H4 Q else Q (.bl false) H3)):BxTChain r' y tc σ Q z H3
def Zvw (r r':R2) (ta tb tc:TE):TE:=fun σ H Q=>ta σ H fun x H1=>tb σ H1 fun y H2=>r x y H2 fun z H3=>BxTChain r' y tc σ Q z H3
theorem Zj3 {op op':CmpOp} {r r':R2} (ho:OpR X (compareOp op) r) (ho':OpR X (compareOp op') r') (ha:PE X a ta) (hb:PE X b tb) (hc:PE X c tc)
 (hm:lastMarks [op,op'] [b,c]=false:=by with_unfolding_all rfl):PE X (.Compare a [op,op'] [b,c] pos) (Zvw r r' ta tb tc):=by
 intro pins s σ H Q I h
 refine Compare_chain (thn (ha pins s σ H _ I h) fun v s1 ⟨x,H1,I1,r1,q1⟩=>chain_link (thn (hb pins s1 σ H1 _ I1 q1) fun u s2 ⟨y,H2,I2,r2,q2⟩ =>
  thn (ho pins s2 σ H2 x y v u _ I2 r1 r2 q2) fun d s3 ⟨z,H3,I3,r3,k,e,q3⟩=>?_)) hm
 subst e;cases r3
 refine wpAny_truthy_bool ?_;cases k with
 | false=>exact ite_ff ⟨.bl false,H3,I3,rfl,q3⟩
 | true=>exact ite_tt (chain_last (thn (hc pins s3 σ H3 _ I3 q3) fun w' s4 ⟨z',H4,I4,r4,q4⟩=>ho' pins s4 σ H4 y z' u w' Q I4 r2 r4 q4))
def TruV (K:PySem.W.Frag) (x:V) (H:Hp) (k:Bool):Prop :=
 match x with
 | .non=>k=false
 | .bl b=>k=b
 | .int i=>k=(i != 0)
 | .str y=>y.length≤sizeLine∧k=((y.length:Int) != 0)
 | .byt y=>y.size≤sizeLine∧k=((y.size:Int) != 0)
 | .ref p=>(∃ xs,SqL K H p xs∧k = !xs.isEmpty)∨(∃ xs,SqT K H p xs∧k = !xs.isEmpty)∨∃ kvs,H p=some (.dK kvs)∧k = !kvs.isEmpty
 | _=>False
theorem Zl0 {κ:Type} {kvs:List (κ×V)} {vs:List (κ×Value)} (r:KV kvs vs):(!vs.isEmpty) = !kvs.isEmpty:=by
 cases r<;>rfl
theorem Zfn (r:Vals xs its):(!its.toArray.isEmpty) = !xs.isEmpty:=by
 cases r<;>simp
theorem Zdh:(sizeLine:Nat)<2^63:=by rw [sizeLine_eq];decide
theorem Zvv:TruR X (fun x H Q=>∃ k,TruV X.K x H k∧Q k H):=by
 intro pins s σ H x v Q I rx h;obtain ⟨k,e,q⟩:=h;have hl:=Zdh;have hs:sizeLine=16777216:=sizeLine_eq;cases x with
 | non =>
   cases rx
   have e':k=false:=e;subst e';exact truthy_none ⟨H,I,q⟩
 | bl b =>
   cases rx
   have e':k=b:=e;subst e';exact wpAny_truthy_bool ⟨H,I,q⟩
 | int i =>
   obtain ⟨t,rfl⟩:=rx;have e':k=(i != 0):=e;subst e';exact PySem.P.truthy_int ⟨H,I,q⟩
 | str y =>
   obtain ⟨t,rfl⟩:=rx;obtain ⟨hy,e'⟩:y.length≤sizeLine∧k=((y.length:Int) != 0):=e;subst e';exact PySem.P.truthy_str (?d) ⟨H,I.tok _,q⟩
 | byt y =>
   obtain ⟨t,rfl⟩:=rx;obtain ⟨hy,e'⟩:y.size≤sizeLine∧k=((y.size:Int) != 0):=e;subst e';exact PySem.W.truthy_bytes (?d) ⟨H,I.tok _,q⟩
 | ref p =>
   cases rx
   have e':(∃ xs,SqL X.K H p xs∧k = !xs.isEmpty)∨(∃ xs,SqT X.K H p xs∧k = !xs.isEmpty)∨∃ kvs,H p=some (.dK kvs)∧k = !kvs.isEmpty:=e
   rcases e' with ⟨xs,hx,e'⟩|⟨xs,hx,e'⟩|⟨kvs,hx,e'⟩
   · subst e';obtain ⟨its,r,pl,hz⟩:=I.list hx;have hlen:=r.length;exact wpAny_truthy_list pl.isList (by simp only [n16_];omega) ⟨H,I.tok _,by rw [Zfn r];exact q⟩
   · subst e';obtain ⟨its,r,pl,hz⟩:=I.tuple hx;have hlen:=r.length;exact truthy_tuple pl (by simp only [n16_];omega) ⟨H,I.tok _,by rw [Zfn r];exact q⟩
   · subst e';obtain ⟨hz,hS,vs,r,m⟩:kvs.length≤sizeLine∧(p == sysModules)=false∧∃ vs,KV kvs vs∧s.heap.DictOf (Y5 X.prog X.w) p vs:=I.hok p _ hx;have hlen:kvs.length=vs.length:=Paired.length r;exact wpAny_truthy_dict hS m (?d) ⟨H,I.tok _,by rw [Zl0 r];exact q⟩
 | _=>exact (show False from e).elim
theorem Z2 (ha:PE X a ta) (he:∀ whole,isTrue a X.env whole=(do let v ← whole;standAt a.pos;holding [v] (truthy v))) :
 PT X a (fun σ H Q=>ta σ H fun x H'=>∃ k,TruV X.K x H' k∧Q k H'):=by
 intro pins s σ H Q I h;exact isTrue_plain (thn (ha pins s σ H _ I h) fun v s1 ⟨x,H1,I1,r1,q1⟩=>Zvv pins s1 σ H1 x v Q I1 r1 q1) (he _)
theorem Zpt {x:V} (r:Vals [x] us):∃ u,us=[u]∧RelV x u:=by
 cases r with
 | cons r1 r2=>cases r2;exact ⟨_,rfl,r1⟩
theorem Zvm {x:V} (r:Vals [x,y] us):∃ u w',us=[u,w']∧RelV x u∧RelV y w':=by
 cases r with
 | cons r1 r2 =>
   cases r2 with
   | cons r3 r4=>cases r4;exact ⟨_,_,rfl,r1,r3⟩
inductive BxRc_abs  (xs:List V) (H:Hp) (Q:VK):Prop
 | mk (i:_) (q1:xs=[.int i]) (q2:Q (.int (if i<0 then -i else i)) H):BxRc_abs xs H Q
def Zuk  : ?N:=fun xs H Q=>BxRc_abs xs H Q
theorem Za9:Xe X (.builtin "abs") (Zuk):=by
 intro pins s σ H xs us Q I r h;obtain ⟨i,rfl,q⟩:=h;obtain ⟨u,rfl,t,rfl⟩:=Zpt r;exact call_abs_int fun u tk=>⟨.int (if i<0 then -i else i),H,I.tok _,⟨_,rfl⟩,q⟩
inductive BxRc_max2  (xs:List V) (H:Hp) (Q:VK):Prop
 | mk (i:_) (j:_) (q1:xs=[.int i,.int j]) (q2:Q (.int (if j>i then j else i)) H):BxRc_max2 xs H Q
def Zsc  : ?N:=fun xs H Q=>BxRc_max2 xs H Q
theorem Zhy (hc:X.calm=true):Xe X (.builtin "max") (Zsc):=by
 intro pins s σ H xs us Q I r h;obtain ⟨i,j,rfl,q⟩:=h;obtain ⟨u,w',rfl,⟨t,rfl⟩,⟨t',rfl⟩⟩:=Zvm r;refine max_two_ints (I.ok.hd hc) fun h' tk k=>⟨_,H,I.kept k,?_,q⟩
 by_cases hj:j>i
 · rw [if_pos hj,if_pos hj];exact ⟨_,rfl⟩
 · rw [if_neg hj,if_neg hj];exact ⟨_,rfl⟩
inductive BxRc_min2  (xs:List V) (H:Hp) (Q:VK):Prop
 | mk (i:_) (j:_) (q1:xs=[.int i,.int j]) (q2:Q (.int (if j<i then j else i)) H):BxRc_min2 xs H Q
def Zsw  : ?N:=fun xs H Q=>BxRc_min2 xs H Q
theorem Zhs (hc:X.calm=true):Xe X (.builtin "min") (Zsw):=by
 intro pins s σ H xs us Q I r h;obtain ⟨i,j,rfl,q⟩:=h;obtain ⟨u,w',rfl,⟨t,rfl⟩,⟨t',rfl⟩⟩:=Zvm r;refine min_two_ints (I.ok.hd hc) fun h' tk k=>⟨_,H,I.kept k,?_,q⟩
 by_cases hj:j<i
 · rw [if_pos hj,if_pos hj];exact ⟨_,rfl⟩
 · rw [if_neg hj,if_neg hj];exact ⟨_,rfl⟩
end
structure ObjM (h:Heap) (x dx C:Addr) (mA:Str→?D):Prop where
 obj:h.get? x=some (PySem.W.instObj C dx)
 ns:h.Ns1 dx mA
 ne:dx≠x
theorem Zmu {dx:Addr} {mA:Str→?D} (n:h.Ns1 dx mA):∃ od,h.get? dx=some od∧∀ name,PySem.W.lookIn name od=some (mA name):=by
 obtain ⟨o,es,ep,ho,hd,hk,_,hm⟩:=n;refine ⟨o,ho,fun name=>?_⟩;have e:=hm name;unfold nsFind findBy at e;rw [← Array.find?_toList] at e;unfold PySem.W.lookIn;rw [hd];dsimp only;split
 · rename_i y q
   rw [q] at e;exact congrArg some e
 · rename_i q
   rw [q] at e
   have a:es.toList.any (·.refKey)=false:=by
    rw [List.any_eq_false];intro y hy;obtain ⟨z,t,hkey⟩:=hk y (Array.mem_toList_iff.mp hy);simp [DictEntry.refKey,hkey]
   have a':¬ es.toList.any (·.refKey)=true:=by rw [a];exact n27_
   rw [if_neg a'];exact congrArg some e
theorem ObjM.look {x dx:Addr} {mA:Str→?D} (I:ObjM h x dx C mA):∃ od,PySem.W.InstAt h x (PySem.W.instObj C dx) C (some od)∧∀ name,PySem.W.lookIn name od=some (mA name) :=
 let ⟨od,ho,hl⟩:=Zmu I.ns
 ⟨od,⟨I.obj,rfl,rfl,ho⟩,hl⟩
section
variable {prog:Program} {w:World} {A:Around} {E:Value→?k} {s:Shared} {K:PySem.W.Frag} {x dx C f:Addr} {mA:Str→?D} {name:Str} {v:Value}
end
theorem RelO.some_of {o:?D} (r:RelO (some v) o):∃ u,o=some u∧RelV v u:=by
 cases o with
 | none=>exact (show False from r).elim
 | some u=>exact ⟨u,rfl,r⟩
section
variable {P:Program} {w:World} {H H':Hp} {h h':Heap} {a C dx:Addr} {fs fs':List (Str×V)}
theorem Zs1 (hok:HOk P w H h) (e:H a=some (.ins C dx fs)):∃ mA,ObjM h a dx C mA∧(∀ f,RelO (fs.lookup f) (mA f))∧PySem.Within mA (fs.map (·.1))∧fs.length≤1000∧H dx=some (.own a):=by
 obtain ⟨d,z,ne,ob,mA,n,r,q⟩:=(show ObjOk P w H h a (.ins C dx fs) from hok a _ e);exact ⟨mA,⟨ob,n,ne⟩,r,q,z,d⟩
end
structure Cls (K:PySem.W.Frag) (C:Addr):Prop where
 pg:PySem.W.plainGet K C Str.empty=true
 hd:PySem.W.hasDictIn K C=true
 po:PySem.W.plainOver K C=true
 sa:PySem.W.findIn K (.ref C) "__setattr__" = some (some (.builtin "object.__setattr__"))
theorem Cls.get {K:PySem.W.Frag} (c:Cls K C) (f:Str):PySem.W.plainGet K C f=true:=c.pg
section
variable {X:Cx} {pins:?A} {σ:St} {H:Hp} {s:Shared} {a C dx:Addr} {fs:List (Str×V)} {f:Str} {v:V} {A:Around} {E:Value→?k}
end
section
variable {X:Cx} {o e value:Expr} {f:Str} {pos pos' tpos:Pos} {ta tv:TE}
end
section
variable {X:Cx} {pins:?A} {σ:St} {H:Hp} {s:Shared} {A:Around} {E:Value→?k} {Q:Value→?k} {c:Value} {b:Bool}
inductive TyOf (K:PySem.W.Frag) (H:Hp):V→Value→Prop where
 | non:TyOf K H .non (.type "NoneType")
 | bl (x:Bool):TyOf K H (.bl x) (.type "bool")
 | int (i:Int):TyOf K H (.int i) (.type "int")
 | str (x:Str):TyOf K H (.str x) (.type "str")
 | flt (x:UInt64):TyOf K H (.flt x) (.type "float")
 | lst {a:Addr} {xs:List V} (e:H a=some (.lst xs)):TyOf K H (.ref a) (.type "list")
 | frz {a:Addr} {o:Obj} {xs:List V} (e:H a=some (.frz o (.lst xs))):TyOf K H (.ref a) (.type "list")
 | tup {a:Addr} {xs:List V} (e:H a=some (.tup xs)):TyOf K H (.ref a) (?G)
 | dK {a:Addr} {kvs:List (Key×V)} (e:H a=some (.dK kvs)):TyOf K H (.ref a) (.type "dict")
 | dT {a:Addr} {kvs:List (List Key×V)} (e:H a=some (.dT kvs)):TyOf K H (.ref a) (.type "dict")
 | ins {a C dx:Addr} {fs:List (Str×V)} (e:H a=some (.ins C dx fs)) (cl:Cls K C) (ha:PySem.W.findIn K (.ref C) "__class__" = some (some (.builtin "object.__class__")))
    (hn:PySem.W.specialIn K (.builtin "object.__class__") "__get__" = some (some (.builtin "getset_descriptor.__get__"))) (htk:PySem.W.takesIn K (.builtin "object.__class__")=some true)
    (hm:PySem.W.mroIn K C (.type "object")=some true):TyOf K H (.ref a) (.ref C)
theorem Zod {x:V} {t:Value} (I:?p) (rx:RelV x u) (ty:TyOf X.K H x t) (e:PySem.W.kitOne X.K t c=some b) (h:∀ tk,Q (.bool b) { s with toks:=tk }) :
 wpAny ?z A (call (.builtin "isinstance") [u,c]) Q E s:=by
 cases ty with
 | non=>cases (show u=Value.none from rx);exact n72_ PySem.W.kitx_none I.kIn True.intro e (fun z=>nomatch z) h
 | bl y=>cases (show u=Value.bool y from rx);exact n72_ PySem.W.kitx_bool I.kIn True.intro e (fun z=>nomatch z) h
 | int i=>obtain ⟨t,q⟩:=(show ∃ t,u=Value.int i t from rx);cases q;exact n72_ PySem.W.kitx_int I.kIn True.intro e (fun z=>nomatch z) h
 | str y=>obtain ⟨t,q⟩:=(show ∃ t,u=Value.str y t from rx);cases q;exact n72_ PySem.W.kitx_str I.kIn True.intro e (fun z=>nomatch z) h
 | flt y=>obtain ⟨t,q⟩:=(show ∃ t,u=Value.float y t from rx);cases q;exact n72_ PySem.W.kitx_float I.kIn True.intro e (fun z=>nomatch z) h
 | @lst a xs ea =>
   cases (show u=Value.ref a from rx)
   obtain ⟨_,_,n,_,h1⟩:=(show ObjOk X.prog X.w H s.heap a (.lst xs) from I.hok a _ ea);exact n72_ PySem.W.kitx_list I.kIn ⟨_,h1,rfl⟩ e (fun z=>nomatch z) h
 | @frz a ob xs ea =>
   cases (show u=Value.ref a from rx)
   obtain ⟨_,_,_,n,_,h1⟩:=(show ObjOk X.prog X.w H s.heap a (.frz ob (.lst xs)) from I.hok a _ ea);exact n72_ PySem.W.kitx_list I.kIn ⟨_,h1,rfl⟩ e (fun z=>nomatch z) h
 | @tup a xs ea =>
   cases (show u=Value.ref a from rx)
   obtain ⟨_,_,_,p⟩:=(show ObjOk X.prog X.w H s.heap a (.tup xs) from I.hok a _ ea);obtain ⟨o,h1,⟨h2,_⟩,_⟩:=p;exact n72_ PySem.W.kitx_tuple I.kIn ⟨o,h1,h2⟩ e (fun z=>nomatch z) h
 | @dK a kvs ea =>
   cases (show u=Value.ref a from rx)
   obtain ⟨_,_,vs,_,p⟩:=(show ObjOk X.prog X.w H s.heap a (.dK kvs) from I.hok a _ ea);obtain ⟨o,es,ep,h1,h2,_⟩:=p;exact n72_ PySem.W.kitx_dict I.kIn ⟨o,h1,h2.1⟩ e (fun z=>nomatch z) h
 | @dT a kvs ea =>
   cases (show u=Value.ref a from rx)
   obtain ⟨_,_,xs,_,o,es,ep,h1,h2,_⟩:=(show ObjOk X.prog X.w H s.heap a (.dT kvs) from I.hok a _ ea);exact n72_ PySem.W.kitx_dict I.kIn ⟨o,h1,h2.1⟩ e (fun z=>nomatch z) h
 | @ins a C dx fs ea cl ha hn htk hm =>
   cases (show u=Value.ref a from rx)
   obtain ⟨mA,O,_⟩:=Zs1 I.hok ea;obtain ⟨od,J,_⟩:=O.look;exact n72_ (PySem.W.kitx_own (cl.get _) cl.hd ha hn htk hm) I.kIn J e (fun z=>nomatch z) h
end
structure Room (k:Nat) (A:Around):Prop where
 hd:A.handled=none
 dp:A.depth+3*k+5<recursionLimit
 un:A.units+16*k+200<cLine
 gd:A.guards=some []
theorem Room.mono (r:Room k A) (h:j≤k):Room j A:=⟨r.hd,by have:=r.dp;omega,by have:=r.un;omega,r.gd⟩
theorem Room.deeper (r:Room (k+1) A) (env:Env):Room k (A.deeper env) :=
 ⟨r.hd,by have:=r.dp;show A.depth+1+3*k+5<_;omega,by have:=r.un;show A.units+3+16*k+200<_;omega,r.gd⟩
theorem Room.depth (r:Room k A):A.depth<recursionLimit:=by have:=r.dp;omega
theorem Room.units (r:Room k A):A.units+64<cLine:=by have:=r.un;omega
def tNil:TA:=fun _ H Q=>Q [] H
def Zw4 (ta:TE) (tr:TA):TA:=fun σ H Q=>ta σ H fun x H1=>tr σ H1 fun xs H2=>Q (x :: xs) H2
section
variable {X:Cx} {e:Expr} {es:List Expr} {te:TE} {t:TA} {pos:Pos}
theorem Zb:PA X [] tNil:=fun _ _ _ _ H Q I h=>Calls.spliced_nil ⟨[],H,I,.nil,h⟩
theorem Za (ha:PE X e te) (hr:PA X es t) (hs:starEach (e :: es) X.env=(false,eval e X.env) :: starEach es X.env:=by rfl):PA X (e :: es) (Zw4 te t):=by
 intro pos pins s σ H Q I h;rw [hs];show wpAny _ _ (spliced ((false,eval e X.env) :: backTo pos (starEach es X.env))) _ _ s
 refine Calls.spliced_cons (thn (ha pins s σ H _ I h) fun u s1 ⟨x,H1,I1,r1,q1⟩=>?_);exact thn (hr pos pins s1 σ H1 _ I1 q1) fun us s2 ⟨xs,H2,I2,r2,q2⟩=>⟨x :: xs,H2,I2,.cons r1 r2,q2⟩
inductive BxTTup (xs:List V) (H1:Hp) (Q:VK):Prop
 | mk  (q1:xs.length≤sizeLine) (q2:∀ p,H1 p=none→Q (.ref p) (upd H1 p (.tup xs))):BxTTup xs H1 Q
def tTup (t:TA):TE:=fun σ H Q=>t σ H fun xs H1=>BxTTup xs H1 Q
inductive BxTLst (xs:List V) (H1:Hp) (Q:VK):Prop
 | mk  (q1:xs.length≤sizeLine) (q2:∀ p,H1 p=none→Q (.ref p) (upd H1 p (.lst xs))):BxTLst xs H1 Q
def tLst (t:TA):TE:=fun σ H Q=>t σ H fun xs H1=>BxTLst xs H1 Q
theorem Zv {x1} (h:PA X es t):PE X (.Tuple es x1 pos) (tTup t):=by
 intro pins s σ H Q I hq;refine wpAny_Tuple_spliced (thn (h pos pins s σ H _ I hq) fun us s1 ⟨xs,H1,I1,r,z,q⟩=>⟨by rw [← r.length];exact z,?_⟩);have hf:H1 s1.z=none:=I1.hok.fresh (n11_ _);refine ⟨.ref s1.z,upd H1 s1.z (.tup xs),I1.laid (t':=s1.toks) (fun b u e=>n2_ _ e) (n11_ _) ?_,rfl,q _ hf⟩;exact ⟨z,us,r,IsTupN.new _ _⟩
theorem Yg (h:PA X es t):PE X (.List es pos) (tLst t):=by
 intro pins s σ H Q I hq;refine wpAny_List_spliced (thn (h pos pins s σ H _ I hq) fun us s1 ⟨xs,H1,I1,r,z,q⟩=>⟨by rw [← r.length];exact z,?_⟩);have hf:H1 s1.z=none:=I1.hok.fresh (n11_ _);refine ⟨.ref s1.z,upd H1 s1.z (.lst xs),I1.laid (t':=s1.toks) (fun b u e=>n2_ _ e) (n11_ _) ?_,rfl,q _ hf⟩;exact ⟨z,us,0,r,n8_ _ rfl⟩
end
abbrev Sp:=List V→Hp→VK→XK→Prop
abbrev CXT:=List Env→Hp→Shared→XK→Value→?k
structure Env0 (P:Program) (w:World) (K:PySem.W.Frag) (mg:Str→?D) (base:Heap) (A:Around) (outer:List Env) (s:Shared) (H:Hp):Prop where
 frames:A.frames=some outer
 mod:Mod K mg base
 bs:∀ b o,base.get? b=some o→?I=some o∧H b=none
 bsz:base.objs.size≤s.z
 funs:s.heap.FunFrames base outer
 frf:∀ b∈frs outer,H b=none
 hok:HOk P w H s.heap
 bare:AllBare s.gens
def CE (outer:List Env) (P:Program) (w:World) (H:Hp) (s:Shared) (Q:VK) (u:Value) (s':Shared):Prop :=
 ∃ v H',s'.os=s.os∧AllBare s'.gens∧Un (frs outer) [] H H' s.heap s'.heap∧HOk P w H' s'.heap∧RelV v u∧Q v H'
def CR (CX:CXT) (outer:List Env) (P:Program) (w:World) (H:Hp) (s:Shared) (Q:VK) (E:XK) (r:Result) (s':Shared):Prop :=
 match r with
 | .ok (.ret u)=>CE outer P w H s Q u s'
 | .ok _=>False
 | .error e=>CX outer H s E e s'
structure FnOk (P:Program) (w:World) (K:PySem.W.Frag) (mg:Str→?D) (base:Heap) (CX:CXT) (k:Nat) (f:Addr) (fd:FuncData) (ps:List Str) (sp:Sp):Prop where
 len:∀ vs H Q E,sp vs H Q E→vs.length=ps.length
 run:∀ (A:Around) (outer:List Env) (s:Shared) (H:Hp) (args:Args) (us:?q) (vs:List V) (Q:VK) (E:XK),Room k A→Env0 P w K mg base A outer s H→BindsTo s fd args (ps.zip us)→Vals vs us→sp vs H Q E →
  codeAny (model P w) A (.call (.ref f) args) (CR CX outer P w H s Q E) s
section
variable {X:Cx} {pins:?A} {σ:St} {H:Hp} {s s':Shared}
theorem Inv.env0 (I:?p):Env0 X.prog X.w X.K X.mg X.base X.A X.stack s H :=
 ⟨I.ok.frames,I.ok.mod,I.bs,n36_ I.ok.bsz I.sz,I.stack,I.stkFree,I.hok,I.bare⟩
theorem Inv.after {Q:VK} (I:?p) (h:CE X.stack X.prog X.w H s Q u s'):EP X pins σ Q u s':=by
 obtain ⟨v,H',os,bare,un,hok,r,q⟩:=h;obtain ⟨hh,g,d,t,os'⟩:=s';obtain rfl:os'=s.os:=os;exact ⟨v,H',I.call (h':=hh) (g':=g) (d':=d) (t':=t) (ch:=[]) un hok bare (fun b z=>absurd z ?f),r,q⟩
end
def Zs6 (sp:Sp) (dvs:List V) (E:XK) (t:TA):TE:=fun σ H Q=>t σ H fun vs H1=>sp (vs++dvs) H1 Q E
def Binds (K:PySem.W.Frag) (fd:FuncData) (ps:List Str) (ds:?q):Prop :=
 ∀ (s:Shared) (us:?q),K.In s.heap→(us++ds).length=ps.length→BindsTo s fd ⟨us,[]⟩ (ps.zip (us++ds))
theorem Binds.all {K:PySem.W.Frag} (h:∀ us:?q,us.length=ps.length→bindArgs fd ⟨us,[]⟩=pure (ps.zip us)):Binds K fd ps []:=fun s us _ hl=>by
 rw [List.append_nil] at hl ⊢;exact .of_eq (h us hl)
def Zj6 (CX:CXT) (X:Cx) (E:XK):Prop:=∀ (pins:?A) (σ:St) (H:Hp) (s:Shared) (e:Value) (s':Shared),?p→CX X.stack H s E e s'→X.xe e s'
section
variable {X:Cx} {CX:CXT} {k:Nat} {f C:Addr} {fd:FuncData} {ps:List Str} {sp:Sp} {dvs:List V} {ds:?q} {E:XK} {x m:Str} {p pos apos:Pos} {e o:Expr} {es:List Expr} {ta:TE} {t:TA}
theorem Zrk {Q:VK} (F:FnOk X.prog X.w X.K X.mg X.base CX k f fd ps sp) (hr:Room k X.A) (hb:Binds X.K fd ps ds) (hd:Vals dvs ds) (hx:Zj6 CX X E)
 (I:?p) (r:Vals vs us) (h:sp (vs++dvs) H Q E):wpAny ?z X.A (call (.ref f) us) (EP X pins σ Q) X.xe s:=by
 have r2:Vals (vs++dvs) (us++ds):=r.append hd;have hl:(us++ds).length=ps.length:=by rw [← r2.length];exact F.len _ _ _ _ h
 refine wpAny_call (codeAny_mono (F.run X.A X.stack s H ⟨us,[]⟩ (us++ds) (vs++dvs) Q E hr I.env0 (hb s us I.kIn hl) r2 h) fun r s' hq=>?_);cases r with
 | error e=>exact hx pins σ H s e s' I hq
 | ok fl =>
   cases fl with
   | ret u=>exact I.after hq
   | next=>exact False.elim hq
   | brk=>exact False.elim hq
   | cont=>exact False.elim hq
theorem Zoo (F:FnOk X.prog X.w X.K X.mg X.base CX k f fd ps sp) (hr:Room k X.A) (hg:Gl X x) (hm:X.mg x=some (.ref f)) (hk:PySem.W.keepIn X.K (.ref f)=true) (hb:Binds X.K fd ps ds) (hd:Vals dvs ds) (hx:Zj6 CX X E)
 (ha:PA X (e :: es) t) (hdb:(x == ("__debug__" : Str))=false:=by decide) (he:starEach (e :: es) X.env=(false,eval e X.env) :: starEach es X.env:=by rfl) (hpl:(backTo pos (starEach es X.env)).any (·.1)=false:=by rfl) :
 PE X (.Call (.Name x p) (e :: es) [] pos) (Zs6 sp dvs E t):=by
 intro pins s σ H Q I h;refine wpAny_Call_Name_kw (Ziu I hg hm ?_ hdb);refine PySem.W.callWith_K (h₀:=X.base) I.ok.mod.kin hk (thn (ha pos pins s σ H _ I h) fun us s1 ⟨vs,H1,I1,r,q⟩=>⟨I1.kIn,?_⟩) he hpl;exact Zrk F hr hb hd hx I1 r q
theorem Zp0 (F:FnOk X.prog X.w X.K X.mg X.base CX k f fd ps sp) (hr:Room k X.A) (hg:Gl X x) (hm:X.mg x=some (.ref f)) (hk:PySem.W.keepIn X.K (.ref f)=true) (hb:Binds X.K fd ps ds) (hd:Vals dvs ds) (hx:Zj6 CX X E)
 (hdb:(x == ("__debug__" : Str))=false:=by decide):PE X (.Call (.Name x p) [] [] pos) (Zs6 sp dvs E tNil):=by
 intro pins s σ H Q I h;refine wpAny_Call_Name_kw (Ziu I hg hm ?_ hdb);exact PySem.W.callWith_K0 I.kIn hk (Zrk (us:=[]) F hr hb hd hx I .nil h)
end
section
variable {X:Cx} {CX:CXT} {k:Nat} {f C:Addr} {fd:FuncData} {ps ks:List Str} {sp:Sp} {E:XK} {x m:Str} {p pos apos kpos:Pos} {e o:Expr} {es:List Expr} {kws:List Keyword} {te ta:TE} {t tk:TA} {nm:Option Str}
variable {g:?q→?q→?q} {gV:List V→List V→List V}
end
structure FnScope (N P:List Str) (sc:Scope):Prop where
 kind:sc.kind=.function
 co:sc.isCoroutine=false
 gen:sc.isGenerator=false
 nd:N.Nodup
 pre:N.take P.length=P
 par:∀ x∈P,sc.names.lookup x=some .local∨sc.names.lookup x=some .cell
 nofree:∀ y∈sc.names,y.2≠.free
theorem Zg8 {kindOf:Str→Option NameKind}:∀ {binds:List (Str×Value)} {m:Str→?D},(∀ v,(x,v)∉binds)→bindL kindOf binds m x=m x
 | [],_,_=>rfl
 | (n,v) :: r,m,h=>by
   unfold bindL;rw [Zg8 fun w hw=>h w (n17_ _ hw)];split
   · have:x≠n:=by rintro rfl;exact h v n24_
     simp [this]
   · rfl
theorem Zhd {kindOf:Str→Option NameKind}:∀ {binds:List (Str×Value)} {m:Str→?D},(∀ v,(x,v)∉binds)→bindC kindOf binds m x=m x
 | [],_,_=>rfl
 | (n,v) :: r,m,h=>by
   unfold bindC;rw [Zhd fun w hw=>h w (n17_ _ hw)];split
   · rfl
   · have:x≠n:=by rintro rfl;exact h v n24_
     simp [this]
theorem Zhp {kindOf:Str→Option NameKind} {v:Value}:∀ {P:List Str} {vs:?q} {i:Nat} {m:Str→?D},P.Nodup→P[i]? = some x→vs[i]? = some v→kindOf x=some .local →
 bindL kindOf (P.zip vs) m x=some v
 | [],_,_,_,_,h,_,_=>by simp at h
 | _ :: _,[],_,_,_,_,h,_=>by simp at h
 | p :: P,w :: vs,0,m,nd,h1,h2,hk=>by
   simp at h1 h2;subst h1;subst h2;show bindL kindOf ((p,w) :: P.zip vs) m p=_
   unfold bindL;rw [Zg8 fun v hv=>(List.nodup_cons.mp nd).1 (List.of_mem_zip hv).1,if_pos hk]
   simp
 | p :: P,w :: vs,i+1,m,nd,h1,h2,hk=>by
   show bindL kindOf ((p,w) :: P.zip vs) m x=_
   unfold bindL;exact Zhp (i:=i) (List.nodup_cons.mp nd).2 (by simpa using h1) (by simpa using h2) hk
theorem Zh8 {kindOf:Str→Option NameKind} {v:Value}:∀ {P:List Str} {vs:?q} {i:Nat} {m:Str→?D},P.Nodup→P[i]? = some x→vs[i]? = some v→kindOf x≠some .local →
 bindC kindOf (P.zip vs) m x=some v
 | [],_,_,_,_,h,_,_=>by simp at h
 | _ :: _,[],_,_,_,_,h,_=>by simp at h
 | p :: P,w :: vs,0,m,nd,h1,h2,hk=>by
   simp at h1 h2;subst h1;subst h2;show bindC kindOf ((p,w) :: P.zip vs) m p=_
   unfold bindC;rw [Zhd fun v hv=>(List.nodup_cons.mp nd).1 (List.of_mem_zip hv).1,if_neg hk]
   simp
 | p :: P,w :: vs,i+1,m,nd,h1,h2,hk=>by
   show bindC kindOf ((p,w) :: P.zip vs) m x=_
   unfold bindC;exact Zh8 (i:=i) (List.nodup_cons.mp nd).2 (by simpa using h1) (by simpa using h2) hk
def start (N:List Str) (vs:List V):St:=vs.map some++List.replicate (N.length-vs.length) none
def cxOf (CX:CXT) (P:Program) (w:World) (K:PySem.W.Frag) (mg:Str→?D) (base:Heap) (N:List Str) (qual:Str) (scope:Scope) (f:Addr) (cd:Value) (A:Around) (outer:List Env) (s:Shared) (H:Hp) (E:XK):Cx where
 prog:=P
 w:=w
 K:=K
 mg:=mg
 base:=base
 A:=A.deeper (envOfC qual scope s.z f cd)
 N:=N
 s₀:=s
 H₀:=H
 env:=envOfC qual scope s.z f cd
 outer:=outer
 stack:=envOfC qual scope s.z f cd :: outer
 ex:=[]
 calm:=true
 fn:=fun _=>true
 pn:=[]
 xe:=fun e s'=>wpAny (model P w) (A.deeper (envOfC qual scope s.z f cd)) (leaving (envOfC qual scope s.z f cd) e) (fun _ s''=>CX outer H s E e s'') (fun e' s''=>CX outer H s E e' s'') s'
theorem Zy {sc:Scope} (h:sc.names.lookup x=some .cell):∃ c,(cellsFrom n sc.names []).lookup x=some c:=by
 have q:=PySem.W.cellsFrom_some sc.names n [] (.inl h);exact Option.isSome_iff_exists.mp q
theorem Zn9 {CX:CXT} {K:PySem.W.Frag} {mg:Str→?D} {base:Heap} {cd:Value} {outer:List Env} {s1:Shared} {E:XK}
 (S:FnScope N ps scope) (hd:A.handled=none) (e0:Env0 P w K mg base A outer s H) (hl:vs.length=ps.length) (r:Vals vs us)
 (x:InCallC s s.z (bindL (envOfC qual scope s.z f cd).kindOf (ps.zip us) fun _=>none) (cellsFrom (s.z+1) scope.names []) (bindC (envOfC qual scope s.z f cd).kindOf (ps.zip us) fun _=>none) s1) :
 Inv (cxOf CX P w K mg base N qual scope f cd A outer s H E) [] (start N vs) H s1:=by
 have hpl:ps.length≤N.length:=by have:=congrArg List.length S.pre;rw [n43_] at this;omega
 obtain ⟨h1,tk,rfl,hk⟩:=x.done;have noA:∀ b:Addr,b∉(cxOf CX P w K mg base N qual scope f cd A outer s H E).ex:=fun b z=>absurd (show b∈([]:List Addr) from z) ?f
 refine ⟨⟨e0.mod,S.kind,rfl,rfl,n11_ _,fun y z c h1 h2=>?_,fun y hy=>?_,fun y c _ h=>?_,fun _=>hd,Around.frames_deeper e0.frames,.inr ⟨rfl,rfl⟩,fun b z=>absurd z (noA b),e0.bs,e0.bsz,fun b _ _=>noA b,fun b z=>absurd z (noA b),e0.funs,e0.frf⟩,
  rfl,e0.bare,Un.kept hk,⟨_,x.toInCall.ns,fun i y v h1 h2 h3=>?_⟩,fun y c h=>⟨_,x.cell y c h⟩,e0.hok.fresh (n11_ _),fun y c h=>?_,fun p hp=>absurd (show p∈([]:?A) from hp) ?f,e0.hok.kept hk,?_⟩
 · exact name_of_addr x.apart (n40_ h1) (n40_ h2)
 · have hy:scope.names.lookup y=some .cell∨scope.names.lookup y=some .free:=hy
   rcases hy with hy|hy
   · exact Zy hy
   · exact absurd rfl (S.nofree _ (n40_ hy))
 · exact Nat.le_of_lt (x.above y c (n40_ h))
 · have hi:i<vs.length:=by
    unfold start at h2
    by_cases hi:i<vs.length
    · exact hi
    · rw [n87_ (by simpa using hi)] at h2;rw [List.getElem?_replicate] at h2;split at h2<;>cases h2
   have ha:vs[i]? = some v:=by
    unfold start at h2;rw [n91_ (by simpa using hi),n4_] at h2;cases e:vs[i]? with
    | none=>rw [e] at h2;cases h2
    | some a=>rw [e] at h2;cases h2;rfl
   obtain ⟨u,hu,rv⟩:=r.get ha
   have hp:ps[i]? = some y:=by
    rw [← S.pre,List.getElem?_take_of_lt (?d)];exact h1
   have ndP:ps.Nodup:=by rw [← S.pre];exact S.nd.sublist (List.take_sublist _ _)
   refine ⟨u,rv,?_⟩
   rcases S.par y (n6_ hp) with k|k
   · exact .inl ⟨k,Zhp ndP hp hu k⟩
   · obtain ⟨c,e⟩:=Zy (n:=s.z+1) k;refine .inr ⟨.inl k,c,e,?_⟩;have q:=x.cell y c e;rw [Zh8 ndP hp hu (by show scope.names.lookup y≠_;rw [k];decide)] at q;exact q
 · exact .inl (e0.hok.fresh (Nat.le_of_lt (x.above y c (n40_ h))))
 · unfold start;show _=N.length
   rw [n30_,n7_,List.length_replicate];omega
theorem Zu1 {CX:CXT} {K:PySem.W.Frag} {mg:Str→?D} {base:Heap} {name:Str} {params:Arguments} {body:List Stmt} {dV kV doc pm cdv ct oc:Value} {an od:Option Addr}
 {osl:Array (?D)} {sp:Sp} (lk:K.lookup f=some ⟨oc,od,.func (PySem.W.fnOf name qual params body scope dV kV doc pm an cdv ct),osl⟩) (hcd:PySem.W.codeIn K cdv qual=true) (S:FnScope N ps scope)
 (len:∀ vs H Q E,sp vs H Q E→vs.length=ps.length)
 (hbody:∀ (A:Around) (outer:List Env) (s:Shared) (H:Hp) (vs:List V) (Q:VK) (E:XK),Room k (A.deeper (envOfC qual scope s.z f cdv))→sp vs H Q E →
   ∃ t,PSs (cxOf CX P w K mg base N qual scope f cdv A outer s H E) body t∧t { nx:=fun _ H'=>Q .non H',rt:=Q } (start N vs) H) :
 FnOk P w K mg base CX (k+1) f (PySem.W.fnOf name qual params body scope dV kV doc pm an cdv ct) ps sp:=by
 refine ⟨len,fun A outer s H args us vs Q E hr e0 hb r hsp=>?_⟩;have hl:=len _ _ _ _ hsp;have KX:K.In s.heap:=e0.mod.kin.keeps fun b o e=>(e0.bs b o e).1;have lim:s.heap.NoLimit:=e0.mod.nolimit.keeps fun b o e=>(e0.bs b o e).1
 have hkind:∀ y∈ps.zip us,scope.names.lookup y.1=some .local∨(scope.names.lookup y.1=some .cell∧((cellsFrom (s.z+1) scope.names []).lookup y.1).isSome=true):=fun ⟨n,v⟩ hy=>by
  rcases S.par n (List.of_mem_zip hy).1 with q|q
  · exact .inl q
  · exact .inr ⟨q,PySem.W.cellsFrom_some _ _ _ (.inl q)⟩
 refine codeAny_call_function hr.depth (KX _ _ lk) rfl S.co S.gen rfl (PySem.W.codeRec_of KX hcd) (hb _ _ _ _ ?_);refine wpAny_newFunctionEnv_cells S.kind hkind fun env he s1 x=>?_;subst he;refine ⟨lim.keeps x.toInCall.keep,codeAny_func ?_⟩;obtain ⟨t,ht,hq⟩:=hbody A outer s H vs Q E (hr.deeper _) hsp;have I:Inv (cxOf CX P w K mg base N qual scope f cdv A outer s H E) [] (start N vs) H s1:=Zn9 S hr.hd e0 hl r x;refine n55_ (ht [] s1 (start N vs) H _ I hq) (fun fl s' hs=>?_) fun e s' hs=>hs
 have fin:∀ {σ':St} {H':Hp} {v:V} {u:Value},Inv (cxOf CX P w K mg base N qual scope f cdv A outer s H E) [] σ' H' s'→RelV v u→Q v H'→CE outer P w H s Q u s' :=
  fun {σ' H' v u} J rv q=>⟨v,H',J.os,J.bare,J.base,J.hok,rv,q⟩
 cases fl with
 | ret u =>
   obtain ⟨v,σ',H',J,rv,q⟩:=hs;exact fin J rv q
 | next =>
   obtain ⟨σ',H',J,q⟩:=hs;exact fin (v:=V.non) (u:=Value.none) J rfl q
 | brk =>
   obtain ⟨_,_,_,q⟩:=hs;exact False.elim q
 | cont =>
   obtain ⟨_,_,_,q⟩:=hs;exact False.elim q
section
variable {X:Cx} {x:Str} {p pos:Pos} {e:Expr} {es:List Expr} {t:TA} {id T:String} {r:?N}
def tCB (r:?N) (t:TA):TE:=fun σ H Q=>t σ H fun vs H1=>r vs H1 Q
theorem Zl (hc:Xe X (.builtin id) r) (hg:Gl X x) (hm:X.mg x=none) (hv:bootBuiltins x=some (.builtin id)) (ha:PA X (e :: es) t) (hn:x ≠ "__name__" := by decide) (hdb:(x == ("__debug__" : Str))=false:=by decide)
 (he:starEach (e :: es) X.env=(false,eval e X.env) :: starEach es X.env:=by rfl) (hpl:(backTo pos (starEach es X.env)).any (·.1)=false:=by rfl):PE X (.Call (.Name x p) (e :: es) [] pos) (tCB r t):=by
 intro pins s σ H Q I h;refine wpAny_Call_Name_kw (Zbu I hg hm hv ?_ hn hdb);exact PyProof.Rows.callWith_builtin1 (thn (ha pos pins s σ H _ I h) fun us s1 ⟨vs,H1,I1,r1,q1⟩=>hc pins s1 σ H1 vs us Q I1 r1 q1) he hpl
theorem Zz (hc:Xe X (.type T) r) (hg:Gl X x) (hm:X.mg x=none) (hv:bootBuiltins x=some (.type T)) (ha:PA X (e :: es) t) (hn:x ≠ "__name__" := by decide) (hdb:(x == ("__debug__" : Str))=false:=by decide)
 (he:starEach (e :: es) X.env=(false,eval e X.env) :: starEach es X.env:=by rfl) (hpl:(backTo pos (starEach es X.env)).any (·.1)=false:=by rfl):PE X (.Call (.Name x p) (e :: es) [] pos) (tCB r t):=by
 intro pins s σ H Q I h;refine wpAny_Call_Name_kw (Zbu I hg hm hv ?_ hn hdb);exact n58_ (thn (ha pos pins s σ H _ I h) fun us s1 ⟨vs,H1,I1,r1,q1⟩=>hc pins s1 σ H1 vs us Q I1 r1 q1) he hpl
end
end L2
namespace HT
open PySem PyProof.Rows
def lexLt:?g→?g→Bool
 | [],[]=>false
 | [],_ :: _=>true
 | _ :: _,[]=>false
 | x :: xs,y :: ys=>if x=y then lexLt xs ys else decide (x<y)
theorem lexLt_cons (x y:Int) (xs ys:?g):lexLt (x :: xs) (y :: ys)=if x=y then lexLt xs ys else decide (x<y):=rfl
theorem Zfz:lexLt [] []=false:=rfl
theorem Zef (y:Int) (ys:?g):lexLt [] (y :: ys)=true:=rfl
theorem Zeg (x:Int) (xs:?g):lexLt (x :: xs) []=false:=rfl
theorem Zqe (A:Around) (s:Shared) (a:Int) (t:Tok) (c:Int) (u:Tok):∃ e,SeqAt.EqAt A s (.int a t) (.int c u) e∧(e=true↔a=c) :=
 ⟨(a == c),SeqAt.EqAt.int_int a t c u,by simp⟩
theorem Zpx (A:Around) (s:Shared) (a:Int) (t:Tok) (c:Int) (u:Tok) (prog:Program) (w:World) (E:Value→?k) (Q:Value→?k) (h:Q (.bool (decide (a<c))) s) :
 wpAny ?s A (richCompare .Lt (.int a t) (.int c u)) Q E s :=
 (PyProof.Rows.lt_int h:wpAny ?s A (compareOp .Lt (.int a t) (.int c u)) Q E s)
section
open PySem.SeqAt
open PySem.AutoSeq1 (wpAny_loadPart')
open PySem.MeetsSeq PySem.MeetsSeq2 PySem.MeetsSeq3
theorem Zf9 (l b:Addr) (items items2:?H) (n n2:Nat) (dd dd2:Option Addr) (sl sl2:Array (?D)) (ns ms:?g) (hi:IntsAre items.toList ns) (hj:IntsAre items2.toList ms) :
 Meets (Builtin.«tuple.__lt__» ⟨[.ref l,.ref b],[]⟩)
  (fun _ R s=>s.heap.get? l=some { cls:=?G,dict:=dd,data:=.seq items n,slots:=sl }∧?I=some { cls:=?G,dict:=dd2,data:=.seq items2 n2,slots:=sl2 } ∧
    R (.ok (.ret (.bool (lexLt ns ms)))) s) :=
 .of_wp fun prog w A R s h=>by
  obtain ⟨hp,g,d,tk,os⟩:=s;obtain ⟨hl,hb,h⟩:=h;have f2:=AutoSeq1.sub_tuple_tuple;have z1:items.size=ns.length:=by rw [← hi.length];simp
  have z2:items2.size=ms.length:=by rw [← hj.length];simp
  wp_walk using wpAny_loadPart' hl,wpAny_loadPart' hb,wpAny_forIn_list _ (fun rest b s'=>b.1=none∧s'=⟨hp,g,d,tk,os⟩∧∃ (vs ws:?q) (ns' ms':?g),rest=vs.zip ws ∧
   IntsAre vs ns'∧IntsAre ws ms'∧ns'.length+items2.size=ms'.length+items.size∧R (.ok (.ret (.bool (lexLt ns' ms')))) ⟨hp,g,d,tk,os⟩) _
  case turn =>
   rintro ⟨y,x⟩ rest b s' ⟨hb',rfl,vs,ws,ns',ms',hz,hvi,hwi,hlen,hR⟩
   cases hvi with
   | nil=>rw [List.zip_nil_left] at hz;cases hz
   | cons a t hvi' =>
     cases hwi with
     | nil=>rw [List.zip_nil_right] at hz;cases hz
     | cons c u hwi' =>
       rw [List.zip_cons_cons] at hz;injection hz with hyx hrest
       injection hyx with hy hx
       subst hy hx;rw [lexLt_cons] at hR;simp only [n21_] at hlen;obtain ⟨e,he,hiff⟩:=Zqe A.in1 ⟨hp,g,d,tk,os⟩ a t c u;refine n0_ (he prog w _ _ ?_);cases e with
       | true =>
         rw [if_pos (hiff.mp rfl)] at hR
         wp_walk
         exact ⟨rfl,rfl,_,_,_,_,hrest,hvi',hwi',?d,hR⟩
       | false =>
         rw [if_neg (fun q=>absurd (hiff.mpr q) n27_)] at hR;have hri:=Zpx A.in1 ⟨hp,g,d,tk,os⟩ a t c u prog w
         wp_walk using hri
         exact ⟨_,rfl,by simpa using hR⟩
  case fin =>
   rintro ⟨b1,b2⟩ s' ⟨hb',rfl,vs,ws,ns',ms',hz,hvi,hwi,hlen,hR⟩
   simp only at hb';subst hb'
   have hv:lexLt ns' ms'=decide (items.size<items2.size):=by
    cases hvi with
    | nil =>
      cases hwi with
      | nil =>
        simp only [List.length_nil] at hlen;rw [Zfz];exact (n29_ (?d)).symm
      | cons c u hw =>
        simp only [List.length_nil,n21_] at hlen;rw [Zef];exact (n44_ (?d)).symm
    | cons a t hv =>
      cases hwi with
      | nil =>
        simp only [List.length_nil,n21_] at hlen;rw [Zeg];exact (n29_ (?d)).symm
      | cons c u hw =>
        rw [List.zip_cons_cons] at hz;cases hz
   rw [hv] at hR
   wp_walk
   exact ⟨_,rfl,by simpa [Builtin.Tuple.tupleCompareSizes] using hR⟩
  case h =>
   exact ⟨rfl,rfl,items.toList,items2.toList,ns,ms,rfl,hi,hj,?d,h⟩
end
section
variable {prog:Program} {w:World} {A:Around} {E:Value→?k} {s:Shared}
theorem lt_tupInts {l b:Addr} {items items2:?H} {ns ms:?g} {Q:Value→?k} (hl:IsTup s.heap l items) (hb:IsTup s.heap b items2) (hi:IntsAre items.toList ns) (hj:IntsAre items2.toList ms)
 (hu:A.units<cLine) (h:Q (.bool (lexLt ns ms)) s):wpAny ?s A (compareOp .Lt (.ref l) (.ref b)) Q E s:=by
 obtain ⟨⟨cls,dd,data,sl⟩,ho,hc,n,hd⟩:=id hl;obtain ⟨⟨cls2,dd2,data2,sl2⟩,ho2,hc2,n2,hd2⟩:=id hb;simp only at hc hd hc2 hd2;subst hc hd hc2 hd2
 exact richCompare_meets_room (op:=.Lt) ⟨_,ho,rfl⟩ ⟨_,ho2,rfl⟩ PySem.F.slot_tuple_lt PySem.F.entry_tuple_lt (PySem.F.args_tuple_lt_2 _ _) (Zf9 l b items items2 n n2 dd dd2 sl sl2 ns ms hi hj)
  ⟨ho,ho2,show Value.bool (lexLt ns ms)≠Value.notImplemented∧Q (.bool (lexLt ns ms)) s from ⟨(fun x=>nomatch x),h⟩⟩ hu
def sIx (n d:Nat):Option Int→Nat
 | none=>d
 | some v=>if v<0 then (v+(n:Int)).toNat else min v.toNat n
theorem sIx_none (n d:Nat):sIx n d none=d:=rfl
theorem sIx_nat (n d k:Nat):sIx n d (some (k:Int))=min k n:=by
 show (if (k:Int)<0 then ((k:Int)+(n:Int)).toNat else min (k:Int).toNat n)=min k n
 rw [if_neg (?d),n61_]
theorem Zue (n d:Nat) (hd:d≤n) (o:Option Int):sIx n d o≤n:=by
 cases o with
 | none=>exact hd
 | some v =>
   show (if v<0 then (v+(n:Int)).toNat else min v.toNat n)≤n
   by_cases hv:v<0
   · rw [if_pos hv];omega
   · rw [if_neg hv];exact Nat.min_le_right _ _
theorem Zl6 (v:Int) (n d:Nat):(if v<0 then max (v+(n:Int)) 0 else min v (n:Int))=((sIx n d (some v):Nat):Int):=by
 show (if v<0 then max (v+(n:Int)) 0 else min v (n:Int))=(((if v<0 then (v+(n:Int)).toNat else min v.toNat n):Nat):Int)
 by_cases hv:v<0
 · simp only [if_pos hv];omega
 · simp only [if_neg hv];omega
theorem Zk9 (lo hi:Option Int) (n:Nat):Builtin.Slice.sliceAdjust lo hi 1 (n:Int)=(((sIx n 0 lo:Nat):Int),((sIx n n hi:Nat):Int)):=by
 have h1:¬ ((1:Int)<0):=?d
 unfold Builtin.Slice.sliceAdjust;simp only [h1,if_false];refine Prod.ext ?_ ?_
 · cases lo with
   | none=>rfl
   | some v=>exact Zl6 v n 0
 · cases hi with
   | none=>rfl
   | some v=>exact Zl6 v n n
theorem Zlf (i j:Nat):Builtin.Slice.slicePlaces (i:Int) (j:Int) 1=j-i:=by
 unfold Builtin.Slice.slicePlaces;have h1:(1:Int)>0:=?d
 simp only [h1,if_true,Int.ediv_one];split<;>omega
theorem Zfd {v:Value} {o:Option Int} {Q:Option Int→?k} (p:IsPart v o) (h:Q o s):wpAny ?s A (Builtin.Slice.slicePartIndex v) Q E s:=by
 cases p with
 | none=>exact slicePart_none h
 | int i t=>exact slicePart_int h
theorem Zau {sl:Addr} {vl vu:Value} {lo hi:Option Int} {n:Nat} {Q:Int×Int×Nat→?k} (hs:s.heap.IsSliceOf sl vl vu .none) (pl:IsPart vl lo) (pu:IsPart vu hi)
 (h:Q (((sIx n 0 lo:Nat):Int),1,sIx n n hi-sIx n 0 lo) s):wpAny ?s A (Builtin.Slice.sliceApplied (.ref sl) (pure (n:Int))) Q E s:=by
 obtain ⟨os,hos,hcs,hds⟩:=id hs;unfold Builtin.Slice.sliceApplied Builtin.Slice.sliceFields;refine n0_ (n0_ (wpAny_field hos hds (x:=vl) rfl (n0_ (wpAny_field hos hds (x:=vu) rfl (n0_ (wpAny_field hos hds (x:=.none) rfl (n3_ ?_)))))));refine n0_ (slicePart_none ?_);show wpAny _ _ (if ((1:Int) == 0)=true then _ else _) _ _ s
 rw [if_neg ?e];refine n0_ (Zfd pl (n0_ (Zfd pu (n0_ (n3_ ?_)))));show wpAny _ _ (match Builtin.Slice.sliceAdjust lo hi 1 (n:Int) with|(lo,hi)=>pure (lo,(1:Int),Builtin.Slice.slicePlaces lo hi 1)) _ _ s
 rw [Zk9 lo hi n];show wpAny _ _ (pure (((sIx n 0 lo:Nat):Int),(1:Int),Builtin.Slice.slicePlaces ((sIx n 0 lo:Nat):Int) ((sIx n n hi:Nat):Int) 1)) _ _ s
 rw [Zlf];exact n3_ h
theorem Zpp (xs:?H) (i k:Nat):((List.range k).filterMap fun (m:Nat)=>xs[((i:Int)+(m:Int)*1).toNat]?).toArray=((xs.toList.drop i).take k).toArray:=by
 have e:(fun (m:Nat)=>xs[((i:Int)+(m:Int)*1).toNat]?)=fun m=>xs[i+m]?:=by
  funext m
  have:((i:Int)+(m:Int)*1).toNat=i+m:=?d
  rw [this]
 rw [e]
 have:=pick_run xs i k
 rw [List.filterMap_map] at this;have e2:((fun x=>xs[x]?) ∘ fun x=>i+x)=fun m=>xs[i+m]?:=rfl;rw [e2] at this;rw [this]
theorem getItem_tuple_cut {t sl:Addr} {items:?H} {vl vu:Value} {lo hi:Option Int} {Q:Value→?k} (ht:IsTup s.heap t items) (hs:s.heap.IsSliceOf sl vl vu .none) (pl:IsPart vl lo) (pu:IsPart vu hi)
 (hw:¬ (sIx items.size 0 lo=0∧sIx items.size items.size hi=items.size))
 (h:Q (.ref s.z) { s with heap:=s.heap.push { cls:=?G,data:=.seq ((items.toList.drop (sIx items.size 0 lo)).take (sIx items.size items.size hi-sIx items.size 0 lo)).toArray } })
 (hsz:items.size≤sizeLine):wpAny ?s A (getItem (.ref t) (.ref sl)) Q E s:=by
 have htake:sizeOk (.seq ((items.toList.drop (sIx items.size 0 lo)).take (sIx items.size items.size hi-sIx items.size 0 lo)).toArray):=by
  show ((items.toList.drop (sIx items.size 0 lo)).take (sIx items.size items.size hi-sIx items.size 0 lo)).toArray.size≤sizeLine
  rw [n16_,n43_,List.length_drop,Array.length_toList];omega
 have hj:sIx items.size items.size hi≤items.size:=Zue _ _ (n11_ _) hi;obtain ⟨os,hos,hcs,hds⟩:=id hs;have hTs:s.TypeIs (.ref sl) "slice" := ⟨os,hos,hcs⟩;unfold getItem
 try with_reducible refine n34_ ?_
 first|refine n0_ (n3_ ?_)|skip
 refine n0_ (wpAny_sequenceKey ht.typeIs ?e ?_)
 refine n0_ (wpAny_callSpecial?_slot (name:=Str.ofString "__getitem__") ht.typeIs PyProof.Rows.slot_tuple_getitem
  (wpAny_call_entry PyProof.Rows.slot_tuple_getitem ht.typeIs entry_tuple_getitem ?_ (args_tuple_getitem _ _)))
 show wpAny _ _ (Builtin.Tuple.tupleItemsOf (.ref t) >>= _) _ _ s
 refine n0_ (tupleItemsOf_ ht ?_);refine n0_ (wpAny_typeOf hTs ?_);rw [if_pos ?e];refine n0_ (Zau hs pl pu ?_)
 have hno:¬ ((((sIx items.size 0 lo:Nat):Int) == 0&&(1:Int) == 1&&(sIx items.size items.size hi-sIx items.size 0 lo) == items.size)=true):=by
  intro q;rw [n35_,n35_] at q;have q1:((sIx items.size 0 lo:Nat):Int)=0:=eq_of_beq q.1.1;have q2:sIx items.size items.size hi-sIx items.size 0 lo=items.size:=eq_of_beq q.2;exact hw ⟨?d,?d⟩
 show wpAny _ _ (if (((sIx items.size 0 lo:Nat):Int) == 0&&(1:Int) == 1&&(sIx items.size items.size hi-sIx items.size 0 lo) == items.size)=true then _ else _) _ _ s
 rw [if_neg hno,Zpp]
 first
  | exact n0_ (m:=Builtin.Tuple.tupleExact _) (wpAny_newObj_type (n3_ ⟨_,rfl,n3_ h⟩) htake)
  | exact n0_ (m:=Builtin.Tuple.tupleExact _) (wpAny_newObj_type (n0_ (n3_ (n3_ ⟨_,rfl,n3_ h⟩))) htake)
  | exact n0_ (n0_ (m:=Builtin.Tuple.tupleExact _) (wpAny_newObj_type (n3_ (n3_ ⟨_,rfl,n3_ h⟩)) htake))
  | exact n0_ (n0_ (m:=Builtin.Tuple.tupleExact _) (wpAny_newObj_type (n3_ ⟨_,rfl,n3_ h⟩) htake))
end
end HT
namespace L2
open PySem PySem.Spec PyProof.Rows
abbrev TO:=St→Hp→(Option Int→?y)→Prop
def PO (X:Cx) (e:Option Expr) (t:TO):Prop :=
 ∀ (pins:?A) (s:Shared) (σ:St) (H:Hp) (Q:Option Int→?y),?p→t σ H Q →
   wpAny ?z X.A (evalPart e X.env) (fun u s'=>∃ o H',Inv X pins σ H' s'∧IsPart u o∧Q o H') X.xe s
def Zs2:TO:=fun _ H Q=>Q none H
def Zw1 (t:TE):TO:=fun σ H Q=>t σ H fun x H1=>∃ i,x=.int i∧Q (some i) H1
variable {α:Type} {A:Around} {H:Hp} {pins:?A} {ns:?g} {xs:List V} {its us:?q} {j n t':Nat} {s:Shared} {σ:St} {y:V} {u:Value}
theorem X8:∀ {us:?q},Vals (ns.map V.int) us→IntsAre us ns:=by
 induction ns with
 | nil=>intro us r;rw [n64_] at r;cases r;exact .nil
 | cons n ns ih =>
   intro us r;rw [n38_] at r;cases r with
   | cons r1 r2 =>
     obtain ⟨t,e⟩:=r1;subst e;exact .cons n t (ih r2)
section
variable {X:Cx} {e:Expr} {te:TE} {lo hi:Option Expr} {tl th:TO} {pos p2:Pos}
theorem Zdi:PO X none Zs2:=by
 intro pins s σ H Q I h;rw [evalPart_none];exact n3_ ⟨none,H,I,.none,h⟩
theorem Zd8 (h:PE X e te):PO X (some e) (Zw1 te):=by
 intro pins s σ H Q I hw;rw [evalPart_some];refine thn (h pins s σ H _ I hw) fun u s1 ⟨x,H1,I1,r1,q1⟩=>?_;obtain ⟨i,rfl,q⟩:=q1;obtain ⟨t,rfl⟩:=r1;exact ⟨some i,H1,I1,.int i t,q⟩
def SlR (X:Cx) (r:V→Option Int→Option Int→Hp→VK→Prop):Prop :=
 ∀ (pins:?A) (s:Shared) (σ:St) (H:Hp) (x:V) (v vl vu:Value) (lo hi:Option Int) (sl:Addr) (Q:VK),?p→RelV x v→s.heap.IsSliceOf sl vl vu .none→IsPart vl lo→IsPart vu hi→r x lo hi H Q →
   ∃ T id,typeLookup (.type T) "__getitem__" = pure (some (.builtin id))∧s.TypeIs v T∧wpAny ?z X.A (getItem v (.ref sl)) (EP X pins σ Q) X.xe s
def tSl (r:V→Option Int→Option Int→Hp→VK→Prop) (te:TE) (tl th:TO):TE:=fun σ H Q=>te σ H fun x H1=>tl σ H1 fun l H2=>th σ H2 fun u H3=>r x l u H3 Q
theorem Zb0 {r:V→Option Int→Option Int→Hp→VK→Prop} (hr:SlR X r) (he:PE X e te) (hl:PO X lo tl) (hu:PO X hi th):PE X (.Subscript e (.Slice lo hi none p2) pos) (tSl r te tl th):=by
 intro pins s σ H Q I h;refine Subscript_ (thn (he pins s σ H _ I h) fun v s1 ⟨x,H1,I1,r1,q1⟩=>?_);refine wpAny_Slice (thn (hl pins s1 σ H1 _ I1 q1) fun vl s2 ⟨l,H2,I2,pl,q2⟩=>thn (hu pins s2 σ H2 _ I2 q2) fun vu s3 ⟨u,H3,I3,pu,q3⟩=>?_);rw [evalPart_none];refine n3_ ?_;have I4:Inv X pins σ H3 { s3 with heap:=s3.heap.push { cls:=.type "slice",data:=.fields #[vl,vu,.none] } }:=I3.kept (t':=s3.toks) fun b ob q=>n2_ _ q;obtain ⟨T,id,hT,ht,hg⟩:=hr pins { s3 with heap:=s3.heap.push { cls:=.type "slice",data:=.fields #[vl,vu,.none] } } σ H3 x v vl vu l u s3.z Q I4 r1 (Heap.IsSliceOf.new ..) pl pu q3;show wpAny ?z X.A (subscriptTail e (.Slice lo hi none p2) v (.ref s3.z)) (EP X pins σ Q) X.xe { s3 with heap:=s3.heap.push { cls:=.type "slice",data:=.fields #[vl,vu,.none] } }
 exact tail_any (ops:=[.ref s3.z,v]) ht hT hg (by with_unfolding_all rfl)
def cutV (xs:List V) (lo hi:Option Int):List V:=(xs.drop (HT.sIx xs.length 0 lo)).take (HT.sIx xs.length xs.length hi-HT.sIx xs.length 0 lo)
theorem Zdq (xs:List V) (lo hi:Option Int):(cutV xs lo hi).length≤xs.length:=by
 unfold cutV;rw [n43_,List.length_drop];omega
inductive BxRSlT (K:PySem.W.Frag) (x:V) (lo hi:Option Int) (H:Hp) (Q:VK):Prop
 | mk (a:_) (xs:_) (q1:x=.ref a) (q2:SqT K H a xs) (q3:¬ (HT.sIx xs.length 0 lo=0∧HT.sIx xs.length xs.length hi=xs.length)) (q4:∀ p,H p=none→Q (.ref p) (upd H p (.tup (cutV xs lo hi)))):BxRSlT K x lo hi H Q
def rSlT (K:PySem.W.Frag):V→Option Int→Option Int→Hp→VK→Prop:=fun x lo hi H Q=>BxRSlT K x lo hi H Q
theorem Zu5:SlR X (rSlT X.K):=by
 intro pins s σ H x v vl vu lo hi sl Q I rx hs pl pu h;obtain ⟨a,xs,rfl,hx,hw,q⟩:=h;cases rx
 obtain ⟨its,r,ht,hz⟩:=I.tuple hx;have hlen:its.toArray.size=xs.length:=by rw [n16_];exact r.length.symm
 refine ⟨"tuple",_,PyProof.Rows.slot_tuple_getitem.lookup,ht.typeIs,?_⟩;refine HT.getItem_tuple_cut ht hs pl pu (by rw [hlen];exact hw) ?_ (by rw [hlen];exact hz);rw [hlen];refine ⟨.ref s.z,_,I.laid (t':=s.toks) (o:=.tup (cutV xs lo hi)) (fun b ob q=>n2_ _ q) (n11_ _) ?_,rfl,q _ (I.hok.fresh (n11_ _))⟩;exact ⟨n36_ (Zdq xs lo hi) hz,_,(r.drop (HT.sIx xs.length 0 lo)).take (HT.sIx xs.length xs.length hi-HT.sIx xs.length 0 lo),IsTupN.new _ _⟩
inductive BxRLtT (K:PySem.W.Frag) (x y:V) (H:Hp) (Q:VK):Prop
 | mk (a:_) (b:_) (ns:_) (ms:_) (q1:x=.ref a) (q2:y=.ref b) (q3:SqT K H a (ns.map V.int)) (q4:SqT K H b (ms.map V.int)) (q5:Q (.bl (HT.lexLt ns ms)) H):BxRLtT K x y H Q
def rLtT (K:PySem.W.Frag):R2:=fun x y H Q=>BxRLtT K x y H Q
theorem Zuu (hu:X.A.units<cLine):OpR X (compareOp .Lt) (rLtT X.K):=by
 intro pins s σ H x y v u Q I rx ry h;obtain ⟨a,b,ns,ms,rfl,rfl,ha,hb,q⟩:=h;cases rx
 cases ry
 obtain ⟨its,r1,p1,_⟩:=I.tuple ha;obtain ⟨its2,r2,p2,_⟩:=I.tuple hb;have i1:IntsAre its.toArray.toList ns:=X8 r1;have i2:IntsAre its2.toArray.toList ms:=X8 r2;exact HT.lt_tupInts p1 p2 i1 i2 hu ⟨.bl (HT.lexLt ns ms),H,I,rfl,q⟩
theorem Vals.nil_iff (r:Vals xs us):us=[]↔xs=[]:=by
 cases r with
 | nil=>simp
 | cons _ _=>simp
end
def ixN (n:Nat) (i:Int):Option Nat:=if 0≤i then (if i<n then some i.toNat else none) else if -(n:Int)≤i then some (i+n).toNat else none
def atI {α:Type} (xs:List α) (i:Int):Option α:=(ixN xs.length i).bind fun j=>xs[j]?
theorem Zjx {i:Int} (h:ixN n i=some j):seqIndex? i n=some j∧j<n∧-(n:Int)≤i∧i<n:=by
 unfold ixN at h
 by_cases h0:0≤i
 · rw [if_pos h0] at h
   by_cases h1:i<n
   · rw [if_pos h1] at h;have e:i.toNat=j:=Option.some.inj h;exact ⟨by rw [seqIndex_of h0 h1,e],?d,?d,h1⟩
   · rw [if_neg h1] at h;cases h
 · rw [if_neg h0] at h
   by_cases h1:-(n:Int)≤i
   · rw [if_pos h1] at h;have e:(i+n).toNat=j:=Option.some.inj h;exact ⟨by rw [seqIndex_neg (?d) h1,e],?d,h1,?d⟩
   · rw [if_neg h1] at h;cases h
theorem Zow {xs:List α} {i:Int} {v:α} (h:atI xs i=some v):∃ j,seqIndex? i xs.length=some j∧xs[j]? = some v∧j<xs.length∧-(xs.length:Int)≤i∧i<xs.length:=by
 unfold atI at h;cases e:ixN xs.length i with
 | none=>rw [e] at h;cases h
 | some j =>
   rw [e] at h;obtain ⟨h1,h2,h3,h4⟩:=Zjx e;exact ⟨j,h1,h,h2,h3,h4⟩
theorem Xg {xs:List α} {v:α} (h:xs[j]? = some v):atI xs (j:Int)=some v:=by
 have hj:j<xs.length:=(n18_.mp h).1
 have e:ixN xs.length (j:Int)=some j:=by
  unfold ixN;rw [if_pos (?d),if_pos (?d)];simp
 unfold atI;rw [e];exact h
def Zry (b:Expr):Prop:=∀ o i,subscripted b false o i=operate [o,i] (getItem o i)
def IxR (X:Cx) (r:R2):Prop :=
 ∀ (value slice:Expr) (pins:?A) (s:Shared) (σ:St) (H:Hp) (x y:V) (v u:Value) (Q:VK),?p→RelV x v→RelV y u→r x y H Q →
   subscripted slice false v u=operate [v,u] (getItem v u)→wpAny ?z X.A (subscriptTail value slice v u) (EP X pins σ Q) X.xe s
def MtR (X:Cx) (id:String) (r:V→?N):Prop :=
 ∀ (pins:?A) (s:Shared) (σ:St) (H:Hp) (x:V) (xs:List V) (v:Value) (us:?q) (Q:VK),?p→RelV x v→Vals xs us→r x xs H Q →
   wpAny ?z X.A (call (.builtin id) (v :: us)) (EP X pins σ Q) X.xe s
section
variable {X:Cx} {a b:Expr} {ta tb:TE} {pos:Pos}
theorem Zt {r:R2} (hr:IxR X r) (ha:PE X a ta) (hb:PE X b tb) (hs:Zry b):PE X (.Subscript a b pos) (tOp r ta tb):=by
 intro pins s σ H Q I h;exact Subscript_ (binT ha hb I h fun v u s2 x y H2 I2 rx ry q=>hr a b pins s2 σ H2 x y v u Q I2 rx ry q (hs _ _))
inductive BxRIxL (K:PySem.W.Frag) (x y:V) (H:Hp) (Q:VK):Prop
 | mk (p:_) (xs:_) (i:_) (v:_) (q1:x=.ref p) (q2:y=.int i) (q3:SqL K H p xs) (q4:atI xs i=some v) (q5:Q v H):BxRIxL K x y H Q
def rIxL (K:PySem.W.Frag):R2:=fun x y H Q=>BxRIxL K x y H Q
inductive BxRIxT (K:PySem.W.Frag) (x y:V) (H:Hp) (Q:VK):Prop
 | mk (p:_) (xs:_) (i:_) (v:_) (q1:x=.ref p) (q2:y=.int i) (q3:SqT K H p xs) (q4:atI xs i=some v) (q5:Q v H):BxRIxT K x y H Q
def rIxT (K:PySem.W.Frag):R2:=fun x y H Q=>BxRIxT K x y H Q
theorem Yn:IxR X (rIxL X.K):=by
 intro value slice pins s σ H x y v u Q I rx ry h hs;obtain ⟨p,xs,i,z,rfl,rfl,hq,he,q⟩:=h;cases rx
 obtain ⟨t,rfl⟩:=ry;obtain ⟨its,r,pl,hz⟩:=I.list hq;obtain ⟨j,h1,h2,h3,h4,h5⟩:=Zow he;obtain ⟨w,ew,rw'⟩:=r.get h2;have hl:=r.length;have hn:=Zdh;have fin:EP X pins σ Q w s:=⟨z,H,I,rw',q⟩
 by_cases h0:0≤i
 · have hj:i.toNat=j:=by
    rw [seqIndex_of h0 h5] at h1;exact Option.some.inj h1
   exact item_listR pl.isList h0 (?d) (by rw [hj];simpa using ew) fin hs
 · have hj:(i+(its.toArray.size:Int)).toNat=j:=by
    rw [seqIndex_neg (?d) h4] at h1;rw [n16_,← hl];exact Option.some.inj h1
   exact subscriptTail_builtinR (x:=w) pl.isList.typeIs slot_list_getitem.lookup
    (wpAny_getItem_list_neg (Q:=fun r s'=>r=w∧EP X pins σ Q r s') pl.isList (?d) (by rw [n16_]<;>omega) (?d) (by rw [hj];simpa using ew) ⟨rfl,fin⟩) hs
theorem Zq:IxR X (rIxT X.K):=by
 intro value slice pins s σ H x y v u Q I rx ry h hs;obtain ⟨p,xs,i,z,rfl,rfl,hq,he,q⟩:=h;cases rx
 obtain ⟨t,rfl⟩:=ry;obtain ⟨its,r,pl,hz⟩:=I.tuple hq;obtain ⟨j,h1,h2,h3,h4,h5⟩:=Zow he;obtain ⟨w,ew,rw'⟩:=r.get h2;have hl:=r.length;have hn:=Zdh;have fin:EP X pins σ Q w s:=⟨z,H,I,rw',q⟩
 exact subscriptTail_builtinR (x:=w) pl.typeIs slot_tuple_getitem.lookup
  (getItem_tuple (j:=j) (Q:=fun r s'=>r=w∧EP X pins σ Q r s') pl (?d) (?d) (by rw [n16_,← hl];exact h1) (by simpa using ew) ⟨rfl,fin⟩) hs
theorem Zl4 (its:?q) (n j:Nat) (u:Value):Obj.mapSeq (·.setIfInBounds j u) { cls:=.type "list",data:=.seq its.toArray n }={ cls:=.type "list",data:=.seq (its.set j u).toArray n }:=by
 simp [Obj.mapSeq]
theorem Inv.lst {p:Addr} (I:?p) (h:H p=some (.lst xs)) :
 ∃ (its:?q) (n:Nat),Vals xs its∧s.heap.get? p=some { cls:=.type "list",data:=.seq its.toArray n }∧xs.length≤sizeLine:=by
 obtain ⟨z,its,n,r,e⟩:=I.hok p _ h;exact ⟨its,n,r,e,z⟩
theorem Inv.lstUpd {p:Addr} {ys:List V} {its':?q} {n':Nat} {f:Obj→Obj} (I:?p) (h:H p=some (.lst xs))
 (ho:s.heap.get? p=some { cls:=.type "list",data:=.seq its.toArray n }) (hf:f { cls:=.type "list",data:=.seq its.toArray n }={ cls:=.type "list",data:=.seq its'.toArray n' }) (r:Vals ys its') (hz:ys.length≤sizeLine) (t:Nat) :
 Inv X pins σ (upd H p (.lst ys)) { s with heap:=s.heap.update p f,toks:=t }:=by
 have e:(s.heap.update p f).get? p=some { cls:=.type "list",data:=.seq its'.toArray n' }:=by
  rw [n53_ f ho (by rw [hf]<;>rfl),hf]
 refine I.write (x:=p) (e:=p) (by rw [h];trivial) (.inl rfl) (fun b u hb q=>(Heap.get?_update_other _ _ (Ne.symm hb)).trans q) ⟨_,e⟩ ?_;exact ⟨hz,its',n',r,e⟩
inductive BxRSetL (o i v:V) (H:Hp) (Q:?y):Prop
 | mk (p:_) (xs:_) (k:_) (j:_) (q1:o=.ref p) (q2:i=.int k) (q3:H p=some (.lst xs)) (q4:ixN xs.length k=some j) (q5:Q (upd H p (.lst (xs.set j v)))):BxRSetL o i v H Q
def Zws:V→V→V→Hp→(?y)→Prop:=fun o i v H Q=>BxRSetL o i v H Q
theorem Xw:PSet X Zws:=by
 intro pins s σ H o i v ov iv u Q I ro ri rv h;obtain ⟨p,xs,k,j,rfl,rfl,hp,hj,q⟩:=h;cases ro
 obtain ⟨t,rfl⟩:=ri;obtain ⟨its,n,r,ho,hz⟩:=I.lst hp;obtain ⟨h1,h2,h3,h4⟩:=Zjx hj;have hl:=r.length;have hn:=Zdh
 have I':Inv X pins σ (upd H p (.lst (xs.set j v))) { s with heap:=s.heap.update p (Obj.mapSeq (·.setIfInBounds j u)) } :=
  I.lstUpd hp ho (Zl4 its n j u) (r.set rv j) (by rw [List.length_set];exact hz) s.toks
 by_cases h0:0≤k
 · have hk:k.toNat=j:=by
    rw [seqIndex_of h0 h4] at h1;exact Option.some.inj h1
   exact PySem.W.ki_setAt ho h0 (?d) (by rw [n16_,← hl];exact h4) (by rw [hk];exact ⟨_,I',q⟩)
 · have hk:(k+(its.toArray.size:Int)).toNat=j:=by
    rw [seqIndex_neg (?d) h3] at h1;rw [n16_,← hl];exact Option.some.inj h1
   exact PySem.W.ki_setBack ho (?d) (by rw [n16_,← hl];exact h3) (?d) (by rw [hk];exact ⟨_,I',q⟩)
theorem Zih (lo hi:Option Int) (n:Nat):(sliceBounds lo hi none n).1=((HT.sIx n 0 lo:Nat):Int)∧(sliceBounds lo hi none n).2.1=((HT.sIx n n hi:Nat):Int)∧(sliceBounds lo hi none n).2.2=1:=by
 refine ⟨?_,?_,rfl⟩
 · cases lo with
   | none=>simp [sliceBounds,HT.sIx]
   | some i =>
     simp only [sliceBounds,HT.sIx,Option.getD_none,show (1:Int)>0 by decide,if_true]
     by_cases h:i<0
     · simp only [h,if_true]<;>omega
     · simp only [h,if_false]<;>omega
 · cases hi with
   | none=>simp [sliceBounds,HT.sIx]
   | some i =>
     simp only [sliceBounds,HT.sIx,Option.getD_none,show (1:Int)>0 by decide,if_true]
     by_cases h:i<0
     · simp only [h,if_true]<;>omega
     · simp only [h,if_false]<;>omega
theorem Zgv (its:?q) (lo hi:Option Int):slicePick its.toArray lo hi none=((its.drop (HT.sIx its.length 0 lo)).take (HT.sIx its.length its.length hi-HT.sIx its.length 0 lo)).toArray:=by
 obtain ⟨h1,h2,h3⟩:=Zih lo hi its.toArray.size;unfold slicePick;rw [h1,h2,h3];simp only [sliceRange_one,pick_run,n16_]<;>rfl
inductive BxRSlL (K:PySem.W.Frag) (x:V) (lq hq:Option Int) (H:Hp) (Q:VK):Prop
 | mk (a:_) (xs:_) (q1:x=.ref a) (q2:SqL K H a xs) (q3:∀ p,H p=none→Q (.ref p) (upd H p (.lst (cutV xs lq hq)))):BxRSlL K x lq hq H Q
def rSlL (K:PySem.W.Frag):V→Option Int→Option Int→Hp→VK→Prop:=fun x lq hq H Q=>BxRSlL K x lq hq H Q
theorem Zi8:SlR X (rSlL X.K):=by
 intro pins s σ H x v vl vu lo hi sl Q I rx hs pl pu h;obtain ⟨a,xs,rfl,hx,q⟩:=h;cases rx
 obtain ⟨its,r,ht,hz⟩:=I.list hx;have hlen:=r.length;refine ⟨"list",_,slot_list_getitem.lookup,ht.isList.typeIs,?_⟩;refine wpAny_getItem_list_slice ht.isList hs pl pu .none ?f ?_ (by rw [n16_]<;>omega);rw [Zgv,← hlen];refine ⟨.ref s.z,_,I.laid (t':=s.toks) (o:=.lst (cutV xs lo hi)) (fun b ob q=>n2_ _ q) (n11_ _) ?_,rfl,q _ (I.hok.fresh (n11_ _))⟩;exact ⟨n36_ (Zdq xs lo hi) hz,_,0,(r.drop (HT.sIx xs.length 0 lo)).take (HT.sIx xs.length xs.length hi-HT.sIx xs.length 0 lo),n8_ _ rfl⟩
def Zg6:V→Bool
 | .non=>true
 | .bl _=>true
 | .int _=>true
 | .str _=>true
 | _=>false
def eqV:V→V→Bool
 | .non,.non=>true
 | .bl a,.bl b=>a == b
 | .bl a,.int b=>(if a then 1 else 0) == b
 | .int a,.bl b=>a == (if b then 1 else 0)
 | .int a,.int b=>a == b
 | .str a,.str b=>a == b
 | _,_=>false
theorem Zv3 {x:V} {v:Value} (ry:RelV y u) (rx:RelV x v) (fy:Zg6 y=true) (fx:Zg6 x=true):SeqAt.EqAt A s u v (eqV y x):=by
 cases y with
 | non =>
   cases ry
   cases x with
   | non=>cases rx;exact SeqAt.EqAt.same _
   | bl b=>cases rx;exact SeqAt.EqAt.none_bool b
   | int b=>obtain ⟨t,rfl⟩:=rx;exact SeqAt.EqAt.none_int b t
   | str b=>obtain ⟨t,rfl⟩:=rx;exact SeqAt.EqAt.none_str b t
   | _=>exact absurd (show false=true from fx) n27_
 | bl a =>
   cases ry
   cases x with
   | non=>cases rx;exact SeqAt.EqAt.bool_none a
   | bl b=>cases rx;exact SeqAt.EqAt.bool_bool a b
   | int b=>obtain ⟨t,rfl⟩:=rx;exact SeqAt.EqAt.bool_int a b t
   | str b=>obtain ⟨t,rfl⟩:=rx;exact SeqAt.EqAt.bool_str a b t
   | _=>exact absurd (show false=true from fx) n27_
 | int a =>
   obtain ⟨t',rfl⟩:=ry;cases x with
   | non=>cases rx;exact SeqAt.EqAt.int_none a t'
   | bl b=>cases rx;exact SeqAt.EqAt.int_bool a t' b
   | int b=>obtain ⟨t,rfl⟩:=rx;exact SeqAt.EqAt.int_int a t' b t
   | str b=>obtain ⟨t,rfl⟩:=rx;exact SeqAt.EqAt.int_str a t' b t
   | _=>exact absurd (show false=true from fx) n27_
 | str a =>
   obtain ⟨t',rfl⟩:=ry;cases x with
   | non=>cases rx;exact SeqAt.EqAt.str_none a t'
   | bl b=>cases rx;exact SeqAt.EqAt.str_bool a t' b
   | int b=>obtain ⟨t,rfl⟩:=rx;exact SeqAt.EqAt.str_int a t' b t
   | str b=>obtain ⟨t,rfl⟩:=rx;exact SeqAt.EqAt.str_str a t' b t
   | _=>exact absurd (show false=true from fx) n27_
 | _=>exact absurd (show false=true from fy) n27_
def eqU (x:V) (u:Value):Bool:=match u with
 | .none=>eqV .non x
 | .bool b=>eqV (.bl b) x
 | .int i _=>eqV (.int i) x
 | .str z _=>eqV (.str z) x
 | _=>false
theorem Zq5 {x:V} (r:RelV y u) (f:Zg6 y=true):eqU x u=eqV y x:=by
 cases y with
 | non=>cases r;rfl
 | bl b=>cases r;rfl
 | int i=>obtain ⟨t,rfl⟩:=r;rfl
 | str z=>obtain ⟨t,rfl⟩:=r;rfl
 | _=>exact absurd (show false=true from f) n27_
theorem Zd5 {x:V}:∀ {xs:List V} {us:?q},Vals xs us→xs.all Zg6=true→us.any (eqU x)=xs.any fun y=>eqV y x
 | _,_,.nil,_=>rfl
 | y :: xs,u :: us,.cons r t,f=>by
   rw [List.all_cons,n35_] at f;rw [List.any_cons,List.any_cons,Zq5 r f.1,Zd5 t f.2]
theorem Zbw {x:V} {v:Value} (rx:RelV x v) (fx:Zg6 x=true):∀ {xs:List V} {us:?q},Vals xs us→xs.all Zg6=true→∀ u∈us,SeqAt.EqAt A s u v (eqU x u)
 | _,_,.nil,_=>fun u hu=>by cases hu
 | y :: xs,u :: us,.cons r t,f=>fun u' hu=>by
   rw [List.all_cons,n35_] at f
   rcases n13_.mp hu with rfl|hu
   · rw [Zq5 r f.1];exact Zv3 r rx f.1 fx
   · exact Zbw rx fx t f.2 u' hu
def inV (x:V) (xs:List V):Bool:=xs.any fun y=>eqV y x
inductive BxRIn (K:PySem.W.Frag) (neg:Bool) (x y:V) (H:Hp) (Q:VK):Prop
 | mk (p:_) (xs:_) (q1:y=.ref p) (q2:(SqL K H p xs∨SqT K H p xs)) (q3:Zg6 x=true) (q4:xs.all Zg6=true) (q5:Q (.bl (if neg then !inV x xs else inV x xs)) H):BxRIn K neg x y H Q
def rIn (K:PySem.W.Frag) (neg:Bool):R2:=fun x y H Q=>BxRIn K neg x y H Q
theorem Zno:OpR X (compareOp .In) (rIn X.K false):=by
 intro pins s σ H x y v u Q I rx ry h;obtain ⟨p,xs,rfl,hq,fx,fs,q⟩:=h;cases ry
 rcases hq with hq|hq
 · obtain ⟨its,r,pl,hz⟩:=I.list hq;refine SeqAt.in_listAt (eqU x) pl.isList (fun w hw=>Zbw rx fx r fs w (by simpa using hw)) ⟨.bl _,H,I,rfl,?_⟩;rw [show its.toArray.any (eqU x)=its.any (eqU x) by simp,Zd5 r fs];exact q
 · obtain ⟨its,r,pl,hz⟩:=I.tuple hq;refine SeqAt.in_tupleAt (eqU x) pl (fun w hw=>Zbw rx fx r fs w (by simpa using hw)) ⟨.bl _,H,I,rfl,?_⟩;rw [show its.toArray.any (eqU x)=its.any (eqU x) by simp,Zd5 r fs];exact q
theorem Zcx:OpR X (compareOp .NotIn) (rIn X.K true):=by
 intro pins s σ H x y v u Q I rx ry h;obtain ⟨p,xs,rfl,hq,fx,fs,q⟩:=h;cases ry
 rcases hq with hq|hq
 · obtain ⟨its,r,pl,hz⟩:=I.list hq;refine SeqAt.notIn_listAt (eqU x) pl.isList (fun w hw=>Zbw rx fx r fs w (by simpa using hw)) ⟨.bl _,H,I,rfl,?_⟩;rw [show its.toArray.any (eqU x)=its.any (eqU x) by simp,Zd5 r fs];exact q
 · obtain ⟨its,r,pl,hz⟩:=I.tuple hq;refine SeqAt.notIn_tupleAt (eqU x) pl (fun w hw=>Zbw rx fx r fs w (by simpa using hw)) ⟨.bl _,H,I,rfl,?_⟩;rw [show its.toArray.any (eqU x)=its.any (eqU x) by simp,Zd5 r fs];exact q
inductive BxRc_len_seq (K:PySem.W.Frag) (xs:List V) (H:Hp) (Q:VK):Prop
 | mk (p:_) (ys:_) (q1:xs=[.ref p]) (q2:(SqL K H p ys∨SqT K H p ys)) (q3:Q (.int ys.length) H):BxRc_len_seq K xs H Q
def Zff (K:PySem.W.Frag):?N:=fun xs H Q=>BxRc_len_seq K xs H Q
theorem Zr:Xe X (.builtin "len") (Zff X.K):=by
 intro pins s σ H xs us Q I r h;obtain ⟨p,ys,rfl,hq,q⟩:=h;obtain ⟨u,rfl,rx⟩:=Zpt r;cases rx
 have hn:=Zdh
 rcases hq with hq|hq
 · obtain ⟨its,r',pl,hz⟩:=I.list hq;have hlen:=r'.length;exact Calls.call_len_list pl.isList (by simp only [n16_]<;>omega) ⟨.int ys.length,H,I.tok _,⟨s.toks+1,by rw [n16_,hlen]⟩,q⟩
 · obtain ⟨its,r',pl,hz⟩:=I.tuple hq;have hlen:=r'.length;exact len_tuple pl (by simp only [n16_]<;>omega) ⟨.int ys.length,H,I.tok _,⟨s.toks+1,by rw [n16_,hlen]⟩,q⟩
theorem Zhe:Xe X (.type "list") (fun xs H Q=>∃ p ys,xs=[.ref p]∧(SqL X.K H p ys∨SqT X.K H p ys)∧∀ l,H l=none→Q (.ref l) (upd H l (.lst ys))):=by
 intro pins s σ H xs us Q I r h;obtain ⟨p,ys,rfl,hq,q⟩:=h;obtain ⟨u,rfl,rx⟩:=Zpt r;cases rx
 have fin:∀ (its:?q),Vals ys its→ys.length≤sizeLine→∀ (h':Heap) (c':Nat),(∀ b o',?I=some o'→h'.get? b=some o') →
  h'.get? s.z=some { cls:=.type "list",dict:=none,data:=.seq its.toArray c',slots:=#[] }→EP X pins σ Q (.ref s.z) { s with heap:=h' }:=fun its r' hz h' c' kp e =>
  ⟨.ref s.z,_,I.laid (t':=s.toks) kp (n11_ _) (show ObjOk X.prog X.w _ h' _ (.lst ys) from ⟨hz,its,c',r',e⟩),rfl,q _ (I.hok.fresh (n11_ _))⟩
 rcases hq with hq|hq
 · obtain ⟨its,r',pl,hz⟩:=I.list hq;have hlen:=r'.length;obtain ⟨o,ho,hc,n,hd⟩:=pl.isList;exact call_list_seq p (.inl rfl) ho hc hd (fun h' c' kp e=>fin its r' hz h' c' kp e) (by simp only [n16_]<;>omega)
 · obtain ⟨its,r',pl,hz⟩:=I.tuple hq;have hlen:=r'.length;obtain ⟨o,ho,hc,n,hd⟩:=pl;exact call_list_seq p (.inr rfl) ho hc hd (fun h' c' kp e=>fin its r' hz h' c' kp e) (by simp only [n16_]<;>omega)
inductive BxRc_tuple_of (K:PySem.W.Frag) (xs:List V) (H:Hp) (Q:VK):Prop
 | mk (p:_) (ys:_) (q1:xs=[.ref p]) (q2:((SqL K H p ys∧∀ l,H l=none→Q (.ref l) (upd H l (.tup ys)))∨(SqT K H p ys∧Q (.ref p) H))):BxRc_tuple_of K xs H Q
def Zdf (K:PySem.W.Frag):?N:=fun xs H Q=>BxRc_tuple_of K xs H Q
theorem Zw:Xe X (?G) (Zdf X.K):=by
 intro pins s σ H xs us Q I r h;obtain ⟨p,ys,rfl,h⟩:=h;obtain ⟨u,rfl,rx⟩:=Zpt r;cases rx
 rcases h with ⟨hq,q⟩|⟨hq,q⟩
 · obtain ⟨its,r',pl,hz⟩:=I.list hq;have hlen:=r'.length;refine call_tuple_list pl.isList (fun h' kp=>?_) (by simp only [n16_]<;>omega);have I1:Inv X pins σ H { s with heap:=h' }:=I.kept (t':=s.toks) kp
   have I2:Inv X pins σ (upd H h'.objs.size (.tup ys)) { s with heap:=h'.push { cls:=?G,data:=.seq its.toArray } } :=
    I1.laid (t':=s.toks) (fun b o e=>n2_ _ e) (n11_ _) (show ObjOk X.prog X.w _ _ _ (.tup ys) from ⟨hz,its,r',IsTupN.new _ _⟩)
   exact ⟨.ref h'.objs.size,_,I2,rfl,q _ (I1.hok.fresh (n11_ _))⟩
 · obtain ⟨its,r',pl,hz⟩:=I.tuple hq;exact call_tuple_same pl ⟨.ref p,H,I,rfl,q⟩
def tyV (K:PySem.W.Frag) (T:String) (x:V) (H:Hp):Prop:=match x with
 | .str _=>T = "str"
 | .int _=>T = "int"
 | .ref p=>(T = "list" ∧ ∃ xs,SqL K H p xs)∨(T = "tuple" ∧ ((∃ o,K.lookup p=some o∧o.cls=?G ∧ o.dict=none)∨∃ xs,H p=some (.tup xs))) ∨
    (T = "dict" ∧ ((∃ kvs,H p=some (.dK kvs))∨∃ kvs,H p=some (.dT kvs)))∨(T = "set" ∧ ∃ S n,H p=some (.set S n))
 | _=>False
theorem Zrx {T:String} {x:V} {v:Value} (I:?p) (r:RelV x v) (ty:tyV X.K T x H) :
 s.TypeIs v T∧∀ a,v=.ref a→∃ ob,s.heap.get? a=some ob∧ob.dict=none:=by
 cases x with
 | str z =>
   obtain ⟨t,rfl⟩:=r;cases (show T = "str" from ty)
   exact ⟨typeIs_str s z t,fun _ e=>nomatch e⟩
 | int i =>
   obtain ⟨t,rfl⟩:=r;cases (show T = "int" from ty)
   exact ⟨typeIs_int s i t,fun _ e=>nomatch e⟩
 | ref p =>
   cases r
   rcases ty with ⟨rfl,xs,hq⟩|⟨rfl,⟨o,hk,hc,hd⟩|⟨xs,hq⟩⟩|⟨rfl,hk⟩|⟨rfl,S,n,hk⟩
   · obtain ⟨its,_,pl,_⟩:=I.list hq;refine ⟨pl.isList.typeIs,fun a e=>?_⟩;cases e
     obtain ⟨o,n,e,c,hd,_⟩:=pl;exact ⟨o,e,hd⟩
   · refine ⟨⟨o,I.kIn p o hk,hc⟩,fun a e=>?_⟩;cases e
     exact ⟨o,I.kIn _ o hk,hd⟩
   · obtain ⟨_,its,_,o,e1,⟨e2,e3⟩,_⟩:=(show ObjOk X.prog X.w H s.heap p (.tup xs) from I.hok p _ hq);refine ⟨⟨o,e1,e2⟩,fun a e=>?_⟩;cases e
     exact ⟨o,e1,e3⟩
   · have z:∃ o,s.heap.get? p=some o∧o.ExactDict:=by
      rcases hk with ⟨kvs,hk⟩|⟨kvs,hk⟩
      · obtain ⟨_,_,_,_,o,_,_,e,ex,_⟩:=I.hok p _ hk;exact ⟨o,e,ex⟩
      · obtain ⟨_,_,_,_,o,_,_,e,ex,_⟩:=I.hok p _ hk;exact ⟨o,e,ex⟩
     obtain ⟨o,e,ex⟩:=z;refine ⟨⟨o,e,ex.1⟩,fun a e2=>?_⟩;cases e2
     exact ⟨o,e,ex.2.1⟩
   · obtain ⟨o,_,_,_,e,ex,_⟩:=I.hok p _ hk;refine ⟨⟨o,e,ex.1⟩,fun a e2=>?_⟩;cases e2
     exact ⟨o,e,ex.2.1⟩
 | _=>exact False.elim ty
inductive BxTBM0 (K:PySem.W.Frag) (T:String) (r:V→?N) (x:V) (H1:Hp) (Q:VK):Prop
 | mk  (q1:tyV K T x H1) (q2:r x [] H1 Q):BxTBM0 K T r x H1 Q
def tBM0 (K:PySem.W.Frag) (T:String) (r:V→?N) (to:TE):TE:=fun σ H Q=>to σ H fun x H1=>BxTBM0 K T r x H1 Q
inductive BxTBM (K:PySem.W.Frag) (T:String) (r:V→?N) (t:TA) (σ:St) (x:V) (H1:Hp) (Q:VK):Prop
 | mk  (q1:tyV K T x H1) (q2:t σ H1 fun xs H2=>r x xs H2 Q):BxTBM K T r t σ x H1 Q
def tBM (K:PySem.W.Frag) (T:String) (r:V→?N) (to:TE) (t:TA):TE:=fun σ H Q=>to σ H fun x H1=>BxTBM K T r t σ x H1 Q
variable {o e:Expr} {es:List Expr} {to:TE} {t:TA} {name:Str} {apos cpos:Pos} {T id:String} {r:V→?N}
theorem Zq9 (pa:PlainAttrs T) (slot:Slot T name id) (hty:typeOf (.builtin id)=pure (.type "method_descriptor")) (hm:MtR X id r) (ho:PE X o to)
 (hbase:attributeBase o name X.env (eval o X.env)=eval o X.env:=by rfl) (hline:(apos.endLine == cpos.line)=true:=by rfl):PE X (.Call (.Attribute o name apos) [] [] cpos) (tBM0 X.K T r to):=by
 intro pins s σ H Q I h;refine wpAny_Call_method0_late hbase hline (thn (ho pins s σ H _ I h) fun v s1 ⟨x,H1,I1,r1,ty,q1⟩=>?_);obtain ⟨h1,h2⟩:=Zrx I1 r1 ty;exact ⟨T,id,pa,slot,hty,h1,h2,Calls.callWith_builtin rfl (PySem.evalArgs_none (hm pins s1 σ H1 x [] v [] Q I1 r1 .nil q1))⟩
theorem Zen (pa:PlainAttrs T) (slot:Slot T name id) (hty:typeOf (.builtin id)=pure (.type "method_descriptor")) (hm:MtR X id r) (ho:PE X o to) (ha:PA X (e :: es) t)
 (hbase:attributeBase o name X.env (eval o X.env)=eval o X.env:=by rfl)
 (hfew:((backTo cpos (starEach (e :: es) X.env)).all (fun x=>!x.1)&&(backToKw cpos (keywordEach [] X.env)).all (fun x=>x.1.isSome)
   && decide ((e :: es).length+([]:List Keyword).length+(if ([]:List Keyword).isEmpty then 0 else 1)<30))=true:=by rfl)
 (hline:(apos.endLine == cpos.line)=true:=by rfl) (hs:starEach (e :: es) X.env=(false,eval e X.env) :: starEach es X.env:=by rfl) (hplain:(backTo cpos (starEach es X.env)).any (·.1)=false:=by rfl) :
 PE X (.Call (.Attribute o name apos) (e :: es) [] cpos) (tBM X.K T r to t):=by
 intro pins s σ H Q I h;refine wpAny_Call_method_late hbase hfew hline rfl (thn (ho pins s σ H _ I h) fun v s1 ⟨x,H1,I1,r1,ty,q1⟩=>?_);obtain ⟨h1,h2⟩:=Zrx I1 r1 ty;refine ⟨T,id,pa,slot,hty,h1,h2,?_⟩;have hA:=ha cpos pins s1 σ H1 _ I1 q1;rw [hs] at hA ⊢;refine Calls.callWith_builtin (by show (false||(backTo cpos (starEach es X.env)).any (·.1))=false;rw [hplain]<;>rfl) (Calls.evalArgs_plain ?_);exact thn hA fun us s2 ⟨vs,H2,I2,r2,q2⟩=>hm pins s2 σ H2 x vs v us Q I2 r1 r2 q2
/- xs.append(e),list.index on a module's tuple .. are MtR facts of 06m -/
end
def MtM (X:Cx) (id:String) (r:V→?N):Prop :=
 ∀ (pins:?A) (s:Shared) (σ:St) (H:Hp) (x:V) (xs:List V) (v:Value) (us:?q) (Q:VK),?p→RelV x v→Vals xs us→r x xs H Q →
   wpAny ?z X.A (call (.builtin id) (v :: us)) (EP X pins σ Q) X.xe s
theorem Vals.one {x:V} (h:Vals [x] us):∃ u,us=[u]∧RelV x u:=by
 cases h with
 | cons r h=>cases h;exact ⟨_,rfl,r⟩
theorem Vals.eraseIdx:∀ {xs:List V} {us:?q} (i:Nat),Vals xs us→Vals (xs.eraseIdx i) (us.eraseIdx i)
 | _,_,_,.nil=>.nil
 | _,_,0,.cons _ t=>t
 | _,_,i+1,.cons r t=>.cons r (Vals.eraseIdx i t)
theorem Vals.rep (h:Vals xs us):∀ k:Nat,Vals (List.replicate k xs).flatten (List.replicate k us).flatten
 | 0=>.nil
 | k+1=>by
   rw [n76_,n76_,List.flatten_cons,List.flatten_cons];exact Vals.append h (Vals.rep h k)
theorem Zig:∀ (l:List α) (i:Nat),(l.eraseIdx i).length≤l.length
 | [],_=>n11_ _
 | _ :: _,0=>Nat.le_succ _
 | _ :: r,i+1=>Nat.succ_le_succ (Zig r i)
theorem Zby (its:?q):∀ (k:Nat) (acc:?q),
 List.foldl (fun x1 x2=>x1++x2) acc.toArray (List.replicate k its.toArray)=(acc++(List.replicate k its).flatten).toArray
 | 0,acc=>by simp
 | k+1,acc=>by
   have e:acc.toArray++its.toArray=(acc++its).toArray:=by simp
   have e2:(acc++its)++(List.replicate k its).flatten=acc++(List.replicate (k+1) its).flatten:=by
    rw [n76_,List.flatten_cons,n78_]
   rw [← e2,← Zby its k (acc++its),← e,n76_,n80_]
section
variable {X:Cx} {pins:?A} {σ:St} {H:Hp} {s:Shared} {l b:Addr} {xs ys zs:List V}
theorem Inv.lset {its':?q} {f:?H→?H} (I:?p) (hH:H l=some (.lst xs))
 (e:s.heap.get? l=some { cls:=.type "list",data:=.seq its.toArray n }) (hf:f its.toArray=its'.toArray) (hv:Vals ys its') (hz:ys.length≤sizeLine) :
 Inv X pins σ (upd H l (.lst ys)) { s with heap:=s.heap.update l (Obj.mapSeq f),toks:=t' }:=by
 have q:=PySem.IsL.update e f;rw [hf] at q;refine I.write (x:=l) (e:=l) (by rw [hH];exact trivial) (.inl rfl) (fun b' u hb hu=>(Heap.get?_update_other s.heap (Obj.mapSeq f) (Ne.symm hb)).trans hu) ⟨_,q⟩ ?_;exact ⟨hz,its',_,hv,q⟩
theorem Inv.lnew (I:?p) (hv:Vals ys its) (hz:ys.length≤sizeLine) :
 Inv X pins σ (upd H s.z (.lst ys)) { s with heap:=s.heap.push { cls:=.type "list",data:=.seq its.toArray },toks:=t' } :=
 I.laid (fun _ _ q=>n2_ _ q) (n11_ _) ⟨hz,its,0,hv,n8_ _ rfl⟩
theorem Inv.fresh (I:?p):H s.z=none:=I.hok.fresh (n11_ _)
theorem Inv.lstM (I:?p) (hH:H l=some (.lst xs)):xs.length≤sizeLine∧∃ (its:?q) (n:Nat),Vals xs its∧xs.length=its.length∧s.heap.get? l=some { cls:=.type "list",data:=.seq its.toArray n }:=by
 obtain ⟨z,its,n,r,e⟩:=I.hok l _ hH;exact ⟨z,its,n,r,r.length,e⟩
theorem Zo4 (h:n≤sizeLine):Builtin.List.listTooLong n=false:=by
 unfold Builtin.List.listTooLong;exact n29_ (?d)
end
section
variable {X:Cx}
inductive BxRAppend (x:V) (vs:List V) (H:Hp) (Q:VK):Prop
 | mk (l:_) (xs:_) (y:_) (q1:x=.ref l) (q2:vs=[y]) (q3:H l=some (.lst xs)) (q4:xs.length<sizeLine) (q5:Q .non (upd H l (.lst (xs++[y])))):BxRAppend x vs H Q
def Zth:V→?N:=fun x vs H Q=>BxRAppend x vs H Q
theorem Xa:MtM X "list.append" Zth:=by
 intro pins s σ H x vs v us Q I rx rv h;obtain ⟨l,xs,y,rfl,rfl,hH,hz,q⟩:=h;cases rx
 obtain ⟨u,rfl,ru⟩:=rv.one;obtain ⟨z,its,n,r,hl,e⟩:=I.lstM hH;refine call_meets F.slot_list_append ⟨_,e,rfl⟩ F.entry_list_append (F.args_list_append_2 _ _) (PySem.list_append l its.toArray n u (by rw [n16_];omega)) ⟨e,?_⟩;refine ⟨.non,_,I.lset (its':=its++[u]) hH e ?f (r.append (.cons ru .nil)) ?_,rfl,q⟩;rw [n30_,List.length_singleton];omega
inductive BxRPopAt (x:V) (vs:List V) (H:Hp) (Q:VK):Prop
 | mk (l:_) (xs:_) (i:_) (k:_) (y:_) (q1:x=.ref l) (q2:vs=[.int i]) (q3:H l=some (.lst xs)) (q4:-(2^63)≤i) (q5:i<2^63) (q6:seqIndex? i xs.length=some k) (q7:xs[k]? = some y) (q8:Q y (upd H l (.lst (xs.eraseIdx k)))):BxRPopAt x vs H Q
def Zv0:V→?N:=fun x vs H Q=>BxRPopAt x vs H Q
theorem Zpj:MtM X "list.pop" Zv0:=by
 intro pins s σ H x vs v us Q I rx rv h;obtain ⟨l,xs,i,k,y,rfl,rfl,hH,h1,h2,hk,hy,q⟩:=h;cases rx
 obtain ⟨u,rfl,ru⟩:=rv.one;obtain ⟨t,rfl⟩:=ru;obtain ⟨z,its,n,r,hl,e⟩:=I.lstM hH;obtain ⟨w,hw,rw'⟩:=r.get hy
 refine call_meets F.slot_list_pop ⟨_,e,rfl⟩ F.entry_list_pop (F.args_list_pop_2 _ _)
  (MeetsSeq.list_pop_at l its.toArray n i t k w (fitsIndex_both h1 h2) (by rw [n16_,← hl];exact hk) (by rw [← Array.getElem?_toList];exact hw) (by rw [n16_];omega)) ⟨e,?_⟩
 refine ⟨y,_,I.lset (its':=its.eraseIdx k) hH e ?_ (r.eraseIdx k) ?_,rw',q⟩
 · show its.toArray.eraseIdxIfInBounds k=(its.eraseIdx k).toArray
   rw [List.eraseIdxIfInBounds_toArray]
 · have:=Zig xs k
   omega
inductive BxRCat (x y:V) (H:Hp) (Q:VK):Prop
 | mk (l:_) (b:_) (xs:_) (zs:_) (q1:x=.ref l) (q2:y=.ref b) (q3:H l=some (.lst xs)) (q4:H b=some (.lst zs)) (q5:xs.length+zs.length≤sizeLine) (q6:∀ p,H p=none→Q (.ref p) (upd H p (.lst (xs++zs)))):BxRCat x y H Q
def rCat:R2:=fun x y H Q=>BxRCat x y H Q
theorem Zht:OpR X (binaryOp .Add) rCat:=by
 intro pins s σ H x y v u Q I rx ry h;obtain ⟨l,b,xs,zs,rfl,rfl,hH,hB,hz,q⟩:=h;cases rx
 cases ry
 obtain ⟨z,its,n,r,hl,e⟩:=I.lstM hH;obtain ⟨z2,its2,n2,r2,hl2,e2⟩:=I.lstM hB;refine PySem.P.add_list e e2 ?_ (by rw [n16_,n16_];omega);have ea:its.toArray++its2.toArray=(its++its2).toArray:=by simp
 rw [ea];exact ⟨.ref _,_,I.lnew (t':=s.toks) (r.append r2) (by rw [n30_];omega),rfl,q _ I.fresh⟩
inductive BxRRep (x y:V) (H:Hp) (Q:VK):Prop
 | mk (l:_) (k:_) (xs:_) (q1:x=.ref l) (q2:y=.int k) (q3:H l=some (.lst xs)) (q4:-(2^63)≤k) (q5:k<2^63) (q6:xs.length*k.toNat≤sizeLine) (q7:∀ p,H p=none→Q (.ref p) (upd H p (.lst (List.replicate k.toNat xs).flatten))):BxRRep x y H Q
def rRep:R2:=fun x y H Q=>BxRRep x y H Q
theorem Zi3 (xs:List α) (k:Nat):(List.replicate k xs).flatten.length=k*xs.length:=by
 induction k with
 | zero=>simp
 | succ k ih=>rw [n76_,List.flatten_cons,n30_,ih,Nat.succ_mul,Nat.add_comm]
theorem Zkq:OpR X (binaryOp .Mult) rRep:=by
 intro pins s σ H x y v u Q I rx ry h;obtain ⟨l,k,xs,rfl,rfl,hH,h1,h2,hz,q⟩:=h;cases rx
 obtain ⟨t,rfl⟩:=ry;obtain ⟨z,its,n,r,hl,e⟩:=I.lstM hH;have hlen:its.toArray.size*k.toNat≤sizeLine:=by rw [n16_,← hl];exact hz
 have hcap:¬ its.toArray.size*k.toNat>(2^63-1)/8:=by
  have:(sizeLine:Nat)≤(2^63-1)/8:=?t
  omega
 have hfit:¬ (!Builtin.List.listFitsIndex k)=true:=by
  rw [fitsIndex_both h1 h2];exact n27_
 have hlong:¬ Builtin.List.listTooLong (its.toArray.size*k.toNat)=true:=by
  rw [Zo4 hlen];exact n27_
 have hnew:List.foldl (fun x1 x2=>x1++x2) #[] (List.replicate (if its.toArray.isEmpty=true then 0 else k.toNat) its.toArray)=(List.replicate k.toNat its).flatten.toArray:=by
  have f0:∀ m:Nat,List.foldl (fun x1 x2=>x1++x2) #[] (List.replicate m its.toArray)=(List.replicate m its).flatten.toArray:=fun m=>by
   have:=Zby its m []
   rw [n59_] at this;exact this
  rw [f0];cases its with
  | nil=>simp
  | cons a r'=>rw [if_neg ?f]
 refine wpAny_binaryOp_repeat_ref (T := "list") (U := "int") ?e ⟨_,e,rfl⟩ (fun s'=>typeIs_int s' k t) noFill_list_mul F.fills_int_mul F.slot_int_rmul repeat_list F.slot_int_index.lookup
  (call_meets F.slot_int_rmul (typeIs_int s k t) F.entry_int_rmul (F.args_int_rmul_2 _ _) (int___rmul___int_list k t l its.toArray n)
    ⟨e,rfl,⟨_,e,rfl⟩,call_meets F.slot_list_mul ⟨_,e,rfl⟩ F.entry_list_mul (F.args_list_mul_2 _ _) (AutoListH.list___mul___list_int_3 l its.toArray n k t hfit hcap hlong) ⟨e,?_⟩⟩)
 rw [hnew];exact ⟨.ref _,_,I.lnew (t':=s.toks) (r.rep k.toNat) (by rw [Zi3,Nat.mul_comm];exact hz),rfl,q _ I.fresh⟩
end
section
variable {prog:Program} {w:World} {A:Around} {E:Value→?k} {s:Shared}
set_option maxRecDepth 100000 in
end
section
variable {X:Cx}
end
end L2
namespace Att
open PySem PySem.W PySem.Calls PyProof.Rows
theorem Zd6 {P:Params} {h:Heap}:∀ (ns:?g) (vs:?q),WellAll P h vs (ns.map WData.int)→IntsAre vs ns:=by
 intro ns
 induction ns with
 | nil =>
   intro vs w;rw [n64_] at w;cases w
   exact .nil
 | cons n ns ih =>
   intro vs w;rw [n38_] at w;cases w with
   | cons a b =>
     cases a
     exact .cons _ _ (ih _ b)
theorem Zmk {l:OpenLaw} {n:Nat} (hn:l.most=some n) {P:Params} {h:Heap} {args:List WData} {vals:?q}
 (hpre:l.row.toRowW.claim.pre args=true) (hwl:WellAll P h vals args) :
 ∃ a vs ns,vals=[Value.ref a]∧args=[WData.list (ns.map WData.int)]∧h.get? a=some { cls:=.type "list",data:=.seq vs.toArray }∧IntsAre vs ns∧ns.length≤n:=by
 have hsh:WShape.hasAll [] args [.list .int]=true:=(pre_splitW hpre).1;have hc:l.pre.holds [] { args:=args }=true:=(pre_splitW hpre).2;obtain ⟨d,r,rfl,h1,h2⟩:=hasAllW_cons hsh;obtain rfl:=hasAllW_nil h2;obtain ⟨xs,rfl,h3⟩:=hasW_list h1;obtain ⟨ns,rfl⟩:=items_int h3
 have hlen:ns.length≤n:=by
  unfold OpenLaw.pre at hc
  have h4:(WTm.not (.lt (.lit (.int (n:Int))) (.len (.arg 0)))).holds [] { args:=[.list (ns.map .int)] }=true:=by
   have h4:=(holds_andW hc).1;rw [hn] at h4;exact h4
  have h5:=condW_of h4 (w_not (w_lt w_lit (w_len_list (w_arg rfl))));rw [n7_] at h5;refine Nat.le_of_not_lt fun q=>?_;have q':(n:Int)<((ns.length:Nat):Int):=?d
  first
   | (rw [n44_ q'] at h5;exact absurd h5 ?e)
   | (simp at h5;omega)
 cases hwl with
 | cons w1 w2 =>
   cases w2
   cases w1 with
   | list ho hall=>exact ⟨_,_,ns,rfl,rfl,ho,Zd6 ns _ hall,hlen⟩
theorem Zne (l:OpenLaw) (args:List WData):l.row.toRowW.claim.post args (.bool true) args=true :=
 postW_of (r:=l.row.toRowW) (X:=(true == true))
  (show WShape.has [] (.bool true) .bool=true by first|rfl|decide|simp [WShape.has,WShape.arms,WShape.armsAll])
  (show (WTm.eq .res (.lit (.bool true))).value [] { args:=args,res:=some (.bool true),after:=args }=some (.bool (true == true)) from w_eq_bool (w_res rfl) w_lit) rfl
theorem attach_call {l:OpenLaw} {n:Nat} {q:Program} {loose:List Str} {XP:(Str→?D)→Heap→Prop} {YP:World→Heap→Prop} {d:DefRec}
 (hn:l.most=some n) (hdf:d.params.defaults=[])
 (call:∀ (w:World) (s₀ s₁:Shared) (mg mb:Str→?D) (fa:Addr) (o:Obj) (pm cd doc:Value) (a:Addr) (vs:?q) (ns:?g),
   Ground q loose [] XP w s₀ mg mb s₁.heap→YP w s₁.heap →
   s₁.heap.get? fa=some o→o.data=.func (docDef d.name d.params d.body d.scope pm cd doc)→s₁.heap.CodeRec cd d.name→mg d.name=some (.ref fa) →
   s₁.heap.get? a=some { cls:=.type "list",data:=.seq vs.toArray }→IntsAre vs ns→ns.length≤n→s₁.gens=#[] →
   codeAny (model l.prog w) callerA (.call (.ref fa) ⟨[.ref a],[]⟩) (fun r s'=>r=.ok (.ret (.bool true))∧OldK s₁.heap s'.heap∧s'.os=s₁.os∧AllBare s'.gens) s₁) :
 WalkO q loose XP YP l.row.toRowW d [] (fun f vs=>PySem.call f vs):=by
 intro w s₀ s₁ mg mb G Y fa o pm cd doc dV kV ho hd hcd hD hmg hg args vals as hpre hlay hrd hwl hlo;obtain rfl:dV=.none:=Dflts.none hD hdf;obtain rfl:kV=.none:=Dflts.noKw hD;obtain ⟨a,vs,ns,rfl,rfl,hobj,hints,hlen⟩:=Zmk hn hpre hwl;refine enter_call (codeAny_mono (call w s₀ s₁ mg mb fa o pm cd doc a vs ns G Y ho (fd_plain hd) hcd hmg hobj hints hlen hg) fun r s' hq=>?_);obtain ⟨rfl,h2,h3,h4⟩:=hq;exact ⟨.inl ⟨.bool true,.bool true,[],rfl,fun _=>rfl,.bool true,Zne l _,fun _=>⟨List.Pairwise.nil,fun _ hm=>(nomatch hm)⟩⟩,h2,h3,h4⟩
section
variable {prog:Program} {w:World} {A:Around} {E:Value→?k} {s:Shared} {K:Frag}
end
end Att
namespace L2
open PySem PySem.Spec PyProof.Rows
variable {a f:Addr} {A:Around} {X:Cx} {fd:FuncData} {H H' H2:Hp} {ns:?g} {N ps:List Str} {xs:List V} {k n:Nat} {pos:Pos} {P:Program} {st:Stmt} {qual x:Str} {w:World}
theorem Zdy {vs:?q} (h:IntsAre vs ns):Vals (ns.map V.int) vs:=by
 induction h with
 | nil=>exact .nil
 | cons n t _ ih=>exact .cons ⟨t,rfl⟩ ih
def Only (H:Hp):Prop:=∀ b,H b=none∨∃ o xs,H b=some (.frz o (.lst xs))
theorem Zpe {K:PySem.W.Frag} {mg mb:Str→?D} {CX:CXT} {fa:Addr} {sp:Sp} {s₁:Shared} {vs:?q}
 (KX:K.In s₁.heap) (hns:s₁.heap.Ns mainGlobals mg) (hb:s₁.heap.Ns builtinsNs mb) (hbb:∀ x:Str,x ≠ "__name__" → mb x=bootBuiltins x) (hlim:s₁.heap.NoLimit) (hsr:s₁.heap.NoSeer) (hdg:s₁.heap.NoDigits) (hg:s₁.gens=#[])
 (ha:s₁.heap.get? a=some { cls:=.type "list",data:=.seq vs.toArray }) (hi:IntsAre vs ns) (hl:ns.length≤sizeLine) (hr:Room k callerA)
 (F:∀ base:Heap,K.In base→base.Ns mainGlobals mg→FnOk P w K mg base CX k fa fd [x] sp) (hbind:∀ (s:Shared) (u:Value),BindsTo s fd ⟨[u],[]⟩ [(x,u)])
 (hsp:∀ H:Hp,Only H→SqL K H a (ns.map V.int)→sp [.ref a] H (fun v _=>v=.bl true) fun _ _ _=>False)
 (hCX:∀ H e s',CX [] H s₁ (fun _ _ _=>False) e s'→False) :
 codeAny (model P w) callerA (.call (.ref fa) ⟨[.ref a],[]⟩) (fun r s'=>r=.ok (.ret (.bool true))∧OldK s₁.heap s'.heap∧s'.os=s₁.os∧AllBare s'.gens) s₁:=by
 have rv:=Zdy hi;have lenV:=hi.length
 have core:∀ H:Hp,Only H→SqL K H a (ns.map V.int)→HOk P w H s₁.heap→(∀ b,H b≠none→b=a)→(H a≠none→K.lookup a=none) →
  codeAny (model P w) callerA (.call (.ref fa) ⟨[.ref a],[]⟩) (fun r s'=>r=.ok (.ret (.bool true))∧OldK s₁.heap s'.heap∧s'.os=s₁.os∧AllBare s'.gens) s₁:=by
  intro H hO hS hok hA hK;have Zd3:∀ {b:Addr} {o:Obj},s₁.heap.get? b=some o→H b=none→(hidT s₁.heap H).get? b=some o:=fun e n=>Zqu e n
  have noA:∀ {b:Addr} {o:Obj} {es:Array DictEntry} {ep:Nat},s₁.heap.get? b=some o→o.data=.dict es ep→H b=none:=fun {b o es ep} e d=>by
   cases q:H b with
   | none=>rfl
   | some u =>
     have e':b=a:=hA b (by rw [q];simp);subst e';rw [ha] at e;cases e;have d':Data.seq vs.toArray _=Data.dict es ep:=d;cases d'
  have nsK:∀ {b:Addr} {m:Str→?D},s₁.heap.Ns b m→(hidT s₁.heap H).Ns b m:=fun {b m} ⟨o,es,ep,e,d,r⟩=>⟨o,es,ep,Zd3 e (noA e d),d,r⟩
  have hKb:K.In (hidT s₁.heap H):=fun b o e=>Zd3 (KX b o e) (by
   cases q:H b with
   | none=>rfl
   | some u =>
     have e':b=a:=hA b (by rw [q];simp);subst e';rw [hK (by rw [q];simp)] at e;cases e)
  have sK:(hidT s₁.heap H).NoSeer:=⟨let ⟨mc,a,b⟩:=hsr.statics;⟨mc,nsK a,b⟩,let ⟨mc,a,b⟩:=hsr.mods;⟨mc,nsK a,b⟩,let ⟨mb,a,b⟩:=hsr.imp;⟨mb,nsK a,b⟩,let ⟨mg',bm,ob,a,b,c,d,e⟩:=hsr.main;⟨mg',bm,ob,nsK a,b,Zd3 c (by
   cases q:H bm with
   | none=>rfl
   | some u =>
     have e':bm=_:=hA bm (by rw [q];simp);subst e';rw [ha] at c;cases c;exact absurd d ?f),d,e⟩⟩
  have hM:Mod K mg (hidT s₁.heap H):=⟨hKb,nsK hns,⟨mb,nsK hb,hbb⟩,(let ⟨mc,h1,h2⟩:=hlim;⟨mc,nsK h1,h2⟩),sK,(let ⟨mc,h1,h2⟩:=hdg;⟨mc,nsK h1,h2⟩)⟩;have e0:Env0 P w K mg (hidT s₁.heap H) callerA [] s₁ H:=⟨rfl,hM,fun b o e=>Ztr e,Nat.le_of_eq (Zop _ _),trivial,fun b hb=>absurd (show b∈([]:List Addr) from hb) ?f,hok,.of_eq hg⟩;refine codeAny_mono ((F _ hKb (nsK hns)).run callerA [] s₁ H ⟨[.ref a],[]⟩ [.ref a] [.ref a] _ _ hr e0 (hbind s₁ (.ref a)) (.cons rfl .nil) (hsp H hO hS)) fun r s' h=>?_;cases r with
  | error e=>exact (hCX H e s' h).elim
  | ok fl =>
    cases fl with
    | next=>exact False.elim h
    | brk=>exact False.elim h
    | cont=>exact False.elim h
    | ret u =>
      obtain ⟨v,H',os,bare,un,hok',r',q⟩:=h;have q':v=.bl true:=q;subst q';obtain rfl:u=Value.bool true:=r';refine ⟨rfl,OldK.of_keep fun b o e=>?_,os,bare⟩;cases q:H b with
      | none=>exact un.keep b o e q (by intro z;exact absurd (show b∈([]:List Addr) from z) ?f) ?f
      | some u =>
        rcases hO b with z|⟨ob,xs,z⟩
        · rw [q] at z;cases z
        · have z2:=un.frzs b ob _ z;obtain ⟨e1,_⟩:=hok b _ z;obtain ⟨e2,_⟩:=hok' b _ z2;rw [e] at e1;cases e1;exact e2
 cases hk:K.lookup a with
 | some o =>
   have e:=KX a o hk;rw [ha] at e;cases e
   refine core (fun _=>none) (fun _=>.inl rfl) (.inr ⟨_,vs.toArray,_,hk,rfl,rfl,rfl,by rw [n16_,lenV];exact hl,by simpa using rv⟩) (fun b u z=>by have z':(none:Option HO)=some u:=z;cases z') (fun b z=>absurd rfl z) fun z=>absurd rfl z
 | none =>
   refine core (fun b=>if b=a then some (.frz { cls:=.type "list",data:=.seq vs.toArray } (.lst (ns.map V.int))) else none) (fun b=>?_) (.inl (.inr ⟨{ cls:=.type "list",data:=.seq vs.toArray },if_pos rfl⟩)) (fun b u z=>?_) (fun b z=>?_) fun _=>hk
   · by_cases hb:b=a
     · exact .inr ⟨_,_,if_pos hb⟩
     · exact .inl (if_neg hb)
   · by_cases hb:b=a
     · have z':=(if_pos hb).symm.trans z;cases z'
       subst hb;exact ⟨ha,by rw [n7_];exact hl,vs,_,rv,ha⟩
     · have z':=(if_neg hb).symm.trans z;cases z'
   · by_cases hb:b=a
     · exact hb
     · exact absurd (if_neg hb) z
theorem Zsm {l:PySem.W.OpenLaw} {q:Program} {loose:List Str} {XP:(Str→?D)→Heap→Prop} {YP:World→Heap→Prop} {d:DefRec} {K:Params→PySem.W.Frag} {CX:World→CXT} {sp:World→Sp}
 (hn:l.most=some n) (hn2:n≤sizeLine) (hdf:d.params.defaults=[]) (hr:Room k callerA)
 (hY:∀ (w:World) (h:Heap),YP w h→(K w.params).In h)
 (F:∀ (w:World) (mg:Str→?D) (fa:Addr) (h:Heap),(K w.params).In h→h.Ns mainGlobals mg→mg d.name=some (.ref fa) →
   ∃ fd:FuncData,(∀ (s:Shared) (u:Value),BindsTo s fd ⟨[u],[]⟩ [(x,u)]) ∧
     ∀ base:Heap,(K w.params).In base→base.Ns mainGlobals mg→FnOk l.prog w (K w.params) mg base (CX w) k fa fd [x] (sp w))
 (hsp:∀ (w:World) (H:Hp) (a:Addr) (ns:?g),ns.length≤n→Only H→SqL (K w.params) H a (ns.map V.int)→sp w [.ref a] H (fun v _=>v=.bl true) fun _ _ _=>False)
 (hCX:∀ (w:World) (H:Hp) (s:Shared) (e:Value) (s':Shared),CX w [] H s (fun _ _ _=>False) e s'→False) (him:importsNone q=true:=by decide +kernel) :
 PySem.W.WalkO q loose XP YP l.row.toRowW d [] (fun f vs=>PySem.call f vs):=by
 refine Att.attach_call hn hdf fun w s₀ s₁ mg mb fa o pm cd doc a vs ns G Y ho hd hcd hmg hobj hints hlen hg=>?_;have KX:=hY w _ Y;obtain ⟨fd,hb,hF⟩:=F w mg fa _ KX G.T.g hmg;exact Zpe KX G.T.g G.T.b G.T.builtins G.T.nolimit (G.T.seer him) G.T.nodigits hg hobj hints (n36_ hlen hn2) hr hF hb (fun H hO hS=>hsp w H a ns hlen hO hS) fun H e s'=>hCX w H s₁ e s'
def Y8 (s:Stmt):Arguments:=match s with
 | .FunctionDef _ a _ _ _ _ _ _ _ _=>a
 | _=>{ posonlyargs:=[],args:=[],vararg:=none,kwonlyargs:=[],kw_defaults:=[],kwarg:=none,defaults:=[] }
def Ys (s:Stmt):List Stmt:=match s with
 | .FunctionDef _ _ b _ _ _ _ _ _ _=>b
 | _=>[]
def Zf (s:Stmt):Scope:=match s with
 | .FunctionDef _ _ _ _ _ _ sc _ _ _=>sc
 | _=>{ kind:=.function,names:=[],isGenerator:=false,isCoroutine:=false }
abbrev CX0:CXT:=fun _ _ _ _ _ _=>False
abbrev E0:XK:=fun _ _ _=>False
theorem Zt1:Zj6 CX0 X E0:=fun _ _ _ _ _ _ _ h=>h.elim
structure Fun (K:PySem.W.Frag) (x qual:Str) (st:Stmt) (f:Addr) (fd:FuncData):Prop where
 ex:∃ (oc:Value) (od:Option Addr) (kV doc pm:Value) (an:Option Addr) (cdv ct:Value) (osl:Array (?D)),
  fd=PySem.W.fnOf x qual (Y8 st) (Ys st) (Zf st) .none kV doc pm an cdv ct∧K.lookup f=some ⟨oc,od,.func fd,osl⟩∧PySem.W.codeIn K cdv qual=true
 kp:PySem.W.keepIn K (.ref f)=true
section
variable {P:Program} {w:World} {K:PySem.W.Frag} {mg:Str→?D} {base:Heap}
theorem Fun.ok {sp:Sp} (F:Fun K x qual st f fd) (S:FnScope N ps (Zf st)) (len:∀ vs H Q E,sp vs H Q E→vs.length=ps.length)
 (hbody:∀ (cdv:Value) (A:Around) (outer:List Env) (s:Shared) (H:Hp) (vs:List V) (Q:VK) (E:XK),Room k (A.deeper (envOfC qual (Zf st) s.z f cdv))→sp vs H Q E →
   ∃ t,PSs (cxOf CX0 P w K mg base N qual (Zf st) f cdv A outer s H E).nox (Ys st) t∧t { nx:=fun _ H'=>Q .non H',rt:=Q } (start N vs) H):FnOk P w K mg base CX0 (k+1) f fd ps sp:=by
 obtain ⟨oc,od,kV,doc,pm,an,cdv,ct,osl,rfl,lk,hcd⟩:=F.ex;refine Zu1 lk hcd S len fun A outer s H vs Q E hr hsp=>?_;obtain ⟨t,h,q⟩:=hbody cdv A outer s H vs Q E hr hsp;exact ⟨t,h.nox,q⟩
theorem Fun.binds (F:Fun K x qual st f fd)
 (h:∀ (kV doc pm:Value) (an:Option Addr) (cdv ct:Value) (us:?q),us.length=ps.length→bindArgs (PySem.W.fnOf x qual (Y8 st) (Ys st) (Zf st) .none kV doc pm an cdv ct) ⟨us,[]⟩=pure (ps.zip us)):Binds K fd ps []:=by
 obtain ⟨oc,od,kV,doc,pm,an,cdv,ct,osl,rfl,lk,hcd⟩:=F.ex;exact .all (h kV doc pm an cdv ct)
theorem Zrf {oc:Value} {od an:Option Addr} {osl:Array (?D)} {kV doc pm cdv ct:Value} (l:K.lookup f=some ⟨oc,od,.func (PySem.W.fnOf x qual (Y8 st) (Ys st) (Zf st) .none kV doc pm an cdv ct),osl⟩)
 (c:PySem.W.codeIn K cdv qual=true) (k:PySem.W.keepIn K (.ref f)=true):Fun K x qual st f (PySem.W.fnOf x qual (Y8 st) (Ys st) (Zf st) .none kV doc pm an cdv ct):=⟨⟨oc,od,kV,doc,pm,an,cdv,ct,osl,rfl,l,c⟩,k⟩
end
theorem Zo3 (hr:Room k A):A.units+1<cLine:=n10_ (Nat.add_le_add_left (?t:1≤64) _) hr.units
section
variable {X:Cx}
theorem pv (i:Nat) (hN:X.N[i]? = some x:=by rfl) (hv:Vis X.env.scope x:=by first|exact Or.inl rfl|exact Or.inr ?l|exact Or.inr (Or.inr rfl)) (hd:(x == ("__debug__" : Str))=false:=by decide)
 (hcd:(x == ("__classdict__" : Str))=false:=by decide):PE X (.Name x pos) (tVar i):=Zv2 hN hv hd hcd
end
theorem iteF {A B:Prop} (h:B):if false=true then A else B:=by
 rw [if_neg n27_];exact h
theorem iteT {A B:Prop} (h:A):if true=true then A else B:=by
 rw [if_pos rfl];exact h
theorem ite2 {c A B:Prop} [Decidable c] (h1:c→A) (h2:¬ c→B):if c then A else B:=by
 by_cases h:c
 · rw [if_pos h];exact h1 h
 · rw [if_neg h];exact h2 h
def Same (H H':Hp):Prop:=∀ b o,H b=some o→H' b=some o
theorem Same.refl (H:Hp):Same H H:=fun _ _ h=>h
theorem Same.trans {H1:Hp} (a:Same H H1) (b:Same H1 H2):Same H H2:=fun c o h=>b c o (a c o h)
theorem Same.seq {K:PySem.W.Frag} (e:?E) (h:SqL K H a xs):SqL K H' a xs:=by
 rcases h with (h|⟨o,h⟩)|h
 · exact .inl (.inl (e _ _ h))
 · exact .inl (.inr ⟨o,e _ _ h⟩)
 · exact .inr h
end L2
namespace FM
def sg (t b:Int):Int:=if b<0 then -(Int.gcd t b:Int) else (Int.gcd t b:Int)
theorem gcd_ne {t b:Int} (h:b≠0):(Int.gcd t b:Int)≠0:=by
 intro e
 have:=Int.gcd_eq_zero_iff.mp (Int.ofNat.inj e)
 exact h this.2
theorem sg_ne {t b:Int} (h:b≠0):sg t b≠0:=by
 have:=gcd_ne (t:=t) h
 unfold sg;split<;>omega
theorem fdiv_mul {c k:Int} (h:k≠0):(c*k).fdiv k=c:=Int.mul_fdiv_cancel c h
theorem fdiv_num {t b:Int} (h:b≠0):t.fdiv (sg t b)=(Rat.divInt t b).num:=by
 rw [Rat.num_divInt];obtain ⟨c,hc⟩:=Int.gcd_dvd_left t b;have hg:=gcd_ne (t:=t) h;have e:(b.gcd t:Int)=(t.gcd b:Int):=by rw [Int.gcd_comm]
 rw [e];unfold sg
 rcases Int.lt_or_gt_of_ne h with hb|hb
 · rw [if_pos hb,Int.sign_eq_neg_one_of_neg hb];generalize (t.gcd b:Int)=g at *;subst hc;rw [show g*c=(-c)*(-g) by rw [Int.neg_mul_neg,n70_],fdiv_mul (?d)];rw [show (-1:Int)*((-c)*(-g))=(-c)*g by rw [Int.neg_mul_neg,Int.neg_mul,Int.one_mul,Int.neg_mul],Int.mul_ediv_cancel _ hg]
 · rw [if_neg (?d),Int.sign_eq_one_of_pos hb,Int.one_mul];generalize (t.gcd b:Int)=g at *;subst hc;rw [n70_,fdiv_mul hg,Int.mul_ediv_cancel _ hg]
theorem fdiv_den {t b:Int} (h:b≠0):b.fdiv (sg t b)=((Rat.divInt t b).den:Int):=by
 rw [Rat.den_divInt,if_neg h];obtain ⟨c,hc⟩:=Int.gcd_dvd_right t b;have hg:=gcd_ne (t:=t) h;have e:b.gcd t=t.gcd b:=by rw [Int.gcd_comm]
 rw [e,Int.natCast_ediv];unfold sg
 rcases Int.lt_or_gt_of_ne h with hb|hb
 · rw [if_pos hb,Int.ofNat_natAbs_of_nonpos (?d)];generalize (t.gcd b:Int)=g at *;subst hc;rw [show g*c=(-c)*(-g) by rw [Int.neg_mul_neg,n70_],fdiv_mul (?d)];rw [show -((-c)*(-g))=(-c)*g by rw [Int.neg_mul_neg,Int.neg_mul],Int.mul_ediv_cancel _ hg]
 · rw [if_neg (?d),Int.natAbs_of_nonneg (?d)];generalize (t.gcd b:Int)=g at *;subst hc;rw [n70_,fdiv_mul hg,Int.mul_ediv_cancel _ hg]
theorem low_num {t b:Int} (h:b≠0):(if 0<b then t.fdiv (Int.gcd t b:Int) else 0-t.fdiv (Int.gcd t b:Int))=(Rat.divInt t b).num:=by
 rw [← fdiv_num h];have hg:=gcd_ne (t:=t) h;obtain ⟨c,hc⟩:=Int.gcd_dvd_left t b;unfold sg
 by_cases hb:0<b
 · rw [if_pos hb,if_neg (?d)]
 · rw [if_neg hb,if_pos (?d)];generalize (t.gcd b:Int)=g at *;subst hc;rw [show g*c=c*g by simp [n70_],fdiv_mul hg];rw [show c*g=(-c)*(-g) by rw [Int.neg_mul_neg],fdiv_mul (?d)];omega
theorem low_den {t b:Int} (h:b≠0):(b.natAbs:Int).fdiv (Int.gcd t b:Int)=((Rat.divInt t b).den:Int):=by
 rw [← fdiv_den h];have hg:=gcd_ne (t:=t) h;obtain ⟨c,hc⟩:=Int.gcd_dvd_right t b;unfold sg
 by_cases hb:b<0
 · rw [if_pos hb,Int.ofNat_natAbs_of_nonpos (?d)];generalize (t.gcd b:Int)=g at *;subst hc;rw [show g*c=(-c)*(-g) by rw [Int.neg_mul_neg,n70_],fdiv_mul (?d)];rw [show -((-c)*(-g))=(-c)*g by rw [Int.neg_mul_neg,Int.neg_mul],fdiv_mul hg]
 · rw [if_neg hb,Int.natAbs_of_nonneg (?d)]
theorem gcd_fmod {a b:Int} (h:b≠0):Int.gcd b (a.fmod b)=Int.gcd a b:=by
 have e:a.fmod b=a-b*a.fdiv b:=by have:=Int.mul_fdiv_add_fmod a b;omega
 rw [e,Int.gcd_comm a b]
 have:=Int.gcd_sub_mul_left_right b a (a.fdiv b)
 first|exact this|(rw [← this])|simpa using this
theorem fmod_abs_lt {a b:Int} (h:b≠0):(a.fmod b).natAbs<b.natAbs:=by
 rcases Int.lt_or_gt_of_ne h with hb|hb
 · have e:a.fmod b = -((-a).fmod (-b)):=by
    have:=Int.neg_fmod_neg a b
    omega
   have h1:=n63_ (-a) (show (0:Int) < -b by omega);have h2:=n92_ (-a) (show (0:Int) < -b by omega);omega
 · have h1:=n63_ a hb;have h2:=n92_ a hb;omega
def B (n:Nat) (q:Rat):Prop:=q.num.natAbs<2^n∧q.den<2^n
theorem B.mono {n m:Nat} {q:Rat} (h:B n q) (l:n≤m):B m q :=
 ⟨n9_ h.1 (n23_ ?e l),n9_ h.2 (n23_ ?e l)⟩
theorem natAbs_mul_lt {a b:Int} {n m:Nat} (h1:a.natAbs<2^n) (h2:b.natAbs<2^m):(a*b).natAbs<2^(n+m):=by
 rw [n56_,Nat.pow_add];exact Nat.mul_lt_mul'' h1 h2
theorem Zgb (t:Int) {b:Int} (h:b≠0):(Rat.divInt t b).num.natAbs≤t.natAbs:=by
 rw [Rat.num_divInt]
 have hs:(b.sign*t).natAbs≤t.natAbs:=by
  rw [n56_]
  have:b.sign.natAbs≤1:=by
   rcases Int.lt_trichotomy b 0 with z|z|z
   · rw [Int.sign_eq_neg_one_of_neg z];decide
   · omega
   · rw [Int.sign_eq_one_of_pos z];decide
  calc b.sign.natAbs*t.natAbs≤1*t.natAbs:=Nat.mul_le_mul_right _ this
   _=t.natAbs:=Nat.one_mul _
 obtain ⟨c,hc⟩:∃ c,b.sign*t=(b.gcd t:Int)*c:=by
  obtain ⟨c,hc⟩:=Int.gcd_dvd_right b t;refine ⟨b.sign*c,?_⟩;rw [← Int.mul_assoc,n70_ (b.gcd t:Int) b.sign,Int.mul_assoc,← hc]
 have hg:(b.gcd t:Int)≠0:=by
  intro e;exact h (Int.gcd_eq_zero_iff.mp (Int.ofNat.inj e)).1
 rw [hc,Int.mul_ediv_cancel_left _ hg]
 have:c.natAbs≤(b.sign*t).natAbs:=by
  rw [hc,n56_]
  have:1≤(b.gcd t:Int).natAbs:=?d
  calc c.natAbs=1*c.natAbs:=(Nat.one_mul _).symm
   _≤_:=Nat.mul_le_mul_right _ this
 omega
theorem Zgd (t:Int) {b:Int} (h:b≠0):(Rat.divInt t b).den≤b.natAbs:=by
 rw [Rat.den_divInt,if_neg h];exact Nat.div_le_self _ _
theorem B_divInt {n:Nat} {t b:Int} (h:b≠0) (h1:t.natAbs<2^n) (h2:b.natAbs<2^n):B n (Rat.divInt t b) :=
 ⟨n10_ (Zgb t h) h1,n10_ (Zgd t h) h2⟩
theorem den_ne (q:Rat):(q.den:Int)≠0:=by have:=q.den_nz;omega
theorem den_pos (q:Rat):(0:Int)<q.den:=by have:=q.den_nz;omega
theorem add_eq (p q:Rat):Rat.divInt (p.num*q.den+q.num*p.den) (p.den*q.den)=p+q:=by
 have:=Rat.divInt_add_divInt p.num q.num (den_ne p) (den_ne q)
 rw [Rat.num_divInt_den,Rat.num_divInt_den] at this;exact this.symm
theorem mul_eq (p q:Rat):Rat.divInt (p.num*q.num) (p.den*q.den)=p*q:=by
 have:=Rat.divInt_mul_divInt p.num q.num (d₁:=p.den) (d₂:=q.den)
 rw [Rat.num_divInt_den,Rat.num_divInt_den] at this;exact this.symm
theorem mul_ne {p q:Rat}:(p.den:Int)*q.den≠0:=Int.mul_ne_zero (den_ne p) (den_ne q)
theorem B_add {n m:Nat} {p q:Rat} (hp:B n p) (hq:B m q):B (n+m+1) (p+q):=by
 rw [← add_eq];refine B_divInt mul_ne ?_ ?_
 · have h1:=natAbs_mul_lt hp.1 (show (q.den:Int).natAbs<2^m from hq.2);have h2:=natAbs_mul_lt hq.1 (show (p.den:Int).natAbs<2^n from hp.2);have h3:=Int.natAbs_add_le (p.num*q.den) (q.num*p.den);rw [Nat.add_comm m n] at h2;rw [Nat.pow_succ];omega
 · have h1:=natAbs_mul_lt (show (p.den:Int).natAbs<2^n from hp.2) (show (q.den:Int).natAbs<2^m from hq.2);rw [Nat.pow_succ];omega
theorem B_mul {n m:Nat} {p q:Rat} (hp:B n p) (hq:B m q):B (n+m) (p*q):=by
 rw [← mul_eq];exact B_divInt mul_ne (natAbs_mul_lt hp.1 hq.1) (natAbs_mul_lt (show (p.den:Int).natAbs<2^n from hp.2) (show (q.den:Int).natAbs<2^m from hq.2))
end FM
namespace L2
open PySem PySem.Spec PyProof.Rows
variable {C D a f it l:Addr} {A:Around} {X:Cx} {env:Env} {e elt iter tg:Expr} {fd:FuncData} {h h':Heap} {H H' H2:Hp} {pins:?A} {fr:List (Option Nat)} {cl:List (Str×Addr)} {fp:List Addr} {N ps:List Str} {M:Model} {i j k n:Nat} {o:Obj} {p pos:Pos} {P prog:Program} {scope:Scope} {s s3:Shared} {σ:St} {st:Stmt} {qual x:Str} {ta:TA} {te:TE} {g:TG} {wi:TI} {tt:TT} {E:Value→?k} {w:World}
theorem Zcz {R:Result→?k} {target:Expr} {ifs:List Expr} {it acc:Value} (I:Nat→?k)
 (turn:∀ n s,I n s→wpAny ?s A (pyNext it) (fun r s₁=>match r with
   | none=>R (.ok .next) s₁
   | some v=>wpAny ?s A (letOwnedTupleGo target it v) (fun _ s₀=>wpAny ?s A (assign target env v) (fun _ s₂ =>
      wpAny ?s A (forIn ifs true fun c r=>if r=true then do let ok ← isTrue c env (eval c env);pure (ForInStep.yield ok) else pure (ForInStep.yield r)) (fun ok s₃ =>
       if ok=true then wpAny ?s A (eval elt env) (fun x s₄ =>
        wpAny ?s A (call (.builtin "list.append") [acc,x]) (fun _ s₅=>∃ m,m<n∧I m s₅) (fun _ _=>False) s₄) (fun _ _=>False) s₃
       else ∃ m,m<n∧I m s₃) (fun _ _=>False) s₂) (fun _ _=>False) s₀) (fun _ _=>False) s₁) (fun _ _=>False) s)
 (n:Nat) (h:I n s) :
 codeAny ?s A (.compLoop (.ListComp elt [⟨target,iter,ifs,0⟩] scope pos) 0 it acc env) R s:=by
 refine codeAny_loop rfl I (fun n s hI=>?_) n h;show wpAny _ A ((compTurn (.ListComp elt [⟨target,iter,ifs,0⟩] scope pos) 0 it acc env).onRaise (fun x=>do noteFrame x env;theTreesLotGoes x)) _ _ s
 refine wpAny_noted ?_;rw [compTurn_list];refine n0_ (wpAny_standAt (n0_ (n55_ (turn n s hI) (fun r s₁ h₁=>?_) fun _ _ h'=>h'.elim)));cases r with
 | none=>exact n3_ h₁
 | some v =>
   refine n0_ (n55_ h₁ (fun _ s₀ h₀=>?_) fun _ _ h'=>h'.elim);refine n0_ (n55_ h₀ (fun _ s₂ h₂=>n0_ (n55_ h₂ (fun ok s₃ h₃=>?_) fun _ _ h'=>h'.elim)) fun _ _ h'=>h'.elim);cases ok with
   | false=>exact n3_ ⟨rfl,h₃⟩
   | true =>
     exact n0_ (n0_ (n55_ h₃ (fun x s₄ h₄=>n0_ (n55_ h₄ (fun _ s₅ h₅=>n3_ (n3_ ⟨rfl,h₅⟩)) fun _ _ h'=>h'.elim)) fun _ _ h'=>h'.elim))
theorem Yb:∀ (names:List (Str×NameKind)) (n:Nat) (acc:List (Str×Addr)),cellsFrom n names acc=cellsFrom n names []++acc
 | [],_,_=>rfl
 | (x,k) :: r,n,acc=>by
   unfold cellsFrom;split
   · rw [Yb r (n+1) ((x,n) :: acc),Yb r (n+1) [(x,n)],n78_];rfl
   · exact Yb r n acc
theorem Zaj {c:Addr}:∀ (names:List (Str×NameKind)) (n:Nat),(x,c)∈cellsFrom n names []→(x,NameKind.cell)∈names
 | [],_,h=>by simp [cellsFrom] at h
 | (y,k) :: r,n,h=>by
   unfold cellsFrom at h;split at h
   · rename_i hk
     rw [Yb] at h
     rcases n39_.mp h with h|h
     · exact n17_ _ (Zaj r _ h)
     · cases n22_.mp h
       rw [show k=.cell by simpa using hk];exact n24_
   · exact n17_ _ (Zaj r _ h)
theorem Zbv {names:List (Str×NameKind)} {c:Addr} (h:(cellsFrom n names cl).lookup x=some c):(cellsFrom n names []).lookup x=some c∨cl.lookup x=some c:=by
 rw [Yb,List.lookup_append] at h;cases e:(cellsFrom n names []).lookup x with
 | none=>rw [e] at h;exact .inr h
 | some c'=>rw [e] at h;exact .inl h
theorem Zli {globals:Addr} {Q:Env→?k}
 (hQ:∀ h',h'.Ns s.z (fun _=>none)→(∀ b o,?I=some o→h'.get? b=some o)→CellsOk h' (s.z+1) (cellsFrom (s.z+1) scope.names []) →
   Q (newEnv scope s.z globals (cellsFrom (s.z+1) scope.names cl) qual none .none (some env) builtinsNs) { s with heap:=h' }) :
 wpAny M A (newFunctionEnv scope globals cl [] qual none .none (some env)) Q E s:=by
 simp only [newFunctionEnv,Option.isSome_some,if_true];refine n0_ (wpAny_alloc ?_);refine n0_ (wpAny_layCells _ (fun name kind cells=>by cases hkc:kind == NameKind.cell<;>simp [hkc]) _ _ _ _ ?_);have ok:=cellsFrom_ok scope.names (s.heap.push { cls:=.type "dict",data:=.dict #[] }) (s.z+1) [] ⟨fun _ _ hm=>(nomatch hm),List.Pairwise.nil⟩ (by rw [n50_];exact n11_ _);rw [n50_] at ok;rw [show ({ s with heap:=s.heap.push { cls:=.type "dict",data:=.dict #[] } }:Shared).heap.objs.size=s.z+1 from n50_ ..];rw [List.forIn_nil];exact n0_ (n3_ (n3_ (hQ _ ((Heap.Ns.new s.heap (.type "dict")).keeps (pushCells_keeps _ _)) (fun b o e=>pushCells_keeps _ _ b o (n2_ _ e)) ok)))
def blk (X:Cx) (scope:Scope) (cl:List (Str×Addr)) (C:Addr) (N:List Str) (s3:Shared) (H3:Hp) (fp:List Addr):Cx where
 prog:=X.prog
 w:=X.w
 K:=X.K
 mg:=X.mg
 base:=X.base
 A:=X.A
 N:=N
 s₀:=s3
 H₀:=H3
 env:=compEnvC scope (cellsFrom (C+1) scope.names cl) C X.env
 outer:=X.stack
 stack:=X.stack
 ex:=fp
 fn:=fun x=>scope.names.lookup x == some .cell
 calm:=X.calm
 pn:=[]
 xe:=fun _ _=>False
structure LcO (X:Cx) (scope:Scope) (cl:List (Str×Addr)) (N:List Str) (fr:List (Option Nat)):Prop where
 clos:closureFor scope X.env=pure cl
 sub:∀ x c,cl.lookup x=some c→X.env.cells.lookup x=some c
 has:∀ x,((relabel scope X.env).names.lookup x=some .cell∨(relabel scope X.env).names.lookup x=some .free)→scope.names.lookup x=some .cell∨∃ c,cl.lookup x=some c
 kind:scope.kind=.function
 names:∀ y∈scope.names,y.2=.local→scope.names.lookup y.1=some .local
 len:fr.length=N.length
 from':∀ (i j:Nat),fr[i]? = some (some j)→∃ x,N[i]? = some x∧X.N[j]? = some x∧(X.env.scope.names.lookup x=some .cell∨X.env.scope.names.lookup x=some .free)∧((relabel scope X.env).names.lookup x=some .cell∨(relabel scope X.env).names.lookup x=some .free)∧(∃ c,cl.lookup x=some c)∧(x,NameKind.cell)∉scope.names
def Zar (fr:List (Option Nat)) (σ:St):St:=fr.map fun o=>match o with
 | some j=>match σ[j]? with
   | some v=>v
   | none=>none
 | none=>none
theorem pgB {H3:Hp} (i:Nat) (hN:N.Nodup:=by decide) (hi:N[i]? = some x:=by rfl) (hf:(blk X scope cl C N s3 H3 fp).env.scope.names.lookup x=some .local:=by rfl):PG ?P (.Name x pos) (Ye i):=Zi hN hi (.inl hf) (.inr hf)
theorem Zse (ok:HOk P w H h) (hfree:H a=none) (hs:Heap.SameBut a h h'):HOk P w H h':=fun b ob e=>by
 refine (ok b ob e).stay (fun c w' hc q=>(hs.2 c ?_).trans q) (fun _ q=>q) fun _ _ q=>q;rintro rfl
 rcases hc with rfl|hc
 · rw [hfree] at e;cases e
 · rw [hfree] at hc;cases hc
theorem Zmy {h1:Heap} (L:LcO X scope cl N fr) (I:Inv X pins σ H s3) (co:CellsOk h1 (s3.z+1) (cellsFrom (s3.z+1) scope.names []))
 (hf:∀ b∈fp,FpOk X pins H b) (hlt:∀ b∈fp,b<s3.z):(blk X scope cl s3.z N s3 H fp).Ok where
 mod:=I.ok.mod
 kind:=L.kind
 glob:=I.ok.glob
 blt:=I.ok.blt
 above:=n11_ _
 inj:=fun x y c h1 h2=>by
  have old:∀ z,cl.lookup z=some c→c<s3.z:=fun z e=>let ⟨_,k⟩:=I.cell z c (L.sub z c e);k.lt;have new:∀ z,(cellsFrom (s3.z+1) scope.names []).lookup z=some c→s3.z+1≤c:=fun z e=>(co.empty z c (n40_ e)).2
  rcases Zbv h1 with a|a<;>rcases Zbv h2 with b|b
  · exact name_of_addr co.apart (n40_ a) (n40_ b)
  · exact absurd (n9_ (old y b) (Nat.le_of_succ_le (new x a))) (n94_ _)
  · exact absurd (n9_ (old x a) (Nat.le_of_succ_le (new y b))) (n94_ _)
  · exact I.ok.inj x y c (L.sub x c a) (L.sub y c b)
 has:=fun x h=>by
  refine Option.isSome_iff_exists.mp (PySem.W.cellsFrom_some scope.names (s3.z+1) cl ?_)
  rcases L.has x h with z|⟨c,z⟩
  · exact .inl z
  · exact .inr (by rw [z];rfl)
 cab:=fun x c h e=>by
  obtain ⟨c',e'⟩:=Zy (sc:=scope) (n:=s3.z+1) (beq_iff_eq.mp (show (scope.names.lookup x == some .cell)=true from h));have e2:(cellsFrom (s3.z+1) scope.names cl).lookup x=some c:=e;rw [Yb,List.lookup_append,e'] at e2;have e3:c'=c:=Option.some.inj e2;subst e3;exact Nat.le_of_succ_le (co.empty x c' (n40_ e')).2
 hd:=I.ok.hd
 frames:=I.ok.frames
 stk:=.inl rfl
 exf:=fun b hb=>⟨n26_ (hlt b hb),fun x c h=>by
  rcases Zbv h with a|a
  · exact n68_ (n9_ (hlt b hb) (Nat.le_of_succ_le (co.empty x c (n40_ a)).2))
  · exact (hf b hb).2.2.2.2.1 x c (L.sub x c a)⟩
 bs:=I.bs
 bsz:=n36_ I.ok.bsz I.sz
 noex:=fun b o e hb=>by
  rcases (hf b hb).2.2.2.1 with z|z
  · exact I.ok.noex b o e z
  · exact absurd (n9_ (n14_ e) (n36_ I.ok.bsz z)) (n94_ _)
 exfs:=fun b hb z=>by
  rcases n13_.mp (I.stkSub b z) with e|e
  · exact (hf b hb).2.1 e
  · exact (hf b hb).2.2.1 e
 funs:=I.stack
 frf:=I.stkFree
theorem Zma {h1:Heap} {t:Nat} (L:LcO X scope cl N fr) (I:Inv X pins σ H s3) (co:CellsOk h1 (s3.z+1) (cellsFrom (s3.z+1) scope.names []))
 (hf:∀ b∈fp,FpOk X pins H b) (hlt:∀ b∈fp,b<s3.z) {m0:Str→?D} (hns:h1.Ns s3.z m0) (hk:∀ b o,s3.heap.get? b=some o→h1.get? b=some o) :
 Inv (blk X scope cl s3.z N s3 H fp) [] (Zar fr σ) H { s3 with heap:=h1,toks:=t } where
 ok:=Zmy L I co hf hlt
 os:=rfl
 bare:=I.bare
 base:=Un.kept hk
 loc:=⟨m0,hns,fun i x v e1 e2 e3=>by
  unfold Zar at e2;rw [n4_] at e2;cases q:fr[i]? with
  | none=>rw [q] at e2;cases e2
  | some o =>
    rw [q] at e2;cases o with
    | none=>cases e2
    | some j =>
      obtain ⟨y,n1,n2,n3,n4,⟨c,hc⟩,n6⟩:=L.from' i j q;have e1':N[i]? = some x:=e1;rw [n1] at e1';cases e1'
      have e2':(match σ[j]? with|some v=>v|none=>none)=some v:=Option.some.inj e2
      have e2'':σ[j]? = some (some v):=by
       cases z:σ[j]? with
       | none=>rw [z] at e2';cases e2'
       | some w'=>rw [z] at e2';rw [show w'=some v from e2']
      obtain ⟨m,_,hl⟩:=I.loc;obtain ⟨u,r,lk⟩:=hl j x v n2 e2'' (.inr n3);refine ⟨u,r,.inr ⟨n4,c,?_,?_⟩⟩
      · show (cellsFrom (s3.z+1) scope.names cl).lookup x=some c
        rw [Yb,List.lookup_append];cases z:(cellsFrom (s3.z+1) scope.names []).lookup x with
        | none=>exact hc
        | some c'=>exact absurd (Zaj _ _ (n40_ z)) n6
      rcases lk with ⟨k,_⟩|⟨k,c',hc',z⟩
      · exfalso
        have k':X.env.scope.names.lookup x=some .local:=k
        rcases n3 with z|z<;>rw [k'] at z<;>cases z
      · rw [L.sub x c hc] at hc';cases hc'
        obtain ⟨o,ho,hd⟩:=z;exact ⟨o,hk _ _ ho,hd⟩⟩
 cell:=fun x c e=>by
  rcases Zbv e with a|a
  · exact ⟨none,(co.empty x c (n40_ a)).1⟩
  · obtain ⟨v,o,ho,hd⟩:=I.cell x c (L.sub x c a);exact ⟨v,o,hk _ _ ho,hd⟩
 free:=I.hok.fresh (n11_ _)
 freeC:=fun x c e=>by
  rcases Zbv e with a|a
  · exact .inl (I.hok.fresh (Nat.le_of_succ_le (co.empty x c (n40_ a)).2))
  · refine (I.freeC x c (L.sub x c a)).imp id fun ⟨_,z⟩=>⟨Bool.eq_false_iff.mpr fun q=>?_,z⟩;obtain ⟨v,oc,hoc,_⟩:=I.cell x c (L.sub x c a);obtain ⟨c',e'⟩:=Zy (sc:=scope) (n:=s3.z+1) (beq_iff_eq.mp (show (scope.names.lookup x == some .cell)=true from q));have e2:(cellsFrom (s3.z+1) scope.names cl).lookup x=some c:=e;rw [Yb,List.lookup_append,e'] at e2;cases e2
    exact absurd (n9_ (n14_ hoc) (Nat.le_of_succ_le (co.empty x c (n40_ e')).2)) (n94_ _)
 pin:=fun p hp=>absurd (show p∈([]:?A) from hp) ?f
 hok:=I.hok.kept hk
 len:=by
  unfold Zar;rw [n7_];exact L.len
def PIfs (X:Cx) (ifs:List Expr) (t:TT):Prop :=
 ∀ (pins:?A) (s:Shared) (σ:St) (H:Hp) (Q:Bool→?y),?p→t σ H Q →
   wpAny ?z X.A (forIn ifs true fun c r=>if r=true then do let ok ← isTrue c X.env (eval c X.env);pure (ForInStep.yield ok) else pure (ForInStep.yield r)) (TP X pins σ Q) X.xe s
def tYes:TT:=fun _ H Q=>Q true H
theorem Zu:PIfs X [] tYes:=fun _ _ _ H _ I h=>wpAny_tests_nil ⟨H,I,h⟩
theorem Zg3 {c:Expr} {t:TT} (h:PT X c t):PIfs X [c] t:=fun pins s σ H Q I hw=>wpAny_tests_one (h pins s σ H Q I hw)
def LcGo (J:It) (g:TG) (tt:TT) (te:TE) (σ0:St) (H1:Hp) (D:Addr) (Q:VK):Prop:=∃ W:Nat→Nat→St→?y,(∃ m,W 0 m σ0 (upd H1 D (.lst []))) ∧
 ∀ i m σ2 H2,W i m σ2 H2→(J.stop i H2∧Q (.ref D) H2)∨(J.go i H2∧∀ x H3,J.yld i H2 x H3→g x σ2 H3 fun σ4 H4=>tt σ4 H4 fun b H5=>if b=true then te σ4 H5 fun y H6=>∃ ys,H6 D=some (.lst ys)∧ys.length<sizeLine ∧
   ∃ m',m'<m∧W (i+1) m' σ4 (upd H6 D (.lst (ys++[y]))) else ∃ m',m'<m∧W (i+1) m' σ4 H5)
def tLC (wi:TI) (g:TG) (tt:TT) (te:TE) (fr:List (Option Nat)):TE:=fun σ H Q=>wi σ H fun J H1=>∀ D,H1 D=none→LcGo J g tt te (Zar fr σ) H1 D Q
abbrev NoX:Value→?k:=fun _ _=>False
theorem Zos {σ7:St} {H3 H7:Hp} {s7:Shared} (I3:Inv X pins σ H3 s3) (f3:∀ b∈fp,FpOk X pins H3 b) (I7:Inv (blk X scope cl s3.z N s3 H3 fp) [] σ7 H7 s7) :
 ∃ m7,s7.heap.Ns s3.z m7∧∀ h8,Heap.SameBut s3.z s7.heap h8→Inv X pins σ H7 { s7 with heap:=h8 }:=by
 obtain ⟨m7,hn7,_⟩:=I7.loc;refine ⟨m7,hn7,fun h8 sb8=>?_⟩;have un:=I7.base;have neC:∀ b o,s3.heap.get? b=some o→b≠s3.z:=fun b o e=>n26_ (n14_ e);refine I3.call' (s':={ s7 with heap:=h8 }) (ch:=fp) I7.os ?_ (Zse I7.hok I7.free sb8) I7.bare (fun b hb=>⟨(f3 b hb).2.2.2.1,(f3 b hb).2.1,(f3 b hb).2.2.2.2.1,(f3 b hb).2.2.2.2.2⟩);refine ⟨fun b o e n' hb hx=>?_,fun b o e n' hb hx=>?_,un.free,fun b o e hx=>?_,un.tups,un.frzs,un.tbls⟩
 · exact sb8.extBut b o (neC b o e) (un.keep b o e n' hb hx)
 · obtain ⟨sl,q⟩:=un.slot b o e n' hb hx;exact ⟨sl,sb8.extBut b _ (neC b o e) q⟩
 · obtain ⟨o',q⟩:=un.there b o e hx;exact ⟨o',sb8.extBut b _ (neC b o e) q⟩
def Zm3 (M:Model) (A:Around) (tg:Expr) (it:Value) (env:Env) (R:Result→?k) (B:Nat→?k) (n:Nat) (s:Shared):Prop :=
 wpAny M A (pyNext it) (fun r s1=>match r with
  | none=>R (.ok .next) s1
  | some v=>wpAny M A (letOwnedTupleGo tg it v) (fun _ s0=>wpAny M A (assign tg env v) (fun _ s2=>B n s2) NoX s0) NoX s1) NoX s
theorem Zdd {s2:Shared} {J:It} {tn:Nat→Heap→Prop} {ac:HO} {o0:Obj} {W:Nat→Nat→St→?y} {m0:Nat} {Qn:?y} {Kn:Nat→Nat→St→?y} {c:Expr} {R:Addr→Result→?k} {B:(Nat→?k)→Nat→?k}
 (hs3:s3={ s2 with heap:=s2.heap.push o0 }) (hc:X.calm=true) (L:LcO X scope cl N fr) (hg:∀ C s3 H3 fp,PG ?P tg g)
 (I2:Inv X pins σ H2 s2) (T:Turn X.prog X.w X.K tg J fp it tn) (st2:tn 0 s2.heap) (f2:∀ b∈fp,FpOk X pins H2 b)
 (ok0:ObjOk X.prog X.w (upd H2 s2.z ac) (s2.heap.push o0) s2.z ac) (w0:W 0 m0 (Zar fr σ) (upd H2 s2.z ac))
 (turn:∀ i m σ2 H2,W i m σ2 H2→(J.stop i H2∧Qn H2)∨(J.go i H2∧∀ x H3,J.yld i H2 x H3→g x σ2 H3 (Kn i m)))
 (start:∀ env s4,codeAny ?z X.A (.compLoop c 0 (.ref it) (.ref s2.z) env) (R s3.z) s4→(∀ E,wpAny ?z X.A (pyIter (.ref it)) (fun it' s'=>codeAny ?z X.A (.compLoop c 0 it' (.ref s2.z) env) (R s3.z) s') E s4)→codeAny ?z X.A (.compStart c 0 (.ref it) (.ref s2.z) env) (R s3.z) s4)
 (loop:∀ (LI:Nat→?k) s4,(∀ n s,LI n s→Zm3 ?z X.A tg (.ref it) (blk X scope cl s3.z N s3 (upd H2 s2.z ac) fp).env (R s3.z) (B LI) n s)→∀ n,LI n s4→codeAny ?z X.A (.compLoop c 0 (.ref it) (.ref s2.z) (blk X scope cl s3.z N s3 (upd H2 s2.z ac) fp).env) (R s3.z) s4)
 (stop:∀ H7 s7,Qn H7→Inv X pins σ (upd H2 s2.z ac) s3→H7 s3.z=none→(∃ m7,s7.heap.Ns s3.z m7∧∀ h8,Heap.SameBut s3.z s7.heap h8→Inv X pins σ H7 { s7 with heap:=h8 })→R s3.z (.ok .next) s7)
 (body:∀ (LI:Nat→?k) n i σ9 H9 s9 ps,Inv (blk X scope cl s3.z N s3 (upd H2 s2.z ac) fp) ps σ9 H9 s9→Kn i n σ9 H9→(∀ {s11:Shared} {σ11:St} {H11:Hp} {m':Nat},Inv (blk X scope cl s3.z N s3 (upd H2 s2.z ac) fp) ps σ11 H11 s11→m'<n→W (i+1) m' σ11 H11→∃ m,m<n∧LI m s11)→B LI n s9) :
 wpAny ?z X.A (newFunctionEnv scope X.env.globals cl [] X.env.qual none .none (some X.env)) (fun cenv s4=>codeAny ?z X.A (.compStart c 0 (.ref it) (.ref s2.z) { cenv with scope:=relabel scope X.env }) (R cenv.locals) s4) X.xe s3:=by
 have fplt:∀ b∈fp,b<s2.z:=fun b hb=>by
  obtain ⟨o,q,_⟩:=T.obj _ _ st2 b hb;exact n14_ q
 have k3:∀ b o,s2.heap.get? b=some o→s3.heap.get? b=some o:=fun b o e=>by rw [hs3];exact n2_ _ e
 have I3:Inv X pins σ (upd H2 s2.z ac) s3:=by rw [hs3];exact I2.laid (t':=s2.toks) (fun b o e=>n2_ _ e) (n11_ _) ok0
 have f3:∀ b∈fp,FpOk X pins (upd H2 s2.z ac) b:=fun b hb=>⟨by rw [Zk (n26_ (fplt b hb))];exact (f2 b hb).1,(f2 b hb).2⟩;have st3:tn 0 s3.heap:=T.keep _ _ _ st2 fun b hb o e=>k3 b o e
 have fplt3:∀ b∈fp,b<s3.z:=fun b hb=>by
  obtain ⟨o,q,_⟩:=T.obj _ _ st2 b hb;exact n14_ (k3 _ _ q)
 generalize upd H2 s2.z ac=H3 at *;refine Zli fun h1 hns1 k4 ok3=>?_;have I4:=Zma (t:=s3.toks) L I3 ok3 f3 fplt3 hns1 k4;have st4:tn 0 h1:=T.keep _ _ _ st3 fun b hb o e=>k4 b o e
 have fpB:∀ {H':Hp} (b:Addr),b∈fp→H' b=none→FpOk (blk X scope cl s3.z N s3 H3 fp) [] H' b:=fun b hb hn =>
  ⟨hn,n26_ (fplt3 b hb),fun z=>(Zmy L I3 ok3 f3 fplt3).exfs b hb z,.inl hb,fun x c e=>((Zmy L I3 ok3 f3 fplt3).exf b hb).2 x c e,fun p hp=>absurd (show p∈([]:?A) from hp) ?f⟩
 have lp:=loop (fun n s'=>∃ i σ' H',Inv (blk X scope cl s3.z N s3 H3 fp) [] σ' H' s'∧tn i s'.heap∧(∀ b∈fp,H' b=none)∧W i n σ' H') { s3 with heap:=h1 } (fun n s6=>?_) m0 ⟨0,_,_,I4,st4,fun b hb=>(f3 b hb).1,w0⟩
 · exact start _ _ lp fun E=>T.self _ 0 _ _ _ st4 lp
 · rintro ⟨i,σ6,H6,I6,st6,fr6,w6⟩
   unfold Zm3
   rcases turn i n σ6 H6 w6 with ⟨sp,qn⟩|⟨go,step⟩
   · refine thn (T.done (blk X scope cl s3.z N s3 H3 fp) rfl rfl rfl hc i [] s6 σ6 H6 (fun _ _=>False) I6 (fun b hb=>fpB b hb (fr6 b hb)) st6 sp) fun r s7 ⟨hr,I7⟩=>?_;subst hr;exact stop _ _ qn I3 I7.free (Zos I3 f3 I7)
   · refine thn (T.item (blk X scope cl s3.z N s3 H3 fp) rfl rfl rfl hc i [] s6 σ6 H6 (fun _ _=>False) I6 (fun b hb=>fpB b hb (fr6 b hb)) st6 go) fun r s7 ⟨u,hr,h7⟩=>?_;subst hr;refine thn h7 fun _ s8 ⟨x,H8,I8,r8,y8,st8,fr8⟩=>?_;have I8':=I8.pinned (fun b hb=>fpB b hb (fr8 b hb)) (T.obj _ _ st8);refine thn (hg _ _ _ _ _ s8 σ6 H8 x u _ I8' r8 (step x H8 y8)) fun _ s9 ⟨σ9,H9,I9,q9⟩=>?_;refine body _ n i σ9 H9 s9 _ I9 q9 fun {s11 σ11 H11 m'} I11 hm w11=>?_;refine ⟨m',hm,i+1,σ11,H11,I11.unpinned,T.keep _ _ _ st8 fun b hb o e=>(I11.pin (b,o) (n33_ _ (n33_ _ (Xd hb e)))).1,fun b hb=>?_,w11⟩;obtain ⟨o,e,d⟩:=T.obj _ _ st8 b hb;exact (I11.pin (b,o) (n33_ _ (n33_ _ (Xd hb e)))).2.1
theorem Zmw {ifs:List Expr} {W:Nat→Nat→St→?y} {C0:Addr} {s30:Shared} {H30:Hp} {fp0:List Addr}
 (ht:∀ C s3 H3 fp,PIfs ?P ifs tt) (he:∀ C s3 H3 fp,PE ?P elt te) (LI:Nat→?k) (n i:Nat) (σ9:St) (H9:Hp) (s9:Shared) (ps:?A) (I9:Inv (blk X scope cl C0 N s30 H30 fp0) ps σ9 H9 s9)
 (q9:tt σ9 H9 fun b H5=>if b=true then te σ9 H5 fun y H6=>∃ ys,H6 D=some (.lst ys)∧ys.length<sizeLine∧∃ m',m'<n∧W (i+1) m' σ9 (upd H6 D (.lst (ys++[y]))) else ∃ m',m'<n∧W (i+1) m' σ9 H5)
 (again:∀ {s11:Shared} {σ11:St} {H11:Hp} {m':Nat},Inv (blk X scope cl C0 N s30 H30 fp0) ps σ11 H11 s11→m'<n→W (i+1) m' σ11 H11→∃ m,m<n∧LI m s11) :
 wpAny ?z X.A (forIn ifs true fun c r=>if r=true then do let ok ← isTrue c (blk X scope cl C0 N s30 H30 fp0).env (eval c (blk X scope cl C0 N s30 H30 fp0).env);pure (ForInStep.yield ok) else pure (ForInStep.yield r)) (fun ok s₃ =>
  if ok=true then wpAny ?z X.A (eval elt (blk X scope cl C0 N s30 H30 fp0).env) (fun x s₄ =>
   wpAny ?z X.A (call (.builtin "list.append") [.ref D,x]) (fun _ s₅=>∃ m,m<n∧LI m s₅) (fun _ _=>False) s₄) (fun _ _=>False) s₃
  else ∃ m,m<n∧LI m s₃) (fun _ _=>False) s9:=by
 refine thn (ht _ _ _ _ ps s9 σ9 H9 _ I9 q9) fun b s10 ⟨H10,I10,q10⟩=>?_;cases b with
 | false =>
   obtain ⟨m',hm,w11⟩:=q10;exact again I10 hm w11
 | true =>
   refine thn (he _ _ _ _ ps s10 σ9 H10 _ I10 q10) fun y s11 zq=>?_;obtain ⟨yv,H11,I11,r11,ys,hys,hz,m',hm,w11⟩:=zq
   have ap:=Xa (X:=blk X scope cl C0 N s30 H30 fp0) _ s11 σ9 H11 (.ref D) [yv] (.ref D) [y] (fun _ H'=>W (i+1) m' σ9 H') I11 rfl (.cons r11 .nil)
    ⟨_,ys,yv,rfl,rfl,hys,hz,w11⟩
   exact thn ap fun _ s12 ⟨_,H12,I12,_,q12⟩=>again I12 hm q12
theorem Zjr {Q:VK} {H7:Hp} {s7:Shared} (qn:Q (.ref D) H7) (c:∃ m7,s7.heap.Ns C m7∧∀ h8,Heap.SameBut C s7.heap h8→Inv X pins σ H7 { s7 with heap:=h8 }):compPost ?z X.A X.xe none (EP X pins σ Q) (.ref D) C (.ok .next) s7 :=
 let ⟨m7,hn7,c7⟩:=c
 ⟨m7,hn7,fun h8 sb8=>⟨.ref _,H7,c7 h8 sb8,rfl,qn⟩⟩
theorem Y4 {ifs:List Expr}
 (hc:X.calm=true) (L:LcO X scope cl N fr) (hi:PI X tg iter wi) (hg:∀ C s3 H3 fp,PG ?P tg g)
 (ht:∀ C s3 H3 fp,PIfs ?P ifs tt) (he:∀ C s3 H3 fp,PE ?P elt te)
 (hs:∀ x,foldedSetIterable iter X.env x=pure x:=by intro _;rfl):PE X (.ListComp elt [⟨tg,iter,ifs,0⟩] scope pos) (tLC wi g tt te fr):=by
 intro pins s σ H Q I h;rw [eval_ListComp];refine ?Y;obtain ⟨it,fp,tn,J,H2,e,I2,T,st2,f2,h⟩:=h2;subst e;obtain ⟨W,⟨m0,w0⟩,turn⟩:=h s2.z (I2.hok.fresh (n11_ _));refine wpAny_newObj_type ?_;refine Zdd (ac:=.lst []) rfl hc L hg I2 T st2 f2 ⟨n45_ _,[],_,.nil,n8_ _ rfl⟩ w0 turn (fun _ _ a b=>codeAny_compStart_list a (b _)) (fun LI s4 t n h=>Zcz LI t n h) (fun H7 s7 qn _ _ c=>Zjr qn c) (Zmw ht he)
def LcN (n:Nat) (Pv:Nat→St→?y) (i m:Nat) (σ:St) (H:Hp):Prop:=i≤n∧m=n-i∧Pv i σ H
section
variable {X:Cx}
def Zv6 (i j:Int):Prop:=j≠0∧j.natAbs<2^8999
theorem Zrh {a:Nat} (h:a<2^n) (hn:0<n):a.log2<n:=by
 rcases Nat.eq_zero_or_pos a with rfl|hp
 · simpa using hn
 · exact (Nat.log2_lt (n68_ hp)).mpr h
theorem Xh:OpR X (binaryOp .FloorDiv) (rI Zv6 fun i j=>.int (i.fdiv j)):=opI fun _ _ _ _ _ _ _ hc q=>floordiv_int hc.1 q (.inl (PyProof.noPylong_of_log2 (Nat.lt_trans (Zrh hc.2 ?e) ?e)))
def CMulB (i j:Int):Prop:=i.natAbs<2^1000000∧j.natAbs<2^1000000
theorem Zjh {i:Int} (h:i.natAbs<2^n) (hn:0<n):Builtin.Int.intBits i≤n:=by
 unfold Builtin.Int.intBits;split
 · exact n45_ _
 · exact Zrh h hn
theorem CMulB.ok {i j:Int} (h:CMulB i j):IntMulOk i j:=by
 unfold IntMulOk;have h1:=Zjh h.1 ?e;have h2:=Zjh h.2 ?e
 have:Builtin.Int.intTooBig (Builtin.Int.intBits i+Builtin.Int.intBits j:Nat)=false:=by
  unfold Builtin.Int.intTooBig bitsLine;refine n29_ ?_;omega
 intro z;rw [n35_] at z;rw [show ((Builtin.Int.intBits i:Int)+(Builtin.Int.intBits j:Int))=((Builtin.Int.intBits i+Builtin.Int.intBits j:Nat):Int) by omega,this] at z;exact absurd z.2 ?e
theorem Zp:OpR X (binaryOp .Mult) (rI CMulB fun i j=>.int (i*j)):=opI fun _ _ _ _ _ _ _ hc q=>mul_int q hc.ok
inductive BxRc_isi (K:PySem.W.Frag) (xs:List V) (H:Hp) (Q:VK):Prop
 | mk (x:_) (T:_) (t:_) (b:_) (q1:xs=[x,.ty T]) (q2:TyOf K H x t) (q3:PySem.W.kitOne K t (.type T)=some b) (q4:Q (.bl b) H):BxRc_isi K xs H Q
def Zuo (K:PySem.W.Frag):?N:=fun xs H Q=>BxRc_isi K xs H Q
theorem Zdc:Xe X (.builtin "isinstance") (Zuo X.K):=by
 intro pins s σ H xs us Q I r h;obtain ⟨x,T,t,b,rfl,ty,e,q⟩:=h;cases r with
 | cons rx r =>
   cases r with
   | cons ry r =>
     cases r
     cases (show _=Value.type T from ry)
     exact Zod I rx ty e fun tk=>⟨.bl b,H,I.tok _,rfl,q⟩
theorem Zep {bs:List Bool}:∀ {us:?q} {i:Nat} {v:Value},Vals (bs.map V.bl) us→us[i]? = some v→∃ b,bs[i]? = some b∧v=Value.bool b:=by
 induction bs with
 | nil=>intro us i v h e;cases h;cases e
 | cons b bs ih =>
   intro us i v h e;cases h with
   | cons r t =>
     cases i with
     | zero=>cases e;exact ⟨b,rfl,r⟩
     | succ i=>obtain ⟨c,h1,h2⟩:=ih t e;exact ⟨c,h1,h2⟩
theorem Ze3:∀ (bs:List Bool),((List.range bs.length).all fun i=>(bs[i]?).getD true)=bs.all id
 | []=>rfl
 | b :: bs=>by
   rw [n21_,List.range_succ_eq_map,List.all_cons,List.all_map,List.all_cons,← Ze3 bs];rfl
theorem Zjg (hk:∀ b x,b∉[s.z]→(s.heap.push o).get? b=some x→h'.get? b=some x):∀ b x,?I=some x→h'.get? b=some x :=
 fun b x e=>hk b x (fun hm=>by rw [n22_.mp hm] at e;exact n94_ _ (n14_ e)) (n2_ _ e)
inductive BxRc_allB (K:PySem.W.Frag) (xs:List V) (H:Hp) (Q:VK):Prop
 | mk (p:Addr) (bs:List Bool) (q1:xs=[.ref p]) (q2:SqL K H p (bs.map V.bl)) (q3:Q (.bl (bs.all id)) H):BxRc_allB K xs H Q
def Zr1 (K:PySem.W.Frag):?N:=fun xs H Q=>BxRc_allB K xs H Q
theorem Yo (hc:X.calm=true):Xe X (.builtin "all") (Zr1 X.K):=by
 intro pins s σ H xs us Q I r h;obtain ⟨p,bs,rfl,hq,q⟩:=h;cases r with
 | cons rx r =>
   cases r
   cases (show _=Value.ref p from rx)
   obtain ⟨its,rv,pl,hz⟩:=I.list hq;have hl:=pl.isList;have hlt:p<s.z:=by obtain ⟨_,e,_⟩:=hl;exact n14_ e
   have hh:X.A.handled=none:=I.ok.hd hc;refine call_all_walk (wpAny_pyIter_list hl ?_)
   refine ⟨s.z,[s.z,p],[s.z],its.toArray.size,_,_,fun i=>(bs[i]?).getD true,rfl,Walks.list (A:=X.A.in1) hh _ p (n26_ hlt) its.toArray,
    ⟨⟨_,n8_ _ rfl,rfl,rfl⟩,hl.push _⟩,fun i v s' Q' E' hP hQ=>?_,fun h' tk hk=>?_⟩
   · obtain ⟨b,e,rfl⟩:=Zep rv (show its[i]? = some v by simpa using hP);simp only [e,Option.getD_some] at hQ;exact wpAny_truthy_bool hQ
   · have e:((List.range its.toArray.size).all fun i=>(bs[i]?).getD true)=bs.all id:=by
      rw [n16_,← rv.length,n7_];exact Ze3 bs
     rw [e];exact ⟨.bl _,H,I.kept (Zjg hk),rfl,q⟩
end
structure Cal (P:Program) (w:World) (K:PySem.W.Frag) (mg:Str→?D) (base:Heap) (x:Str) (k:Nat) (ps:List Str) (sp:Sp):Prop where
 ex:∃ (f:Addr) (fd:FuncData),FnOk P w K mg base CX0 k f fd ps sp∧mg x=some (.ref f)∧PySem.W.keepIn K (.ref f)=true∧Binds K fd ps []
theorem Zj {sp:Sp} {es:List Expr} {t:TA} (C:Cal X.prog X.w X.K X.mg X.base x k ps sp) (hr:Room j X.A) (hj:k≤j) (hg:Gl X x) (ha:PA X (e :: es) t)
 (hdb:(x == ("__debug__" : Str))=false:=by decide) (he:starEach (e :: es) X.env=(false,eval e X.env) :: starEach es X.env:=by rfl) (hpl:(backTo pos (starEach es X.env)).any (·.1)=false:=by rfl) :
 PE X (.Call (.Name x p) (e :: es) [] pos) (fun σ H Q=>t σ H fun vs H1=>sp vs H1 Q E0):=by
 obtain ⟨f,fd,F,hm,hk,hb⟩:=C.ex;have h:=Zoo (dvs:=[]) (E:=E0) (p:=p) F (hr.mono hj) hg hm hk hb .nil Zt1 ha hdb he hpl;intro pins s σ H Q I hw;refine h pins s σ H Q I ?_;unfold Zs6
 simpa only [List.append_nil] using hw
structure FunD (K:PySem.W.Frag) (x qual:Str) (st:Stmt) (f:Addr) (fd:FuncData):Prop where
 ex:∃ (oc:Value) (od:Option Addr) (dV kV doc pm:Value) (an:Option Addr) (cdv ct:Value) (osl:Array (?D)),
  fd=PySem.W.fnOf x qual (Y8 st) (Ys st) (Zf st) dV kV doc pm an cdv ct∧K.lookup f=some ⟨oc,od,.func fd,osl⟩∧PySem.W.codeIn K cdv qual=true
 kp:PySem.W.keepIn K (.ref f)=true
section
variable {P:Program} {w:World} {K:PySem.W.Frag} {mg:Str→?D} {base:Heap}
theorem FunD.ok {sp:Sp} (F:FunD K x qual st f fd) (S:FnScope N ps (Zf st)) (len:∀ vs H Q E,sp vs H Q E→vs.length=ps.length)
 (hbody:∀ (cdv:Value) (A:Around) (outer:List Env) (s:Shared) (H:Hp) (vs:List V) (Q:VK) (E:XK),Room k (A.deeper (envOfC qual (Zf st) s.z f cdv))→sp vs H Q E →
   ∃ t,PSs (cxOf CX0 P w K mg base N qual (Zf st) f cdv A outer s H E).nox (Ys st) t∧t { nx:=fun _ H'=>Q .non H',rt:=Q } (start N vs) H):FnOk P w K mg base CX0 (k+1) f fd ps sp:=by
 obtain ⟨oc,od,dV,kV,doc,pm,an,cdv,ct,osl,rfl,lk,hcd⟩:=F.ex;refine Zu1 lk hcd S len fun A outer s H vs Q E hr hsp=>?_;obtain ⟨t,h,q⟩:=hbody cdv A outer s H vs Q E hr hsp;exact ⟨t,h.nox,q⟩
theorem Zr2 {oc:Value} {od an:Option Addr} {osl:Array (?D)} {dV kV doc pm cdv ct:Value} (l:K.lookup f=some ⟨oc,od,.func (PySem.W.fnOf x qual (Y8 st) (Ys st) (Zf st) dV kV doc pm an cdv ct),osl⟩)
 (c:PySem.W.codeIn K cdv qual=true) (k:PySem.W.keepIn K (.ref f)=true):FunD K x qual st f (PySem.W.fnOf x qual (Y8 st) (Ys st) (Zf st) dV kV doc pm an cdv ct):=⟨⟨oc,od,dV,kV,doc,pm,an,cdv,ct,osl,rfl,l,c⟩,k⟩
end
structure CalD (P:Program) (w:World) (K:PySem.W.Frag) (mg:Str→?D) (base:Heap) (x:Str) (k:Nat) (ps:List Str) (dvs:List V) (sp:Sp):Prop where
 ex:∃ (f:Addr) (fd:FuncData) (ds:?q),FnOk P w K mg base CX0 k f fd ps sp∧mg x=some (.ref f)∧PySem.W.keepIn K (.ref f)=true∧Binds K fd ps ds∧Vals dvs ds
theorem Zsk {dvs:List V} {sp:Sp} {es:List Expr} {t:TA} (C:CalD X.prog X.w X.K X.mg X.base x k ps dvs sp) (hr:Room j X.A) (hj:k≤j) (hg:Gl X x) (ha:PA X (e :: es) t)
 (hdb:(x == ("__debug__" : Str))=false:=by decide) (he:starEach (e :: es) X.env=(false,eval e X.env) :: starEach es X.env:=by rfl) (hpl:(backTo pos (starEach es X.env)).any (·.1)=false:=by rfl) :
 PE X (.Call (.Name x p) (e :: es) [] pos) (fun σ H Q=>t σ H fun vs H1=>sp (vs++dvs) H1 Q E0):=by
 obtain ⟨f,fd,ds,F,hm,hk,hb,hd⟩:=C.ex;exact Zoo (dvs:=dvs) (E:=E0) (p:=p) F (hr.mono hj) hg hm hk hb hd Zt1 ha hdb he hpl
def Keep (l:Addr) (H H':Hp):Prop:=∀ b o,b≠l→H b=some o→H' b=some o
theorem Keep.refl (l:Addr) (H:Hp):Keep l H H:=fun _ _ _ h=>h
theorem Keep.trans {H1:Hp} (a:Keep l H H1) (b:Keep l H1 H2):Keep l H H2:=fun c o n h=>b c o n (a c o n h)
theorem Keep.new {p:Addr} {o:HO} (h:H p=none):Keep l H (upd H p o):=fun b u _ e=>by rw [Zk (Zm e h)];exact e
theorem Keep.upd {o:HO}:Keep l H (upd H l o):=fun b u n e=>by rw [Zk n];exact e
theorem Same.new {p:Addr} {o:HO} (h:H p=none):Same H (upd H p o):=fun b u e=>by rw [Zk (Zm e h)];exact e
theorem Same.keep (s:?E):Keep l H H':=fun b o _ e=>s b o e
inductive BxTPar3 (i j k:Nat) (D:Ends) (σ:St) (vs:List V) (H1:Hp):Prop
 | mk (v:_) (w:_) (x:_) (q1:vs=[v,w,x]) (q2:D.nx (((σ.set i (some v)).set j (some w)).set k (some x)) H1):BxTPar3 i j k D σ vs H1
def Zwk (i j k:Nat) (ta:TA):TS:=fun D σ H=>ta σ H fun vs H1=>BxTPar3 i j k D σ vs H1
theorem Zjd {y z:Str} {a b c:Expr} {px py pz pt:Pos} {kt k2 pt2} (hc:X.calm=true) (hN:X.N.Nodup) (hi:X.N[i]? = some x) (hj:X.N[j]? = some y) (hk:X.N[k]? = some z) (hij:i≠j) (hik:i≠k) (hjk:j≠k)
 (hx:X.env.scope.names.lookup x=some .local) (hy:X.env.scope.names.lookup y=some .local) (hz:X.env.scope.names.lookup z=some .local) (ha:PA X [a,b,c] ta)
 (hw:swappedStores [.Tuple [.Name x px,.Name y py,.Name z pz] kt pt] (.Tuple [a,b,c] k2 pt2) X.env=pure (some [x,y,z]))
 (hs:swapsWithSole [.Tuple [.Name x px,.Name y py,.Name z pz] kt pt] (.Tuple [a,b,c] k2 pt2) pos.line X.env=pure false:=by rfl) :
 PS X (.Assign [.Tuple [.Name x px,.Name y py,.Name z pz] kt pt] (.Tuple [a,b,c] k2 pt2) pos) (Zwk i j k ta):=by
 intro pins s σ H D I h;rw [exec_Assign_arm];refine n0_ (wpAny_standAt ?_);rw [hs];refine n0_ (n3_ ?_);rw [if_neg ?e];refine n0_ (Tuple_ (thn (ha _ pins s σ H _ I h) fun us s1 ⟨vs,H1,I1,r1,q1⟩=>?_));obtain ⟨v,w,x',e1,q1⟩:=q1;subst e1
 obtain ⟨u1,u2,u3,rfl,rv,rw',rx⟩:∃ u1 u2 u3,us=[u1,u2,u3]∧RelV v u1∧RelV w u2∧RelV x' u3:=by
  cases r1 with
  | cons p q =>
    cases q with
    | cons p' q' =>
      cases q' with
      | cons p'' q'' =>
        cases q''
        exact ⟨_,_,_,rfl,p,p',p''⟩
 refine wpAny_newObj_type ?_ (z3_);have I2:Inv X pins σ H1 { s1 with heap:=s1.heap.push { cls:=?G,data:=.seq [u1,u2,u3].toArray } }:=I1.kept (t':=s1.toks) fun b o e=>n2_ _ e;rw [hw];refine n0_ (n3_ ?_);show wpAny ?z X.A (do rule "assign.swapped-stores";let items ← unpackItems (.ref s1.z) 3 none;assignInOrder [fun v=>bindName X.env z v,fun v=>bindName X.env y v,fun v=>bindName X.env x v] items.reverse;pure Flow.next) _ _ _
 refine n0_ (wpAny_rule (n0_ (unpackItems_tuple (items:=#[u1,u2,u3]) (I.ok.hd hc) (IsTup.new s1.heap _) fun h' hx'=>?_)));have I3:=I2.kept (h':=h') (t':=s1.toks) fun b o e=>hx' b o (n26_ (n14_ e)) e;show wpAny _ _ (assignInOrder [fun v=>bindName X.env z v,fun v=>bindName X.env y v,fun v=>bindName X.env x v] [u3,u2,u1] >>= fun _=>pure Flow.next) _ _ _
 refine n0_ (assignInOrder_cons (wpAny_bindName (Zaf I3 hN hk (.inl hz) rx (fun s2 I4=>?_) (.inr hz))));refine assignInOrder_cons (wpAny_bindName (Zaf I4 hN hj (.inl hy) rw' (fun s3 I5=>?_) (.inr hy)));refine assignInOrder_cons (wpAny_bindName (Zaf I5 hN hi (.inl hx) rv (fun s4 I6=>assignInOrder_nil (n3_ ?_)) (.inr hx)))
 have e:(((σ.set k (some x')).set j (some w)).set i (some v))=(((σ.set i (some v)).set j (some w)).set k (some x')):=by
  rw [List.set_comm _ _ (Ne.symm hij),List.set_comm _ _ (Ne.symm hik),List.set_comm _ _ (Ne.symm hjk)]
 rw [e] at I6;exact ⟨_,H1,I6,q1⟩
theorem Zd9:∀ (xs:List PyData),(PyData.shownAll xs).length=xs.length
 | []=>rfl
 | _ :: xs=>by simp only [PyData.shownAll,n21_,Zd9 xs]
section
variable {X:Cx}
end
mutual
inductive Dt (N:Addr→Prop) (H:Hp) (k:Nat):V→PyData→Prop
 | non:Dt N H k .non .none
 | bl (b:Bool):Dt N H k (.bl b) (.bool b)
 | int {i:Int}:i.natAbs<2^k→Dt N H k (.int i) (.int i)
 | str (x:Str):Dt N H k (.str x) (.str x)
 | tup {a:Addr} {xs:List V} {ds:List PyData}:H a=some (.tup xs)→Dts N H k xs ds→Dt N H k (.ref a) (.tuple ds)
 | lst {a:Addr} {xs:List V} {ds:List PyData}:H a=some (.lst xs)→¬ N a→a≠sysModules→Dts N H k xs ds→Dt N H k (.ref a) (.list ds)
 | dic {a:Addr}:H a=some (.dK [])→Dt N H k (.ref a) (.dict [])
inductive Dts (N:Addr→Prop) (H:Hp) (k:Nat):List V→List PyData→Prop
 | nil:Dts N H k [] []
 | cons {x:V} {xs:List V} {d:PyData} {ds:List PyData}:Dt N H k x d→Dts N H k xs ds→Dts N H k (x :: xs) (d :: ds)
end
variable {N:Addr→Prop} {k:Nat}
mutual
theorem Dt.reads {X:Cx} {pins:?A} {σ:St} {H:Hp} {s:Shared} (I:?p):∀ {v:V} {d:PyData} {u:Value},Dt N H k v d→RelV v u→∃ as,Reads s.heap u d as∧sysModules∉as
 | _,_,_,.non,r=>by cases r;exact ⟨_,.none,by simp⟩
 | _,_,_,.bl b,r=>by cases r;exact ⟨_,.bool b,by simp⟩
 | _,_,_,.int (i:=i) _,r=>by obtain ⟨t,rfl⟩:=r;exact ⟨_,.int i t,by simp⟩
 | _,_,_,.str x,r=>by obtain ⟨t,rfl⟩:=r;exact ⟨_,.str x t,by simp⟩
 | _,_,_,.tup (a:=a) (xs:=xs) h rs,r=>by
   cases r
   obtain ⟨_,its,rv,o,e,⟨hc,_⟩,n,hd⟩:=(show ObjOk X.prog X.w H s.heap a (.tup xs) from I.hok a _ h);obtain ⟨as,ra,na⟩:=Dts.reads I rs rv;exact ⟨_,.tuple e hc hd (by simpa using ra),na⟩
 | _,_,_,.lst (a:=a) (xs:=xs) h _ ns rs,r=>by
   cases r
   obtain ⟨_,its,n,rv,e⟩:=(show ObjOk X.prog X.w H s.heap a (.lst xs) from I.hok a _ h);obtain ⟨as,ra,na⟩:=Dts.reads I rs rv
   exact ⟨_,.list e rfl rfl (by simpa using ra),by
    intro hm
    rcases n13_.mp hm with e|e
    · exact ns e.symm
    · exact na e⟩
 | _,_,_,.dic (a:=a) h,r=>by
   cases r
   obtain ⟨_,hS,vs,rel,o,es,ep,e,ex,hd,_,he,_⟩:=(show ObjOk X.prog X.w H s.heap a (.dK []) from I.hok a _ h);cases rel
   have hes:es.toList=[]:=by
    generalize es.toList=z at he;cases he
    rfl
   refine ⟨_,.dict (kvs:=[]) (as:=[]) (bs:=[]) e ex.1 hd (by rw [hes];exact .nil) (by rw [hes];exact .nil),?_⟩;intro hm
   have:sysModules=a:=by simpa using hm
   rw [this] at hS;simp at hS
theorem Dts.reads {X:Cx} {pins:?A} {σ:St} {H:Hp} {s:Shared} (I:?p):∀ {vs:List V} {ds:List PyData} {us:?q},Dts N H k vs ds→Vals vs us→∃ as,ReadsAll s.heap us ds as∧sysModules∉as
 | _,_,_,.nil,.nil=>⟨_,.nil,by simp⟩
 | _,_,_,.cons r rs,.cons q qs=>by
   obtain ⟨as,ra,na⟩:=Dt.reads I r q;obtain ⟨bs,rb,nb⟩:=Dts.reads I rs qs
   exact ⟨_,.cons ra rb,by
    intro hm
    rcases n39_.mp hm with e|e
    · exact na e
    · exact nb e⟩
end
mutual
def nz:PyData→Nat
 | .none=>1
 | .bool _=>1
 | .int _=>1
 | .str x=>(reprText x).length
 | .list xs=>1+Zb9 xs
 | .tuple xs=>1+Zb9 xs
 | .dict _=>1
def Zb9:List PyData→Nat
 | []=>0
 | x :: xs=>nz x+1+Zb9 xs
end
theorem Zcj {i:Int} (h:i.natAbs<2^n) (hn:n<1920):i.natAbs.log2<1920:=by
 rcases Nat.eq_zero_or_pos n with rfl|hp
 · have:i.natAbs=0:=by simpa using h
   rw [this];decide
 · by_cases h0:i.natAbs=0
   · rw [h0];decide
   · exact Nat.lt_trans ((Nat.log2_lt h0).mpr h) hn
mutual
theorem Dt.showable {H:Hp} (hk:k<1920):∀ {v:V} {d:PyData},Dt N H k v d→d.showable=true
 | _,_,.non=>rfl
 | _,_,.bl b=>rfl
 | _,_,.int h=>n44_ (Zcj h hk)
 | _,_,.str x=>rfl
 | _,_,.tup h r=>Dts.showable hk r
 | _,_,.lst h n m r=>Dts.showable hk r
 | _,_,.dic h=>rfl
theorem Dts.showable {H:Hp} (hk:k<1920):∀ {vs:List V} {ds:List PyData},Dts N H k vs ds→PyData.showableAll ds=true
 | _,_,.nil=>rfl
 | _,_,.cons r rs=>by
   show (_&&_)=true
   rw [Dt.showable hk r,Dts.showable hk rs];rfl
end
mutual
theorem Dt.shownLen {H:Hp} (hk:k<1920):∀ {v:V} {d:PyData},Dt N H k v d→d.shown.length≤2000*nz d
 | _,_,.non=>?i
 | _,_,.bl true=>?i
 | _,_,.bl false=>?i
 | _,_,.int (i:=i) h=>by
   have:=int_text_length_le ?e (Zcj h hk)
   show (Str.ofString (toString i)).length≤2000*1
   rw [PySem.ofString_length];omega
 | _,_,.str x=>by
   show (reprText x).length≤2000*(reprText x).length
   omega
 | _,_,.tup (ds:=ds) h r=>by
   have:=Dts.shownLen hk r
   have z:=tupleText_len_le (PyData.shownAll ds);rw [Zd9] at z;show (tupleText (PyData.shownAll ds)).length≤2000*(1+Zb9 ds)
   omega
 | _,_,.lst (ds:=ds) h n m r=>by
   have:=Dts.shownLen hk r
   have z:=listText_len_le (PyData.shownAll ds);rw [Zd9] at z;show (listText (PyData.shownAll ds)).length≤2000*(1+Zb9 ds)
   omega
 | _,_,.dic h=>?i
theorem Dts.shownLen {H:Hp} (hk:k<1920):∀ {vs:List V} {ds:List PyData},Dts N H k vs ds→((PyData.shownAll ds).map (·.length)).sum+2*ds.length≤2000*Zb9 ds
 | _,_,.nil=>by simp [PyData.shownAll,Zb9]
 | _,_,.cons r rs=>by
   have a:=Dt.shownLen hk r;have b:=Dts.shownLen hk rs;simp only [PyData.shownAll,Zb9,n38_,n65_,n21_];omega
end
section
variable {X:Cx}
inductive BxRc_reprD  (xs:List V) (H:Hp) (Q:VK):Prop
 | mk (N:_) (k:_) (v:_) (d:_) (q1:xs=[v]) (q2:Dt N H k v d) (q3:k<1920) (q4:d.depth≤20) (q5:nz d≤8000) (q6:Q (.str d.shown) H):BxRc_reprD xs H Q
def Zpc  : ?N:=fun xs H Q=>BxRc_reprD xs H Q
theorem Zbd (hr:Room j X.A):Xe X (.builtin "repr") (Zpc):=by
 intro pins s σ H xs us Q I r h;obtain ⟨N,k,v,d,rfl,rd,hk,h3,h4,q⟩:=h;have h1:=rd.showable hk
 have hz:d.shown.length≤sizeLine:=by
  have:=rd.shownLen hk
  have e:sizeLine=16777216:=sizeLine_eq;omega
 cases r with
 | cons rx r =>
   cases r
   have hu:=hr.un;have R:=Dt.reads I rd rx
   have go:∀ a,RelV v (Value.ref a)→wpAny ?z X.A (call (.builtin "repr") [Value.ref a]) (EP X pins σ Q) X.xe s:=fun a rx=>by
    obtain ⟨as,ra,na⟩:=Dt.reads I rd rx;exact repr_of_reads' ra h1 (fun _=>na) hr.gd (?d) (fun _ _ e=>e) (fun h' u tk hk=>⟨.str _,H,I.kept hk,⟨_,rfl⟩,q⟩) hz
   cases rd with
   | non=>cases (show _=Value.none from rx);exact PySem.P.repr_of_none ⟨.str _,H,I.tok _,⟨_,rfl⟩,q⟩
   | bl b=>cases (show _=Value.bool b from rx);exact PySem.P.repr_of_bool ⟨.str _,H,I.tok _,⟨_,rfl⟩,q⟩
   | int hi=>obtain ⟨t,rfl⟩:=(show ∃ t,_=Value.int _ t from rx);exact PySem.P.repr_of_int (Zcj hi hk) ⟨.str _,H,I.tok _,⟨_,rfl⟩,q⟩
   | str x=>obtain ⟨t,rfl⟩:=(show ∃ t,_=Value.str x t from rx);exact PySem.P.repr_of_str ⟨.str _,H,I.tok _,⟨_,rfl⟩,q⟩ hz
   | tup h rs=>cases (show _=Value.ref _ from rx);exact go _ rx
   | lst h n m rs=>cases (show _=Value.ref _ from rx);exact go _ rx
   | dic h=>cases (show _=Value.ref _ from rx);exact go _ rx
end
end L2
namespace HT
open PySem PyProof.Rows
section
variable {prog:Program} {w:World} {A:Around} {E:Value→?k} {s:Shared}
theorem getItem_tuple_whole {t sl:Addr} {items:?H} {vl vu:Value} {lo hi:Option Int} {Q:Value→?k} (ht:IsTup s.heap t items) (hs:s.heap.IsSliceOf sl vl vu .none) (pl:IsPart vl lo) (pu:IsPart vu hi)
 (hw:sIx items.size 0 lo=0∧sIx items.size items.size hi=items.size)
 (h:Q (.ref t) s):wpAny ?s A (getItem (.ref t) (.ref sl)) Q E s:=by
 obtain ⟨os,hos,hcs,hds⟩:=id hs;have hTs:s.TypeIs (.ref sl) "slice" := ⟨os,hos,hcs⟩;unfold getItem
 try with_reducible refine n34_ ?_
 first|refine n0_ (n3_ ?_)|skip
 refine n0_ (wpAny_sequenceKey ht.typeIs ?e ?_)
 refine n0_ (wpAny_callSpecial?_slot (name:=Str.ofString "__getitem__") ht.typeIs PyProof.Rows.slot_tuple_getitem
  (wpAny_call_entry PyProof.Rows.slot_tuple_getitem ht.typeIs entry_tuple_getitem ?_ (args_tuple_getitem _ _)))
 show wpAny _ _ (Builtin.Tuple.tupleItemsOf (.ref t) >>= _) _ _ s
 refine n0_ (tupleItemsOf_ ht ?_);refine n0_ (wpAny_typeOf hTs ?_);rw [if_pos ?e];refine n0_ (Zau hs pl pu ?_);rw [hw.1,hw.2];have hyes:(((0:Nat):Int) == 0&&(1:Int) == 1&&(items.size-0) == items.size)=true:=by simp
 show wpAny _ _ (if (((0:Nat):Int) == 0&&(1:Int) == 1&&(items.size-0) == items.size)=true then _ else _) _ _ s
 rw [if_pos hyes];have hx:(Builtin.Tuple.tupleIsExact (.ref t))=(do pure ((← typeOf (.ref t)) == ?G)):=by first|rfl|(unfold Builtin.Tuple.tupleIsExact;rfl)
 rw [hx];refine n0_ (n0_ (wpAny_typeOf ht.typeIs (n3_ ?_)));rw [if_pos ?e];exact n0_ (wpAny_rule (n3_ ⟨_,rfl,n3_ h⟩))
end
end HT
namespace L2
open PySem PySem.Spec PyProof.Rows
section
variable {X:Cx} {e:Expr} {es:List Expr} {te:TE} {t:TA} {pos p2:Pos}
inductive BxRSlU (x:V) (lo hi:Option Int) (H:Hp) (Q:VK):Prop
 | mk (a:_) (xs:_) (q1:x=.ref a) (q2:H a=some (.tup xs)) (q3:∀ p H',?E→H' p=some (.tup (cutV xs lo hi))→Q (.ref p) H'):BxRSlU x lo hi H Q
def rSlU:V→Option Int→Option Int→Hp→VK→Prop:=fun x lo hi H Q=>BxRSlU x lo hi H Q
theorem Zmj:SlR X rSlU:=by
 intro pins s σ H x v vl vu lo hi sl Q I rx hs pl pu h;obtain ⟨a,xs,rfl,hx,q⟩:=h
 by_cases hw:HT.sIx xs.length 0 lo=0∧HT.sIx xs.length xs.length hi=xs.length
 · cases rx
   obtain ⟨its,r,ht,hz⟩:=I.tuple (SqT.of hx);have hlen:its.toArray.size=xs.length:=by rw [n16_];exact r.length.symm
   refine ⟨"tuple",_,PyProof.Rows.slot_tuple_getitem.lookup,ht.typeIs,?_⟩;refine HT.getItem_tuple_whole ht hs pl pu (by rw [hlen];exact hw) ⟨.ref a,H,I,rfl,q a H (Same.refl H) ?_⟩;unfold cutV;rw [hw.1,hw.2,List.drop_zero,Nat.sub_zero,n89_];exact hx
 · exact Zu5 pins s σ H _ _ vl vu lo hi sl Q I rx hs pl pu ⟨a,xs,rfl,SqT.of hx,hw,fun p hp=>q p _ (Same.new hp) Zc⟩
end
def Yy (cells:List (Str×Addr)) (names:List (Str×NameKind)):List (Str×Addr):=((names.filter (fun y=>y.2 == .free)).map fun y=>(y.1,(cells.lookup y.1).getD 0)).reverse
variable {D a b it t z:Addr} {A:Around} {ys:?H} {X:Cx} {env:Env} {h h':Heap} {H:Hp} {pins:?A} {ch fp:List Addr} {xs:List V} {i m n t' x1:Nat} {p pos tp:Pos} {P prog:Program} {scope:Scope} {s:Shared} {σ:St} {x:Str} {ta:TA} {te:TE} {g:TG} {tt:TT} {c d:Value} {Q:Value→?k} {w:World}
theorem Zcp:∀ (names:List (Str×NameKind)) (acc:List (Str×Addr)),(∀ y∈names,y.2=.free→∃ c,env.cells.lookup y.1=some c) →
 (forIn names acc (fun (x:Str×NameKind) (r:List (Str×Addr))=>do
   if x.2 == .free then do
    let a ← cellOf env x.1
    pure (ForInStep.yield ((x.1,a) :: r))
   else pure (ForInStep.yield r)):Sem (List (Str×Addr)))=pure (Yy env.cells names++acc)
 | [],acc,_=>rfl
 | (n,k) :: rest,acc,h=>by
   have ih:=fun acc=>Zcp rest acc fun y hy=>h y (n17_ _ hy);rw [List.forIn_cons]
   by_cases hk:k=.free
   · subst hk;obtain ⟨c,hc⟩:=h (n,.free) n24_ rfl;have e:cellOf env n=pure c:=by unfold cellOf;rw [hc]
     have e2:Yy env.cells ((n,.free) :: rest)=Yy env.cells rest++[(n,c)]:=by
      unfold Yy;rw [n82_ (by rfl),n38_,List.reverse_cons,hc];rfl
     simp only [beq_self_eq_true,if_true,e,pure_bind];rw [ih,e2,n78_];rfl
   · have b:(k == NameKind.free)=false:=by simpa using hk
     have e2:Yy env.cells ((n,k) :: rest)=Yy env.cells rest:=by
      unfold Yy;rw [n83_ (by simpa using hk)]
     simp only [b,n19_,if_false,pure_bind];rw [ih,e2]
theorem Zc7 (h:∀ y∈scope.names,y.2=.free→∃ c,env.cells.lookup y.1=some c):closureFor scope env=pure (Yy env.cells scope.names):=by
 have e:=Zcp scope.names [] h;rw [List.append_nil] at e;unfold closureFor
 first
  | (rw [← e];rfl)
  | (simp only [bind_pure];exact e)
  | simpa using e
section
variable {X:Cx}
theorem Zob:MtR X "int.bit_length" (fun x vs H Q=>∃ i:Int,x=.int i∧vs=[]∧Q (.int (Builtin.Int.intBits i)) H):=by
 intro pins s σ H x vs v us Q I rx rv h;obtain ⟨i,rfl,rfl,q⟩:=h;obtain ⟨t,rfl⟩:=rx;cases rv
 exact call_int_bit_length ⟨.int _,H,I.tok _,⟨_,rfl⟩,q⟩
theorem Zag {i:Int} (h:∃ t,X.mg x=some (.int i t)) (hg:Gl X x) (hd:(x == ("__debug__" : Str))=false:=by decide):PE X (.Name x pos) (tC (.int i)):=by
 obtain ⟨t,h⟩:=h;exact Ztp hg h ⟨t,rfl⟩ hd
end
section
variable {X:Cx} {pins:?A} {σ:List (Option V)} {H:Hp} {s:Shared} {h':Heap}
theorem Inv.turnNew {o:HO} (I:?p) (k:∀ b u,b∉ch→?I=some u→h'.get? b=some u) (hf:∀ b∈ch,FpOk X pins H b)
 (ha:s.z≤a) (new:ObjOk X.prog X.w (upd H a o) h' a o):Inv X pins σ (upd H a o) { s with heap:=h',toks:=t' }:=by
 have fa:H a=none:=I.hok.fresh ha;have na:∀ b u,H b=some u→b≠a:=fun b u e=>Zm e fa;have nc:∀ b u,H b=some u→b∉ch:=fun b u e z=>by rw [(hf b z).1] at e;cases e
 have la:∀ b u,?I=some u→b≠a:=fun b u e=>n26_ (n9_ (n14_ e) ha)
 refine I.step (g':=s.gens) (d':=s.drawn) (ch:=ch) (fun b hb=>?_) (fun b u _ _ hc e _=>k b u hc e) (fun b u _ _ hc e _=>⟨u.slots,k b u hc e⟩) (fun b u _ e n=>by rw [Zk (la b u e)];exact n)
  (fun b u hc e=>⟨u,k b u hc e⟩) (fun b xs e=>by rw [Zk (na b _ e)];exact e) (fun b u v e=>by rw [Zk (na b _ e)];exact e) (fun b ps e=>⟨#[],by rw [Zk (na b _ e),e];simp⟩) (fun m hm=>?_) (fun b u e=>?_) I.bare
 · obtain ⟨f0,f1,f2,f3,f4,f5⟩:=hf b hb;exact ⟨f3,f1,f4,f5⟩
 · obtain ⟨u,es,ep,hu,r⟩:=hm;exact ⟨u,es,ep,k _ u (fun z=>(hf _ z).2.1 rfl) hu,r⟩
 · by_cases hb:b=a
   · subst hb;rw [Zc] at e;cases e;exact new
   · rw [Zk hb] at e;refine (I.hok b u e).stay (fun c v hc q=>k c v ?_ q) (fun c q=>by rw [Zk (na c _ q)];exact q) fun c xs q=>by rw [Zk (na c _ q)];exact q
     rcases hc with z|z
     · rw [z];exact nc b u e
     · exact nc c _ z
theorem Inv.turnOnly (I:?p) (k:∀ b u,b∉ch→?I=some u→h'.get? b=some u) (hf:∀ b∈ch,FpOk X pins H b):Inv X pins σ H { s with heap:=h',toks:=t' }:=by
 have nc:∀ b u,H b=some u→b∉ch:=fun b u e z=>by rw [(hf b z).1] at e;cases e
 refine I.step (g':=s.gens) (d':=s.drawn) (ch:=ch) (fun b hb=>?_) (fun b u _ _ hc e _=>k b u hc e) (fun b u _ _ hc e _=>⟨u.slots,k b u hc e⟩) (fun _ _ _ _ n=>n)
  (fun b u hc e=>⟨u,k b u hc e⟩) (fun _ _ e=>e) (fun _ _ _ e=>e) (fun b ps e=>⟨#[],by rw [e];simp⟩) (fun m hm=>?_) (fun b u e=>?_) I.bare
 · obtain ⟨f0,f1,f2,f3,f4,f5⟩:=hf b hb;exact ⟨f3,f1,f4,f5⟩
 · obtain ⟨u,es,ep,hu,r⟩:=hm;exact ⟨u,es,ep,k _ u (fun z=>(hf _ z).2.1 rfl) hu,r⟩
 · refine (I.hok b u e).stay (fun c v hc q=>k c v ?_ q) (fun _ q=>q) fun _ _ q=>q
   rcases hc with z|z
   · rw [z];exact nc b u e
   · exact nc c _ z
end
inductive SK where
 | l
 | t
def SK.Sq (K:PySem.W.Frag) (H:Hp) (a:Addr) (xs:List V):SK→Prop
 | .l=>SqL K H a xs
 | .t=>SqT K H a xs
def SK.Is (h:Heap) (a:Addr) (vs:?H):SK→Prop
 | .l=>h.IsList a vs
 | .t=>h.IsTuple a vs
def SK.It (h:Heap) (it a:Addr) (i:Nat):SK→Prop
 | .l=>h.IsListIter it a i
 | .t=>h.IsTupleIter it a i
def SK.name:SK→String
 | .l => "list_iterator"
 | .t => "tuple_iterator"
abbrev SK.obj (k:SK) (a:Addr):Obj:={ cls:=.type k.name,data:=.fields #[.ref a,.int 0 0] }
theorem SK.It.ex {k:SK} (x:k.It h it a i):∃ o,h.get? it=some o∧o.cls=.type k.name∧o.data=.fields #[.ref a,.int i 0]:=by
 cases k<;>exact x
theorem SK.It.of {k:SK} (x:∃ o,h.get? it=some o∧o.cls=.type k.name∧o.data=.fields #[.ref a,.int i 0]):k.It h it a i:=by
 cases k<;>exact x
theorem SK.It.at {k:SK} (x:k.It h it a i) (f:∀ o,h.get? it=some o→h'.get? it=some o):k.It h' it a i:=by
 obtain ⟨o,e,r⟩:=x.ex;exact .of ⟨o,f o e,r⟩
theorem SK.Is.ex {k:SK} {vs:?H} (x:k.Is h a vs):∃ o n,h.get? a=some o∧o.data=.seq vs n:=by
 cases k with
 | l=>obtain ⟨o,e,_,n,d⟩:=(show h.IsList a vs from x);exact ⟨o,n,e,d⟩
 | t=>obtain ⟨o,e,_,n,d⟩:=(show h.IsTuple a vs from x);exact ⟨o,n,e,d⟩
theorem SK.Is.at {k:SK} {vs:?H} (x:k.Is h a vs) (f:∀ o,h.get? a=some o→h'.get? a=some o):k.Is h' a vs:=by
 cases k with
 | l=>obtain ⟨o,e,r⟩:=(show h.IsList a vs from x);exact (⟨o,f o e,r⟩:h'.IsList a vs)
 | t=>obtain ⟨o,e,r⟩:=(show h.IsTuple a vs from x);exact (⟨o,f o e,r⟩:h'.IsTuple a vs)
theorem SK.Sq.is {k:SK} (q:k.Sq X.K H a xs) (I:?p):∃ its,Vals xs its∧k.Is s.heap a its.toArray:=by
 cases k with
 | l=>obtain ⟨its,rv,p,_⟩:=I.list (show SqL X.K H a xs from q);exact ⟨its,rv,p.isList⟩
 | t=>obtain ⟨its,rv,p,_⟩:=I.tuple (show SqT X.K H a xs from q);exact ⟨its,rv,p⟩
theorem SK.Sq.inj {k:SK} {ys:List V} (q:k.Sq X.K H a xs) (r:k.Sq X.K H a ys) (I:?p):xs=ys:=by
 cases k with
 | l=>exact I.list_inj q r
 | t=>exact I.tuple_inj q r
section
variable {prog:Program} {w:World} {A:Around} {E:Value→?k} {s:Shared}
theorem SK.draw {k:SK} {vs:?H} {x:Value} (hi:k.It s.heap it a i) (ha:k.Is s.heap a vs) (hx:vs[i]? = some x)
 (q:∀ h1,k.It h1 it a (i+1)→Heap.SameBut it s.heap h1→Q x { s with heap:=h1 }):wpAny ?s A (n20_ (.ref it)) Q E s:=by
 cases k with
 | l=>exact wpAny_nextOf_list_item hi ha hx q
 | t =>
   have hi':s.heap.IsTupleIter it a i:=hi;obtain ⟨o,e,c,d⟩:=id hi';obtain ⟨oa,ea,_,n,da⟩:=(show s.heap.IsTuple a vs from ha);unfold n20_;refine n0_ (wpAny_callSpecial?_slot (name:=Str.ofString "__next__") hi'.typeIs F.slot_tuple_iterator_next (wpAny_call_entry F.slot_tuple_iterator_next hi'.typeIs F.entry_tuple_iterator_next ?_ (F.args_tuple_iterator_next_1 _)));refine n0_ (m:=field (.ref it) 0) (wpAny_field e d (x:=.ref a) rfl ?_);show wpAny _ _ (if (Value.ref a == Value.none)=true then _ else _) _ _ s
   rw [if_neg (show ¬ ((Value.ref a == Value.none)=true) from n27_)];refine n0_ (m:=field (.ref it) 1) (wpAny_field e d (x:=.int i 0) rfl ?_);refine n0_ (m:=seqItems? (.ref a)) (wpAny_seqItems ea da ?_);simp only [n61_,hx];refine n0_ (wpAny_setField e d ?f (n3_ ⟨x,rfl,n3_ (q _ (SK.It.of ?_) (Heap.SameBut.update ..))⟩));exact ⟨_,n53_ _ e (Obj.isFreed_of_fields (Obj.data_mapFields d _)),(Obj.cls_mapFields ..).trans c,by rw [Obj.data_mapFields d];simp [rawInt]⟩
theorem SK.dry {k:SK} {vs:?H} (hh:A.handled=none) (hi:k.It s.heap it a i) (ha:k.Is s.heap a vs) (hx:vs[i]? = none)
 (q:∀ h1 e,Heap.ExtBut it s.heap h1→(∃ o,h1.get? e=some o∧o.cls=.type "StopIteration")→E (.ref e) { s with heap:=h1 }):wpAny ?s A (n20_ (.ref it)) Q E s:=by
 cases k with
 | l=>exact wpAny_nextOf_list_end hh hi ha hx q
 | t =>
   have hi':s.heap.IsTupleIter it a i:=hi;obtain ⟨o,e,c,d⟩:=id hi';obtain ⟨oa,ea,_,n,da⟩:=(show s.heap.IsTuple a vs from ha);unfold n20_;refine n0_ (wpAny_callSpecial?_slot (name:=Str.ofString "__next__") hi'.typeIs F.slot_tuple_iterator_next (wpAny_call_entry F.slot_tuple_iterator_next hi'.typeIs F.entry_tuple_iterator_next ?_ (F.args_tuple_iterator_next_1 _)));refine n0_ (m:=field (.ref it) 0) (wpAny_field e d (x:=.ref a) rfl ?_);show wpAny _ _ (if (Value.ref a == Value.none)=true then _ else _) _ _ s
   rw [if_neg (show ¬ ((Value.ref a == Value.none)=true) from n27_)];refine n0_ (m:=field (.ref it) 1) (wpAny_field e d (x:=.int i 0) rfl ?_);refine n0_ (m:=seqItems? (.ref a)) (wpAny_seqItems ea da ?_);simp only [n61_,hx];refine n0_ (wpAny_rule (n0_ (wpAny_setField e d ?f ?_)));refine n0_ (m:=newExc (.type "StopIteration") []) ?_;simp only [newExc,newTuple];refine n0_ (wpAny_newObj_type (n0_ (m:=firstArgMember _ _) (wpAny_of_eq (a:=Value.none) (by first|rfl|(simp only [firstArgMember];rfl)) (wpAny_newObj_type ?_ (by size_fits)))) (by size_fits));simp only [raiseNew];refine n0_ (wpAny_handled ?_)
   first|rw [show A.in1.handled=none from hh]|rw [hh]
   refine n0_ (n3_ (wpAny_throw (q _ _ (((Heap.SameBut.update ..).extBut.push _).push _) ⟨_,n8_ _ rfl,rfl⟩)))
theorem SK.iter {k:SK} {vs:?H} (ha:k.Is s.heap a vs) (q:Q (.ref s.z) { s with heap:=s.heap.push (k.obj a) }):wpAny ?s A (pyIter (.ref a)) Q E s:=by
 cases k with
 | l=>exact wpAny_pyIter_list ha q
 | t=>exact wpAny_pyIter_tuple ha q
end
structure ZP (z t o i j a b:Addr):Prop where
 tz:t≠z
 oz:o≠z
 iz:i≠z
 jz:j≠z
 to:t≠o
 ti:t≠i
 tj:t≠j
 oi:o≠i
 oj:o≠j
 ij:i≠j
 az:a≠z
 ao:a≠o
 ai:a≠i
 aj:a≠j
 bz:b≠z
 bo:b≠o
 bi:b≠i
 bj:b≠j
section
variable {prog:Program} {w:World} {A:Around} {E:Value→?k} {s:Shared} {k l:SK}
theorem Zpu {o i j:Addr} {xs:?H} {x y:Value} (D:ZP z t o i j a b)
 (hz:IsZip s.heap z t o .none) (ht:IsPair s.heap t (.ref i) (.ref j)) (ho:IsPair s.heap o c d)
 (hi:k.It s.heap i a m) (hj:l.It s.heap j b n) (ha:k.Is s.heap a xs) (hb:l.Is s.heap b ys) (hx:xs[m]? = some x) (hy:ys[n]? = some y)
 (q:∀ h1,IsZip h1 z t o (rawInt s.z)→IsPair h1 o x y→k.It h1 i a (m+1)→l.It h1 j b (n+1)→IsPair h1 s.z x y→h1.objs.size=s.z+1 →
   ?W→Q (.ref s.z) { s with heap:=h1 }) :
 wpAny ?s A (Builtin.«zip.__next__» ⟨[.ref z],[]⟩) (fun fin s'=>∃ v,fin=.done (.ret v)∧Q v s') E s:=by
 refine n0_ (m:=field (.ref z) 2) (wpAny_field hz rfl (x:=.bool false) rfl ?_);refine n0_ (m:=field (.ref z) 3) (wpAny_field hz rfl (x:=.ref t) rfl (n0_ (wpAny_seqItems ht rfl ?_)));refine n0_ (m:=n31_ (.ref z)) ?_;unfold n31_;refine n0_ (wpAny_field hz rfl (x:=.none) rfl (n3_ ?_));simp only [if_true];refine n0_ (wpAny_rule (n0_ (wpAny_field hz rfl (x:=.ref o) rfl (n0_ (wpAny_setField_rec hz ?f fun h1 z1 s1=>?_)))));replace z1:IsZip h1 z t o .ellipsis:=z1;refine n0_ ?_;simp only [List.zipIdx_cons,List.zipIdx_nil,List.forIn_cons,List.forIn_nil];refine n0_ (n0_ (wpAny_onRaise (n0_ (m:=n20_ (.ref i)) ?_)));refine SK.draw (hi.at fun u e=>s1.extBut _ _ D.iz e) (ha.at fun u e=>s1.extBut _ _ D.az e) hx fun h2 i2 s2=>n3_ ?_;have o2:IsPair h2 o c d:=s2.extBut _ _ D.oi (s1.extBut _ _ D.oz ho);refine n0_ (wpAny_seqItems o2 rfl (n0_ (wpAny_updateSeq_pair o2 fun h3 o3 s3=>?_)));replace o3:IsPair h3 o x d:=o3;refine n0_ (wpAny_letGo (n3_ (n0_ (n0_ (wpAny_onRaise (n0_ (m:=n20_ (.ref j)) ?_))))));refine SK.draw (hj.at fun u e=>s3.extBut _ _ D.oj.symm (s2.extBut _ _ D.ij.symm (s1.extBut _ _ D.jz e))) (hb.at fun u e=>s3.extBut _ _ D.bo (s2.extBut _ _ D.bi (s1.extBut _ _ D.bz e))) hy fun h4 j4 s4=>n3_ ?_;have o4:IsPair h4 o x d:=s4.extBut _ _ D.oj o3;refine n0_ (wpAny_seqItems o4 rfl (n0_ (wpAny_updateSeq_pair o4 fun h5 o5 s5=>?_)));replace o5:IsPair h5 o x y:=o5;refine n0_ (wpAny_letGo (n3_ (n3_ (n0_ (wpAny_seqItems o5 rfl (n0_ (wpAny_newTuple ?_)))))));have sz:h5.objs.size=s.z:=by rw [s5.1,s4.1,s3.1,s2.1,s1.1]
 have z5:IsZip h5 z t o .ellipsis:=s5.extBut _ _ D.oz.symm (s4.extBut _ _ D.jz.symm (s3.extBut _ _ D.oz.symm (s2.extBut _ _ D.iz.symm z1)));have k5:∀ e u,e≠z→e≠o→e≠i→e≠j→s.heap.get? e=some u→h5.get? e=some u:=fun e u e1 e2 e3 e4 g=>s5.extBut _ _ e2 (s4.extBut _ _ e4 (s3.extBut _ _ e2 (s2.extBut _ _ e3 (s1.extBut _ _ e1 g))));have i5:k.It h5 i a (m+1):=i2.at fun u e=>s5.extBut _ _ D.oi.symm (s4.extBut _ _ D.ij (s3.extBut _ _ D.oi.symm e));have j5:l.It h5 j b (n+1):=j4.at fun u e=>s5.extBut _ _ D.oj.symm e;have zl:z<h5.objs.size:=n14_ z5;refine n0_ (m:=Builtin.SmallTypes.ownedTupleHandOut (.ref z) (.ref h5.objs.size)) ?_;unfold Builtin.SmallTypes.ownedTupleHandOut;have z6:IsZip (h5.push { cls:=?G,data:=.seq #[x,y] }) z t o .ellipsis:=n2_ _ z5;refine n0_ (wpAny_setField_rec z6 ?f fun h7 z7 s7=>?_);replace z7:IsZip h7 z t o (rawInt h5.objs.size):=z7;refine wpAny_setField_rec z7 ?f fun h8 z8 s8=>?_;replace z8:IsZip h8 z t o (rawInt h5.objs.size):=z8;have up:∀ e u,e≠z→h5.get? e=some u→h8.get? e=some u:=fun e u e1 g=>s8.extBut _ _ e1 (s7.extBut _ _ e1 (n2_ _ g));have T8:IsPair h8 h5.objs.size x y:=s8.extBut _ _ (n68_ zl) (s7.extBut _ _ (n68_ zl) (n8_ _ rfl));have l8:h8.objs.size=h5.objs.size+1:=by rw [s8.1,s7.1,n50_]
 rw [sz] at z8 T8 l8;refine n3_ ⟨_,rfl,?_⟩;show Q (.ref h5.objs.size) _
 rw [sz];exact q h8 z8 (up _ _ D.oz o5) (i5.at fun u e=>up _ u D.iz e) (j5.at fun u e=>up _ u D.jz e) T8 l8 fun e u e1 e2 e3 e4 g=>up e u e1 (k5 e u e1 e2 e3 e4 g)
theorem Ztd {o i j:Addr} {xs:?H} {Q:Fin→?k} (hh:A.handled=none) (D:ZP z t o i j a b)
 (hz:IsZip s.heap z t o .none) (ht:IsPair s.heap t (.ref i) (.ref j)) (ho:IsPair s.heap o c d)
 (hi:k.It s.heap i a m) (hj:l.It s.heap j b n) (ha:k.Is s.heap a xs) (hb:l.Is s.heap b ys) (hx:xs[m]? = none∨ys[n]? = none)
 (q:∀ h1 e,?W→(∃ u,h1.get? e=some u∧u.cls=.type "StopIteration")→E (.ref e) { s with heap:=h1 }) :
 wpAny ?s A (Builtin.«zip.__next__» ⟨[.ref z],[]⟩) Q E s:=by
 refine n0_ (m:=field (.ref z) 2) (wpAny_field hz rfl (x:=.bool false) rfl ?_);refine n0_ (m:=field (.ref z) 3) (wpAny_field hz rfl (x:=.ref t) rfl (n0_ (wpAny_seqItems ht rfl ?_)));refine n0_ (m:=n31_ (.ref z)) ?_;unfold n31_;refine n0_ (wpAny_field hz rfl (x:=.none) rfl (n3_ ?_));simp only [if_true];refine n0_ (wpAny_rule (n0_ (wpAny_field hz rfl (x:=.ref o) rfl (n0_ (wpAny_setField_rec hz ?f fun h1 z1 s1=>?_)))));replace z1:IsZip h1 z t o .ellipsis:=z1;refine n0_ ?_;simp only [List.zipIdx_cons,List.zipIdx_nil,List.forIn_cons,List.forIn_nil];refine n0_ (n0_ (wpAny_onRaise (n0_ (m:=n20_ (.ref i)) ?_)));cases hm:xs[m]? with
 | none =>
   refine SK.dry hh (hi.at fun u e=>s1.extBut _ _ D.iz e) (ha.at fun u e=>s1.extBut _ _ D.az e) hm fun h2 e s2 ⟨u,g,cu⟩=>?_;have z2:IsZip h2 z t o .ellipsis:=s2 _ _ D.iz.symm z1;have ez:e≠z:=fun r=>by subst r;rw [z2] at g;cases g;simp at cu
   exact wpAny_setField_rec z2 ?f fun h3 _ s3=>q h3 e (fun e' u' e1 _ e3 _ r=>s3.extBut _ _ e1 (s2 _ _ e3 (s1.extBut _ _ e1 r))) ⟨u,s3.extBut _ _ ez g,cu⟩
 | some x =>
   have hn:ys[n]? = none:=by rcases hx with r|r;(rw [hm] at r;cases r);exact r
   refine SK.draw (hi.at fun u e=>s1.extBut _ _ D.iz e) (ha.at fun u e=>s1.extBut _ _ D.az e) hm fun h2 i2 s2=>n3_ ?_;have o2:IsPair h2 o c d:=s2.extBut _ _ D.oi (s1.extBut _ _ D.oz ho);refine n0_ (wpAny_seqItems o2 rfl (n0_ (wpAny_updateSeq_pair o2 fun h3 o3 s3=>?_)));refine n0_ (wpAny_letGo (n3_ (n0_ (n0_ (wpAny_onRaise (n0_ (m:=n20_ (.ref j)) ?_))))));refine SK.dry hh (hj.at fun u e=>s3.extBut _ _ D.oj.symm (s2.extBut _ _ D.ij.symm (s1.extBut _ _ D.jz e))) (hb.at fun u e=>s3.extBut _ _ D.bo (s2.extBut _ _ D.bi (s1.extBut _ _ D.bz e))) hn fun h4 e s4 ⟨u,g,cu⟩=>?_;have z4:IsZip h4 z t o .ellipsis:=s4 _ _ D.jz.symm (s3.extBut _ _ D.oz.symm (s2.extBut _ _ D.iz.symm z1));have ez:e≠z:=fun r=>by subst r;rw [z4] at g;cases g;simp at cu
   exact wpAny_setField_rec z4 ?f fun h5 _ s5=>q h5 e (fun e' u' e1 e2 e3 e4 r=>s5.extBut _ _ e1 (s4 _ _ e4 (s3.extBut _ _ e2 (s2.extBut _ _ e3 (s1.extBut _ _ e1 r))))) ⟨u,s5.extBut _ _ ez g,cu⟩
theorem Zgn {o i j:Addr} {xs:?H} {x y:Value} {Q:?D→?k} (D:ZP z t o i j a b)
 (hz:IsZip s.heap z t o .none) (ht:IsPair s.heap t (.ref i) (.ref j)) (ho:IsPair s.heap o c d)
 (hi:k.It s.heap i a m) (hj:l.It s.heap j b n) (ha:k.Is s.heap a xs) (hb:l.Is s.heap b ys) (hx:xs[m]? = some x) (hy:ys[n]? = some y)
 (q:∀ h1,IsZip h1 z t o (rawInt s.z)→IsPair h1 o x y→k.It h1 i a (m+1)→l.It h1 j b (n+1)→IsPair h1 s.z x y→h1.objs.size=s.z+1 →
   ?W→Q (some (.ref s.z)) { s with heap:=h1 }) :
 wpAny ?s A (pyNext (.ref z)) Q E s:=by
 have hT:s.TypeIs (.ref z) "zip" := ⟨_,hz,rfl⟩;unfold pyNext
 exact n0_ (wpAny_attempt (wpAny_callSpecial?_slot (name:=Str.ofString "__next__") hT F.slot_zip_next (wpAny_call_entry F.slot_zip_next hT F.entry_zip_next
  (Zpu D hz ht ho hi hj ha hb hx hy fun h1 r1 r2 r3 r4 r5 r6 r7=>n3_ (q h1 r1 r2 r3 r4 r5 r6 r7)) (F.args_zip_next_1 _))))
theorem Zhm {o i j:Addr} {xs:?H} {Q:?D→?k} (hh:A.handled=none) (D:ZP z t o i j a b)
 (hz:IsZip s.heap z t o .none) (ht:IsPair s.heap t (.ref i) (.ref j)) (ho:IsPair s.heap o c d)
 (hi:k.It s.heap i a m) (hj:l.It s.heap j b n) (ha:k.Is s.heap a xs) (hb:l.Is s.heap b ys) (hx:xs[m]? = none∨ys[n]? = none)
 (q:∀ h1,?W→Q none { s with heap:=h1 }) :
 wpAny ?s A (pyNext (.ref z)) Q E s:=by
 have hT:s.TypeIs (.ref z) "zip" := ⟨_,hz,rfl⟩;unfold pyNext
 refine n0_ (wpAny_attempt (wpAny_callSpecial?_slot (name:=Str.ofString "__next__") hT F.slot_zip_next (wpAny_call_entry F.slot_zip_next hT F.entry_zip_next
  (Ztd hh D hz ht ho hi hj ha hb hx fun h1 e r1 ⟨u,g,cu⟩=>?_) (F.args_zip_next_1 _))))
 exact n0_ (wpAny_isInstance (T := "StopIteration") (b:=true) ⟨u,g,cu⟩ isSubtype_stop (n3_ (q _ r1)))
abbrev zp1 (k:SK) (h:Heap) (a:Addr):Heap:=h.push (k.obj a)
abbrev zp2 (k l:SK) (h:Heap) (a b:Addr):Heap:=(zp1 k h a).push (l.obj b)
abbrev zp3 (k l:SK) (h:Heap) (a b:Addr):Heap:=(zp2 k l h a b).push { cls:=?G,data:=.seq #[.ref h.objs.size,.ref (zp1 k h a).objs.size] }
abbrev zp4 (k l:SK) (h:Heap) (a b:Addr):Heap:=(zp3 k l h a b).push { cls:=?G,data:=.seq #[.none,.none] }
abbrev zp5 (k l:SK) (h:Heap) (a b:Addr):Heap:=(zp4 k l h a b).push { cls:=.type "zip",data:=.fields #[.none,.bool false,.bool false,.ref (zp2 k l h a b).objs.size,.ref (zp3 k l h a b).objs.size] }
theorem Zoz (k l:SK) (a b:Addr) (xs ys:?H):Meets (Builtin.«zip.__new__» ⟨[.type "zip",.ref a,.ref b],[]⟩) (fun _ R s=>k.Is s.heap a xs∧l.Is s.heap b ys∧R (.ok (.ret (.ref (zp4 k l s.heap a b).objs.size))) { s with heap:=zp5 k l s.heap a b }) :=
 .of_wp fun prog w A R s h=>by
  obtain ⟨hp,g,d,tk,os⟩:=s;obtain ⟨h1,h2,h⟩:=h;have hsub:=sub_zip;have r1:k.Is (Shared.heap ⟨hp,g,d,tk,os⟩) a xs:=h1;have r2:l.Is (Shared.heap ⟨hp.push (k.obj a),g,d,tk,os⟩) b ys:=SK.Is.at h2 fun o e=>n2_ _ e
  wp_walk using SK.iter r1,SK.iter r2
  exact ⟨_,rfl,h⟩
theorem Zk1 {xs:?H} (ha:k.Is s.heap a xs) (hb:l.Is s.heap b ys)
 (q:∀ h1,IsZip h1 (s.z+4) (s.z+2) (s.z+3) .none→IsPair h1 (s.z+2) (.ref s.z) (.ref (s.z+1)) →
   IsPair h1 (s.z+3) .none .none→k.It h1 s.z a 0→l.It h1 (s.z+1) b 0→h1.objs.size=s.z+5 →
   (∀ c o,s.heap.get? c=some o→h1.get? c=some o)→Q (.ref (s.z+4)) { s with heap:=h1 }) :
 wpAny ?s A (call (.type "zip") [.ref a,.ref b]) Q E s:=by
 refine callType_new F.called_zip ?e (F.typeCall_zip_2 _ _) (F.newCall_zip_2 _ _) (fun obj=>F.args_object_init_3 obj _ _) F.entry_zip_new (Zoz k l a b xs ys) ⟨ha,hb,?_⟩;have n1:(zp1 k s.heap a).objs.size=s.z+1:=n50_ ..;have n2:(zp2 k l s.heap a b).objs.size=s.z+2:=by rw [n50_,n1]
 have n3:(zp3 k l s.heap a b).objs.size=s.z+3:=by rw [n50_,n2]
 have n4:(zp4 k l s.heap a b).objs.size=s.z+4:=by rw [n50_,n3]
 have n5:(zp5 k l s.heap a b).objs.size=s.z+5:=by rw [n50_,n4]
 have m5:(zp5 k l s.heap a b).get? (zp4 k l s.heap a b).objs.size=some _:=n8_ _ rfl;have m4:(zp5 k l s.heap a b).get? (zp3 k l s.heap a b).objs.size=some _:=n2_ _ (n8_ _ rfl);have m3:(zp5 k l s.heap a b).get? (zp2 k l s.heap a b).objs.size=some _:=n2_ _ (n2_ _ (n8_ _ rfl));have m2:(zp5 k l s.heap a b).get? (zp1 k s.heap a).objs.size=some _:=n2_ _ (n2_ _ (n2_ _ (n8_ _ rfl)));have m1:(zp5 k l s.heap a b).get? s.z=some _:=n2_ _ (n2_ _ (n2_ _ (n2_ _ (n8_ _ rfl))));show _∧_
 rw [n2,n3,n4] at m5;rw [n1,n2] at m3;rw [n3] at m4;rw [n1] at m2;rw [n4];exact ⟨⟨_,m5,rfl⟩,q _ m5 m3 m4 (.of ⟨_,m1,rfl,rfl⟩) (.of ⟨_,m2,rfl,rfl⟩) n5 fun c o e=>n2_ _ (n2_ _ (n2_ _ (n2_ _ (n2_ _ e))))⟩
end
def Itz (k l:SK) (K:PySem.W.Frag) (a b:Addr):It :=
 ⟨fun i H=>∃ xs ys x y,k.Sq K H a xs∧l.Sq K H b ys∧xs[i]? = some x∧ys[i]? = some y,
  fun i H v H'=>∃ p x y,v=.ref p∧H p=none∧H'=upd H p (.tup [x,y])∧(∀ xs,k.Sq K H a xs→xs[i]? = some x)∧∀ ys,l.Sq K H b ys→ys[i]? = some y,
  fun i H=>∃ xs ys,k.Sq K H a xs∧l.Sq K H b ys∧(xs.length≤i∨ys.length≤i)⟩
theorem Zps {K:PySem.W.Frag} {es:List Expr} {k l:SK} {o i j:Addr} (D:ZP z t o i j a b) :
 Turn P w K (.Tuple es x1 tp) (Itz k l K a b) [z,t,o,i,j] z (fun n h=>IsZip h z t o .none∧IsPair h t (.ref i) (.ref j)∧(∃ c d,IsPair h o c d)∧k.It h i a n∧l.It h j b n) where
 mem:=by simp
 obj:=fun n h st e he=>by
  obtain ⟨h1,h2,⟨c,d,h3⟩,h4,h5⟩:=st;simp only [n13_,n15_,or_false] at he
  rcases he with rfl|rfl|rfl|rfl|rfl
  · exact ⟨_,h1,fun v q=>by cases (show Data.fields _=Data.cell v from q)⟩
  · exact ⟨_,h2,fun v q=>by cases (show Data.seq _ _=Data.cell v from q)⟩
  · exact ⟨_,h3,fun v q=>by cases (show Data.seq _ _=Data.cell v from q)⟩
  · obtain ⟨u,e,_,q⟩:=h4.ex;exact ⟨u,e,fun v r=>by rw [q] at r;cases r⟩
  · obtain ⟨u,e,_,q⟩:=h5.ex;exact ⟨u,e,fun v r=>by rw [q] at r;cases r⟩
 keep:=fun n h h' st f=>by
  obtain ⟨h1,h2,⟨c,d,h3⟩,h4,h5⟩:=st;exact ⟨f z ?f _ h1,f t ?f _ h2,⟨c,d,f o ?f _ h3⟩,h4.at fun u e=>f i ?f u e,h5.at fun u e=>f j ?f u e⟩
 item:=by
  intro X hP hw hK hc n pins s σ H E I hf st hg;subst hP hw hK;obtain ⟨h1,h2,⟨c,d,h3⟩,h4,h5⟩:=st;obtain ⟨xs,ys,x,y,q1,q2,hx,hy⟩:=hg;obtain ⟨us,ru,pu⟩:=q1.is I;obtain ⟨vs,rv,pv⟩:=q2.is I;obtain ⟨u,hu,ux⟩:=ru.get hx;obtain ⟨v,hv,vy⟩:=rv.get hy;have lt:∀ {e o'},s.heap.get? e=some o'→e≠s.z:=fun e=>n26_ (n14_ e);refine Zgn D h1 h2 h3 h4 h5 pu pv (x:=u) (y:=v) (by simpa using hu) (by simpa using hv) fun g r1 r2 r3 r4 r5 r6 r7=>?_;refine ⟨_,rfl,wpAny_letOwnedTupleGo_zip r1 fun g2 z2 s2=>?_⟩;have hp:H s.z=none:=I.hok.fresh (n11_ _);have T2:IsPair g2 s.z u v:=s2.extBut _ _ (Ne.symm (lt h1)) r5
  have I2:Inv X pins σ (upd H s.z (.tup [x,y])) { s with heap:=g2,toks:=s.toks }:=by
   refine I.turnNew (ch:=[z,o,i,j]) (fun e o' ne q=>?_) (fun e he=>hf e ?_) (n11_ _) ⟨z2_,[u,v],.cons ux (.cons vy .nil),⟨_,T2,⟨rfl,rfl⟩,_,rfl⟩⟩
   · simp only [n13_,n15_,or_false,not_or] at ne;exact s2.extBut _ _ ne.1 (r7 e o' ne.1 ne.2.1 ne.2.2.1 ne.2.2.2 q)
   · simp only [n13_,n15_,or_false] at he ⊢
     rcases he with q|q|q|q<;>simp [q]
  refine ⟨.ref s.z,_,I2,rfl,⟨_,x,y,rfl,hp,rfl,fun xs' q=>by rw [q.inj q1 I];exact hx,fun ys' q=>by rw [q.inj q2 I];exact hy⟩,⟨z2,?_,⟨u,v,s2.extBut _ _ D.oz r2⟩,r3.at fun u' e=>s2.extBut _ _ D.iz e,r4.at fun u' e=>s2.extBut _ _ D.jz e⟩,fun e he=>?_⟩
  · exact s2.extBut _ _ D.tz (r7 _ _ D.tz D.to D.ti D.tj h2)
  · have ne:e≠s.z:=by
     simp only [n13_,n15_,or_false] at he
     rcases he with rfl|rfl|rfl|rfl|rfl
     · exact lt h1
     · exact lt h2
     · exact lt h3
     · obtain ⟨_,q,_⟩:=h4.ex;exact lt q
     · obtain ⟨_,q,_⟩:=h5.ex;exact lt q
    rw [Zk ne];exact (hf e he).1
 done:=by
  intro X hP hw hK hc n pins s σ H E I hf st hg;subst hP hw hK;obtain ⟨h1,h2,⟨c,d,h3⟩,h4,h5⟩:=st;obtain ⟨xs,ys,q1,q2,hl⟩:=hg;obtain ⟨us,ru,pu⟩:=q1.is I;obtain ⟨vs,rv,pv⟩:=q2.is I;have e1:=ru.length;have e2:=rv.length;refine Zhm (I.ok.hd hc) D h1 h2 h3 h4 h5 pu pv ?_ fun g r=>⟨rfl,?_⟩
  · rcases hl with q|q
    · left;simp;omega
    · right;simp;omega
  · refine I.turnOnly (t':=s.toks) (ch:=[z,o,i,j]) (fun e o' ne q=>?_) (fun e he=>hf e ?_)
    · simp only [n13_,n15_,or_false,not_or] at ne;exact r e o' ne.1 ne.2.1 ne.2.2.1 ne.2.2.2 q
    · simp only [n13_,n15_,or_false] at he ⊢
      rcases he with q|q|q|q<;>simp [q]
 self:=fun _ _ _ _ _ st h=>wpAny_pyIter_zip st.1 h
theorem Zrq {n:Addr} (la:a<n) (lb:b<n):ZP (n+4) (n+2) (n+3) n (n+1) a b:=by
 constructor<;>(intro h;have h':@Eq Nat _ _:=h;have la':@LT.lt Nat _ _ _:=la;have lb':@LT.lt Nat _ _ _:=lb;clear h la lb;omega)
theorem Zhr:bootBuiltins "zip" = some (.type "zip"):=?i
section
variable {X:Cx} {es:List Expr} {x1:Nat} {tp:Pos}
inductive BxIZip (k l:SK) (K:PySem.W.Frag) (R:It→?y) (vs:List V) (H1:Hp):Prop
 | mk (a:_) (b:_) (q1:vs=[.ref a,.ref b]) (q2:(∃ xs,k.Sq K H1 a xs)) (q3:(∃ ys,l.Sq K H1 b ys)) (q4:R (Itz k l K a b) H1):BxIZip k l K R vs H1
def iZip (k l:SK) (K:PySem.W.Frag) (ta:TA):TI:=fun σ H R=>ta σ H fun vs H1=>BxIZip k l K R vs H1
theorem Inv.fps (I:?p) (h:∀ b∈fp,s.z≤b):∀ b∈fp,FpOk X pins H b:=fun b hb=>I.fpOk (h b hb) (I.hok.fresh (h b hb))
theorem Zd0 (k l:SK) {a b:Expr} (hg:Gl X "zip") (hm:X.mg "zip" = none) (ha:PA X [a,b] ta) (hs:starEach [a,b] X.env=[(false,eval a X.env),(false,eval b X.env)]:=by rfl) (hs2:starEach [b] X.env=[(false,eval b X.env)]:=by rfl) :
 PI X (.Tuple es x1 tp) (.Call (.Name "zip" p) [a,b] [] pos) (iZip k l X.K ta):=by
 intro pins s σ H R I h;refine Call_ (Zbu I hg hm Zhr (n58_ (thn (ha pos pins s σ H _ I h) fun us s1 ⟨vs,H1,I1,r1,q1⟩=>?_) (by rw [hs,hs2]) (by rw [hs2];rfl)));obtain ⟨a,b,e,⟨xs,hx⟩,⟨ys,hy⟩,q⟩:=q1;subst e;cases r1 with
 | cons r rr =>
   cases rr with
   | cons r' rr =>
     cases rr
     cases r
     cases r'
     obtain ⟨us,ru,pu⟩:=hx.is I1;obtain ⟨ws,rw',pw⟩:=hy.is I1;have la:a<s1.z:=by obtain ⟨_,_,e,_⟩:=pu.ex;exact n14_ e
     have lb:b<s1.z:=by obtain ⟨_,_,e,_⟩:=pw.ex;exact n14_ e
     refine Zk1 pu pw fun h1 m1 m2 m3 m4 m5 m6 m7=>wpAny_pyIter_zip m1 ?_;have I2:Inv X pins σ H1 { s1 with heap:=h1,toks:=s1.toks }:=I1.kept m7;refine ⟨_,_,_,_,H1,rfl,I2,Zps (z:=s1.z+4) (t:=s1.z+2) (o:=s1.z+3) (i:=s1.z) (j:=s1.z+1) (k:=k) (l:=l) (a:=a) (b:=b) ?_,⟨m1,m2,⟨_,_,m3⟩,m4,m5⟩,?_,q⟩
     · exact Zrq la lb
     · have f1:=I1.fps (fp:=[s1.z+4,s1.z+2,s1.z+3,s1.z,s1.z+1]) (by
        intro e he;simp only [n13_,n15_,or_false] at he
        rcases he with rfl|rfl|rfl|rfl|rfl<;>omega)
       exact f1
end
def Ite (k:SK) (K:PySem.W.Frag) (a:Addr):It :=
 ⟨fun i H=>∃ xs x,k.Sq K H a xs∧xs[i]? = some x,
  fun i H v H'=>∃ p x,v=.ref p∧H p=none∧H'=upd H p (.tup [.int i,x])∧∀ xs,k.Sq K H a xs→xs[i]? = some x,
  fun i H=>∃ xs,k.Sq K H a xs∧xs.length=i⟩
theorem SK.draws {k:SK} (hh:A.handled=none) (it a:Addr) (ne:a≠it) (vs:?H):Draws prog w A it [it,a] vs.size (fun i v=>vs[i]? = some v) (fun i h=>k.It h it a i∧k.Is h a vs) where
 live:=fun _ _ st=>let ⟨o,e,_⟩:=st.1.ex;⟨o,e⟩
 frame:=fun _ _ _ st f=>⟨st.1.at fun o e=>f it ?f o e,st.2.at fun o e=>f a ?f o e⟩
 item:=fun i s Q E hi st q=>SK.draw st.1 st.2 (x:=vs[i]) (by simp [hi]) fun h1 r1 r2=>q _ h1 s.toks (by simp [hi]) ⟨r1,st.2.at fun o e=>r2.extBut _ _ ne e⟩ r2
 done:=fun s Q E st q=>SK.dry hh st.1 st.2 ?f q
theorem Znn {K:PySem.W.Frag} {es:List Expr} {k:SK} {e:Addr} (n1:e≠it) (n2:a≠e) (n3:a≠it) :
 Turn P w K (.Tuple es x1 tp) (Ite k K a) [e,it] e (fun n h=>(∃ old,IsEnum h e it n old)∧k.It h it a n) where
 mem:=by simp
 obj:=fun n h st b hb=>by
  obtain ⟨⟨old,h1⟩,h2⟩:=st;simp only [n13_,n15_,or_false] at hb
  rcases hb with rfl|rfl
  · exact ⟨_,h1,fun v q=>by cases (show Data.fields _=Data.cell v from q)⟩
  · obtain ⟨u,e,_,q⟩:=h2.ex;exact ⟨u,e,fun v r=>by rw [q] at r;cases r⟩
 keep:=fun n h h' st f=>by
  obtain ⟨⟨old,h1⟩,h2⟩:=st;exact ⟨⟨old,f e ?f _ h1⟩,h2.at fun u q=>f it ?f u q⟩
 item:=by
  intro X hP hw hK hc n pins s σ H E I hf st hg;subst hP hw hK;obtain ⟨⟨old,h1⟩,h2⟩:=st;obtain ⟨xs,x,q1,hx⟩:=hg;obtain ⟨us,ru,pu⟩:=q1.is I;obtain ⟨u,hu,ux⟩:=ru.get hx;have lt:∀ {b o'},?I=some o'→b≠s.z:=fun e=>n26_ (n14_ e);have hlen:n<us.toArray.size:=by have:=(n18_.mp hu).1;simpa using this
  refine wpAny_pyNext_enum_itemD (SK.draws (k:=k) (show X.A.in1.handled=none from I.ok.hd hc) it a n3 us.toArray) h1 ⟨h2,pu⟩ hlen n1 (by simp [n1,n2.symm]) fun v g tk hv r1 r2 r3 r4 r5=>?_
  have ev:v=u:=by
   have:us[n]? = some v:=by simpa using hv
   rw [hu] at this;exact (Option.some.inj this).symm
  subst ev;refine ⟨_,rfl,wpAny_letOwnedTupleGo_enum r1 fun g2 z2 s2=>?_⟩;have hp:H s.z=none:=I.hok.fresh (n11_ _);have T2:g2.get? s.z=some { cls:=?G,data:=.seq #[.int n tk,v] }:=s2.extBut _ _ (Ne.symm (lt h1)) r3
  have I2:Inv X pins σ (upd H s.z (.tup [.int n,x])) { s with heap:=g2,toks:=tk+1 }:=by
   refine I.turnNew (ch:=[e,it]) (fun b o' ne q=>?_) (fun b hb=>hf b hb) (n11_ _) ⟨z2_,[.int n tk,v],.cons ⟨tk,rfl⟩ (.cons ux .nil),⟨_,T2,⟨rfl,rfl⟩,_,rfl⟩⟩;simp only [n13_,n15_,or_false,not_or] at ne;exact s2.extBut _ _ ne.1 (r5 b o' ne.1 ne.2 q)
  refine ⟨.ref s.z,_,I2,rfl,⟨_,x,rfl,hp,rfl,fun xs' q=>by rw [q.inj q1 I];exact hx⟩,⟨⟨v,by simpa using z2⟩,r2.1.at fun u' q=>s2.extBut _ _ n1.symm q⟩,fun b hb=>?_⟩
  have ne:b≠s.z:=by
   simp only [n13_,n15_,or_false] at hb
   rcases hb with rfl|rfl
   · exact lt h1
   · obtain ⟨_,q,_⟩:=h2.ex;exact lt q
  rw [Zk ne];exact (hf b hb).1
 done:=by
  intro X hP hw hK hc n pins s σ H E I hf st hg;subst hP hw hK;obtain ⟨⟨old,h1⟩,h2⟩:=st;obtain ⟨xs,q1,hl⟩:=hg;obtain ⟨us,ru,pu⟩:=q1.is I;have e1:=ru.length;have en:us.toArray.size=n:=by rw [n16_];omega
  subst en;have D:=SK.draws (prog:=X.prog) (w:=X.w) (k:=k) (show X.A.in1.handled=none from I.ok.hd hc) it a n3 us.toArray;refine wpAny_pyNext_enum_endD D h1 ⟨h2,pu⟩ fun g r=>⟨rfl,?_⟩;exact I.turnOnly (t':=s.toks) (ch:=[it]) (fun b o' ne q=>r b o' (by simpa using ne) q) (fun b hb=>hf b (by simp at hb;simp [hb]))
 self:=fun _ _ _ _ _ st h=>by obtain ⟨⟨old,h1⟩,_⟩:=st;exact wpAny_pyIter_enum h1 h
open AutoSeq1 (wpAny_loadPart')
abbrev Zan (it:Addr):Obj:={ cls:=.type "enumerate",data:=.fields #[.none,.bool false,.ref it,rawInt 0,.none,.none] }
theorem Zld (k:SK) (a:Addr) (vs:?H) (o:Obj):Meets (Builtin.«enumerate.__new__» ⟨[.type "enumerate",.ref a],[]⟩) (fun _ R s=>s.heap.get? a=some o∧k.Is s.heap a vs ∧
 R (.ok (.ret (.ref (s.heap.push (k.obj a)).objs.size))) { s with heap:=(s.heap.push (k.obj a)).push (Zan s.z) }) :=
 .of_wp fun prog w A R s h=>by
  obtain ⟨hp,g,d,tk,os⟩:=s;obtain ⟨ho,hk,h⟩:=h;have hsub:=sub_enumerate;have r1:k.Is (Shared.heap ⟨hp,g,d,tk,os⟩) a vs:=hk
  wp_walk using wpAny_loadPart' ho
  refine wpAny_stack_any fun st=>n3_ ?_;split
  · rename_i c _ _ _ _ _
    cases (c == Value.type "enumerate")
    · (wp_walk using wpAny_loadPart' ho,SK.iter r1);exact ⟨_,rfl,h⟩
    · (wp_walk using wpAny_loadPart' ho,SK.iter r1);exact ⟨_,rfl,h⟩
  · (wp_walk using wpAny_loadPart' ho,SK.iter r1);exact ⟨_,rfl,h⟩
section
variable {prog:Program} {w:World} {A:Around} {E:Value→?k} {s:Shared} {k:SK}
theorem Zml {vs:?H} (ha:k.Is s.heap a vs)
 (q:∀ h1,IsEnum h1 (s.z+1) s.z 0 .none→k.It h1 s.z a 0→(∀ b o,?I=some o→h1.get? b=some o)→Q (.ref (s.z+1)) { s with heap:=h1 }) :
 wpAny ?s A (call (.type "enumerate") [.ref a]) Q E s:=by
 obtain ⟨o,n,e,d⟩:=ha.ex;refine callType_new F.called_enumerate ?e (F.typeCall_enumerate_1 _) (F.newCall_enumerate_1 _) (fun obj=>F.args_object_init_2 obj _) F.entry_enumerate_new (Zld k a vs o) ⟨e,ha,?_⟩;have n1:(s.heap.push (k.obj a)).objs.size=s.z+1:=n50_ ..;have m2:((s.heap.push (k.obj a)).push (Zan s.z)).get? (s.heap.push (k.obj a)).objs.size=some (Zan s.z):=n8_ _ rfl;have m1:((s.heap.push (k.obj a)).push (Zan s.z)).get? s.z=some (k.obj a):=n2_ _ (n8_ _ rfl);show _∧_
 rw [n1] at m2;rw [n1];exact ⟨⟨_,m2,rfl⟩,q _ m2 (.of ⟨_,m1,rfl,rfl⟩) fun b o' r=>n2_ _ (n2_ _ r)⟩
end
theorem Zet:bootBuiltins "enumerate" = some (.type "enumerate"):=?i
section
variable {X:Cx} {es:List Expr} {x1:Nat} {tp:Pos}
inductive BxIEnum (k:SK) (K:PySem.W.Frag) (R:It→?y) (vs:List V) (H1:Hp):Prop
 | mk (a:_) (q1:vs=[.ref a]) (q2:(∃ xs,k.Sq K H1 a xs)) (q3:R (Ite k K a) H1):BxIEnum k K R vs H1
def Zwn (k:SK) (K:PySem.W.Frag) (ta:TA):TI:=fun σ H R=>ta σ H fun vs H1=>BxIEnum k K R vs H1
theorem ne3 {n:Addr} (la:a<n):n+1≠n∧a≠n+1∧a≠n:=by
 have la':@LT.lt Nat _ a n:=la;refine ⟨fun h=>?_,fun h=>?_,fun h=>?_⟩<;>(have h':@Eq Nat _ _:=h;clear h la;omega)
theorem Zf1 (k:SK) {a:Expr} (hg:Gl X "enumerate") (hm:X.mg "enumerate" = none) (ha:PA X [a] ta) (hs:starEach [a] X.env=[(false,eval a X.env)]:=by rfl) :
 PI X (.Tuple es x1 tp) (.Call (.Name "enumerate" p) [a] [] pos) (Zwn k X.K ta):=by
 intro pins s σ H R I h;refine Call_ (Zbu I hg hm Zet (n58_ (thn (ha pos pins s σ H _ I h) fun us s1 ⟨vs,H1,I1,r1,q1⟩=>?_) hs rfl));obtain ⟨a,e,⟨xs,hx⟩,q⟩:=q1;subst e;cases r1 with
 | cons r rr =>
   cases rr
   cases r
   obtain ⟨us,ru,pu⟩:=hx.is I1;have la:a<s1.z:=by obtain ⟨_,_,e,_⟩:=pu.ex;exact n14_ e
   refine Zml pu fun h1 m1 m4 m7=>wpAny_pyIter_enum m1 ?_;have I2:Inv X pins σ H1 { s1 with heap:=h1,toks:=s1.toks }:=I1.kept m7;obtain ⟨z1,z2,z3⟩:=ne3 la;refine ⟨_,_,_,_,H1,rfl,I2,Znn (e:=s1.z+1) (it:=s1.z) (k:=k) (a:=a) z1 z2 z3,⟨⟨_,m1⟩,m4⟩,?_,q⟩
   exact I1.fps (fp:=[s1.z+1,s1.z]) (by
    intro e he;simp only [n13_,n15_,or_false] at he
    rcases he with rfl|rfl
    · exact Nat.le_succ _
    · exact n11_ _)
end
theorem Zh5 {J:It} {σ0:St} {Q:VK} (Pv:Nat→St→?y) (h0:Pv 0 σ0 (upd H D (.lst [])))
 (hx:∀ i σ H,i<n→Pv i σ H→J.go i H) (hz:∀ σ H,Pv n σ H→J.stop n H)
 (hs:∀ i x σ2 H2 H3,i<n→J.yld i H2 x H3→Pv i σ2 H2→g x σ2 H3 fun σ4 H4=>tt σ4 H4 fun b H5=>if b=true then te σ4 H5 fun y H6=>∃ ys,H6 D=some (.lst ys)∧ys.length<sizeLine ∧
   ∃ m',m'<n-i∧LcN n Pv (i+1) m' σ4 (upd H6 D (.lst (ys++[y]))) else ∃ m',m'<n-i∧LcN n Pv (i+1) m' σ4 H5)
 (hd:∀ σ2 H2,Pv n σ2 H2→Q (.ref D) H2):LcGo J g tt te σ0 H D Q:=by
 refine ⟨LcN n Pv,⟨_,n45_ _,rfl,h0⟩,?_⟩;rintro i m σ2 H2 ⟨hi,rfl,p⟩
 by_cases hlt:i<n
 · exact .inr ⟨hx i σ2 H2 hlt p,fun x H3 y=>hs i x σ2 H2 H3 hlt y p⟩
 · have e:i=n:=?d
   subst e;exact .inl ⟨hz σ2 H2 p,hd σ2 H2 p⟩
theorem Yk {J:It} {tb:TS} {D:Ends} (Pv:Nat→St→?y) (h0:Pv 0 σ H)
 (hx:∀ i σ H,i<n→Pv i σ H→J.go i H) (hz:∀ σ H,Pv n σ H→J.stop n H)
 (hs:∀ i x σ H H',i<n→J.yld i H x H'→Pv i σ H→g x σ H' fun σ2 H2=>tb { D with nx:=Pv (i+1),ct:=Pv (i+1),bk:=D.nx } σ2 H2) (hd:∀ σ H,Pv n σ H→D.nx σ H) :
 ∃ W:Nat→Nat→St→?y,(∃ m,W 0 m σ H)∧∀ i m σ H,W i m σ H →
   (J.stop i H∧D.nx σ H)∨(J.go i H∧∃ N:St→?y,(∀ σ' H',N σ' H'→∃ m',m'<m∧W (i+1) m' σ' H')∧∀ x H',J.yld i H x H'→g x σ H' fun σ2 H2=>tb { D with nx:=N,ct:=N,bk:=D.nx } σ2 H2):=by
 refine ⟨fun i m σ H=>m=n-i∧i≤n∧Pv i σ H,⟨n,by simp,n45_ _,h0⟩,?_⟩;rintro i m σ H ⟨rfl,hi,p⟩
 by_cases hlt:i<n
 · exact .inr ⟨hx i σ H hlt p,Pv (i+1),fun σ' H' p'=>⟨n-(i+1),?d,rfl,hlt,p'⟩,fun x H' y=>hs i x σ H H' hlt y p⟩
 · have e:i=n:=?d
   subst e;exact .inl ⟨hz σ H p,hd σ H p⟩
end L2
namespace STb
open PySem
def step (M:Nat) (q:Nat×Nat):Nat×Nat:=SetTable.leap M q.1 q.2
def nth (M:Nat):Nat→Nat×Nat→Nat×Nat
 | 0,q=>q
 | n+1,q=>nth M n (step M q)
theorem Zql (M n:Nat) (q:Nat×Nat):nth M (n+1) q=step M (nth M n q):=by
 induction n generalizing q with
 | zero=>rfl
 | succ n ih=>exact ih (step M q)
theorem Zs0 (M a b:Nat) (q:Nat×Nat):nth M (a+b) q=nth M b (nth M a q):=by
 induction a generalizing q with
 | zero=>rw [Nat.zero_add];rfl
 | succ a ih=>rw [Nat.succ_add];exact ih (step M q)
theorem Ztw (M n:Nat) (q:Nat×Nat):(nth M n q).2=q.2/32^n:=by
 induction n generalizing q with
 | zero=>simp [nth]
 | succ n ih =>
   show (nth M n (step M q)).2=_
   rw [ih];show q.2/32/32^n=_
   rw [Nat.div_div_eq_div_mul,Nat.pow_succ,Nat.mul_comm]
def fz (M:Nat) (i:Nat):Nat:=(i*5+1) % (M+1)
def fzn (M:Nat):Nat→Nat→Nat
 | 0,i=>i
 | n+1,i=>fzn M n (fz M i)
theorem Zud (M n:Nat) (i:Nat):nth M n (i,0)=(fzn M n i,0):=by
 induction n generalizing i with
 | zero=>rfl
 | succ n ih =>
   show nth M n (step M (i,0))=_
   have e:step M (i,0)=(fz M i,0):=by
    unfold step SetTable.leap fz
    simp
   rw [e,ih];rfl
def masks (M:Nat):Prop:=M=7∨M=31∨M=127
def orb (M:Nat):List Nat:=(List.range (M+1)).map fun n=>fzn M n 0
theorem Zje (M a b i:Nat):fzn M (a+b) i=fzn M b (fzn M a i):=by
 induction a generalizing i with
 | zero=>rw [Nat.zero_add];rfl
 | succ a ih=>rw [Nat.succ_add];exact ih (fz M i)
def good (M:Nat):Bool:=(List.range (M+1)).all (fun j=>(orb M).contains j)&&fzn M (M+1) 0 == 0
theorem Zwp:good 7=true:=?i
theorem Zuv:good 31=true:=?i
theorem Zsr:good 127=true:=?i
theorem Zs4 {M:Nat} (h:masks M):good M=true:=by
 rcases h with rfl|rfl|rfl
 · exact Zwp
 · exact Zuv
 · exact Zsr
theorem Zwd {M i j:Nat} (h:masks M) (hi:i≤M) (hj:j≤M):∃ n,n≤M∧fzn M n i=j:=by
 have g:=Zs4 h;unfold good at g;rw [n35_,n49_] at g;obtain ⟨g1,g2⟩:=g;have g2':fzn M (M+1) 0=0:=by simpa using g2
 have mem:∀ j,j≤M→∃ a,a≤M∧fzn M a 0=j:=fun j hj=>by
  have:=g1 j (by simpa using Nat.lt_succ_of_le hj)
  have:j∈orb M:=by simpa using this
  unfold orb at this;obtain ⟨a,ha,e⟩:=n25_.mp this;exact ⟨a,Nat.le_of_lt_succ (n42_.mp ha),e⟩
 obtain ⟨a,ha,ea⟩:=mem i hi;obtain ⟨b,hb,eb⟩:=mem j hj
 by_cases hab:a≤b
 · refine ⟨b-a,?d,?_⟩;rw [← ea,← Zje,show a+(b-a)=b by omega];exact eb
 · refine ⟨M+1-a+b,?d,?_⟩;rw [← ea,← Zje,show a+(M+1-a+b)=(M+1)+b by omega,Zje,g2'];exact eb
theorem Ztn (M:Nat) (q:Nat×Nat):(step M q).1≤M:=Nat.le_of_lt_succ (Nat.mod_lt _ (Nat.succ_pos _))
theorem Zu7 {M n:Nat} {q:Nat×Nat} (h:q.1≤M):(nth M n q).1≤M:=by
 cases n with
 | zero=>exact h
 | succ n=>rw [Zql];exact Ztn M _
theorem Zuy {M i p j:Nat} (h:masks M) (hi:i≤M) (hp:p<2^64) (hj:j≤M):∃ n,n≤M+13∧(nth M n (i,p)).1=j:=by
 have z:(nth M 13 (i,p)).2=0:=by
  rw [Ztw];refine Nat.div_eq_of_lt (n9_ hp ?_);decide
 have e:nth M 13 (i,p)=((nth M 13 (i,p)).1,0):=by rw [← z]
 obtain ⟨n,hn,en⟩:=Zwd h (Zu7 (n:=13) (q:=(i,p)) hi) hj;refine ⟨13+n,?d,?_⟩;rw [Zs0,e,Zud];exact en
theorem Znx (h:Int):SetTable.bits h<2^64:=by
 unfold SetTable.bits;have h1:(0:Int)≤h % 2^64:=Int.emod_nonneg _ ?e;have h2:h % 2^64<2^64:=Int.emod_lt_of_pos _ ?e;omega
theorem Zlw {t:SetTable} {j:Nat} (hd:t.dummies=#[]) (hj:j∉t.place.toList):t.slot j=.empty:=by
 unfold SetTable.slot
 have h1:(t.place[SetTable.below t.place j]? == some j)=false:=by
  rw [beq_eq_false_iff_ne];intro e;exact hj (by simpa using Array.mem_of_getElem? e)
 have h2:SetTable.has t.dummies j=false:=by
  rw [hd];unfold SetTable.has
  simp
 simp only [h1,h2];rfl
theorem Zfj {t:SetTable} {j:Nat} (hd:t.dummies=#[]):t.slot j=.empty∨∃ i,t.slot j=.live i∧t.place[i]? = some j:=by
 by_cases h:t.place[SetTable.below t.place j]? = some j
 · refine .inr ⟨_,?_,h⟩;unfold SetTable.slot;simp only [h,beq_self_eq_true,if_true]
 · left
   have h1:(t.place[SetTable.below t.place j]? == some j)=false:=beq_eq_false_iff_ne.mpr h
   have h2:SetTable.has t.dummies j=false:=by
    rw [hd];unfold SetTable.has
    simp
   unfold SetTable.slot;simp only [h1,h2];rfl
theorem Zir (l:List Nat) (n:Nat) (h:l.length<n):∃ j,j<n∧j∉l:=by
 induction n generalizing l with
 | zero=>omega
 | succ n ih =>
   by_cases hm:n∈l
   · obtain ⟨j,hj,hl⟩:=ih (l.filter (·≠n)) (by
      have:(l.filter (·≠n)).length<l.length:=by
       refine List.length_filter_lt_length_iff_exists.mpr ⟨n,hm,by simp⟩
      omega)
     refine ⟨j,?d,fun z=>hl ?_⟩;rw [List.mem_filter];exact ⟨z,by simp;omega⟩
   · exact ⟨n,n81_ n,hm⟩
def adv (t:SetTable):Nat→SetTable.Probe→SetTable.Probe
 | 0,p=>p
 | n+1,p=>adv t n (t.advance p)
theorem Zsf (t:SetTable) (a b:Nat) (p:SetTable.Probe):adv t (a+b) p=adv t b (adv t a p):=by
 induction a generalizing p with
 | zero=>rw [Nat.zero_add];rfl
 | succ a ih=>rw [Nat.succ_add];exact ih (t.advance p)
def start (t:SetTable) (q:Nat×Nat) (d:Option Nat):SetTable.Probe:={ j:=q.1,more:=SetTable.runEnd t.mask q.1-q.1,i:=q.1,perturb:=q.2,dummy:=d }
theorem Zvz (M i:Nat):SetTable.runEnd M i-i≤9:=by
 unfold SetTable.runEnd;split<;>omega
theorem Zna (t:SetTable):∀ (k:Nat) (p:SetTable.Probe),p.more=k→adv t (k+1) p=start t (step t.mask (p.i,p.perturb)) p.dummy
 | 0,p,h=>by
   show t.advance p=_
   unfold SetTable.advance;rw [if_neg (?d)];rfl
 | k+1,p,h=>by
   show adv t (k+1) (t.advance p)=_
   have e:t.advance p={ p with j:=p.j+1,more:=p.more-1 }:=by
    unfold SetTable.advance;rw [if_pos (?d)]
   rw [e]
   have:=Zna t k { p with j:=p.j+1,more:=p.more-1 } (by show p.more-1=k;omega)
   rw [this]
theorem Zm1 (t:SetTable) (n:Nat) (q:Nat×Nat) (d:Option Nat):∃ m,m≤10*n∧adv t m (start t q d)=start t (nth t.mask n q) d:=by
 induction n generalizing q with
 | zero=>exact ⟨0,n11_ _,rfl⟩
 | succ n ih =>
   obtain ⟨m,hm,e⟩:=ih (step t.mask q);refine ⟨(SetTable.runEnd t.mask q.1-q.1)+1+m,?_,?_⟩
   · have:=Zvz t.mask q.1;omega
   · rw [Zsf,Zna t (SetTable.runEnd t.mask q.1-q.1) (start t q d) rfl];exact e
def Near (t:SetTable) (n:Nat) (p:SetTable.Probe):Prop:=∃ m,m≤n∧t.slot (adv t m p).j=.empty
theorem near_start {t:SetTable} {h:Int} (hm:masks t.mask) (hd:t.dummies=#[]) (hl:t.place.size<t.mask+1):Near t (10*(t.mask+13)) (t.probeStart h):=by
 obtain ⟨j,hj,hn⟩:=Zir t.place.toList (t.mask+1) (by simpa using hl);have hi:SetTable.bits h % (t.mask+1)≤t.mask:=Nat.le_of_lt_succ (Nat.mod_lt _ (Nat.succ_pos _));obtain ⟨n,hn2,e⟩:=Zuy hm hi (Znx h) (Nat.le_of_lt_succ hj);obtain ⟨m,hm2,e2⟩:=Zm1 t n (SetTable.bits h % (t.mask+1),SetTable.bits h) none;refine ⟨m,?d,?_⟩
 have:t.probeStart h=start t (SetTable.bits h % (t.mask+1),SetTable.bits h) none:=rfl
 rw [this,e2];show t.slot (nth t.mask n _).1=.empty
 rw [e];exact Zlw hd hn
theorem Zh1 (t:SetTable):∀ (n:Nat) (p:SetTable.Probe),(adv t n p).dummy=p.dummy
 | 0,_=>rfl
 | n+1,p=>by
   show (adv t n (t.advance p)).dummy=_
   rw [Zh1 t n];unfold SetTable.advance;split<;>rfl
theorem go_near {t:SetTable} {f:Nat→Int} {h:Int} (hd:t.dummies=#[]):∀ (n:Nat) (fuel:Nat) (p:SetTable.Probe),p.dummy=none→Near t n p→n<fuel →
 (∃ j,SetTable.probe.go t f h fuel p=some (.empty j none)∧t.slot j=.empty) ∨
 (∃ j i q,SetTable.probe.go t f h fuel p=some (.candidate j i q)∧t.slot j=.live i∧t.place[i]? = some j∧q.dummy=none∧∃ n',n'<n∧Near t n' q)
 | n,0,p,_,_,hf=>?d
 | n,fuel+1,p,hp,⟨m,hm,e⟩,hf=>by
   rcases Zfj (j:=p.j) hd with hs|⟨i,hs,hi⟩
   · left
     refine ⟨p.j,?_,hs⟩;unfold SetTable.probe.go;rw [hs,hp]
   · have hm0:m≠0:=by
      rintro rfl
      have:t.slot p.j=.empty:=e
      rw [hs] at this;cases this
     obtain ⟨k,rfl⟩:∃ k,m=k+1:=⟨m-1,?d⟩;have e':t.slot (adv t k (t.advance p)).j=.empty:=e
     have hp':(t.advance p).dummy=none:=by
      have:=Zh1 t 1 p
      exact this.trans hp
     by_cases hc:(f i == h)=true
     · right
       refine ⟨p.j,i,t.advance p,?_,hs,hi,hp',n-1,?d,k,?d,e'⟩;unfold SetTable.probe.go;rw [hs];simp only [hc,if_true]
     · have:=go_near (f:=f) (h:=h) hd (n-1) fuel (t.advance p) hp' ⟨k,?d,e'⟩ (?d)
       have eq:SetTable.probe.go t f h (fuel+1) p=SetTable.probe.go t f h fuel (t.advance p):=by
        conv=>lhs;unfold SetTable.probe.go
        rw [hs];simp only [hc,if_false];rfl
       rw [eq]
       rcases this with r|⟨j,i',q,r1,r2,r3,r4,n',r5,r6⟩
       · exact .inl r
       · exact .inr ⟨j,i',q,r1,r2,r3,r4,n',?d,r6⟩
theorem Zg5 {M:Nat} {owner:Array (Option Nat)}:∀ (n fuel:Nat) (q:Nat×Nat),(∃ m,m≤n∧(owner.getD (nth M m q).1 (some 0)).isNone=true)→n<fuel →
 ∃ j,SetTable.layClean.free M owner fuel q.1 q.2=some j∧(owner.getD j (some 0)).isNone=true
 | n,0,_,_,hf=>?d
 | n,fuel+1,q,⟨m,hm,e⟩,hf=>by
   unfold SetTable.layClean.free;cases hfi:(List.range (SetTable.runEnd M q.1+1-q.1)).find? fun k=>(owner.getD (q.1+k) (some 0)).isNone with
   | some k =>
     refine ⟨q.1+k,rfl,?_⟩;exact (List.find?_some (p:=fun k=>(owner.getD (q.1+k) (some 0)).isNone) hfi)
   | none =>
     have hm0:m≠0:=by
      rintro rfl
      have e0:(owner.getD q.1 (some 0)).isNone=true:=e
      have:=List.find?_eq_none.mp hfi 0 (by
       rw [n42_];unfold SetTable.runEnd;split<;>omega)
      rw [Nat.add_zero] at this;exact this e0
     obtain ⟨k,rfl⟩:∃ k,m=k+1:=⟨m-1,?d⟩;exact Zg5 (n-1) fuel (step M q) ⟨k,?d,e⟩ (?d)
def cnt (owner:Array (Option Nat)):Nat:=owner.toList.countP (·.isSome)
structure Own (M n:Nat) (owner:Array (Option Nat)):Prop where
 size:owner.size=M+1
 cnt:cnt owner=n
 lt:∀ (j k:Nat),owner[j]? = some (some k)→k<n
theorem Zay {α:Type} (p:α→Bool):∀ (l:List α),l.countP p<l.length→∃ (j:Nat) (x:α),l[j]? = some x∧p x=false
 | [],h=>by simp at h
 | x :: l,h=>by
   by_cases hx:p x=true
   · rw [List.countP_cons,if_pos hx,n21_] at h;obtain ⟨j,y,e,hy⟩:=Zay p l (?d);exact ⟨j+1,y,by simpa using e,hy⟩
   · exact ⟨0,x,rfl,by simpa using hx⟩
theorem Zfl {α:Type} (p:α→Bool):∀ (l:List α) (j:Nat) (x y:α),l[j]? = some x→p x=false→p y=true→(l.set j y).countP p=l.countP p+1
 | [],j,x,y,h,_,_=>by simp at h
 | z :: l,0,x,y,h,hx,hy=>by
   have:z=x:=by simpa using h
   subst this;simp [List.countP_cons,hx,hy]
 | z :: l,j+1,x,y,h,hx,hy=>by
   have:=Zfl p l j x y (by simpa using h) hx hy
   simp only [List.set_cons_succ,List.countP_cons,this];omega
theorem Own.free {M n:Nat} {owner:Array (Option Nat)} (o:Own M n owner) (hm:masks M) (hn:n<M+1) (h:Int):∃ j,SetTable.layClean.free M owner (SetTable.turns M) (SetTable.bits h % (M+1)) (SetTable.bits h)=some j∧owner[j]? = some none:=by
 obtain ⟨j,x,e,hx⟩:=Zay (fun x:Option Nat=>x.isSome) owner.toList (by
  have:owner.toList.countP (fun x:Option Nat=>x.isSome)=n:=o.cnt
  rw [this,Array.length_toList,o.size];exact hn)
 have hj:j≤M:=by
  have:=(n18_.mp e).1
  rw [Array.length_toList,o.size] at this;omega
 have e':owner[j]? = some x:=by simpa using e
 obtain ⟨m,hm2,em⟩:=Zuy hm (Nat.le_of_lt_succ (Nat.mod_lt (SetTable.bits h) (Nat.succ_pos M))) (Znx h) hj
 obtain ⟨j',r1,r2⟩:=Zg5 (M:=M) (owner:=owner) (M+13) (SetTable.turns M) (SetTable.bits h % (M+1),SetTable.bits h) ⟨m,hm2,by
  rw [em,Array.getD_eq_getD_getElem?,e'];cases x with
  | none=>rfl
  | some _=>cases hx⟩ (by unfold SetTable.turns;omega)
 refine ⟨j',r1,?_⟩;rw [Array.getD_eq_getD_getElem?] at r2;cases q:owner[j']? with
 | none=>rw [q] at r2;cases r2
 | some y =>
   rw [q] at r2;cases y with
   | none=>rfl
   | some _=>cases r2
theorem Own.put {M n:Nat} {owner:Array (Option Nat)} (o:Own M n owner) {j:Nat} (hj:owner[j]? = some none):Own M (n+1) (owner.setIfInBounds j (some n)) where
 size:=by rw [Array.size_setIfInBounds];exact o.size
 cnt:=by
  unfold STb.cnt;rw [Array.toList_setIfInBounds];rw [Zfl (fun x:Option Nat=>x.isSome) owner.toList j none (some n) (by simpa using hj) rfl rfl]
  have:owner.toList.countP (fun x:Option Nat=>x.isSome)=n:=o.cnt
  rw [this]
 lt:=fun i k e=>by
  rw [Array.getElem?_setIfInBounds] at e;split at e
  · split at e
    · have:n=k:=by simpa using e
      omega
    · cases e
  · have:=o.lt i k e;omega
def X7 (M:Nat) (acc:Option (Array (Option Nat)×Nat)) (h:Int):Option (Array (Option Nat)×Nat):=do
 let (owner,k) ← acc
 let j ← SetTable.layClean.free M owner (SetTable.turns M) (SetTable.bits h % (M+1)) (SetTable.bits h)
 pure (owner.setIfInBounds j (some k),k+1)
theorem Zka {M:Nat} (hm:masks M):∀ (hs:?g) (n:Nat) (owner:Array (Option Nat)),Own M n owner→n+hs.length<M+1→∃ owner',hs.foldl (X7 M) (some (owner,n))=some (owner',n+hs.length)∧Own M (n+hs.length) owner'
 | [],n,owner,o,_=>⟨owner,rfl,o⟩
 | h :: hs,n,owner,o,hl=>by
   rw [n21_] at hl;obtain ⟨j,r1,r2⟩:=o.free hm (?d) h
   have e:X7 M (some (owner,n)) h=some (owner.setIfInBounds j (some n),n+1):=by
    unfold X7;show (SetTable.layClean.free M owner (SetTable.turns M) (SetTable.bits h % (M+1)) (SetTable.bits h)).bind _=_
    rw [r1];rfl
   obtain ⟨owner',e2,o2⟩:=Zka hm hs (n+1) _ (o.put r2) (?d);refine ⟨owner',?_,?_⟩
   · rw [n80_,e,e2,n21_];congr 2;omega
   · rw [n21_,show n+(hs.length+1)=n+1+hs.length by omega];exact o2
theorem own0 (M:Nat):Own M 0 (Array.replicate (M+1) none) where
 size:=by simp
 cnt:=by
  unfold STb.cnt;rw [Array.toList_replicate,List.countP_replicate];rfl
 lt:=fun j k e=>by
  rw [Array.getElem?_replicate] at e;split at e<;>cases e
theorem Zja {M:Nat} (hm:masks M) (hs:Array Int) (hl:hs.size<M+1):∃ owner,SetTable.layClean M hs=some owner∧Own M hs.size owner:=by
 obtain ⟨owner,e,o⟩:=Zka hm hs.toList 0 _ (own0 M) (by simpa using hl);refine ⟨owner,?_,by simpa using o⟩;unfold SetTable.layClean;rw [← Array.foldl_toList]
 have:(hs.toList.foldl (X7 M) (some (Array.replicate (M+1) none,0)))=some (owner,0+hs.toList.length):=e
 show (List.foldl (X7 M) (some (Array.replicate (M+1) none,0)) hs.toList).map (·.1)=some owner
 rw [this];rfl
theorem Xm {α β:Type} (f:α→Option β):∀ l:List α,(l.filterMap f).length=l.countP (fun x=>(f x).isSome)
 | []=>rfl
 | x :: l=>by
   rw [List.countP_cons];cases h:f x with
   | none=>rw [List.filterMap_cons_none h,Xm f l];simp
   | some y=>rw [List.filterMap_cons_some h,n21_,Xm f l];simp
theorem Zf4 {M n:Nat} {owner:Array (Option Nat)} (o:Own M n owner):((List.range (M+1)).filterMap fun j=>(owner.getD j none).map (j,·)).length=n:=by
 rw [Xm]
 have e:(List.range (M+1)).countP (fun j=>((owner.getD j none).map (j,·)).isSome)=(List.range owner.size).countP (fun j=>(owner.getD j none).isSome):=by
  rw [o.size];refine List.countP_congr fun j _=>?_;cases owner.getD j none<;>simp
 rw [e]
 have e2:owner.toList=(List.range owner.size).map (fun j=>owner.getD j none):=by
  refine List.ext_getElem ?f fun i h1 h2=>?_;have hi:i<owner.size:=by simpa using h1
  simp [Array.getD,hi]
 have:=o.cnt
 unfold STb.cnt at this;rw [e2,List.countP_map] at this;exact this
theorem Zsv {M n:Nat} {owner:Array (Option Nat)} (o:Own M n owner):∀ q∈((List.range (M+1)).filterMap fun j=>(owner.getD j none).map (j,·)),q.2<n:=fun q hq=>by
 obtain ⟨j,_,e⟩:=List.mem_filterMap.mp hq;cases h:owner.getD j none with
 | none=>rw [h] at e;cases e
 | some k =>
   rw [h] at e;have e':(j,k)=q:=by simpa using e
   rw [← e'];refine o.lt j k ?_;rw [Array.getD_eq_getD_getElem?] at h;cases g:owner[j]? with
   | none=>rw [g] at h;cases h
   | some y=>rw [g] at h;exact congrArg some h
theorem relaid_ok {t:SetTable} {hs:Array Int} {wanted M:Nat} (hM:SetTable.sizeAbove wanted-1=M) (hm:masks M) (hl:hs.size<M+1):∃ (t':SetTable) (order:Array Nat),t.relaid hs wanted=some (t',order) ∧
 t'.mask=M∧t'.dummies=#[]∧t'.place.size=hs.size∧order.size=hs.size∧∀ k∈order.toList,k<hs.size:=by
 obtain ⟨owner,e,o⟩:=Zja hm hs hl;unfold SetTable.relaid SetTable.laid;rw [hM,e];refine ⟨_,_,rfl,rfl,rfl,?_,?_,fun k hk=>?_⟩
 · simp only [n16_,n7_];exact Zf4 o
 · simp only [n16_,n7_];exact Zf4 o
 · have hk':k∈List.map (fun q:Nat×Nat=>q.2) ((List.range (M+1)).filterMap fun j=>(owner.getD j none).map (j,·)):=hk;obtain ⟨q,hq,rfl⟩:=n25_.mp hk';exact Zsv o q hq
theorem pick_size {α:Type} {es:Array α} {order:Array Nat} (h1:order.size=es.size) (h2:∀ k∈order.toList,k<es.size):(order.filterMap (es[·]?)).size=es.size∧∀ x∈(order.filterMap (es[·]?)).toList,x∈es.toList:=by
 constructor
 · rw [← Array.length_toList,Array.toList_filterMap,Xm,← h1,← Array.length_toList];rw [List.countP_eq_length];intro k hk
   have:k<es.size:=h2 k hk
   simp [this]
 · intro x hx;rw [Array.toList_filterMap] at hx;obtain ⟨k,_,e⟩:=List.mem_filterMap.mp hx;exact by simpa using Array.mem_of_getElem? e
theorem insertAt_size {α:Type} (xs:Array α) (p:Nat) (x:α):(SetTable.insertAt xs p x).size=xs.size+1:=by
 unfold SetTable.insertAt;simp only [Array.size_append,Array.size_push,Array.size_extract];omega
theorem insertAt_mem {α:Type} {xs:Array α} {p:Nat} {x y:α} (h:y∈(SetTable.insertAt xs p x).toList):y=x∨y∈xs.toList:=by
 unfold SetTable.insertAt at h;rw [Array.toList_append,Array.toList_push,n39_,n39_] at h
 rcases h with (h|h)|h
 · right;rw [Array.toList_extract] at h;exact List.mem_of_mem_drop (List.mem_of_mem_take h)
 · left;simpa using h
 · right;rw [Array.toList_extract] at h;exact List.mem_of_mem_drop (List.mem_of_mem_take h)
end STb
namespace L2
open PySem PySem.Spec PyProof.Rows
variable {S a it l t:Addr} {es:Array (Int×Value)} {items:?H} {X:Cx} {env:Env} {elt i0 i1 t0 t1:Expr} {h h':Heap} {H H2:Hp} {pins:?A} {fr:List (Option Nat)} {cl:List (Str×Addr)} {fp:List Addr} {N:List Str} {ep j k n:Nat} {o:Obj} {pos:Pos} {P prog:Program} {scope:Scope} {s3:Shared} {σ:St} {ta:TA} {te:TE} {wi:TI} {E Q:Value→?k} {w:World}
section
variable {prog:Program} {w:World} {A:Around} {E:Value→?k} {s:Shared} {K:Type} [DecidableEq K] {knd:KeyKind prog w K}
structure TupSet (knd:KeyKind prog w K) (h:Heap) (S:Addr) (ks:List (List K)) (es:Array (Int×Value)) (t:SetTable) (ep:Nat) (o:Obj):Prop where
 get:h.get? S=some o
 ex:o.ExactSet
 dat:o.data=.set es ep t
 mem:∀ e∈es.toList,∃ a k,e.2=.ref a∧k∈ks∧IsTupleKey knd h k a
 len:es.size=ks.length
 pl:t.place.size=es.size
 dum:t.dummies=#[]
 msk:STb.masks t.mask
 few:es.size*5<t.mask*3
theorem TupSet.fits {ks:List (List K)} {t:SetTable} (T:TupSet knd h S ks es t ep o):t.fits es.size=true:=by
 unfold SetTable.fits SetTable.fill;rw [T.dum,T.pl]
 have:=T.few
 have:es.size+(#[]:Array Nat).size≤t.mask:=by show es.size+0≤t.mask;omega
 simp
 show es.size≤t.mask
 exact this
theorem TupSet.way {ks:List (List K)} {t:SetTable} (T:TupSet knd h S ks es t ep o):t.gaveWay=false:=by
 unfold SetTable.gaveWay
 rcases T.msk with e|e|e<;>rw [e]<;>rfl
theorem Zdw {ks:List K} {Q:Bool→?k} (hk:IsTupleKey knd s.heap ks a) (h:Q false s):wpAny ?s A (ofAClassStatement (n+1) (.ref a)) Q E s:=by
 have hT:=hk.typeIs;obtain ⟨o,items,m,ho,_,hd,hi⟩:=hk;unfold ofAClassStatement;refine n0_ (wpAny_typeOf hT ?_);simp only [beq_self_eq_true,if_true];refine n0_ (n3_ ?_);simp only [Bool.not_true,n19_,if_false];refine n0_ (wpAny_seqItems ho hd ?_);refine n0_ ?_;show wpAny _ _ (forIn items _ _) _ _ s
 rw [← Array.forIn_toList];refine wpAny_forIn_list _ (fun rest r s'=>r.1=none∧s'=s∧∀ v∈rest,carriedByValue v=true) _ ?_ ?_ _ _ ⟨rfl,rfl,hi.byValue⟩
 · rintro v rest r s' ⟨hr,rfl,hall⟩
   have hv:=hall v n24_
   have e:ofAClassStatement n v=pure false:=by
    cases v<;>first|(unfold ofAClassStatement;rfl)|(cases hv)
   rw [e];refine n0_ (n3_ ?_);simp only [n19_,if_false];exact n3_ ⟨rfl,rfl,fun u hu'=>hall u (n17_ _ hu')⟩
 · rintro ⟨r1,r2⟩ s' ⟨hr,rfl,_⟩
   simp only at hr;subst hr;exact n3_ h
theorem Zvl {k:List K} {Q:Bool→?k} (hk:IsTupleKey knd s.heap k a) (l:?q) (hl:∀ y∈l,∃ b k',y=.ref b∧IsTupleKey knd s.heap k' b) (h:Q false s) :
 wpAny ?s A (searchCouldBeSeen (.ref a) l) Q E s:=by
 unfold searchCouldBeSeen;refine n0_ ?_;refine wpAny_forIn_list _ (fun rest r s'=>r.1=none∧s'=s∧∀ y∈rest,∃ b k',y=.ref b∧IsTupleKey knd s.heap k' b) _ ?_ ?_ _ _ ⟨rfl,rfl,hl⟩
 · rintro y rest r s' ⟨hr,rfl,hall⟩
   obtain ⟨b,k',rfl,hb⟩:=hall y n24_;have rest':∀ y∈rest,∃ b k',y=.ref b∧IsTupleKey knd s'.heap k' b:=fun u hu=>hall u (n17_ _ hu);dsimp only;split
   · exact n3_ ⟨rfl,rfl,rest'⟩
   · refine n0_ (wpAny_eqIsQuiet_tuple hk ?_);simp only [Bool.not_true,n19_,if_false];refine n0_ (wpAny_eqIsQuiet_tuple hb ?_);simp only [Bool.not_true,n19_,if_false];refine n0_ (Zdw hk ?_);simp only [n19_,if_false];refine n0_ (Zdw hb ?_);simp only [n19_,if_false];exact n3_ ⟨rfl,rfl,rest'⟩
 · rintro ⟨r1,r2⟩ s' ⟨hr,rfl,_⟩
   simp only at hr;subst hr;exact n3_ h
theorem Zd1 {F:Nat→Int} {t:SetTable} {h:Int} {p:SetTable.Probe} {met:Option SetTable.Met} (e:t.probe F h p=met) (hd:t.dummies=#[]) (hp:p.dummy=none) (hN:STb.Near t n p) (hn:n<10*SetTable.turns t.mask) :
 (∃ j,met=some (.empty j none)∧t.slot j=.empty)∨(∃ j i q,met=some (.candidate j i q)∧t.slot j=.live i∧t.place[i]? = some j∧q.dummy=none∧∃ n',n'<n∧STb.Near t n' q):=by
 subst e;exact STb.go_near hd n _ p hp hN hn
theorem Zuz {ks:List (List K)} {t:SetTable} {k:List K} {h:Int} {Q:SetFound→?k} (hu:A.units<cLine) (T:TupSet knd s.heap S ks es t ep o) (hk:IsTupleKey knd s.heap k a) (hn:k∉ks)
 (q:∀ j,t.slot j=.empty→Q (.free j false) s):∀ (n fuel:Nat) (stand:Option SetTable.Probe),n<fuel→n<10*SetTable.turns t.mask→(stand.getD (t.probeStart h)).dummy=none→STb.Near t n (stand.getD (t.probeStart h)) →
 wpAny ?s A (setSearchFrom S (.ref a) h true fuel stand) Q E s:=by
 intro n
 induction n using Nat.strongRecOn with
 | ind n ih =>
   intro fuel stand hf hn2 hd hN;obtain ⟨f,rfl⟩:∃ f,fuel=f+1:=⟨fuel-1,?d⟩;unfold setSearchFrom;refine n0_ (wpAny_setState_of T.get T.dat T.fits ?_);dsimp only;rw [T.way];simp only [n19_,if_false];split
   rotate_left
   · rename_i heq
     exact ((Zd1 rfl T.dum hd hN hn2).elim (fun ⟨j,e,_⟩=>heq _ e) (fun ⟨j,i,p,e,_⟩=>heq _ e)).elim
   rename_i met heq
   rcases Zd1 heq T.dum hd hN hn2 with ⟨j,e,hj⟩|⟨j,i,p,e,hs,hi,hp,n',hn',hN'⟩
   · cases e
     exact n3_ (q j hj)
   · cases e
     dsimp only;have hi2:i<es.size:=by rw [← T.pl];exact (Array.getElem?_eq_some_iff.mp hi).1
     obtain ⟨y,hy⟩:∃ y,es[i]? = some y:=⟨_,Array.getElem?_eq_getElem hi2⟩;obtain ⟨h0,y⟩:=y;obtain ⟨b,k',rfl,hk',hb⟩:=(by simpa using T.mem (h0,y) (by simpa using Array.mem_of_getElem? hy):∃ b k',y=.ref b∧k'∈ks∧IsTupleKey knd s.heap k' b)
     have core:wpAny ?s A (do
      let some (_,y):=es[i]? | unsupported "internal:set-entry"
      let equal ← holding [y] (eqBool y (.ref a))
      let (es',_,t') ← setState S
      if true&&equal then return SetFound.there none
      let some same:=t'.sameMemory t.moves t.mask|unsupported "set.changed-during-lookup:is-the-new-block-at-the-old-address"
      let still ← match (if same then t'.slot j else .empty) with
       | .live i'=>match es'[i']? with
         | some (_,y')=>do pure (if ← isSame y' y then some i' else none)
         | none=>pure none
       | _=>pure none
      match still with
      | none=>rule "set.search.anew";setSearchFrom S (.ref a) h true f none
      | some i'=>if equal then return .there (some i') else setSearchFrom S (.ref a) h true f (some p)) Q E s:=by
      rw [hy];dsimp only;refine n0_ (n34_ (wpAny_eqBool_tuple hu hb hk ?_));have ne:decide (k'=k)=false:=n29_ (fun z=>hn (z ▸ hk'));rw [ne];refine n0_ (wpAny_setState_of T.get T.dat T.fits ?_);dsimp only;simp only [Bool.and_false,n19_,if_false];have sm:t.sameMemory t.moves t.mask=some true:=by unfold SetTable.sameMemory;simp
      rw [sm];dsimp only;simp only [if_true,hs,hy];refine n0_ (wpAny_isSame_ref_self ?_);simp only [if_true];refine n0_ (n3_ ?_);dsimp only;exact ih n' hn' f (some p) (?d) (?d) hp hN'
     by_cases hl:t.led=true
     · rw [hl];simp only [Bool.not_true,n19_,if_false];exact core
     · have hl':t.led=false:=by simpa using hl
       rw [hl'];simp only [Bool.not_false,if_true];refine n0_ (Zvl hk _ (fun y hy=>?_) ?_)
       · obtain ⟨z,hz,rfl⟩:=n25_.mp hy
         obtain ⟨b,k',e1,_,e3⟩:=T.mem z (by
          have hz':z∈es∧z.1=h:=by simpa using hz
          simpa using hz'.1)
         exact ⟨b,k',e1,e3⟩
       · simp only [n19_,if_false];exact core
end
section
variable {prog:Program} {w:World} {A:Around} {E:Value→?k} {s:Shared} {K:Type} [DecidableEq K] {knd:KeyKind prog w K}
theorem Zjt {ks:List K} {Q:Bool→?k} (hk:IsTupleKey knd s.heap ks a) (h:∀ b,Q b s):wpAny ?s A (hashByValue (n+1) (.ref a)) Q E s:=by
 have hT:=hk.typeIs;obtain ⟨o,items,m,ho,_,hd,hi⟩:=hk;unfold hashByValue;refine n0_ (wpAny_specialOf hT F.slot_tuple_hash.lookup ?_);dsimp only;refine n0_ (wpAny_seqItems ho hd ?_);refine n0_ ?_;show wpAny _ _ (forIn items _ _) _ _ s
 rw [← Array.forIn_toList];refine wpAny_forIn_list _ (fun rest r s'=>s'=s∧∀ v∈rest,carriedByValue v=true) _ ?_ ?_ _ _ ⟨rfl,hi.byValue⟩
 · rintro v rest r s' ⟨rfl,hall⟩
   have hv:=hall v n24_;have rest':∀ u∈rest,carriedByValue u=true:=fun u hu'=>hall u (n17_ _ hu')
   have e:∃ b,hashByValue n v=pure b:=by
    cases v<;>first|exact ⟨_,by unfold hashByValue;rfl⟩|(cases hv)
   obtain ⟨b,e⟩:=e;rw [e];refine n0_ (n3_ ?_);cases b
   · simp only [Bool.not_false,if_true];exact n3_ (n3_ (h _))
   · simp only [Bool.not_true,n19_,if_false];exact n3_ ⟨rfl,rest'⟩
 · rintro ⟨r1,r2⟩ s' ⟨rfl,_⟩
   cases r1 with
   | none=>exact n3_ (h _)
   | some b=>exact n3_ (h _)
theorem TupSet.store {ks':List (List K)} {es':Array (Int×Value)} {t t':SetTable} (get:h.get? S=some o) (ex:o.ExactSet) (dat:o.data=.set es ep t) (mem:∀ e∈es'.toList,∃ a k,e.2=.ref a∧k∈ks'∧IsTupleKey knd h k a)
 (len:es'.size=ks'.length) (pl:t'.place.size=es'.size) (dum:t'.dummies=#[]) (msk:STb.masks t'.mask) (few:es'.size*5<t'.mask*3) :
 TupSet knd (h.update S (Obj.putSet es' t')) S ks' es' t' (ep+1) { o with data:=.set es' (ep+1) t' }:=by
 have hg:(h.update S (Obj.putSet es' t')).get? S=some { o with data:=.set es' (ep+1) t' }:=by
  have:=n53_ (Obj.putSet es' t') get (by rw [putSet_of es' t' dat];rfl)
  rw [putSet_of es' t' dat] at this;exact this
 refine ⟨hg,ex,rfl,fun e he=>?_,len,pl,dum,msk,few⟩;obtain ⟨a,k,e1,e2,oa,items,n,e3,e4,e5,e6⟩:=mem e he
 have ne:a≠S:=by
  rintro rfl
  rw [get] at e3;cases e3;rw [dat] at e5;cases e5
 exact ⟨a,k,e1,e2,oa,items,n,((Heap.SameBut.update h S _).2 a ne).trans e3,e4,e5,e6⟩
theorem Zmi {M:Nat} (hn:n≤30) (hm:STb.masks M) (h:n*5 ≥ M*3) (h2:(n-1)*5<M*3):STb.masks (SetTable.sizeAbove (SetTable.grown n)-1)∧n<SetTable.sizeAbove (SetTable.grown n)-1+1∧n*5<(SetTable.sizeAbove (SetTable.grown n)-1)*3∧¬ SetTable.sizeAbove (SetTable.grown n)>sizeLine:=by
 rcases hm with rfl|rfl|rfl
 · have:n=5:=?d
   subst this;exact ⟨.inr (.inl (?i)),?i,?i,?i⟩
 · have:n=19:=?d
   subst this;exact ⟨.inr (.inr (?i)),?i,?i,?i⟩
 · omega
theorem Zv8 {ks:List (List K)} {t:SetTable} {Q:Unit→?k}
 (get:s.heap.get? S=some o) (ex:o.ExactSet) (dat:o.data=.set es ep t) (mem:∀ e∈es.toList,∃ a k,e.2=.ref a∧k∈ks∧IsTupleKey knd s.heap k a) (len:es.size=ks.length) (pl:t.place.size=es.size) (dum:t.dummies=#[]) (msk:STb.masks t.mask)
 (hn:ks.length≤30) (full:es.size*5 ≥ t.mask*3) (h2:(es.size-1)*5<t.mask*3)
 (q:∀ h' es' t' ep' o',Heap.SameBut S s.heap h'→TupSet knd h' S ks es' t' ep' o'→Q () { s with heap:=h' }):wpAny ?s A (setRelay S (SetTable.grown es.size)) Q E s:=by
 have fit:t.fits es.size=true:=by
  unfold SetTable.fits SetTable.fill;rw [dum,pl]
  simp
  show es.size≤t.mask
  rcases msk with e|e|e<;>rw [e] at h2 ⊢<;>omega
 obtain ⟨g1,g2,g3,g4⟩:=Zmi (?d) msk full h2;obtain ⟨t',order,e,r1,r2,r3,r4,r5⟩:=STb.relaid_ok (t:=t) (hs:=es.map (·.1)) (wanted:=SetTable.grown es.size) rfl g1 (by simpa using g2);have z:(es.map (·.1)).size=es.size:=by simp
 rw [z] at r3 r4 r5;obtain ⟨p1,p2⟩:=STb.pick_size r4 r5;unfold setRelay;refine n0_ (wpAny_setState_of get dat fit ?_);dsimp only;rw [if_neg g4];rw [e];have hb:((order.filterMap (es[·]?)).size != es.size)=false:=by rw [p1];simp
 refine n0_ ?_
 have red:wpAny ?s A (if ((order.filterMap (es[·]?)).size != es.size)=true then (unsupported "internal:set-table-lost-an-element" : Sem (Array (Int×Value)×SetTable)) else pure (order.filterMap (es[·]?),t')) (fun r s'=>wpAny ?s A (storeSet S r.1 r.2) Q E s') E s:=by
  rw [hb,if_neg ?e];refine n3_ ?_;refine wpAny_storeSet_of get dat (q _ _ _ _ _ (Heap.SameBut.update ..) (TupSet.store get ex dat (fun x hx=>mem x (p2 x hx)) (p1.trans len) (r3.trans p1.symm) r2 (by rw [r1];exact g1) (by rw [r1,p1];exact g3))) (by rw [p1,sizeLine_eq];omega)
 first
  | exact red
  | (refine n0_ ?_;exact red)
  | trace_state
theorem Zg9 (t:SetTable) (j:Nat):(t.put j).1.place.size=t.place.size+1∧(t.dummies=#[]→(t.put j).1.dummies=#[])∧(t.put j).1.mask=t.mask:=by
 unfold SetTable.put;refine ⟨STb.insertAt_size _ _ _,fun hd=>?_,rfl⟩
 have h2:SetTable.has t.dummies j=false:=by
  rw [hd];unfold SetTable.has
  simp
 simp only [h2];exact hd
theorem Zlt {ks:List (List K)} {t:SetTable} {k:List K} {h:Int} {Q:Bool→?k} (hu:A.units<cLine) (T:TupSet knd s.heap S ks es t ep o) (hk:IsTupleKey knd s.heap k a) (hn:k∉ks) (hl:ks.length<30)
 (q:∀ h' es' t' ep' o',Heap.SameBut S s.heap h'→TupSet knd h' S (k :: ks) es' t' ep' o'→Q true { s with heap:=h' }):wpAny ?s A (setAddHashed S (.ref a) h) Q E s:=by
 unfold setAddHashed setAddHashedIn;refine n34_ (n0_ (wpAny_setState_of T.get T.dat T.fits ?_));dsimp only;rw [show byScan (.ref a) es=false from rfl];simp only [n19_,if_false];have few:=T.few;have lt:t.place.size<t.mask+1:=by rw [T.pl];omega
 refine n0_ (Zuz hu T hk hn (fun j hj=>?_) (10*(t.mask+13)) 100000 none (by rcases T.msk with e|e|e<;>rw [e]<;>decide) (by unfold SetTable.turns;omega) rfl (STb.near_start T.msk T.dum lt));dsimp only;refine n0_ (wpAny_setState_of T.get T.dat T.fits ?_);dsimp only;obtain ⟨u1,u2,u3⟩:=Zg9 t j;generalize hput:t.put j=tp at u1 u2 u3;obtain ⟨t1,p⟩:=tp;dsimp only at u1 u2 u3 ⊢;have u2:=u2 T.dum
 have mem1:∀ e∈(?T).toList,∃ b k',e.2=.ref b∧k'∈k :: ks∧IsTupleKey knd s.heap k' b:=fun e he=>by
  rcases STb.insertAt_mem he with rfl|he
  · exact ⟨a,k,rfl,n24_,hk⟩
  · obtain ⟨b,k',e1,e2,e3⟩:=T.mem e he;exact ⟨b,k',e1,n17_ _ e2,e3⟩
 have sz1:(?T).size=es.size+1:=STb.insertAt_size _ _ _
 have key:∀ t2:SetTable,t2.place=t1.place→t2.dummies=t1.dummies→t2.mask=t1.mask→wpAny ?s A (do
  storeSet S (?T) t2
  if (!false&&t2.tooFull)=true then setRelay S (SetTable.grown (es.size+1))
  return true) Q E s:=by
  intro t2 e1 e2 e3
  have full:t2.tooFull=decide ((es.size+1)*5 ≥ t.mask*3):=by
   unfold SetTable.tooFull SetTable.fill;rw [e1,e2,e3,u1,u2,u3,T.pl];rfl
  refine n0_ (wpAny_storeSet_of T.get T.dat ?_ (by rw [sz1,sizeLine_eq,T.len];omega))
  have hg:(s.heap.update S (Obj.putSet (?T) t2)).get? S=some { o with data:=.set (?T) (ep+1) t2 }:=by
   have:=n53_ (Obj.putSet (?T) t2) T.get (by rw [putSet_of _ t2 T.dat];rfl)
   rw [putSet_of _ t2 T.dat] at this;exact this
  have sb:=Heap.SameBut.update s.heap S (Obj.putSet (?T) t2)
  by_cases hf:(es.size+1)*5 ≥ t.mask*3
  · rw [full,n44_ hf];simp only [Bool.not_false,Bool.true_and,if_true]
    have mem2:∀ e∈(?T).toList,∃ b k',e.2=.ref b∧k'∈k :: ks∧IsTupleKey knd (s.heap.update S (Obj.putSet (?T) t2)) k' b:=fun e he=>by
     obtain ⟨b,k',f1,f2,ob,items,n,f3,f4,f5,f6⟩:=mem1 e he
     have ne:b≠S:=by
      rintro rfl
      rw [T.get] at f3;cases f3;rw [T.dat] at f5;cases f5
     exact ⟨b,k',f1,f2,ob,items,n,(sb.2 b ne).trans f3,f4,f5,f6⟩
    rw [show es.size+1=(?T).size from sz1.symm];refine n0_ (Zv8 (s:={ s with heap:=s.heap.update S (Obj.putSet (?T) t2) }) hg T.ex rfl mem2 (by rw [sz1,T.len];rfl) (by rw [e1,u1,T.pl,sz1]) (by rw [e2];exact u2) (by rw [e3,u3];exact T.msk) (by simp;omega) (by rw [sz1,e3,u3];exact hf) (by rw [sz1,e3,u3];simpa using few) fun h' es' t' ep' o' r1 r2=>?_);exact n3_ (q h' es' t' ep' o' (sb.trans r1) r2)
  · rw [full,n29_ hf];simp only [Bool.not_false,Bool.true_and,n19_,if_false];have T2:=TupSet.store (es':=?T) (t':=t2) (ks':=k :: ks) T.get T.ex T.dat mem1 (by rw [sz1,T.len];rfl) (by rw [e1,u1,T.pl,sz1]) (by rw [e2];exact u2) (by rw [e3,u3];exact T.msk) (by rw [sz1,e3,u3];omega);exact n3_ (q _ _ _ _ _ sb T2)
 cases hpl:t1.plain with
 | true =>
   simp only [if_true];refine n0_ (Zjt hk fun b=>?_);cases b
   · exact key _ rfl rfl rfl
   · exact key _ rfl rfl rfl
 | false =>
   simp only [n19_,if_false];refine n0_ (n3_ ?_);exact key _ rfl rfl rfl
theorem Zmh {ks:List (List K)} {t:SetTable} {k:List K} {Q:Bool→?k} (hu:A.units<cLine) (T:TupSet knd s.heap S ks es t ep o) (hk:IsTupleKey knd s.heap k a) (hn:k∉ks) (hl:ks.length<30)
 (q:∀ h' es' t' ep' o' tk,Heap.SameBut S s.heap h'→TupSet knd h' S (k :: ks) es' t' ep' o'→Q true { s with heap:=h',toks:=tk }):wpAny ?s A (setAdd S (.ref a)) Q E s:=by
 unfold setAdd;refine n34_ (n0_ (wpAny_pyHash_tuple hu hk ?_));exact Zlt (s:={ s with toks:=s.toks+(k.length+1) }) hu T hk hn hl fun h' es' t' ep' o' r1 r2=>q h' es' t' ep' o' _ r1 r2
end
section
variable {prog:Program} {w:World} {A:Around} {s:Shared} {K:Type} [DecidableEq K] {knd:KeyKind prog w K}
def TupKeys (knd:KeyKind prog w K) (h:Heap) (items:?H) (kl:List (List K)):Prop:=∀ (j:Nat) (v:Value),items[j]? = some v→∃ a k,v=.ref a∧kl[j]? = some k∧IsTupleKey knd h k a
theorem TupKeys.keep {kl:List (List K)} {bad:List Addr} (t:TupKeys knd h items kl) (k:∀ b o,b∉bad→h.get? b=some o→h'.get? b=some o) (hb:∀ b∈bad,∀ o items n,h.get? b=some o→o.cls=?G → o.data=.seq items n→False):TupKeys knd h' items kl:=fun j v e=>by
 obtain ⟨a,ke,e1,e2,o,its,n,e3,e4,e5,e6⟩:=t j v e;exact ⟨a,ke,e1,e2,o,its,n,k a o (fun z=>hb a z o its n e3 e4 e5) e3,e4,e5,e6⟩
theorem TupSet.kept {ks:List (List K)} {t:SetTable} {bad:List Addr} (T:TupSet knd h S ks es t ep o) (hS:S∉bad) (k:∀ b o,b∉bad→h.get? b=some o→h'.get? b=some o) (hb:∀ b∈bad,∀ o items n,h.get? b=some o→o.cls=?G → o.data=.seq items n→False):TupSet knd h' S ks es t ep o :=
 ⟨k _ _ hS T.get,T.ex,T.dat,fun e he=>by
  obtain ⟨a,ke,e1,e2,o,its,n,e3,e4,e5,e6⟩:=T.mem e he;exact ⟨a,ke,e1,e2,o,its,n,k a o (fun z=>hb a z o its n e3 e4 e5) e3,e4,e5,e6⟩,T.len,T.pl,T.dum,T.msk,T.few⟩
theorem Zpv {I:Addr} {kl:List (List K)} {R:Result→?k} (hh:A.in1.handled=none) (hu:A.in1.units<cLine) (hI:t≠I) (hSI:S≠I) (hSt:S≠t) (nd:kl.Nodup) (hl:kl.length=items.size) (h30:kl.length≤30) :
 ∀ (m i:Nat) (s:Shared) (es:Array (Int×Value)) (tb:SetTable) (ep:Nat) (o:Obj),items.size-i=m→i≤items.size→s.heap.IsTupleIter I t i→s.heap.IsTuple t items→TupKeys knd s.heap items kl→TupSet knd s.heap S (kl.take i).reverse es tb ep o →
   (∀ h' tk es' tb' ep' o',(∀ b u,b∉[S,I]→?I=some u→h'.get? b=some u)→TupSet knd h' S kl.reverse es' tb' ep' o'→R (.ok (.ret .none)) { s with heap:=h',toks:=tk }) →
   codeAny ?s A (.builtin "set.update.loop" ⟨[.ref S,.ref I],[]⟩) R s:=by
 intro m
 induction m with
 | zero =>
   intro i s es tb ep o hm hi st ht tk T q;have e:i=items.size:=?d
   subst e;refine codeAny_builtin F.entry_set_update_loop ?_;rw [Around.under_plainId F.plain_set_update_loop _];refine n0_ (m:=pyNext (.ref I)) (wpAny_pyNext_tuple_end hh st ht ?f fun h' k=>?_);obtain ⟨oi,gi,ci,di⟩:=st
   have T':TupSet knd h' S (kl.take items.size).reverse es tb ep o:=T.kept (bad:=[I]) (by simpa using hSI) (fun b u nb e=>k b u (by simpa using nb) e) (fun b hb u its n e c _=>by
    have:b=I:=by simpa using hb
    subst this;rw [gi] at e;cases e;rw [ci] at c;exact absurd c ?e)
   rw [n37_ (?d)] at T';exact n3_ (q h' s.toks es tb ep o (fun b u nb e=>k b u (fun z=>nb (by simp [z])) e) T')
 | succ m ih =>
   intro i s es tb ep o hm hi st ht tk T q;have hlt:i<items.size:=?d
   refine codeAny_builtin F.entry_set_update_loop ?_;rw [Around.under_plainId F.plain_set_update_loop _];refine n0_ (m:=pyNext (.ref I)) (wpAny_pyNext_tuple_item st ht (x:=items[i]) (by simp [hlt]) fun h1 st1 sb1=>?_);obtain ⟨oi,gi,ci,di⟩:=st
   have badI:∀ b∈[I],∀ (u:Obj) (its:?H) (n:Nat),?I=some u→u.cls=?G → u.data=.seq its n→False:=fun b hb u its n e c _=>by
    have:b=I:=by simpa using hb
    subst this;rw [gi] at e;cases e;rw [ci] at c;exact absurd c ?e
   have k1:∀ b u,b∉[I]→?I=some u→h1.get? b=some u:=fun b u nb e=>sb1.extBut b u (by simpa using nb) e;have T1:=T.kept (by simpa using hSI) k1 badI;have tk1:=tk.keep k1 badI;have ht1:h1.IsTuple t items:=ht.extBut sb1.extBut hI;obtain ⟨a,k,ea,ek,hk⟩:=tk1 i items[i] (by simp [hlt]);rw [ea];refine n0_ (m:=holding [Value.ref a] (setAdd S (.ref a))) (n34_ ?_);have hkl:i<kl.length:=?d
   have ek':kl[i]=k:=by rw [n1_ hkl] at ek;exact Option.some.inj ek
   have hn:k∉(kl.take i).reverse:=by
    rw [List.mem_reverse,← ek'];intro z;obtain ⟨j,hj,e⟩:=n52_ z;rw [List.getElem_take] at e;have hj':j<i:=by rw [n43_] at hj;omega
    have:=(List.getElem_inj nd).mp e
    omega
   refine Zmh (s:={ s with heap:=h1 }) hu T1 hk hn (by rw [List.length_reverse,n43_];omega) fun h2 es' tb' ep' o' tk' sb2 T2=>?_;have oS:=T1.get
   have badS:∀ b∈[S],∀ (u:Obj) (its:?H) (n:Nat),h1.get? b=some u→u.cls=?G → u.data=.seq its n→False:=fun b hb u its n e _ d=>by
    have:b=S:=by simpa using hb
    subst this;rw [oS] at e;cases e;rw [T1.dat] at d;cases d
   have k2:∀ b u,b∉[S]→h1.get? b=some u→h2.get? b=some u:=fun b u nb e=>(sb2.2 b (by simpa using nb)).trans e
   have T2':TupSet knd h2 S (kl.take (i+1)).reverse es' tb' ep' o':=by
    have:(kl.take (i+1)).reverse=k :: (kl.take i).reverse:=by
     rw [n69_ hkl,List.reverse_append,ek'];rfl
    rw [this];exact T2
   refine n3_ ⟨plainId_quiet F.plain_set_update_loop _,ih (i+1) { s with heap:=h2,toks:=tk' } es' tb' ep' o' (?d) hlt (st1.extBut sb2.extBut (Ne.symm hSI)) (ht1.extBut sb2.extBut (Ne.symm hSt)) (tk1.keep k2 badS) T2' fun h3 tk3 es3 tb3 ep3 o3 k3 T3=>?_⟩;refine q h3 tk3 es3 tb3 ep3 o3 (fun b u nb e=>k3 b u nb (k2 b u (fun z=>nb (by simp at z;simp [z])) (k1 b u (fun z=>nb (by simp at z;simp [z])) e))) T3
theorem Zf8 (led:Bool) (hS:h.get? S=some { cls:=.type "set",dict:=none,data:=.set #[] 0 (.fresh 0 0 led) }):TupSet knd h S [] #[] (.fresh 0 0 led) 0 { cls:=.type "set",dict:=none,data:=.set #[] 0 (.fresh 0 0 led) } :=
 ⟨hS,⟨rfl,rfl,rfl⟩,rfl,fun e he=>by simp at he,rfl,rfl,rfl,.inl rfl,by show 0*5<7*3;decide⟩
theorem Zgi:isSubtype (?G) (.type "set")=pure false:=by rw [isSubtype_type];kernel_rfl
theorem Zbq:isSubtype (?G) (.type "frozenset")=pure false:=by rw [isSubtype_type];kernel_rfl
abbrev Y9 (led:Bool):Obj:={ cls:=.type "set",dict:=none,data:=.set #[] 0 (.fresh 0 0 led) }
set_option maxHeartbeats 3200000 in
theorem Zh9 {kl:List (List K)} (hh:A.handled=none) (hu:A.units+8<cLine) (ht:s.heap.IsTuple t items) (tk:TupKeys knd s.heap items kl) (nd:kl.Nodup) (hl:kl.length=items.size) (h30:kl.length≤30)
 (q:∀ h' tk es' tb' ep' o',TupSet knd h' s.z kl.reverse es' tb' ep' o'→(∀ b u,?I=some u→h'.get? b=some u)→Q (.ref s.z) { s with heap:=h',toks:=tk }) :
 wpAny ?s A (call (.type "set") [.ref t]) Q E s:=by
 obtain ⟨c,tl,hmro⟩:=F.called_set.mro;have hmade:=F.called_set.made;have hsub:=F.called_set.sub;refine wpAny_call (codeAny_of_tree (n3_ (a:=_) ⟨Code.quiet_builtin _ (?i),codeAny_builtin F.entry_type_call ?_⟩));rw [Around.under_plain (weight_type_call_type "set" [.ref t] []) rfl];have h1:=F.called_set.notType;have h2:=F.called_set.canCreate;have hct:=F.typeCall_set_1 (.ref t)
 repeat (any_goals (first|assumption|wp_step))
 refine codeAny_mono (code_set_new_1 (.ref t) (E:=E) (Q₁:=fun v s1=>∃ led:Bool,v=.ref s.z∧s1={ s with heap:=s.heap.push (Y9 led) }) fun led=>⟨led,rfl,rfl⟩) fun r s1 hr=>?_;cases r with
 | error e=>exact hr
 | ok fl =>
   cases fl with
   | ret obj =>
     obtain ⟨led,rfl,rfl⟩:=hr;have hS:(s.heap.push (Y9 led)).get? s.z=some (Y9 led):=n8_ _ rfl;have hT:Shared.TypeIs { s with heap:=s.heap.push (Y9 led) } (.ref s.z) "set" := ⟨_,hS,rfl⟩;have hli:=F.called_set.init.lookup;have hbi:=F.called_set.init.bind (.ref s.z)
     repeat (any_goals (first|assumption|wp_step))
     refine codeAny_mono (codeAny_call_builtin (R:=wants (fun r s2=>r=.none∧∃ h' tk es' tb' ep' o',s2={ s with heap:=h',toks:=tk }∧TupSet knd h' s.z kl.reverse es' tb' ep' o'∧(∀ b u,?I=some u→h'.get? b=some u)) E) F.called_set.init.plain F.entry_set_init (check_set_init_1 hT ?_)) fun r2 s2 hr2=>?_
     · obtain ⟨⟨c0,d0,dd,sl0⟩,hol,hcl,nl,hdl⟩:=ht;simp only at hcl hdl;subst hcl;subst hdl;have hol':(s.heap.push (Y9 led)).get? t=some { cls:=?G,dict:=d0,data:=.seq items nl,slots:=sl0 }:=n2_ _ hol;have hsls:=Zgi;have hslf:=Zbq;have hne:(Value.type "tuple" == Value.type "dict")=false:=?t
       have ht1:(s.heap.push (Y9 led)).IsTuple t items:=⟨_,hol',rfl,nl,rfl⟩;unfold Builtin.«set.__init__» noKeywords Builtin.Frozenset.updateFrom;generalize hPI:pyIter=PI
       wp_walk
       subst hPI;refine wpAny_pyIter_tuple ht1 (n0_ (wpAny_runValue ?_));have tS:t<s.z:=n14_ hol;have n1:(s.heap.push (Y9 led)).objs.size=s.z+1:=n50_ ..;have k1:∀ b u,?I=some u→((s.heap.push (Y9 led)).push { cls:=.type "tuple_iterator",data:=.fields #[.ref t,.int 0 0] }).get? b=some u:=fun b u e=>n2_ _ (n2_ _ e);have e1:t≠(s.heap.push (Y9 led)).objs.size:=by rw [n1];exact n26_ (n54_ tS)
       have e2:s.z≠(s.heap.push (Y9 led)).objs.size:=by rw [n1];exact n26_ (n81_ _)
       refine Zpv (knd:=knd) (S:=s.z) (I:=(s.heap.push (Y9 led)).objs.size) (t:=t) (items:=items) (kl:=kl) (by first|exact hh|simp [hh]) (by simp;omega) e1 e2 (n68_ tS) nd hl h30 (items.size-0) 0 _ #[] (.fresh 0 0 led) 0 _ (?d) (n45_ _) ⟨_,n8_ _ rfl,rfl,rfl⟩ (ht1.push _)
        (tk.keep (bad:=[]) (fun b u _ e=>k1 b u e) (fun b hb=>by simp at hb)) (Zf8 led (n2_ _ hS)) fun h' tk' es' tb' ep' o' k' T'=>?_
       show wpAny _ _ _ _ _ _
       refine n3_ ?_;show wpAny _ _ (ret Value.none) _ _ _
       refine n3_ ⟨rfl,h',tk',es',tb',ep',o',rfl,T',fun b u e=>k' b u ?_ (k1 b u e)⟩;have lb:b<s.z:=n14_ e;simp only [n13_,n15_,or_false,not_or,n1];exact ⟨n26_ lb,n26_ (n54_ lb)⟩
     · cases r2 with
       | error e=>exact hr2
       | ok fl2 =>
         cases fl2 with
         | ret r =>
           obtain ⟨rfl,h',tk',es',tb',ep',o',rfl,T',k'⟩:=hr2
           repeat (any_goals (first|assumption|wp_step))
           exact q _ _ _ _ _ _ T' k'
         | _=>exact hr2.elim
   | _=>exact hr.elim
end
def Zfq (S:Addr) (n:Nat) (h:Heap):Prop:=∃ o es ep t,h.get? S=some o∧o.ExactSet∧o.data=.set es ep t∧t.fits es.size=true∧es.size=n
section
variable {X:Cx}
theorem Znc (q:Zfq S n h):ObjOk P w H h S (.ext (Zfq S n)):=by
 refine ⟨q,?_,fun h1 h2 r k=>?_⟩
 · obtain ⟨o,_,_,_,e,_⟩:=q;exact ⟨o,e⟩
 · obtain ⟨o,es,ep,t,e,r⟩:=r;exact ⟨o,es,ep,t,k o e,r⟩
theorem items_int:∀ {ns:?g} {us:?q},Vals (ns.map V.int) us→ItemsAre (PySem.intKind prog w) ns us
 | [],_,.nil=>.nil
 | n :: ns,_,.cons r rs=>by
   obtain ⟨t,rfl⟩:=r;exact .cons (intKind_is _ _ _ _) (items_int rs)
theorem Zm6 (hc:X.calm=true) (hr:Room j X.A):Xe X (.type "set") (fun xs H Q=>∃ (a:Addr) (vs:List V) (kl:List (?g)),xs=[.ref a]∧SqT X.K H a vs∧vs.length=kl.length∧(∀ (i:Nat) (v:V),vs[i]? = some v→∃ (b:Addr) (k:?g),v=.ref b∧kl[i]? = some k∧SqT X.K H b (k.map V.int))∧kl.Nodup∧kl.length≤30 ∧
 ∀ S,H S=none→Q (.ref S) (upd H S (.ext (Zfq S kl.length)))):=by
 intro pins s σ H xs us Q I r h;obtain ⟨a,vs,kl,rfl,hq,hl,hk,nd,h30,q⟩:=h;cases r with
 | cons rx r =>
   cases r
   cases (show _=Value.ref a from rx)
   obtain ⟨its,rv,pl,hz⟩:=I.tuple hq;have hlen:=rv.length;have hs:H s.z=none:=I.hok.fresh (n11_ _);refine Zh9 (knd:=PySem.intKind X.prog X.w) (kl:=kl) (items:=its.toArray) (I.ok.hd hc) (by have:=hr.un;omega) pl (fun i v e=>?_) nd (by simp;omega) h30 fun h' tk es' tb' ep' o' T k=>?_
   · have e':its[i]? = some v:=by simpa using e
     have hi:i<vs.length:=by rw [hlen];exact (n18_.mp e').1
     obtain ⟨x,hx⟩:∃ x,vs[i]? = some x:=⟨_,n1_ hi⟩;obtain ⟨b,k,rfl,ek,hb⟩:=hk i x hx;obtain ⟨u,eu,ru⟩:=rv.get hx;rw [eu] at e';cases e'
     cases ru
     obtain ⟨its2,rv2,⟨o2,g2,c2,n2,d2⟩,_⟩:=I.tuple hb;exact ⟨b,k,rfl,ek,o2,its2.toArray,n2,g2,c2,d2,by simpa using items_int rv2⟩
   · refine ⟨.ref s.z,_,I.laid (t':=tk) k (n11_ _) (Znc (n:=kl.length) ⟨o',es',ep',tb',T.get,T.ex,T.dat,T.fits,by rw [T.len,List.length_reverse]⟩),rfl,q _ hs⟩
inductive BxRc_lenX  (xs:List V) (H:Hp) (Q:VK):Prop
 | mk (S:_) (n:_) (q1:xs=[.ref S]) (q2:H S=some (.ext (Zfq S n))) (q3:n≤sizeLine) (q4:Q (.int n) H):BxRc_lenX xs H Q
def Ztf  : ?N:=fun xs H Q=>BxRc_lenX xs H Q
theorem Zoy:Xe X (.builtin "len") (Ztf):=by
 intro pins s σ H xs us Q I r h;obtain ⟨S,n,rfl,hS,hn,q⟩:=h;cases r with
 | cons rx r =>
   cases r
   cases (show _=Value.ref S from rx)
   obtain ⟨⟨o,es,ep,t,e,ex,d,f,en⟩,_,_⟩:=(show ObjOk X.prog X.w H s.heap S (.ext (Zfq S n)) from I.hok S _ hS);have hl:=Zdh;have hz:sizeLine=16777216:=sizeLine_eq;refine call_len_set e ex d f (?d) ⟨.int n,H,I.tok _,⟨_,by rw [en]⟩,q⟩
theorem Zfh:∀ (bs:List Bool),((List.range bs.length).any fun i=>(bs[i]?).getD true)=bs.any id
 | []=>rfl
 | b :: bs=>by
   rw [n21_,List.range_succ_eq_map,List.any_cons,List.any_map,List.any_cons,← Zfh bs];rfl
inductive BxRc_anyB (K:PySem.W.Frag) (xs:List V) (H:Hp) (Q:VK):Prop
 | mk (p:Addr) (bs:List Bool) (q1:xs=[.ref p]) (q2:SqL K H p (bs.map V.bl)) (q3:Q (.bl (bs.any id)) H):BxRc_anyB K xs H Q
def Zti (K:PySem.W.Frag):?N:=fun xs H Q=>BxRc_anyB K xs H Q
theorem Zmv (hc:X.calm=true):Xe X (.builtin "any") (Zti X.K):=by
 intro pins s σ H xs us Q I r h;obtain ⟨p,bs,rfl,hq,q⟩:=h;cases r with
 | cons rx r =>
   cases r
   cases (show _=Value.ref p from rx)
   obtain ⟨its,rv,pl,hz⟩:=I.list hq;have hl:=pl.isList;have hlt:p<s.z:=by obtain ⟨_,e,_⟩:=hl;exact n14_ e
   have hh:X.A.handled=none:=I.ok.hd hc;refine call_any_walk (wpAny_pyIter_list hl ⟨s.z,[s.z,p],[s.z],its.toArray.size,_,_,fun i=>(bs[i]?).getD true,rfl,Walks.list (A:=X.A.in1) hh _ p (n26_ hlt) its.toArray,⟨⟨_,n8_ _ rfl,rfl,rfl⟩,hl.push _⟩,fun i v s' Q' E' hP hQ=>?_,fun h' tk hk=>?_⟩)
   · obtain ⟨b,e,rfl⟩:=Zep rv (show its[i]? = some v by simpa using hP);simp only [e,Option.getD_some] at hQ;exact wpAny_truthy_bool hQ
   · have e:((List.range its.toArray.size).any fun i=>(bs[i]?).getD true)=bs.any id:=by
      rw [n16_,← rv.length,n7_];exact Zfh bs
     rw [e];exact ⟨.bl _,H,I.kept (Zjg hk),rfl,q⟩
theorem Zhl:∀ {ns:?g} {us:?q} {i:Nat} {v:Value},Vals (ns.map V.int) us→us[i]? = some v→∃ t,v=.int (ns.getD i 0) t
 | [],_,i,v,.nil,e=>by simp at e
 | n :: ns,_,0,v,.cons r t,e=>by
   obtain ⟨k,rfl⟩:=r
   have:v=.int n k:=by simpa using e.symm
   exact ⟨k,this⟩
 | n :: ns,_,i+1,v,.cons r t,e=>by
   obtain ⟨k,h⟩:=Zhl t (by simpa using e);exact ⟨k,by simpa using h⟩
theorem Zfb:∀ (ns:?g) (acc:?g),preSum (fun i=>(acc++ns).getD i 0) (acc.length+ns.length)=preSum (fun i=>(acc++ns).getD i 0) acc.length+ns.sum
 | [],acc=>by simp
 | n :: ns,acc=>by
   have:=Zfb ns (acc++[n])
   rw [n78_] at this;simp only [n30_,n21_,List.length_nil,List.singleton_append] at this ⊢;rw [show acc.length+(ns.length+1)=acc.length+(0+1)+ns.length by omega,this]
   have e:preSum (fun i=>(acc++n :: ns).getD i 0) (acc.length+(0+1))=preSum (fun i=>(acc++n :: ns).getD i 0) acc.length+n:=by
    show preSum (fun i=>(acc++n :: ns).getD i 0) acc.length+(acc++n :: ns).getD acc.length 0=_
    congr 1
    simp
   rw [e,n65_,Int.add_assoc]
inductive BxRc_sumI (K:PySem.W.Frag) (xs:List V) (H:Hp) (Q:VK):Prop
 | mk (p:Addr) (ns:?g) (q1:xs=[.ref p]) (q2:SqL K H p (ns.map V.int)) (q3:Q (.int ns.sum) H):BxRc_sumI K xs H Q
def Ztq (K:PySem.W.Frag):?N:=fun xs H Q=>BxRc_sumI K xs H Q
theorem Zhj (hc:X.calm=true):Xe X (.builtin "sum") (Ztq X.K):=by
 intro pins s σ H xs us Q I r h;obtain ⟨p,ns,rfl,hq,q⟩:=h;cases r with
 | cons rx r =>
   cases r
   cases (show _=Value.ref p from rx)
   obtain ⟨its,rv,pl,hz⟩:=I.list hq;have hl:=pl.isList;have hlt:p<s.z:=by obtain ⟨_,e,_⟩:=hl;exact n14_ e
   have hh:X.A.handled=none:=I.ok.hd hc;refine call_sum_walkG (wpAny_pyIter_list hl ⟨s.z,[s.z,p],[s.z],its.toArray.size,_,_,fun i=>ns.getD i 0,rfl,Walks.list (A:=X.A.in1) hh _ p (n26_ hlt) its.toArray,⟨⟨_,n8_ _ rfl,rfl,rfl⟩,hl.push _⟩,fun b hb=>?_,fun i v hP=>Zhl rv (by simpa using hP),fun h' tk t' hk=>?_⟩)
   · simp only [n13_,n15_,or_false] at hb;show b<(s.heap.push _).objs.size
     rw [n50_]
     rcases hb with rfl|rfl
     · exact n81_ _
     · exact n54_ hlt
   · have e:preSum (fun i=>ns.getD i 0) its.toArray.size=ns.sum:=by
      have:=Zfb ns []
      simp only [n59_,List.length_nil,Nat.zero_add] at this;rw [n16_,← rv.length,n7_,this];show preSum _ 0+_=_
      simp [preSum]
     rw [e];exact ⟨.int _,H,I.kept (Zjg hk),⟨_,rfl⟩,q⟩
end
section
variable {prog:Program} {w:World} {A:Around} {E:Value→?k} {s:Shared}
theorem Zrp (ne:l≠it):∀ (n i:Nat) (s:Shared) (Q:?q→?k),s.heap.IsListIter it l i→s.heap.IsList l items→i+n≤items.size →
 (∀ h',h'.IsListIter it l (i+n)→Heap.SameBut it s.heap h'→Q ((items.toList.drop i).take n) { s with heap:=h' })→wpAny ?s A (draw (.ref it) n) Q E s
 | 0,i,s,Q,hit,_,_,q=>by
   show wpAny _ _ (pure []) Q E s
   exact n3_ (by simpa using q s.heap hit (Heap.SameBut.refl ..))
 | n+1,i,s,Q,hit,hl,hle,q=>by
   have hlt:i<items.size:=?d
   refine n0_ (m:=pyNext (.ref it)) (wpAny_pyNext_list_item hit hl (x:=items[i]) (by simp [hlt]) fun h1 it1 s1=>?_);refine n0_ (n34_ (Zrp ne n (i+1) _ _ it1 (hl.extBut s1.extBut ne) (?d) fun h2 it2 s2=>n3_ ?_));have e:items.toList.drop i=items[i] :: items.toList.drop (i+1):=by simp [List.drop_eq_getElem_cons,hlt]
   have z:=q h2 (by rw [show i+(n+1)=i+1+n by omega];exact it2) (s1.trans s2);rw [e,n75_] at z;exact z
theorem Zfy {Q:?q→?k} (hh:A.handled=none) (hl:s.heap.IsList l items)
 (q:∀ h',Heap.ExtBut s.z s.heap h'→Q items.toList { s with heap:=h' }):wpAny ?s A (unpackItems (.ref l) items.size none) Q E s:=by
 have ne:l≠s.z:=by obtain ⟨o,ho,_⟩:=hl;exact n26_ (n14_ ho)
 unfold unpackItems;refine n0_ ?_
 · unfold notIterableAtAll;refine n0_ (wpAny_specialOf hl.typeIs F.slot_list_iter.lookup (n3_ ?_));simp only [n19_,if_false];refine n0_ (n34_ (wpAny_pyIter_list hl ?_));refine n0_ (n34_ (Zrp ne items.size 0 _ _ ⟨_,n8_ _ rfl,rfl,rfl⟩ (hl.push _) (?d) fun h1 it1 s1=>?_));rw [show List.take items.size (List.drop 0 items.toList)=items.toList by rw [List.drop_zero];exact n37_ ?f,if_neg ?f];refine n0_ (n34_ (wpAny_pyNext_list_end hh it1 ((hl.push _).extBut s1.extBut ne) ?f fun h2 e2=>?_));simp only [Option.isSome_none,n19_,if_false];refine n3_ (q h2 fun b o hb e=>e2 b o hb (s1.extBut b o hb (n2_ _ e)))
theorem Zph {elts:List Expr} {x1} {Q:Unit→?k} (hh:A.handled=none) (hl:s.heap.IsList l items)
 (hn:(assignEach elts env).length=items.size) (hs:(assignEach elts env).findIdx? (·.1)=none)
 (h:∀ h',Heap.ExtBut s.z s.heap h'→wpAny ?s A (assignInOrder ((assignEach elts env).map (·.2)) items.toList) Q E { s with heap:=h' }) :
 wpAny ?s A (assign (.Tuple elts x1 pos) env (.ref l)) Q E s:=by
 rw [assign_Tuple];refine n0_ (wpAny_standAt ?_);unfold unpack;rw [hn,hs];exact n0_ (n34_ (Zfy hh hl h))
end
section
variable {X:Cx} {pos:Pos}
inductive BxGLst (K:PySem.W.Frag) (n:Nat) (t:TGs) (v:V) (σ:St) (H:Hp) (Q:St→?y):Prop
 | mk (a:_) (xs:_) (q1:v=.ref a) (q2:SqL K H a xs) (q3:xs.length=n) (q4:t xs σ H Q):BxGLst K n t v σ H Q
def gLst (K:PySem.W.Frag) (n:Nat) (t:TGs):TG:=fun v σ H Q=>BxGLst K n t v σ H Q
theorem Zhn {es:List Expr} {t:TGs} (hc:X.calm=true) (h:PGs X es t) (hn:(assignEach es X.env).length=n:=by rfl) (hst:(assignEach es X.env).findIdx? (·.1)=none:=by rfl):PG X (.Tuple es k pos) (gLst X.K n t):=by
 intro pins s σ H v u Q I r hw;obtain ⟨a,xs,e1,hq,hl,hw⟩:=hw;subst e1;cases r
 obtain ⟨its,rv,pl,hz⟩:=I.list hq;refine Zph (I.ok.hd hc) pl.isList (by simp [hn,← hl,rv.length]) hst fun h' hx=>?_;have I1:Inv X pins σ H { s with heap:=h' }:=I.kept (t':=s.toks) fun b o e=>hx b o (n26_ (n14_ e)) e;exact h pins _ σ H xs _ Q I1 (by simpa using rv) hw
inductive BxRc_sortedI (K:PySem.W.Frag) (xs:List V) (H:Hp) (Q:VK):Prop
 | mk (p:Addr) (ns:?g) (q1:xs=[.ref p]) (q2:SqL K H p (ns.map V.int)) (q3:ns.length<64) (q4:∀ (l:Addr) (ns':?g),H l=none→ns'.Perm ns→ns'.Pairwise (·≤·)→Q (.ref l) (upd H l (.lst (ns'.map V.int)))):BxRc_sortedI K xs H Q
def Zfa (K:PySem.W.Frag):?N:=fun xs H Q=>BxRc_sortedI K xs H Q
theorem Zhq:Xe X (.builtin "sorted") (Zfa X.K):=by
 intro pins s σ H xs us Q I r h;obtain ⟨p,ns,rfl,hq,h64,q⟩:=h;cases r with
 | cons rx r =>
   cases r
   cases (show _=Value.ref p from rx)
   obtain ⟨its,rv,pl,hz⟩:=I.list hq;have hlen:=rv.length;rw [n7_] at hlen;refine sorted_ints pl.isList (X8 rv) (?d) fun out ns' a1 a2 a3=>?_;obtain ⟨e,he⟩:=sortedAll_at s.heap its out;have fr:H (s.z+1)=none:=I.hok.fresh (Nat.le_succ _);refine ⟨.ref (s.z+1),_,I.laid (o:=.lst (ns'.map V.int)) (t':=s.toks) (fun b u e=>sortedAll_old e) (Nat.le_succ _) ⟨?_,out.toList,e,Zdy a1,by simpa using he⟩,rfl,q _ ns' fr a2 a3⟩;rw [n7_,a2.length_eq,sizeLine_eq];omega
theorem Zdv:∀ {l:?q} (k:Nat),l.length=n→(∀ (j:Nat) (v:Value),l[j]? = some v→∃ t,v=.int ((k:Int)+j) t)→Vals ((List.range' k n).map fun i:Nat=>V.int i) l:=by
 induction n with
 | zero=>intro l k hl _;cases l with
   | nil=>exact .nil
   | cons _ _=>simp at hl
 | succ n ih =>
   intro l k hl h;cases l with
   | nil=>simp at hl
   | cons x l =>
     obtain ⟨t,rfl⟩:=h 0 x rfl;refine .cons ⟨t,by simp⟩ (ih (k+1) (by simpa using hl) fun j v e=>?_);obtain ⟨t',e'⟩:=h (j+1) v (by simpa using e);exact ⟨t',by rw [e'];congr 1;omega⟩
theorem Zot {a:Expr} {p2 q2:Pos} (hg2:Gl X "range") (hm2:X.mg "range" = none) (ha:PA X [a] ta) (he:starEach [a] X.env=[(false,eval a X.env)]:=by rfl) :
 PE X (.Call (.Name "range" p2) [a] [] q2) (fun σ H Q=>ta σ H fun vs H1=>∃ n:Nat,vs=[.int n]∧∀ r,H1 r=none→Q (.ref r) (upd H1 r (.rng 0 n))):=by
 intro pins s σ H Q I h;refine Call_ (Zbu I hg2 hm2 boot_range (n58_ (thn (ha q2 pins s σ H _ I h) fun us s1 ⟨vs,H1,I1,r1,q1⟩=>?_) he rfl));obtain ⟨n,rfl,q⟩:=q1;cases r1 with
 | cons r rr =>
   cases rr
   obtain ⟨t,rfl⟩:=r;refine call_range_1 ?_;have fr:H1 s1.z=none:=I1.hok.fresh (n11_ _);exact ⟨.ref s1.z,_,I1.laid (o:=.rng 0 n) (fun b o e=>n2_ _ e) (n11_ _) ⟨_,_,_,n8_ _ rfl⟩,rfl,q _ fr⟩
inductive BxRc_listR  (xs:List V) (H:Hp) (Q:VK):Prop
 | mk (r:Addr) (n:Nat) (q1:xs=[.ref r]) (q2:H r=some (.rng 0 n)) (q3:n≤1000) (q4:∀ l,H l=none→Q (.ref l) (upd H l (.lst ((List.range n).map fun i:Nat=>V.int i)))):BxRc_listR xs H Q
def Zqi  : ?N:=fun xs H Q=>BxRc_listR xs H Q
theorem Zeq (hc:X.calm=true):Xe X (.type "list") (Zqi):=by
 intro pins s σ H xs us Q I r h;obtain ⟨a,n,rfl,hr,hn,q⟩:=h;cases r with
 | cons rx r =>
   cases r
   cases (show _=Value.ref a from rx)
   obtain ⟨t,u,v,e⟩:=(show ObjOk X.prog X.w H s.heap a (.rng 0 n) from I.hok a _ hr);have fr:H s.z=none:=I.hok.fresh (n11_ _);refine call_list_range (n:=n) (I.ok.hd hc) e (small_one (?d) (?d) (?d) (?d)) (by rw [rangeSize_one];split<;>omega) (?d) fun h' tk acc c k hS it=>?_;refine ⟨.ref s.z,_,I.laid (o:=.lst ((List.range n).map fun i:Nat=>V.int i)) (t':=tk) k (n11_ _) ⟨?_,acc.toList,c,?_,by simpa using hS⟩,rfl,q _ fr⟩
   · rw [n7_,n66_,sizeLine_eq];omega
   · rw [List.range_eq_range'];refine Zdv 0 (by rw [Array.length_toList];exact it.1) fun j v e=>?_;obtain ⟨t',e'⟩:=it.2 j v (by simpa using e);exact ⟨t',by rw [e'];congr 1;omega⟩
end
def Zt7 (c t0 i0 i1:Expr) (it acc:Value) (env:Env):Sem Fin:=do
 standAt i0.pos
 match ← pyNext it with
 | none=>pure (.done .next)
 | some v =>
   letOwnedTupleGo t0 it v
   assign t0 env v
   let mut ok:=true
   for c in ([]:List Expr) do
    if ok then ok ← isTrue c env (eval c env)
   if ok then do
    let x ← eval i1 env
    standAt i1.pos
    let x ← foldedSetIterable i1 env x
    let _ ← runOwn (.compStart c 1 (← holding [x] (pyIter x)) acc env) env
    again (.compLoop c 0 it acc env)
   else again (.compLoop c 0 it acc env)
def Zt8 (c t1 i1 elt:Expr) (add:Value→Sem PUnit) (it acc:Value) (env:Env):Sem Fin:=do
 standAt i1.pos
 match ← pyNext it with
 | none=>pure (.done .next)
 | some v =>
   letOwnedTupleGo t1 it v
   assign t1 env v
   let mut ok:=true
   for c in ([]:List Expr) do
    if ok then ok ← isTrue c env (eval c env)
   if ok then
    (do let v ← eval elt env;add v)
   again (.compLoop c 1 it acc env)
structure C2Ok (prog:Program) (w:World) (c t0 i0 t1 i1 elt:Expr) (id:String) (add:Value→Value→Sem PUnit):Prop where
 un:∀ (A:Around) (k:Nat) (it acc:Value) (env:Env),A.under (.compLoop c k it acc env)=A
 den:∀ (k:Nat) (it acc:Value) (env:Env),(model prog w).den (.compLoop c k it acc env)=(compTurn c k it acc env).onRaise (fun x=>do noteFrame x env;theTreesLotGoes x)
 qu:∀ (k:Nat) (it acc:Value) (env:Env),(Code.compLoop c k it acc env).quiet=true
 e0:∀ it acc env,compTurn c 0 it acc env=Zt7 c t0 i0 i1 it acc env
 e1:∀ it acc env,compTurn c 1 it acc env=Zt8 c t1 i1 elt (add acc) it acc env
 ha:∀ (A:Around) acc x s (P:?k) E,wpAny ?s A (call (.builtin id) [acc,x]) (fun _ s5=>P s5) NoX s→wpAny ?s A (add acc x) (fun _ s5=>P s5) E s
 start:∀ (A:Around) k,k<2→∀ it acc env R s4,codeAny ?s A (.compLoop c k it acc env) R s4→(∀ E,wpAny ?s A (pyIter it) (fun it' s'=>codeAny ?s A (.compLoop c k it' acc env) R s') E s4)→codeAny ?s A (.compStart c k it acc env) R s4
section
variable {prog:Program} {w:World} {A:Around} {R:Result→?k} {s:Shared} {c elt t0 i0 t1 i1:Expr} {it acc:Value} {env:Env} {add:Value→Value→Sem PUnit} {id:String} (c2:C2Ok prog w c t0 i0 t1 i1 elt id add)
include c2
theorem Zp6 (I:Nat→?k)
 (turn:∀ n s,I n s→Zm3 ?s A t1 it env R (fun n s3=>wpAny ?s A (eval elt env) (fun x s4=>wpAny ?s A (call (.builtin id) [acc,x]) (fun _ s5=>∃ m,m<n∧I m s5) NoX s4) NoX s3) n s)
 (n:Nat) (h:I n s):codeAny ?s A (.compLoop c 1 it acc env) R s:=by
 refine codeAny_loop (c2.qu _ _ _ _) I (fun n s hI=>?_) n h;rw [c2.un,c2.den];refine wpAny_noted ?_;rw [c2.e1];unfold Zt8;refine n0_ (wpAny_standAt (n0_ (n55_ (turn n s hI) (fun r s1 h1=>?_) fun _ _ h'=>h'.elim)));cases r with
 | none=>exact n3_ h1
 | some v =>
   refine n0_ (n55_ h1 (fun _ s2 h2=>n0_ (n55_ h2 (fun _ s3 h3=>n0_ (n3_ ?_)) fun _ _ h'=>h'.elim)) fun _ _ h'=>h'.elim);simp only [if_true];exact n0_ (n0_ (n55_ h3 (fun x s4 h4=>n55_ (c2.ha _ _ x s4 _ _ h4) (fun _ s5 h5=>n3_ ⟨rfl,h5⟩) fun _ _ h'=>h') fun _ _ h'=>h'.elim))
theorem Zpy (hs1:∀ x,foldedSetIterable i1 env x=pure x) (I:Nat→?k)
 (turn:∀ n s,I n s→Zm3 ?s A t0 it env R (fun n s3=>wpAny ?s A (eval i1 env) (fun x s4=>wpAny ?s A (pyIter x) (fun itv s5 =>
   codeAny ?s A (.compStart c 1 itv acc env) (fun r s6=>match r with|.ok _=>∃ m,m<n∧I m s6|.error _=>False) s5) NoX s4) NoX s3) n s)
 (n:Nat) (h:I n s):codeAny ?s A (.compLoop c 0 it acc env) R s:=by
 refine codeAny_loop (c2.qu _ _ _ _) I (fun n s hI=>?_) n h;rw [c2.un,c2.den];refine wpAny_noted ?_;rw [c2.e0];unfold Zt7;refine n0_ (wpAny_standAt (n0_ (n55_ (turn n s hI) (fun r s1 h1=>?_) fun _ _ h'=>h'.elim)));cases r with
 | none=>exact n3_ h1
 | some v =>
   refine n0_ (n55_ h1 (fun _ s2 h2=>n0_ (n55_ h2 (fun _ s3 h3=>n0_ (n3_ ?_)) fun _ _ h'=>h'.elim)) fun _ _ h'=>h'.elim);simp only [if_true];refine n0_ (n55_ h3 (fun x s4 h4=>n0_ (wpAny_standAt (n0_ (wpAny_of_eq (hs1 x) (n0_ (n34_ (n55_ h4 (fun itv s5 h5=>n0_ (wpAny_runOwn ?_)) fun _ _ h'=>h'.elim))))))) fun _ _ h'=>h'.elim);refine codeAny_mono h5 fun r s6 h6=>?_;cases r with
   | ok f=>exact n3_ ⟨rfl,h6⟩
   | error e=>exact h6.elim
end
abbrev TAd:=V→Addr→Hp→(?y)→Prop
abbrev adS:TAd:=fun v D H C=>∃ (k:Int) (S:Int→Bool) (n:Nat),v=.int k∧H D=some (.set S n)∧n+1<scanBound∧C (upd H D (.set (fun k'=>S k'||decide (k'=k)) (if S k then n else n+1)))
def PAd (id:String) (ad:TAd):Prop:=∀ (X:Cx) (pins:?A) (s:Shared) (σ:St) (H:Hp) (v:V) (u:Value) (D:Addr) (C:?y),?p→RelV v u→ad v D H C→wpAny ?z X.A (call (.builtin id) [.ref D,u]) (fun _ s'=>∃ H',Inv X pins σ H' s'∧C H') X.xe s
def C2In (ad:TAd) (J1:It) (g1:TG) (te:TE) (D:Addr) (σ4:St) (H5:Hp) (fin:St→?y):Prop:=∃ W1:Nat→Nat→St→?y,(∃ m1,W1 0 m1 σ4 H5)∧∀ i1 m1 σ6 H6,W1 i1 m1 σ6 H6 →
 (J1.stop i1 H6∧fin σ6 H6)∨(J1.go i1 H6∧∀ y H7,J1.yld i1 H6 y H7→g1 y σ6 H7 fun σ8 H8=>te σ8 H8 fun v H9=>ad v D H9 fun Hn=>∃ m1',m1'<m1∧W1 (i1+1) m1' σ8 Hn)
def C2Go (ad:TAd) (ac:HO) (J:It) (g0:TG) (wi1:TI) (g1:TG) (te:TE) (σ0:St) (H1:Hp) (D:Addr) (Q:VK):Prop:=∃ W:Nat→Nat→St→?y,(∃ m,W 0 m σ0 (upd H1 D ac)) ∧
 ∀ i m σ2 H2,W i m σ2 H2→(J.stop i H2∧Q (.ref D) H2)∨(J.go i H2∧∀ x H3,J.yld i H2 x H3→g0 x σ2 H3 fun σ4 H4=>wi1 σ4 H4 fun J1 H5=>C2In ad J1 g1 te D σ4 H5 fun σ6 H6=>∃ m',m'<m∧W (i+1) m' σ6 H6)
theorem Zmz {s2:Shared} {g0 g1:TG} {wi1:TI} {J:It} {tn:Nat→Heap→Prop} {ac:HO} {ad:TAd} {id:String} {o0:Obj} {c:Expr} {Q:VK} {add:Value→Value→Sem PUnit}
 (hs3:s3={ s2 with heap:=s2.heap.push o0 }) (hc:X.calm=true) (L:LcO X scope cl N fr) (hg:∀ C s3 H3 fp,PG ?P t0 g0) (hi1:∀ C s3 H3 fp,PI ?P t1 i1 wi1) (hg1:∀ C s3 H3 fp,PG ?P t1 g1) (he:∀ C s3 H3 fp,PE ?P elt te) (hA:PAd id ad)
 (I2:Inv X pins σ H2 s2) (T:Turn X.prog X.w X.K t0 J fp it tn) (st2:tn 0 s2.heap) (f2:∀ b∈fp,FpOk X pins H2 b)
 (ok0:ObjOk X.prog X.w (upd H2 s2.z ac) (s2.heap.push o0) s2.z ac) (h:C2Go ad ac J g0 wi1 g1 te (Zar fr σ) H2 s2.z Q) (hs1:∀ env x,foldedSetIterable i1 env x=pure x)
 (c2:C2Ok X.prog X.w c t0 i0 t1 i1 elt id add) :
 wpAny ?z X.A (newFunctionEnv scope X.env.globals cl [] X.env.qual none .none (some X.env)) (fun cenv s4=>codeAny ?z X.A (.compStart c 0 (.ref it) (.ref s2.z) { cenv with scope:=relabel scope X.env }) (compPost ?z X.A X.xe none (EP X pins σ Q) (.ref s2.z) cenv.locals) s4) X.xe s3:=by
 obtain ⟨W,⟨m0,w0⟩,turn⟩:=h;refine Zdd (R:=fun C=>compPost ?z X.A X.xe none (EP X pins σ Q) (.ref s2.z) C) hs3 hc L hg I2 T st2 f2 ok0 w0 turn (fun env s4 a b=>c2.start _ 0 ?e _ _ _ _ _ a b) (fun LI s4 t n h=>Zpy c2 (hs1 _) LI t n h) (fun H7 s7 qn _ _ c=>Zjr qn c) fun LI n i σ9 H9 s9 ps I9 q9 again=>?_;refine thn (hi1 _ _ _ _ ps s9 σ9 H9 _ I9 q9) fun xv s10 h10=>thn h10 fun itv s11 h11=>?_;obtain ⟨it1,fp1,tn1,J1,H11,e,I11,T1,st11,f11,W1,⟨m1,w1⟩,turn1⟩:=h11;subst e;have fpC:∀ {H':Hp} (b:Addr),b∈fp1→H' b=none→FpOk (blk X scope cl s3.z N s3 (upd H2 s2.z ac) fp) ps H' b:=fun b hb hn=>⟨hn,(f11 b hb).2⟩
 have lp:codeAny ?z X.A (.compLoop c 1 (.ref it1) (.ref s2.z) (blk X scope cl s3.z N s3 (upd H2 s2.z ac) fp).env) (fun r s6=>match r with|.ok _=>∃ m,m<n∧LI m s6|.error _=>False) s11:=by
  refine Zp6 c2 (fun n1 s'=>∃ j σ' H',Inv (blk X scope cl s3.z N s3 (upd H2 s2.z ac) fp) ps σ' H' s'∧tn1 j s'.heap∧(∀ b∈fp1,H' b=none)∧W1 j n1 σ' H') ?_ m1 ⟨0,_,_,I11,st11,fun b hb=>(f11 b hb).1,w1⟩;rintro n1 s13 ⟨j,σ13,H13,I13,st13,fr13,w13⟩
  unfold Zm3
  rcases turn1 j n1 σ13 H13 w13 with ⟨stop,m',hm',qn⟩|⟨go1,step1⟩
  · refine thn (T1.done (blk X scope cl s3.z N s3 (upd H2 s2.z ac) fp) rfl rfl rfl hc j _ s13 σ13 H13 (fun _ _=>False) I13 (fun b hb=>fpC b hb (fr13 b hb)) st13 stop) fun r s14 ⟨hr,I14⟩=>?_;subst hr;exact again I14 hm' qn
  · refine thn (T1.item (blk X scope cl s3.z N s3 (upd H2 s2.z ac) fp) rfl rfl rfl hc j _ s13 σ13 H13 (fun _ _=>False) I13 (fun b hb=>fpC b hb (fr13 b hb)) st13 go1) fun r s14 ⟨u1,hr,h14⟩=>?_;subst hr;refine thn h14 fun _ s15 ⟨y,H15,I15,r15,y15,st15,fr15⟩=>?_;have I15':=I15.pinned (fun b hb=>fpC b hb (fr15 b hb)) (T1.obj _ _ st15);refine thn (hg1 _ _ _ _ _ s15 σ13 H15 y u1 _ I15' r15 (step1 y H15 y15)) fun _ s16 ⟨σ16,H16,I16,q16⟩=>?_;refine thn (he _ _ _ _ _ s16 σ16 H16 _ I16 q16) fun vv s17 ⟨vk,H17,I17,r17,q17⟩=>?_;refine thn (hA _ _ s17 σ16 H17 vk vv _ _ I17 r17 q17) fun _ s18 ⟨H18,I18,m',hm',w18⟩=>?_;refine ⟨m',hm',j+1,σ16,_,I18.unpinned,T1.keep _ _ _ st15 fun b hb o e=>(I18.pin (b,o) (n33_ _ (n33_ _ (Xd hb e)))).1,fun b hb=>?_,w18⟩;obtain ⟨o,e,d⟩:=T1.obj _ _ st15 b hb;exact (I18.pin (b,o) (n33_ _ (n33_ _ (Xd hb e)))).2.1
 exact c2.start _ 1 ?e _ _ _ _ _ lp fun E=>T1.self _ 0 _ _ _ st11 lp
abbrev sc2 (elt t0 i0 t1 i1:Expr) (scope:Scope) (pos:Pos):Expr:=.SetComp elt [⟨t0,i0,[],0⟩,⟨t1,i1,[],0⟩] scope pos
theorem Zrn:C2Ok prog w (sc2 elt t0 i0 t1 i1 scope pos) t0 i0 t1 i1 elt "set.add" (fun acc v=>do standAt elt.pos;let _ ← call (.builtin "set.add") [acc,v]):=by
 refine ⟨fun _ _ _ _ _=>rfl,fun _ _ _ _=>rfl,fun _ _ _ _=>rfl,fun _ _ _=>rfl,fun _ _ _=>rfl,fun A acc x s P E h=>n0_ (wpAny_standAt (n0_ (n55_ h (fun _ s5 h5=>n3_ h5) fun _ _ h'=>h'.elim))),fun A k hk it acc env R s4 h0 h=>?_⟩;refine codeAny_of_tree ?_;show wpAny _ _ ((compStart (sc2 elt t0 i0 t1 i1 scope pos) k it acc env).onRaise (fun x=>do noteFrame x env;standAt theWindowsPlace)) _ _ s4
 refine wpAny_notedAt ?_;have hk':k=0∨k=1:=?d
 rcases hk' with rfl|rfl <;>
 · unfold compStart;show wpAny _ _ (ask >>= _) _ _ s4
   refine n0_ (wpAny_askSetting (wpAny_ite ?_));split
   · first
      | exact n0_ (n3_ (n3_ (And.intro rfl h0)))
      | exact n3_ (And.intro rfl h0)
   · first
      | exact n0_ (wpAny_rule (n0_ (wpAny_standAt (n0_ (n55_ (h NoX) (fun it' s' h'=>n3_ (And.intro rfl h')) fun _ _ x=>x.elim)))))
      | (refine n0_ (wpAny_rule ?_);show wpAny _ _ (standAt _ >>= _) _ _ s4;exact n0_ (wpAny_standAt (n0_ (n55_ (h NoX) (fun it' s' h'=>n3_ (And.intro rfl h')) fun _ _ x=>x.elim))))
theorem Zw3:PAd "set.add" adS:=fun X pins s σ H v u D C I r ⟨k,S,nn,e,hS,hroom,q⟩=>by
 subst e;obtain ⟨tk,rfl⟩:=r;have hset:s.heap.SetOf (PySem.intKind X.prog X.w) D S nn:=I.hok _ _ hS;refine call_set_add (knd:=PySem.intKind X.prog X.w) (k:=k) (intKind_is _ _ _ _) rfl hset hroom fun h18 sb18 hset'=>⟨_,?_,q⟩;refine I.write (e:=D) (by rw [hS];trivial) (.inl rfl) (fun b o hb e=>(sb18.2 b hb).trans e) ?_ hset';obtain ⟨o,_,_,_,e,_⟩:=hset';exact ⟨o,e⟩
abbrev ScGo:=C2Go adS (.set (fun _=>false) 0)
def tSC (wi:TI) (g0:TG) (wi1:TI) (g1:TG) (te:TE) (fr:List (Option Nat)):TE:=fun σ H Q=>wi σ H fun J H1=>∀ D,H1 D=none→ScGo J g0 wi1 g1 te (Zar fr σ) H1 D Q
theorem Zv1 {wi1:TI} {g0 g1:TG}
 (hc:X.calm=true) (L:LcO X scope cl N fr) (hi:PI X t0 i0 wi) (hg:∀ C s3 H3 fp,PG ?P t0 g0) (hi1:∀ C s3 H3 fp,PI ?P t1 i1 wi1) (hg1:∀ C s3 H3 fp,PG ?P t1 g1)
 (he:∀ C s3 H3 fp,PE ?P elt te)
 (hs:∀ x,foldedSetIterable i0 X.env x=pure x:=by intro _;rfl) (hs1:∀ env x,foldedSetIterable i1 env x=pure x:=by intro _ _;rfl):PE X (sc2 elt t0 i0 t1 i1 scope pos) (tSC wi g0 wi1 g1 te fr):=by
 intro pins s σ H Q I h;rw [arm_eval_SetComp];dsimp only;refine ?Y;obtain ⟨it,fp,tn,J,H2,e,I2,T,st2,f2,h⟩:=h2;subst e;refine wpAny_newSet_of (knd:=PySem.intKind X.prog X.w) fun led setOf=>?_;exact Zmz (ac:=.set (fun _=>false) 0) rfl hc L hg hi1 hg1 he Zw3 I2 T st2 f2 setOf (h _ (I2.hok.fresh (n11_ _))) hs1 Zrn
end L2
namespace L2
open PySem PySem.Spec PyProof.Rows PySem.W
def krun {α:Type} (f:Nat→Nat→Bool):KasT α→α
 | .ret a=>a
 | .ask i j k=>krun f (k (f i j))
def kin {α:Type} (n:Nat) (f:Nat→Nat→Bool):KasT α→Bool
 | .ret _=>true
 | .ask i j k=>decide (i<n)&&decide (j<n)&&kin n f (k (f i j))
variable {α:Type} {a l:Addr} {n:Nat} {s:Shared} {Q:Value→?k}
theorem Zo2 {f:Nat→Nat→Bool} {cmp:Nat→Nat→(Bool→?k)→?k} {Q:α→?k} (hc:∀ i j C,i<n→j<n→C (f i j) s→cmp i j C s) :
 ∀ (t:KasT α),kin n f t=true→Q (krun f t) s→t.kasWp cmp Q s
 | .ret a,_,h=>h
 | .ask i j k,hk,h=>by
   unfold kin at hk;rw [n35_,n35_] at hk;exact hc i j _ (n48_ hk.1.1) (n48_ hk.1.2) (Zo2 hc (k (f i j)) hk.2 h)
def fB (b:Nat→Nat→Bool) (i j:Nat):Bool:=if i<j then b i j else if j<i then !b j i else false
def tot (n:Nat) (f:Nat→Nat→Bool):Bool:=(List.range n).all fun i=>(List.range n).all fun j=>(List.range n).all fun k=>!(f i j&&f j k)||f i k
def srt (f:Nat→Nat→Bool):List Nat→Bool
 | []=>true
 | [_]=>true
 | i :: j :: r=>f i j&&srt f (j :: r)
def fine (n:Nat) (f:Nat→Nat→Bool):Bool:=!tot n f||(kin n f (kas_sort n)&&(krun f (kas_sort n)).toList.isPerm (List.range n)&&srt f (krun f (kas_sort n)).toList)
def g2 (a:Bool):Nat→Nat→Bool:=fun _ _=>a
def g3 (a b c:Bool):Nat→Nat→Bool:=fun i j=>if i=0 then (if j=1 then a else b) else c
def g4 (a b c d e g:Bool):Nat→Nat→Bool:=fun i j=>if i=0 then (if j=1 then a else if j=2 then b else c) else if i=1 then (if j=2 then d else e) else g
theorem Zww:∀ a,fine 2 (fB (g2 a))=true:=?i
theorem Zwx:∀ a b c,fine 3 (fB (g3 a b c))=true:=?i
theorem Zv9:∀ a b c d e g,fine 4 (fB (g4 a b c d e g))=true:=?i
theorem Zm0 {f f':Nat→Nat→Bool} (h:∀ i j,i<n→j<n→f i j=f' i j):∀ (t:KasT α),kin n f' t=true→kin n f t=true∧krun f t=krun f' t
 | .ret a,_=>⟨rfl,rfl⟩
 | .ask i j k,hk=>by
   unfold kin at hk;rw [n35_,n35_] at hk;obtain ⟨⟨h1,h2⟩,h3⟩:=hk;have e:=h i j (n48_ h1) (n48_ h2);obtain ⟨r1,r2⟩:=Zm0 h (k (f' i j)) h3;refine ⟨?_,?_⟩
   · unfold kin;rw [e,h1,h2,r1];rfl
   · show krun f (k (f i j))=krun f' (k (f' i j))
     rw [e];exact r2
structure Ord (n:Nat) (f:Nat→Nat→Bool):Prop where
 irr:∀ i,i<n→f i i=false
 ant:∀ i j,i<n→j<n→i≠j→f j i = !f i j
 tr:∀ i j k,i<n→j<n→k<n→f i j=true→f j k=true→f i k=true
theorem Zhw {f f':Nat→Nat→Bool} (h:∀ i j,i<n→j<n→f i j=f' i j):∀ (l:List Nat),(∀ i∈l,i<n)→srt f l=srt f' l
 | [],_=>rfl
 | [_],_=>rfl
 | i :: j :: r,hl=>by
   show (f i j&&srt f (j :: r))=(f' i j&&srt f' (j :: r))
   rw [h i j (hl i ?f) (hl j ?f),Zhw h (j :: r) fun k hk=>hl k (n17_ _ hk)]
theorem Zg1 {f f':Nat→Nat→Bool} (o:Ord n f) (h:∀ i j,i<n→j<n→f i j=f' i j) (hf:fine n f'=true):kin n f (kas_sort n)=true∧(krun f (kas_sort n)).toList.Perm (List.range n)∧srt f (krun f (kas_sort n)).toList=true:=by
 have ht:tot n f'=true:=by
  unfold tot;simp only [n49_,n42_];intro i hi j hj k hk;rw [← h i j hi hj,← h j k hj hk,← h i k hi hk];cases a:f i j<;>cases b:f j k<;>simp
  exact o.tr i j k hi hj hk a b
 unfold fine at hf;rw [ht] at hf;simp only [Bool.not_true,Bool.false_or,n35_] at hf;obtain ⟨⟨h1,h2⟩,h3⟩:=hf;obtain ⟨r1,r2⟩:=Zm0 h (kas_sort n) h1;have hp:(krun f' (kas_sort n)).toList.Perm (List.range n):=List.isPerm_iff.mp h2;refine ⟨r1,by rw [r2];exact hp,?_⟩;rw [r2,Zhw h _ fun i hi=>n42_.mp (hp.mem_iff.mp hi)];exact h3
theorem Zpf {f:Nat→Nat→Bool} (o:Ord n f) (h1:2≤n) (h2:n≤4):kin n f (kas_sort n)=true∧(krun f (kas_sort n)).toList.Perm (List.range n)∧srt f (krun f (kas_sort n)).toList=true:=by
 have cases3:n=2∨n=3∨n=4:=?d
 have key:∀ (g:Nat→Nat→Bool),(∀ i j,i<j→j<n→f i j=g i j)→∀ i j,i<n→j<n→f i j=fB g i j:=fun g hg i j hi hj=>by
  unfold fB
  by_cases a:i<j
  · rw [if_pos a];exact hg i j a hj
  · rw [if_neg a]
    by_cases b:j<i
    · rw [if_pos b,← hg j i b hi];exact o.ant j i hj hi (?d)
    · rw [if_neg b]
      have:i=j:=?d
      subst this;exact o.irr i hi
 rcases cases3 with rfl|rfl|rfl
 · refine Zg1 o (key (g2 (f 0 1)) fun i j a b=>?_) (Zww _)
   have:i=0∧j=1:=?d
   obtain ⟨rfl,rfl⟩:=this;rfl
 · refine Zg1 o (key (g3 (f 0 1) (f 0 2) (f 1 2)) fun i j a b=>?_) (Zwx _ _ _)
   have:(i=0∧j=1)∨(i=0∧j=2)∨(i=1∧j=2):=?d
   rcases this with ⟨rfl,rfl⟩|⟨rfl,rfl⟩|⟨rfl,rfl⟩<;>rfl
 · refine Zg1 o (key (g4 (f 0 1) (f 0 2) (f 0 3) (f 1 2) (f 1 3) (f 2 3)) fun i j a b=>?_) (Zv9 _ _ _ _ _ _)
   have:(i=0∧j=1)∨(i=0∧j=2)∨(i=0∧j=3)∨(i=1∧j=2)∨(i=1∧j=3)∨(i=2∧j=3):=?d
   rcases this with ⟨rfl,rfl⟩|⟨rfl,rfl⟩|⟨rfl,rfl⟩|⟨rfl,rfl⟩|⟨rfl,rfl⟩|⟨rfl,rfl⟩<;>rfl
section
variable {prog:Program} {w:World} {A:Around} {E:Value→?k} {s:Shared}
theorem Zr7 {vs:?q} {P:PySem.Fin→?k} (good:List Nat→Prop) (g1:vs.length<2→good (List.range vs.length)) (ho:s.heap.get? a=some (seqObj "list" vs.toArray n)) (h64:vs.length<64)
 (ask:2≤vs.length→∀ h1,(∀ b u,b≠a→?I=some u→h1.get? b=some u)→wpAny ?s A (keyKind' vs.toArray) (fun κ s1=>s1={ s with heap:=h1 }∧(kas_sort vs.length).kasWp (kas_ask prog w A κ vs) (fun p s2=>s2={ s with heap:=h1 }∧good p.toList) s1) (fun _ _=>False) { s with heap:=h1 })
 (h:∀ p:List Nat,good p→P (.done (.ret .none)) { s with heap:=sortedHeap s.heap a vs (p.map fun i=>vs.getD i Value.none).toArray }) :
 wpAny ?s A (Builtin.«list.sort» ⟨[.ref a],[]⟩) P E s:=by
 have ha:a<s.z:=n14_ ho;obtain ⟨e1,o1⟩:∃ e1,(s.heap.update a (Obj.mapSeq fun _=>(#[]:?H))).get? a=some (seqObj "list" #[] e1):=⟨_,get?_update_seq ho fun _=>#[]⟩;have s1:=Heap.SameBut.update s.heap a (Obj.mapSeq fun _=>(#[]:?H));have k6:∀ b u,b≠a→?I=some u→(?X).get? b=some u:=fun b u nb e=>n2_ _ (n2_ _ ((s1.2 b nb).trans e));have o6:(?X).get? a=some (seqObj "list" #[] e1):=n2_ _ (n2_ _ o1);rw [list_sort_plain];refine n0_ (listItems_at ho rfl (n0_ (listUpdate_at ho rfl (n0_ (seqEpoch_at o1 rfl (n0_ (wpAny_newTuple (n0_ (wpAny_newList (n34_ ?_) (n45_ _))) (by show vs.length≤_;rw [sizeLine_eq];omega))))) (by rw [n16_,sizeLine_eq];omega) (n45_ _))));show wpAny ?s A _ P E { s with heap:=?X }
 dsimp only
 by_cases h2:vs.toArray.size<2
 · rw [if_pos h2,if_pos h2];refine n0_ (n3_ ?_);rw [StateT.run_pure];refine n0_ (n3_ ?_);dsimp only;have z:=h _ (g1 (by simpa using h2))
   have ev:((List.range vs.length).map fun i=>vs.getD i Value.none)=vs:=by
    refine List.ext_getElem ?f fun i a1 a2=>?_;simp [n5_,a2]
   rw [ev] at z;refine n0_ (seqEpoch_at o6 rfl (n0_ (listUpdate_at o6 rfl ?_ (hsz2:=by rw [Array.size_map];show (vs.toArray.zip vs.toArray).size≤_;rw [Array.size_zip,n16_,sizeLine_eq];omega))));simp only [bne_self_eq_false,n19_,if_false];refine n3_ ?_
   have em:((vs.toArray.zip vs.toArray).map (·.2))=vs.toArray:=by
    apply Array.ext ?f
    intro i a1 a2
    simp
   unfold sortedHeap at z;show P _ { s with heap:=(?X).update a (Obj.mapSeq fun _=>(vs.toArray.zip vs.toArray).map (·.2)) }
   rw [em];exact z
 · have hn:2≤vs.length:=by simp at h2;omega
   rw [if_neg h2,if_neg h2];refine n0_ (n55_ (ask hn _ k6) (fun κ s0 hk=>?_) fun _ _ x=>x.elim);obtain ⟨rfl,hk⟩:=hk
   refine n0_ (n55_ (kat_run (Q:=fun st' s2=>∃ p:Array Nat,arrOf st'=p.map (kas_item (vs.toArray.zip vs.toArray))∧failedOf st'=none∧p.size=vs.length∧s2={ s with heap:=?X }∧good p.toList)
    rfl hn h64 (fun p st' s2 a1 a2 a3 a4=>⟨p,a2,a3,a1,a4.1,a4.2⟩) hk) ?_ fun _ _ e=>e)
   rintro ⟨⟨⟩,st'⟩ s2 ⟨p,har,hf,hp,rfl,gp⟩
   dsimp only;rw [kat_snds rfl har];refine n0_ (seqEpoch_at o6 rfl (n0_ (listUpdate_at o6 rfl ?_ (n45_ _) (by rw [n16_,n7_,Array.length_toList,hp,sizeLine_eq];omega))));rw [hf];simp only [bne_self_eq_false,n19_,if_false];exact n3_ (h p.toList gp)
theorem Zni {vs:?q} (good:List Nat→Prop) (g1:vs.length<2→good (List.range vs.length)) (hl:s.heap.IsList l vs.toArray) (h64:vs.length<64)
 (ask:2≤vs.length→∀ h1,(∀ b u,?I=some u→h1.get? b=some u)→wpAny ?s A.in1.in1 (keyKind' vs.toArray) (fun κ s1=>s1={ s with heap:=h1 }∧(kas_sort vs.length).kasWp (kas_ask prog w A.in1.in1 κ vs) (fun p s2=>s2={ s with heap:=h1 }∧good p.toList) s1) (fun _ _=>False) { s with heap:=h1 })
 (h:∀ p:List Nat,good p→Q (.ref (s.z+1)) { s with heap:=sortedAll s.heap vs (p.map fun i=>vs.getD i Value.none).toArray }) :
 wpAny ?s A (call (.builtin "sorted") [.ref l]) Q E s:=by
 refine Calls.call_function_entry kind_sorted plain_sorted entry_sorted (args_sorted1 _) ?_;unfold Builtin.«sorted»;refine n0_ (m:=checkCount "sorted" 1 1 _) (n3_ (n0_ (collect_list hl (n0_ (wpAny_newList ?_ (by rw [sizeLine_eq];omega))) (by rw [sizeLine_eq];omega))));have n1:((s.heap.push (seqObj "list" #[] 0)).update s.z (Obj.mapSeq (·++vs.toArray))).objs.size=s.z+1:=by rw [Heap.size_update,size_push']
 have oL:(((s.heap.push (seqObj "list" #[] 0)).update s.z (Obj.mapSeq (·++vs.toArray))).push (seqObj "list" vs.toArray 0)).get? (s.z+1)=some (seqObj "list" vs.toArray 0):=by rw [← n1];exact n8_ _ rfl
 have kL:∀ b u,?I=some u→(((s.heap.push (seqObj "list" #[] 0)).update s.z (Obj.mapSeq (·++vs.toArray))).push (seqObj "list" vs.toArray 0)).get? b=some u:=fun b u e=>by
  have lt:b<s.z:=n14_ e;refine n2_ _ ?_;rw [Heap.get?_update_ne _ _ _ _ (n26_ lt)];exact n2_ _ e
 show wpAny _ _ _ _ _ { s with heap:=((s.heap.push (seqObj "list" #[] 0)).update s.z (Obj.mapSeq (·++vs.toArray))).push (seqObj "list" vs.toArray 0) }
 rw [n1];refine n0_ (n34_ (wpAny_call_entry slot_list_sort ⟨_,oL,rfl⟩ entry_list_sort (Zr7 (s:={ s with heap:=((s.heap.push (seqObj "list" #[] 0)).update s.z (Obj.mapSeq (·++vs.toArray))).push (seqObj "list" vs.toArray 0) }) good g1 oL h64 (fun h2 h1 k1=>ask h2 h1 fun b u e=>k1 b u (n26_ (n54_ (n14_ e))) (kL b u e)) fun p gp=>⟨_,rfl,?_⟩) (args_list_sort _)));exact n3_ ⟨_,rfl,h p gp⟩
end
end L2
namespace L2
open PySem PySem.Spec PyProof.Rows PySem.W
variable {h:Heap} {ns:?g} {n:Nat}
section
variable {prog:Program} {w:World} {A:Around} {E:Value→?k} {s:Shared}
theorem Zvi {b:Bool} {x y:Int} {t u:Tok} {Q:Bool→?k} (h:Q (decide (x<y)) s):wpAny ?s A (oneLt' b (.int x t) (.int y u)) Q E s:=by
 cases b
 · refine kat_one _ _ (lt_int ?_);exact h
 · exact kat_lt_int h
theorem Zqm {b:Bool} {Q:Bool→?k}:∀ {ms:?g} {us ws:?q} (i:Nat),IntsAre us ns→IntsAre ws ms→ns.length=ms.length→Q (HT.lexLt ns ms) s→KatLex prog w A b false Q (us.zip ws) i s:=by
 induction ns with
 | nil =>
   intro ms us ws i hu hw hl h;cases ms with
   | nil=>cases hu;cases hw;exact kat_nil h
   | cons=>cases hl
 | cons x ns ih =>
   intro ms us ws i hu hw hl h;cases ms with
   | nil=>cases hl
   | cons y ms =>
     cases hu with
     | cons _ t hu =>
       cases hw with
       | cons _ u hw =>
         refine kat_cons (wpAny_eqBool_int ?_);rw [HT.lexLt_cons] at h
         by_cases e:x=y
         · subst e;rw [if_pos rfl] at h;rw [beq_self_eq_true];exact kat_yes (ih (i+1) hu hw (Nat.succ.inj hl) h)
         · rw [if_neg e] at h;rw [show (x == y)=false by simpa using e];exact kat_no (Zvi h)
end
theorem Zo1:∀ (a:?g),HT.lexLt a a=false
 | []=>rfl
 | x :: a=>by rw [HT.lexLt_cons,if_pos rfl];exact Zo1 a
theorem Zog:∀ (a b:?g),a.length=b.length→a≠b→HT.lexLt b a = !HT.lexLt a b
 | [],[],_,h=>absurd rfl h
 | [],_ :: _,h,_=>by simp at h
 | _ :: _,[],h,_=>by simp at h
 | x :: a,y :: b,hl,hn=>by
   rw [HT.lexLt_cons,HT.lexLt_cons]
   by_cases e:x=y
   · subst e;rw [if_pos rfl,if_pos rfl];exact Zog a b (by simpa using hl) (fun z=>hn (by rw [z]))
   · rw [if_neg e,if_neg (Ne.symm e)]
     by_cases h:x<y
     · rw [n44_ h,n29_ (?d)];rfl
     · rw [n29_ h,n44_ (?d)];rfl
theorem Zrd:∀ (a b c:?g),a.length=b.length→b.length=c.length→HT.lexLt a b=true→HT.lexLt b c=true→HT.lexLt a c=true
 | [],[],_,_,_,h,_=>by cases h
 | [],_ :: _,_,h,_,_,_=>by simp at h
 | _ :: _,[],_,h,_,_,_=>by simp at h
 | _ :: _,_ :: _,[],_,h,_,_=>by simp at h
 | x :: a,y :: b,z :: c,h1,h2,h3,h4=>by
   rw [HT.lexLt_cons] at h3 h4 ⊢
   by_cases e1:x=y
   · subst e1;rw [if_pos rfl] at h3
     by_cases e2:x=z
     · subst e2;rw [if_pos rfl] at h4 ⊢;exact Zrd a b c (by simpa using h1) (by simpa using h2) h3 h4
     · rw [if_neg e2] at h4 ⊢;exact h4
   · rw [if_neg e1] at h3;have l1:x<y:=n48_ h3
     by_cases e2:y=z
     · subst e2;rw [if_neg e1];exact h3
     · rw [if_neg e2] at h4;have l2:y<z:=n48_ h4;rw [if_neg (?d)];exact n44_ (?d)
theorem Zkx {f:Nat→Nat→Bool} (o:Ord n f):∀ (l:List Nat),(∀ i∈l,i<n)→srt f l=true→l.Pairwise (fun i j=>f i j=true)
 | [],_,_=>.nil
 | [i],_,_=>.cons ?f .nil
 | i :: j :: r,hl,h=>by
   have h':(f i j&&srt f (j :: r))=true:=h;rw [n35_] at h';have ih:=Zkx o (j :: r) (fun k hk=>hl k (n17_ _ hk)) h'.2;refine .cons (fun k hk=>?_) ih
   rcases n13_.mp hk with rfl|hk'
   · exact h'.1
   · exact o.tr i j k (hl i ?f) (hl j ?f) (hl k (n17_ _ hk)) h'.1 ((List.pairwise_cons.mp ih).1 k hk')
section
variable {X:Cx}
theorem Zjm {vs:?q} {kl:List (?g)} (p:Paired (fun v k=>∃ b o its n,v=Value.ref b∧h.get? b=some o∧o.cls=?G ∧ o.data=.seq its n∧IntsAre its.toList k∧0<k.length) vs kl):∃ fs:?q,KatTups h vs fs∧fs.length=vs.length∧∀ v∈fs,∃ x t,v=Value.int x t:=by
 induction p with
 | nil=>exact ⟨[],.nil,rfl,fun v hv=>by simp at hv⟩
 | cons r rs ih =>
   obtain ⟨fs,h1,h2,h3⟩:=ih;obtain ⟨b,o,its,n,rfl,g,c,d,hi,hk⟩:=r
   have:∃ x t,its[0]? = some (Value.int x t):=by
    cases hi':its.toList with
    | nil=>rw [hi'] at hi;cases hi;simp at hk
    | cons u us =>
      rw [hi'] at hi;cases hi with
      | cons x t _=>exact ⟨x,t,by rw [← Array.getElem?_toList,hi'];rfl⟩
   obtain ⟨x,t,e⟩:=this;refine ⟨_ :: fs,.cons g c d e h1,by rw [n21_,n21_,h2],fun v hv=>?_⟩
   rcases n13_.mp hv with rfl|hv
   · exact ⟨_,_,rfl⟩
   · exact h3 v hv
end
end L2
namespace L2
open PySem PySem.Spec PyProof.Rows PySem.W
abbrev lexF (kl:List (?g)) (i j:Nat):Bool:=HT.lexLt (kl.getD i []) (kl.getD j [])
variable {α:Type} {D a b l t z:Addr} {A:Around} {ys:?H} {X:Cx} {env:Env} {e tg:Expr} {h':Heap} {H H' H2:Hp} {pins:?A} {kvs:List (List Key×V)} {fr:List (Option Nat)} {ch:List Addr} {ns:?g} {N:List Str} {vs:List V} {us:?q} {M:Model} {i j k m n t' x1:Nat} {u0 u1:Option V} {p pos tp:Pos} {P prog:Program} {scope:Scope} {s:Shared} {rest σ:St} {x:Str} {ta:TA} {te tl:TE} {g:TG} {tt:TT} {v y:V} {c d u:Value} {E Q:Value→?k} {w:World}
theorem Zsn {kl:List (?g)} (nd:kl.Nodup) (hm:∀ k∈kl,k.length=m):Ord kl.length (lexF kl) where
 irr:=fun i _=>Zo1 _
 ant:=fun i j hi hj ne=>by
  have e1:kl.getD i []=kl[i]:=by simp [n5_,hi]
  have e2:kl.getD j []=kl[j]:=by simp [n5_,hj]
  show HT.lexLt _ _ = !HT.lexLt _ _
  rw [e1,e2];exact Zog _ _ (by rw [hm _ (n28_ hi),hm _ (n28_ hj)]) fun z=>ne ((List.getElem_inj nd).mp z)
 tr:=fun i j k hi hj hk h1 h2=>by
  have e:∀ i (h:i<kl.length),(kl.getD i []).length=m:=fun i h=>by
   have:kl.getD i []=kl[i]:=by simp [n5_,h]
   rw [this];exact hm _ (n28_ h)
  exact Zrd _ _ _ (by rw [e i hi,e j hj]) (by rw [e j hj,e k hk]) h1 h2
theorem Zj9 (r:Vals vs us):∀ (p:List Nat),(∀ i∈p,i<vs.length)→Vals (p.map fun i=>vs.getD i .non) (p.map fun i=>us.getD i Value.none)
 | [],_=>.nil
 | i :: p,h=>by
   have hi:i<vs.length:=h i ?f;obtain ⟨u,e,ru⟩:=r.get (n1_ hi);refine .cons ?_ (Zj9 r p fun j hj=>h j (n17_ _ hj));show RelV (vs.getD i .non) (us.getD i Value.none)
   rw [show vs.getD i .non=vs[i] by simp [n5_,hi],show us.getD i Value.none=u by simp [n5_,e]];exact ru
section
variable {X:Cx}
theorem Zie:Xe X (.builtin "sorted") (fun xs H Q=>∃ (p:Addr) (vs:List V) (kl:List (?g)) (m:Nat),xs=[.ref p]∧SqL X.K H p vs∧vs.length=kl.length∧(∀ (i:Nat) (v:V),vs[i]? = some v→∃ (b:Addr) (k:?g),v=.ref b∧kl[i]? = some k∧SqT X.K H b (k.map V.int))∧kl.Nodup∧kl.length≤4∧(∀ k∈kl,k.length=m)∧0<m ∧
 ∀ (l:Addr) (q:List Nat),H l=none→q.Perm (List.range kl.length)→(?Q).Pairwise (fun a b=>HT.lexLt a b=true)→Q (.ref l) (upd H l (.lst (q.map fun i=>vs.getD i .non)))):=by
 intro pins s σ H xs us Q I r h;obtain ⟨p,vs,kl,m,rfl,hq,hl,hk,nd,h4,hm,m0,q⟩:=h;cases r with
 | cons rx r =>
   cases r
   cases (show _=Value.ref p from rx)
   obtain ⟨its,rv,pl,hz⟩:=I.list hq;have hlen:=rv.length;have o:=Zsn nd hm
   have tup:∀ i,i<kl.length→∃ b ob jt n,its.getD i Value.none=.ref b∧?I=some ob∧ob.cls=?G ∧ ob.data=.seq jt n∧IntsAre jt.toList (kl.getD i [])∧(kl.getD i []).length=m:=fun i hi=>by
    have hv:i<vs.length:=?d
    obtain ⟨b,k,e1,e2,hb⟩:=hk i vs[i] (n1_ hv);obtain ⟨u,eu,ru⟩:=rv.get (n1_ hv);rw [e1] at ru;cases ru
    obtain ⟨jt,rj,⟨ob,g,c,n,d⟩,_⟩:=I.tuple hb;have ek:kl.getD i []=k:=by simp [n5_,e2]
    refine ⟨b,ob,jt.toArray,n,by simp [n5_,eu],g,c,d,by rw [ek];simpa using X8 rj,?_⟩;rw [ek];exact hm k (n6_ e2)
   refine Zni (fun q=>q.Perm (List.range kl.length)∧(?Q).Pairwise (fun a b=>HT.lexLt a b=true)) (fun h2=>?_) pl.isList (?d) (fun h2 h1 k1=>?_) fun p' gp=>?_
   · have:its.length=kl.length:=?d
     rw [this];refine ⟨.refl _,?_⟩
     have:kl.length=0∨kl.length=1:=?d
     rcases this with e|e<;>rw [e]
     · exact .nil
     · exact .cons ?f .nil
   · have en:its.length=kl.length:=?d
     have keep:∀ i,i<kl.length→∃ b ob jt n,its.getD i Value.none=.ref b∧h1.get? b=some ob∧ob.cls=?G ∧ ob.data=.seq jt n∧IntsAre jt.toList (kl.getD i [])∧(kl.getD i []).length=m:=fun i hi=>by
      obtain ⟨b,ob,jt,n,e1,e2,e3⟩:=tup i hi;exact ⟨b,ob,jt,n,e1,k1 b ob e2,e3⟩
     have prd:∀ (us:?q) (ks:List (?g)),us.length=ks.length→(∀ i,i<ks.length→∃ b ob jt n,us.getD i Value.none=.ref b∧h1.get? b=some ob∧ob.cls=?G ∧ ob.data=.seq jt n∧IntsAre jt.toList (ks.getD i [])∧(ks.getD i []).length=m)→Paired (fun v k=>∃ b o its n,v=Value.ref b∧h1.get? b=some o∧o.cls=?G ∧ o.data=.seq its n∧IntsAre its.toList k∧0<k.length) us ks:=by
      intro us
      induction us with
      | nil=>intro ks e _;cases ks with
        | nil=>exact .nil
        | cons _ _=>simp at e
      | cons u us ih =>
        intro ks e hh;cases ks with
        | nil=>simp at e
        | cons k ks =>
          refine .cons ?_ (ih ks (by simpa using e) fun i hi=>by simpa using hh (i+1) (by simpa using hi));obtain ⟨b,ob,jt,n,e1,e2,e3,e4,e5,e6⟩:=hh 0 ?f;exact ⟨b,ob,jt,n,by simpa using e1,e2,e3,e4,by simpa using e5,(by have e7:k.length=m:=(by simpa using e6);omega)⟩
     obtain ⟨fs,f1,f2,f3⟩:=Zjm (prd its kl en keep);refine kat_kind (T:=.type "int") f1 (?d) (fun v hv=>?_) rfl ⟨rfl,?_⟩
     · obtain ⟨x,t,rfl⟩:=f3 v hv;exact Looks.of_pure rfl
     · obtain ⟨r1,r2,r3⟩:=Zpf o (?d) h4;rw [en];refine Zo2 (n:=kl.length) (f:=lexF kl) (fun i j C hi hj hC=>?_) _ r1 ⟨rfl,r2,?_⟩
       · obtain ⟨b,ob,jt,n,e1,e2,e3,e4,e5,e6⟩:=keep i hi;obtain ⟨b',ob',jt',n',e1',e2',e3',e4',e5',e6'⟩:=keep j hj;unfold kas_ask;rw [e1,e1']
         have z:jt.size=jt'.size:=by
          have a1:=IntsAre.length e5;have a2:=IntsAre.length e5';rw [Array.length_toList] at a1 a2;omega
         refine kat_lt e2 e4 e2' e4' ?_;rw [n29_ (?d)];exact Zqm 0 e5 e5' (by rw [e6,e6']) hC
       · have pw:=Zkx o _ (fun i hi=>n42_.mp (r2.mem_iff.mp hi)) r3;exact List.pairwise_map.mpr pw
   · obtain ⟨e,he⟩:=sortedAll_at s.heap its (p'.map fun i=>its.getD i Value.none).toArray;have fr:H (s.z+1)=none:=I.hok.fresh (Nat.le_succ _);have lt:∀ i∈p',i<vs.length:=fun i hi=>by rw [hl];exact n42_.mp (gp.1.mem_iff.mp hi)
     refine ⟨.ref (s.z+1),_,I.laid (o:=.lst (p'.map fun i=>vs.getD i .non)) (t':=s.toks) (fun b u e=>sortedAll_old e) (Nat.le_succ _) ⟨?_,p'.map fun i=>its.getD i Value.none,e,Zj9 rv p' lt,he⟩,rfl,q _ p' fr gp.1 gp.2⟩;rw [n7_,gp.1.length_eq,n66_,sizeLine_eq];omega
end
abbrev ZR (h:Heap) (z t o:Addr) (f0:Value) (f1:Bool):Prop:=h.get? z=some { cls:=.type "zip",dict:=none,data:=.fields #[f0,.bool f1,.bool false,.ref t,.ref o],slots:=#[] }
def ZSt (h:Heap) (z t o:Addr):Prop:=∃ f0 f1,ZR h z t o f0 f1∧(f0=.none∨∃ T,f0=rawInt T)
section
variable {prog:Program} {w:World} {A:Around} {E:Value→?k} {s:Shared} {k l:SK}
theorem Zix {Q:Option Obj→?k} (h:Q (s.heap.get? a) s):wpAny M A (loadIfAlive a) Q E s:=fun _ _ _=>h
theorem Zkg {o:Addr} {Q:Bool→?k} (hz:ZSt s.heap z t o) (q:∀ (b:Bool) (h1:Heap),ZSt h1 z t o→Heap.SameBut z s.heap h1→Q b { s with heap:=h1 }):wpAny ?s A (n31_ (.ref z)) Q E s:=by
 obtain ⟨f0,f1,hz,hf⟩:=hz;unfold n31_;refine n0_ (wpAny_field hz rfl (x:=f0) rfl ?_)
 rcases hf with rfl|⟨T,rfl⟩
 · exact n3_ (q true s.heap ⟨_,_,hz,.inl rfl⟩ (Heap.SameBut.refl ..))
 · show wpAny _ _ (loadIfAlive _ >>= _) _ _ s
   refine n0_ (Zix ?_);split
   · exact n3_ (q true s.heap ⟨_,_,hz,.inr ⟨T,rfl⟩⟩ (Heap.SameBut.refl ..))
   · refine n0_ (wpAny_field hz rfl (x:=.bool f1) rfl ?_);split
     · refine n0_ (wpAny_setField_rec hz ?f fun h1 z1 s1=>n3_ (q false h1 ⟨_,true,z1,.inr ⟨T,rfl⟩⟩ s1))
     · exact n3_ (q false s.heap ⟨_,_,hz,.inr ⟨T,rfl⟩⟩ (Heap.SameBut.refl ..))
theorem Zmo {o i j:Addr} {xs:?H} {x y:Value} (D:ZP z t o i j a b)
 (hz:ZSt s.heap z t o) (ht:IsPair s.heap t (.ref i) (.ref j)) (ho:IsPair s.heap o c d)
 (hi:k.It s.heap i a m) (hj:l.It s.heap j b n) (ha:k.Is s.heap a xs) (hb:l.Is s.heap b ys) (hx:xs[m]? = some x) (hy:ys[n]? = some y)
 (q:∀ h1,ZSt h1 z t o→(∃ c d,IsPair h1 o c d)→k.It h1 i a (m+1)→l.It h1 j b (n+1)→IsPair h1 s.z x y→h1.objs.size=s.z+1 →
   ?W→Q (.ref s.z) { s with heap:=h1 }) :
 wpAny ?s A (Builtin.«zip.__next__» ⟨[.ref z],[]⟩) (fun fin s'=>∃ v,fin=.done (.ret v)∧Q v s') E s:=by
 obtain ⟨f0,f1,hz0,hf⟩:=id hz;refine n0_ (m:=field (.ref z) 2) (wpAny_field hz0 rfl (x:=.bool false) rfl ?_);refine n0_ (m:=field (.ref z) 3) (wpAny_field hz0 rfl (x:=.ref t) rfl (n0_ (wpAny_seqItems ht rfl ?_)));refine n0_ (m:=n31_ (.ref z)) (Zkg hz fun fr h0 hz' s0=>?_);have ho0:IsPair h0 o c d:=s0.extBut _ _ D.oz ho;have hi0:k.It h0 i a m:=hi.at fun u e=>s0.extBut _ _ D.iz e;have hj0:l.It h0 j b n:=hj.at fun u e=>s0.extBut _ _ D.jz e;have ha0:k.Is h0 a xs:=ha.at fun u e=>s0.extBut _ _ D.az e;have hb0:l.Is h0 b ys:=hb.at fun u e=>s0.extBut _ _ D.bz e;have n0:h0.objs.size=s.z:=s0.1;obtain ⟨g0,g1,hz0,hg⟩:=hz';cases fr with
 | true =>
   simp only [if_true];refine n0_ (wpAny_rule (n0_ (wpAny_field hz0 rfl (x:=.ref o) rfl (n0_ (wpAny_setField_rec hz0 ?f fun h1 z1 s1=>?_)))));replace z1:ZR h1 z t o .ellipsis g1:=z1;refine n0_ ?_;simp only [List.zipIdx_cons,List.zipIdx_nil,List.forIn_cons,List.forIn_nil];refine n0_ (n0_ (wpAny_onRaise (n0_ (m:=n20_ (.ref i)) ?_)));refine SK.draw (hi0.at fun u e=>s1.extBut _ _ D.iz e) (ha0.at fun u e=>s1.extBut _ _ D.az e) hx fun h2 i2 s2=>n3_ ?_;have o2:IsPair h2 o c d:=s2.extBut _ _ D.oi (s1.extBut _ _ D.oz ho0);refine n0_ (wpAny_seqItems o2 rfl (n0_ (wpAny_updateSeq_pair o2 fun h3 o3 s3=>?_)));replace o3:IsPair h3 o x d:=o3;refine n0_ (wpAny_letGo (n3_ (n0_ (n0_ (wpAny_onRaise (n0_ (m:=n20_ (.ref j)) ?_))))));refine SK.draw (hj0.at fun u e=>s3.extBut _ _ D.oj.symm (s2.extBut _ _ D.ij.symm (s1.extBut _ _ D.jz e))) (hb0.at fun u e=>s3.extBut _ _ D.bo (s2.extBut _ _ D.bi (s1.extBut _ _ D.bz e))) hy fun h4 j4 s4=>n3_ ?_;have o4:IsPair h4 o x d:=s4.extBut _ _ D.oj o3;refine n0_ (wpAny_seqItems o4 rfl (n0_ (wpAny_updateSeq_pair o4 fun h5 o5 s5=>?_)));replace o5:IsPair h5 o x y:=o5;refine n0_ (wpAny_letGo (n3_ (n3_ (n0_ (wpAny_seqItems o5 rfl (n0_ (wpAny_newTuple ?_)))))));have sz:h5.objs.size=s.z:=by rw [s5.1,s4.1,s3.1,s2.1,s1.1,n0]
   have z5:ZR h5 z t o .ellipsis g1:=s5.extBut _ _ D.oz.symm (s4.extBut _ _ D.jz.symm (s3.extBut _ _ D.oz.symm (s2.extBut _ _ D.iz.symm z1)));have k5:∀ e u,e≠z→e≠o→e≠i→e≠j→s.heap.get? e=some u→h5.get? e=some u:=fun e u e1 e2 e3 e4 g=>s5.extBut _ _ e2 (s4.extBut _ _ e4 (s3.extBut _ _ e2 (s2.extBut _ _ e3 (s1.extBut _ _ e1 (s0.extBut _ _ e1 g)))));have i5:k.It h5 i a (m+1):=i2.at fun u e=>s5.extBut _ _ D.oi.symm (s4.extBut _ _ D.ij (s3.extBut _ _ D.oi.symm e));have j5:l.It h5 j b (n+1):=j4.at fun u e=>s5.extBut _ _ D.oj.symm e;have zl:z<h5.objs.size:=n14_ z5;refine n0_ (m:=Builtin.SmallTypes.ownedTupleHandOut (.ref z) (.ref h5.objs.size)) ?_;unfold Builtin.SmallTypes.ownedTupleHandOut;have z6:ZR (h5.push { cls:=?G,data:=.seq #[x,y] }) z t o .ellipsis g1:=n2_ _ z5;refine n0_ (wpAny_setField_rec z6 ?f fun h7 z7 s7=>?_);replace z7:ZR h7 z t o (rawInt h5.objs.size) g1:=z7;refine wpAny_setField_rec z7 ?f fun h8 z8 s8=>?_;replace z8:ZR h8 z t o (rawInt h5.objs.size) false:=z8;have up:∀ e u,e≠z→h5.get? e=some u→h8.get? e=some u:=fun e u e1 g=>s8.extBut _ _ e1 (s7.extBut _ _ e1 (n2_ _ g));have T8:IsPair h8 h5.objs.size x y:=s8.extBut _ _ (n68_ zl) (s7.extBut _ _ (n68_ zl) (n8_ _ rfl));have l8:h8.objs.size=h5.objs.size+1:=by rw [s8.1,s7.1,n50_]
   rw [sz] at T8 l8;refine n3_ ⟨_,rfl,?_⟩;show Q (.ref h5.objs.size) _
   rw [sz];exact q h8 ⟨_,_,z8,.inr ⟨_,rfl⟩⟩ ⟨x,y,up _ _ D.oz o5⟩ (i5.at fun u e=>up _ u D.iz e) (j5.at fun u e=>up _ u D.jz e) T8 l8 fun e u e1 e2 e3 e4 g=>up e u e1 (k5 e u e1 e2 e3 e4 g)
 | false =>
   simp only [n19_,if_false];refine n0_ ?_;rw [← Array.forIn_toList];simp only [List.forIn_cons,List.forIn_nil];refine n0_ (n0_ (n34_ (n0_ (m:=n20_ (.ref i)) (SK.draw hi0 ha0 hx fun h2 i2 s2=>n3_ (n3_ ?_)))));refine n0_ (n0_ (n34_ (n0_ (m:=n20_ (.ref j)) (SK.draw (hj0.at fun u e=>s2.extBut _ _ D.ij.symm e) (hb0.at fun u e=>s2.extBut _ _ D.bi e) hy fun h4 j4 s4=>n3_ (n3_ ?_)))));refine n3_ ?_;have sz:h4.objs.size=s.z:=by rw [s4.1,s2.1,n0]
   have z4:ZR h4 z t o g0 g1:=s4.extBut _ _ D.jz.symm (s2.extBut _ _ D.iz.symm hz0);refine n0_ (wpAny_newTuple (n3_ ⟨_,rfl,?_⟩) (z2_));show Q (.ref h4.objs.size) _
   have up:∀ e u,h4.get? e=some u→(h4.push { cls:=?G,data:=.seq #[x,y] }).get? e=some u:=fun e u g=>n2_ _ g;have T4:IsPair (h4.push { cls:=?G,data:=.seq #[x,y] }) h4.objs.size x y:=n8_ _ rfl;rw [sz] at T4 ⊢;refine q _ ⟨_,_,up _ _ z4,hg⟩ ⟨c,d,up _ _ (s4.extBut _ _ D.oj (s2.extBut _ _ D.oi ho0))⟩ (i2.at fun u e=>up _ u (s4.extBut _ _ D.ij e)) (j4.at fun u e=>up _ u e) T4 (by rw [n50_,sz]) fun e u e1 e2 e3 e4 g=>up e u (s4.extBut _ _ e4 (s2.extBut _ _ e3 (s0.extBut _ _ e1 g)))
theorem Zp5 {o i j:Addr} {xs:?H} {Q:Fin→?k} (hh:A.handled=none) (D:ZP z t o i j a b)
 (hz:ZSt s.heap z t o) (ht:IsPair s.heap t (.ref i) (.ref j)) (ho:IsPair s.heap o c d)
 (hi:k.It s.heap i a m) (hj:l.It s.heap j b n) (ha:k.Is s.heap a xs) (hb:l.Is s.heap b ys) (hx:xs[m]? = none∨ys[n]? = none)
 (q:∀ h1 e,?W→(∃ u,h1.get? e=some u∧u.cls=.type "StopIteration")→E (.ref e) { s with heap:=h1 }) :
 wpAny ?s A (Builtin.«zip.__next__» ⟨[.ref z],[]⟩) Q E s:=by
 obtain ⟨f0,f1,hz0,hf⟩:=id hz;refine n0_ (m:=field (.ref z) 2) (wpAny_field hz0 rfl (x:=.bool false) rfl ?_);refine n0_ (m:=field (.ref z) 3) (wpAny_field hz0 rfl (x:=.ref t) rfl (n0_ (wpAny_seqItems ht rfl ?_)));refine n0_ (m:=n31_ (.ref z)) (Zkg hz fun fr h0 hz' s0=>?_);have ho0:IsPair h0 o c d:=s0.extBut _ _ D.oz ho;have hi0:k.It h0 i a m:=hi.at fun u e=>s0.extBut _ _ D.iz e;have hj0:l.It h0 j b n:=hj.at fun u e=>s0.extBut _ _ D.jz e;have ha0:k.Is h0 a xs:=ha.at fun u e=>s0.extBut _ _ D.az e;have hb0:l.Is h0 b ys:=hb.at fun u e=>s0.extBut _ _ D.bz e;obtain ⟨g0,g1,hz0,hg⟩:=hz';cases fr with
 | true =>
   simp only [if_true];refine n0_ (wpAny_rule (n0_ (wpAny_field hz0 rfl (x:=.ref o) rfl (n0_ (wpAny_setField_rec hz0 ?f fun h1 z1 s1=>?_)))));replace z1:ZR h1 z t o .ellipsis g1:=z1;refine n0_ ?_;simp only [List.zipIdx_cons,List.zipIdx_nil,List.forIn_cons,List.forIn_nil];refine n0_ (n0_ (wpAny_onRaise (n0_ (m:=n20_ (.ref i)) ?_)));cases hm:xs[m]? with
   | none =>
     refine SK.dry hh (hi0.at fun u e=>s1.extBut _ _ D.iz e) (ha0.at fun u e=>s1.extBut _ _ D.az e) hm fun h2 e s2 ⟨u,g,cu⟩=>?_;have z2:ZR h2 z t o .ellipsis g1:=s2 _ _ D.iz.symm z1;have ez:e≠z:=fun r=>by subst r;rw [z2] at g;cases g;simp at cu
     exact wpAny_setField_rec z2 ?f fun h3 _ s3=>q h3 e (fun e' u' e1 _ e3 _ r=>s3.extBut _ _ e1 (s2 _ _ e3 (s1.extBut _ _ e1 (s0.extBut _ _ e1 r)))) ⟨u,s3.extBut _ _ ez g,cu⟩
   | some x =>
     have hn:ys[n]? = none:=by rcases hx with r|r;(rw [hm] at r;cases r);exact r
     refine SK.draw (hi0.at fun u e=>s1.extBut _ _ D.iz e) (ha0.at fun u e=>s1.extBut _ _ D.az e) hm fun h2 i2 s2=>n3_ ?_;have o2:IsPair h2 o c d:=s2.extBut _ _ D.oi (s1.extBut _ _ D.oz ho0);refine n0_ (wpAny_seqItems o2 rfl (n0_ (wpAny_updateSeq_pair o2 fun h3 o3 s3=>?_)));refine n0_ (wpAny_letGo (n3_ (n0_ (n0_ (wpAny_onRaise (n0_ (m:=n20_ (.ref j)) ?_))))));refine SK.dry hh (hj0.at fun u e=>s3.extBut _ _ D.oj.symm (s2.extBut _ _ D.ij.symm (s1.extBut _ _ D.jz e))) (hb0.at fun u e=>s3.extBut _ _ D.bo (s2.extBut _ _ D.bi (s1.extBut _ _ D.bz e))) hn fun h4 e s4 ⟨u,g,cu⟩=>?_;have z4:ZR h4 z t o .ellipsis g1:=s4 _ _ D.jz.symm (s3.extBut _ _ D.oz.symm (s2.extBut _ _ D.iz.symm z1));have ez:e≠z:=fun r=>by subst r;rw [z4] at g;cases g;simp at cu
     exact wpAny_setField_rec z4 ?f fun h5 _ s5=>q h5 e (fun e' u' e1 e2 e3 e4 r=>s5.extBut _ _ e1 (s4 _ _ e4 (s3.extBut _ _ e2 (s2.extBut _ _ e3 (s1.extBut _ _ e1 (s0.extBut _ _ e1 r)))))) ⟨u,s5.extBut _ _ ez g,cu⟩
 | false =>
   simp only [n19_,if_false];refine n0_ ?_;rw [← Array.forIn_toList];simp only [List.forIn_cons,List.forIn_nil];refine n0_ (n0_ (n34_ (n0_ (m:=n20_ (.ref i)) ?_)));cases hm:xs[m]? with
   | none=>exact SK.dry hh hi0 ha0 hm fun h2 e s2 hu=>q h2 e (fun e' u' e1 _ e3 _ r=>s2 _ _ e3 (s0.extBut _ _ e1 r)) hu
   | some x =>
     have hn:ys[n]? = none:=by rcases hx with r|r;(rw [hm] at r;cases r);exact r
     refine SK.draw hi0 ha0 hm fun h2 i2 s2=>n3_ (n3_ ?_);refine n0_ (n0_ (n34_ (n0_ (m:=n20_ (.ref j)) ?_)));exact SK.dry hh (hj0.at fun u e=>s2.extBut _ _ D.ij.symm e) (hb0.at fun u e=>s2.extBut _ _ D.bi e) hn fun h4 e s4 hu=>q h4 e (fun e' u' e1 _ e3 e4 r=>s4 _ _ e4 (s2.extBut _ _ e3 (s0.extBut _ _ e1 r))) hu
theorem Zle {e o i j:Addr} {xs:?H} {x y old:Value} {Q:?D→?k} (D:ZP z t o i j a b) (ne:e≠z∧e≠t∧e≠o∧e≠i∧e≠j∧a≠e∧b≠e)
 (he:IsEnum s.heap e z n old) (hz:ZSt s.heap z t o) (ht:IsPair s.heap t (.ref i) (.ref j)) (ho:IsPair s.heap o c d)
 (hi:k.It s.heap i a n) (hj:l.It s.heap j b n) (ha:k.Is s.heap a xs) (hb:l.Is s.heap b ys) (hx:xs[n]? = some x) (hy:ys[n]? = some y)
 (q:∀ h1 tk,IsEnumOut h1 e z ((n:Int)+1) (.ref s.z) (s.z+1)→ZSt h1 z t o→IsPair h1 t (.ref i) (.ref j)→(∃ c d,IsPair h1 o c d)→k.It h1 i a (n+1)→l.It h1 j b (n+1)→IsPair h1 s.z x y→IsPair h1 (s.z+1) (.int n tk) (.ref s.z) →
   (∀ f u,f≠e→f≠z→f≠o→f≠i→f≠j→s.heap.get? f=some u→h1.get? f=some u)→Q (some (.ref (s.z+1))) { s with heap:=h1,toks:=tk+1 }) :
 wpAny ?s A (pyNext (.ref e)) Q E s:=by
 have hT:s.TypeIs (.ref e) "enumerate" := ⟨_,he,rfl⟩;obtain ⟨n1,n2,n3,n4,n5,n6,n7⟩:=ne;unfold pyNext;refine n0_ (wpAny_attempt (wpAny_callSpecial?_slot (name:=Str.ofString "__next__") hT F.slot_enumerate_next (wpAny_call_entry F.slot_enumerate_next hT F.entry_enumerate_next ?_ (F.args_enumerate_next_1 _))));refine n0_ (m:=field (.ref e) 2) (wpAny_field he rfl (x:=.ref z) rfl ?_);obtain ⟨f0,f1,hz0,hf⟩:=id hz;have hTz:s.TypeIs (.ref z) "zip" := ⟨_,hz0,rfl⟩;refine n0_ (m:=n20_ (.ref z)) ?_;unfold n20_;refine n0_ (wpAny_callSpecial?_slot (name:=Str.ofString "__next__") hTz F.slot_zip_next (wpAny_call_entry F.slot_zip_next hTz F.entry_zip_next (Zmo D hz ht ho hi hj ha hb hx hy fun h1 r1 r2 r3 r4 r5 r6 r7=>n3_ ?_) (F.args_zip_next_1 _)));have he1:IsEnum h1 e z n old:=r7 _ _ n1 n3 n4 n5 he;have el:e<s.z:=n14_ he;refine n0_ (m:=field (.ref e) 3) (wpAny_field he1 rfl (x:=rawInt n) rfl ?_);refine n0_ (m:=field (.ref e) 4) (wpAny_field he1 rfl (x:=.none) rfl ?_);refine n0_ (m:=mkInt n) (wpAny_mkInt ?_);refine n0_ (m:=setField (.ref e) 3 (rawInt ((n:Int)+1))) (wpAny_setField_rec he1 ?f fun h2 e2 s2=>?_);replace e2:IsEnum h2 e z ((n:Int)+1) old:=e2;refine n0_ (m:=setField (.ref e) 4 .none) (wpAny_setField_rec e2 ?f fun h3 e3 s3=>?_);replace e3:IsEnum h3 e z ((n:Int)+1) old:=e3;refine n0_ (m:=newTuple _) (wpAny_newTuple ?_);have sz:h3.objs.size=s.z+1:=by rw [s3.1,s2.1];exact r6
 have e4:IsEnum (h3.push { cls:=?G,data:=.seq #[.int n s.toks,.ref s.z] }) e z ((n:Int)+1) old:=n2_ _ e3;have T4:(h3.push { cls:=?G,data:=.seq #[.int n s.toks,.ref s.z] }).get? (s.z+1)=some { cls:=?G,data:=.seq #[.int n s.toks,.ref s.z] }:=by rw [← sz];exact n8_ _ rfl
 have k4:∀ f u,f≠e→h1.get? f=some u→(h3.push { cls:=?G,data:=.seq #[.int n s.toks,.ref s.z] }).get? f=some u:=fun f u fe g=>n2_ _ (s3.extBut _ _ fe (s2.extBut _ _ fe g));generalize h3.push { cls:=?G,data:=.seq #[.int n s.toks,.ref s.z] }=h4 at e4 T4 k4;refine n0_ (m:=n31_ (.ref e)) ?_;unfold n31_;refine n0_ (wpAny_field e4 rfl (x:=.none) rfl (n3_ ?_));simp only [if_true];refine n0_ (wpAny_rule (n0_ (wpAny_field e4 rfl (x:=old) rfl (n0_ (wpAny_setField_rec e4 ?f fun h5 e5 s5=>?_)))));replace e5:IsEnum h5 e z ((n:Int)+1) (.ref s.z):=e5;refine n0_ ?_;unfold Builtin.SmallTypes.ownedTupleHandOut;refine n0_ (wpAny_setField_rec e5 ?f fun h6 e6 s6=>?_);refine wpAny_setField_rec e6 ?f fun h7 e7 s7=>?_;rw [sz] at e7;replace e7:IsEnumOut h7 e z ((n:Int)+1) (.ref s.z) (s.z+1):=e7;refine n0_ (wpAny_letGo (n3_ ⟨_,rfl,n3_ ?_⟩));rw [sz];have up:∀ f u,f≠e→h1.get? f=some u→h7.get? f=some u:=fun f u fe g=>s7.extBut _ _ fe (s6.extBut _ _ fe (s5.extBut _ _ fe (k4 f u fe g)));obtain ⟨g0,g1,z1,hg⟩:=r1;obtain ⟨c',d',o1⟩:=r2;refine q h7 s.toks e7 ⟨g0,g1,up _ _ n1.symm z1,hg⟩ (up _ _ n2.symm (r7 _ _ D.tz D.to D.ti D.tj ht)) ⟨c',d',up _ _ n3.symm o1⟩ (r3.at fun u g=>up _ u n4.symm g) (r4.at fun u g=>up _ u n5.symm g) (up _ _ (n68_ el) r5) ?_ fun f u f1 f2 f3 f4 f5 g=>up f u f1 (r7 f u f2 f3 f4 f5 g);have ne:s.z+1≠e:=n68_ (n54_ el);exact s7.extBut _ _ ne (s6.extBut _ _ ne (s5.extBut _ _ ne T4))
theorem Zmm {e o i j:Addr} {xs:?H} {old:Value} {Q:?D→?k} (hh:A.handled=none) (D:ZP z t o i j a b) (ne:e≠z∧e≠t∧e≠o∧e≠i∧e≠j∧a≠e∧b≠e)
 (he:IsEnum s.heap e z n old) (hz:ZSt s.heap z t o) (ht:IsPair s.heap t (.ref i) (.ref j)) (ho:IsPair s.heap o c d)
 (hi:k.It s.heap i a n) (hj:l.It s.heap j b n) (ha:k.Is s.heap a xs) (hb:l.Is s.heap b ys) (hx:xs[n]? = none∨ys[n]? = none)
 (q:∀ h1,(∀ f u,f≠e→f≠z→f≠o→f≠i→f≠j→s.heap.get? f=some u→h1.get? f=some u)→Q none { s with heap:=h1 }) :
 wpAny ?s A (pyNext (.ref e)) Q E s:=by
 have hT:s.TypeIs (.ref e) "enumerate" := ⟨_,he,rfl⟩;unfold pyNext;refine n0_ (wpAny_attempt (wpAny_callSpecial?_slot (name:=Str.ofString "__next__") hT F.slot_enumerate_next (wpAny_call_entry F.slot_enumerate_next hT F.entry_enumerate_next ?_ (F.args_enumerate_next_1 _))));refine n0_ (m:=field (.ref e) 2) (wpAny_field he rfl (x:=.ref z) rfl ?_);obtain ⟨f0,f1,hz0,hf⟩:=id hz;have hTz:s.TypeIs (.ref z) "zip" := ⟨_,hz0,rfl⟩;refine n0_ (m:=n20_ (.ref z)) ?_;unfold n20_;refine n0_ (wpAny_callSpecial?_slot (name:=Str.ofString "__next__") hTz F.slot_zip_next (wpAny_call_entry F.slot_zip_next hTz F.entry_zip_next (Zp5 hh D hz ht ho hi hj ha hb hx fun h1 x r1 ⟨u,g,cu⟩=>?_) (F.args_zip_next_1 _)));exact n0_ (wpAny_isInstance (T := "StopIteration") (b:=true) ⟨u,g,cu⟩ isSubtype_stop (n3_ (q _ fun f u _ f2 f3 f4 f5 r=>r1 f u f2 f3 f4 f5 r)))
end
open AutoSeq1 (wpAny_loadPart')
section
variable {X:Cx} {pins:?A} {σ:List (Option V)} {H H':Hp} {s:Shared} {h':Heap}
theorem Inv.turnGen (I:?p) (k:∀ b u,b∉ch→?I=some u→h'.get? b=some u) (hf:∀ b∈ch,FpOk X pins H b)
 (old:∀ b u,H b=some u→H' b=some u) (non:∀ b u,?I=some u→H b=none→H' b=none) (new:∀ b u,H b=none→H' b=some u→ObjOk X.prog X.w H' h' b u):Inv X pins σ H' { s with heap:=h',toks:=t' }:=by
 have nc:∀ b u,H b=some u→b∉ch:=fun b u e z=>by rw [(hf b z).1] at e;cases e
 refine I.step (g':=s.gens) (d':=s.drawn) (ch:=ch) (fun b hb=>?_) (fun b u _ _ hc e _=>k b u hc e) (fun b u _ _ hc e _=>⟨u.slots,k b u hc e⟩) (fun b u _ e n=>non b u e n)
  (fun b u hc e=>⟨u,k b u hc e⟩) (fun b xs e=>old b _ e) (fun b u v e=>old b _ e) (fun b ps e=>⟨#[],by rw [old b _ e];simp⟩) (fun m hm=>?_) (fun b u e=>?_) I.bare
 · obtain ⟨f0,f1,f2,f3,f4,f5⟩:=hf b hb;exact ⟨f3,f1,f4,f5⟩
 · obtain ⟨u,es,ep,hu,r⟩:=hm;exact ⟨u,es,ep,k _ u (fun z=>(hf _ z).2.1 rfl) hu,r⟩
 · cases hb:H b with
   | none=>exact new b u hb e
   | some v =>
     rw [old b v hb] at e;cases e
     refine (I.hok b _ hb).stay (fun c w hc q=>k c w ?_ q) (fun c q=>old c _ q) fun c xs q=>old c _ q
     rcases hc with z|z
     · rw [z];exact nc b _ hb
     · exact nc c _ z
end
def Itez (k l:SK) (K:PySem.W.Frag) (a b:Addr):It :=
 ⟨fun i H=>∃ xs ys x y,k.Sq K H a xs∧l.Sq K H b ys∧xs[i]? = some x∧ys[i]? = some y,
  fun i H v H'=>∃ p p' x y,v=.ref p'∧H p=none∧H p'=none∧p≠p'∧H'=upd (upd H p (.tup [x,y])) p' (.tup [.int i,.ref p])∧(∀ xs,k.Sq K H a xs→xs[i]? = some x)∧∀ ys,l.Sq K H b ys→ys[i]? = some y,
  fun i H=>∃ xs ys,k.Sq K H a xs∧l.Sq K H b ys∧(xs.length≤i∨ys.length≤i)⟩
theorem Zh6 {K:PySem.W.Frag} {es:List Expr} {k l:SK} {e o i j:Addr} (D:ZP z t o i j a b) (ne:e≠z∧e≠t∧e≠o∧e≠i∧e≠j∧a≠e∧b≠e) :
 Turn P w K (.Tuple es x1 tp) (Itez k l K a b) [e,z,t,o,i,j] e (fun n h=>(∃ old,IsEnum h e z n old)∧ZSt h z t o∧IsPair h t (.ref i) (.ref j)∧(∃ c d,IsPair h o c d)∧k.It h i a n∧l.It h j b n) where
 mem:=by simp
 obj:=fun n h st f hf=>by
  obtain ⟨⟨old,h0⟩,⟨f0,f1,h1,_⟩,h2,⟨c,d,h3⟩,h4,h5⟩:=st;simp only [n13_,n15_,or_false] at hf
  rcases hf with rfl|rfl|rfl|rfl|rfl|rfl
  · exact ⟨_,h0,fun v q=>by cases (show Data.fields _=Data.cell v from q)⟩
  · exact ⟨_,h1,fun v q=>by cases (show Data.fields _=Data.cell v from q)⟩
  · exact ⟨_,h2,fun v q=>by cases (show Data.seq _ _=Data.cell v from q)⟩
  · exact ⟨_,h3,fun v q=>by cases (show Data.seq _ _=Data.cell v from q)⟩
  · obtain ⟨u,e,_,q⟩:=h4.ex;exact ⟨u,e,fun v r=>by rw [q] at r;cases r⟩
  · obtain ⟨u,e,_,q⟩:=h5.ex;exact ⟨u,e,fun v r=>by rw [q] at r;cases r⟩
 keep:=fun n h h' st f=>by
  obtain ⟨⟨old,h0⟩,⟨f0,f1,h1,hf⟩,h2,⟨c,d,h3⟩,h4,h5⟩:=st;exact ⟨⟨old,f e ?f _ h0⟩,⟨f0,f1,f z ?f _ h1,hf⟩,f t ?f _ h2,⟨c,d,f o ?f _ h3⟩,h4.at fun u q=>f i ?f u q,h5.at fun u q=>f j ?f u q⟩
 item:=by
  intro X hP hw hK hc n pins s σ H E I hf st hg;subst hP hw hK;obtain ⟨⟨old,h0⟩,hz,h2,⟨c,d,h3⟩,h4,h5⟩:=st;obtain ⟨xs,ys,x,y,q1,q2,hx,hy⟩:=hg;obtain ⟨us,ru,pu⟩:=q1.is I;obtain ⟨vs,rv,pv⟩:=q2.is I;obtain ⟨u,hu,ux⟩:=ru.get hx;obtain ⟨v,hv,vy⟩:=rv.get hy;have lt:∀ {b o'},?I=some o'→b≠s.z∧b≠s.z+1:=fun q=>⟨n26_ (n14_ q),n26_ (n54_ (n14_ q))⟩;refine Zle D ne h0 hz h2 h3 h4 h5 pu pv (x:=u) (y:=v) (by simpa using hu) (by simpa using hv) fun g tk r0 r1 r2 r3 r4 r5 r6 r7 r8=>?_;refine ⟨_,rfl,wpAny_letOwnedTupleGo_enum r0 fun g2 z2 s2=>?_⟩;have hp:H s.z=none:=I.hok.fresh (n11_ _);have hp':H (s.z+1)=none:=I.hok.fresh (Nat.le_succ _);have pp:s.z≠s.z+1:=n26_ (n81_ _);have T1:IsPair g2 s.z u v:=s2.extBut _ _ (Ne.symm (lt h0).1) r6;have T2:IsPair g2 (s.z+1) (.int n tk) (.ref s.z):=s2.extBut _ _ (Ne.symm (lt h0).2) r7
  have I2:Inv X pins σ (upd (upd H s.z (.tup [x,y])) (s.z+1) (.tup [.int n,.ref s.z])) { s with heap:=g2,toks:=tk+1 }:=by
   refine I.turnGen (ch:=[e,z,o,i,j]) (fun f o' nf q=>?_) (fun f hf'=>hf f ?_) (fun b u' q=>?_) (fun b u' q n'=>?_) (fun b u' q r=>?_)
   · simp only [n13_,n15_,or_false,not_or] at nf;exact s2.extBut _ _ nf.1 (r8 f o' nf.1 nf.2.1 nf.2.2.1 nf.2.2.2.1 nf.2.2.2.2 q)
   · simp only [n13_,n15_,or_false] at hf' ⊢
     rcases hf' with q|q|q|q|q<;>simp [q]
   · rw [Zk (Zm q hp'),Zk (Zm q hp)];exact q
   · rw [Zk (lt q).2,Zk (lt q).1];exact n'
   · by_cases e1:b=s.z+1
     · subst e1;rw [Zc] at r;cases r;exact ⟨z2_,[.int n tk,.ref s.z],.cons ⟨tk,rfl⟩ (.cons rfl .nil),⟨_,T2,⟨rfl,rfl⟩,_,rfl⟩⟩
     · rw [Zk e1] at r
       by_cases e2:b=s.z
       · subst e2;rw [Zc] at r;cases r;exact ⟨z2_,[u,v],.cons ux (.cons vy .nil),⟨_,T1,⟨rfl,rfl⟩,_,rfl⟩⟩
       · rw [Zk e2,q] at r;cases r
  obtain ⟨n1,n2,n3,n4,n5,n6,n7⟩:=ne;obtain ⟨g0,g1,z1,hg1⟩:=r1;obtain ⟨c',d',o1⟩:=r3;refine ⟨.ref (s.z+1),_,I2,rfl,⟨_,_,x,y,rfl,hp,hp',pp,rfl,fun xs' q=>by rw [q.inj q1 I];exact hx,fun ys' q=>by rw [q.inj q2 I];exact hy⟩,⟨⟨_,by simpa using z2⟩,⟨g0,g1,s2.extBut _ _ n1.symm z1,hg1⟩,s2.extBut _ _ n2.symm r2,⟨c',d',s2.extBut _ _ n3.symm o1⟩,r4.at fun u' q=>s2.extBut _ _ n4.symm q,r5.at fun u' q=>s2.extBut _ _ n5.symm q⟩,fun f hf'=>?_⟩
  have nf:f≠s.z∧f≠s.z+1:=by
   obtain ⟨f0,f1,hz1,_⟩:=hz;simp only [n13_,n15_,or_false] at hf'
   rcases hf' with rfl|rfl|rfl|rfl|rfl|rfl
   · exact lt h0
   · exact lt hz1
   · exact lt h2
   · exact lt h3
   · obtain ⟨_,q,_⟩:=h4.ex;exact lt q
   · obtain ⟨_,q,_⟩:=h5.ex;exact lt q
  rw [Zk nf.2,Zk nf.1];exact (hf f hf').1
 done:=by
  intro X hP hw hK hc n pins s σ H E I hf st hg;subst hP hw hK;obtain ⟨⟨old,h0⟩,hz,h2,⟨c,d,h3⟩,h4,h5⟩:=st;obtain ⟨xs,ys,q1,q2,hl⟩:=hg;obtain ⟨us,ru,pu⟩:=q1.is I;obtain ⟨vs,rv,pv⟩:=q2.is I;have e1:=ru.length;have e2:=rv.length;refine Zmm (I.ok.hd hc) D ne h0 hz h2 h3 h4 h5 pu pv ?_ fun g r=>⟨rfl,?_⟩
  · rcases hl with q|q
    · left;simp;omega
    · right;simp;omega
  · refine I.turnOnly (t':=s.toks) (ch:=[e,z,o,i,j]) (fun f o' nf q=>?_) (fun f hf'=>hf f ?_)
    · simp only [n13_,n15_,or_false,not_or] at nf;exact r f o' nf.1 nf.2.1 nf.2.2.1 nf.2.2.2.1 nf.2.2.2.2 q
    · simp only [n13_,n15_,or_false] at hf' ⊢
      rcases hf' with q|q|q|q|q<;>simp [q]
 self:=fun _ _ _ _ _ st h=>by obtain ⟨⟨old,h1⟩,_⟩:=st;exact wpAny_pyIter_enum h1 h
theorem Zjf (z:Addr) (t o:Addr):Meets (Builtin.«enumerate.__new__» ⟨[.type "enumerate",.ref z],[]⟩) (fun _ R s=>IsZip s.heap z t o .none ∧
 R (.ok (.ret (.ref s.heap.objs.size))) { s with heap:=s.heap.push (Zan z) }) :=
 .of_wp fun prog w A R s h=>by
  obtain ⟨hp,g,d,tk,os⟩:=s;obtain ⟨hz,h⟩:=h;have hsub:=sub_enumerate;have r1:IsZip (Shared.heap ⟨hp,g,d,tk,os⟩) z t o .none:=hz
  wp_walk using wpAny_loadPart' hz
  refine wpAny_stack_any fun st=>n3_ ?_;split
  · rename_i c _ _ _ _ _
    cases (c == Value.type "enumerate")
    · (wp_walk using wpAny_loadPart' hz,wpAny_pyIter_zip r1);exact ⟨_,rfl,h⟩
    · (wp_walk using wpAny_loadPart' hz,wpAny_pyIter_zip r1);exact ⟨_,rfl,h⟩
  · (wp_walk using wpAny_loadPart' hz,wpAny_pyIter_zip r1);exact ⟨_,rfl,h⟩
section
variable {X:Cx} {es:List Expr} {x1:Nat} {tp:Pos}
inductive BxIEnumZip (k l:SK) (K:PySem.W.Frag) (R:It→?y) (vs:List V) (H1:Hp):Prop
 | mk (a:_) (b:_) (q1:vs=[.ref a,.ref b]) (q2:(∃ xs,k.Sq K H1 a xs)) (q3:(∃ ys,l.Sq K H1 b ys)) (q4:R (Itez k l K a b) H1):BxIEnumZip k l K R vs H1
def Zqg (k l:SK) (K:PySem.W.Frag) (ta:TA):TI:=fun σ H R=>ta σ H fun vs H1=>BxIEnumZip k l K R vs H1
theorem Zlr (k l:SK) {a b:Expr} {p2 pos2:Pos} (hg:Gl X "enumerate") (hm:X.mg "enumerate" = none) (hg2:Gl X "zip") (hm2:X.mg "zip" = none) (ha:PA X [a,b] ta)
 (hs:starEach [a,b] X.env=[(false,eval a X.env),(false,eval b X.env)]:=by rfl) (hs2:starEach [b] X.env=[(false,eval b X.env)]:=by rfl)
 (he:starEach [Expr.Call (.Name "zip" p2) [a,b] [] pos2] X.env=[(false,eval (.Call (.Name "zip" p2) [a,b] [] pos2) X.env)]:=by rfl) :
 PI X (.Tuple es x1 tp) (.Call (.Name "enumerate" p) [.Call (.Name "zip" p2) [a,b] [] pos2] [] pos) (Zqg k l X.K ta):=by
 intro pins s σ H R I h;refine Call_ (Zbu I hg hm Zet (n58_ ?_ he rfl));rw [he];refine Calls.spliced_cons ?_;refine Call_ (Zbu I hg2 hm2 Zhr (n58_ (thn (ha pos2 pins s σ H _ I h) fun us s1 ⟨vs,H1,I1,r1,q1⟩=>?_) (by rw [hs,hs2]) (by rw [hs2];rfl)));obtain ⟨a,b,e,⟨xs,hx⟩,⟨ys,hy⟩,q⟩:=q1;subst e;cases r1 with
 | cons r rr =>
   cases rr with
   | cons r' rr =>
     cases rr
     cases r
     cases r'
     obtain ⟨us,ru,pu⟩:=hx.is I1;obtain ⟨ws,rw',pw⟩:=hy.is I1;have la:a<s1.z:=by obtain ⟨_,_,e,_⟩:=pu.ex;exact n14_ e
     have lb:b<s1.z:=by obtain ⟨_,_,e,_⟩:=pw.ex;exact n14_ e
     refine Zk1 pu pw fun h1 m1 m2 m3 m4 m5 m6 m7=>Calls.spliced_nil ?_;refine callType_new F.called_enumerate ?e (F.typeCall_enumerate_1 _) (F.newCall_enumerate_1 _) (fun obj=>F.args_object_init_2 obj _) F.entry_enumerate_new (Zjf _ _ _) ⟨m1,?_⟩;have m8:(h1.push (Zan (s1.z+4))).get? h1.objs.size=some (Zan (s1.z+4)):=n8_ _ rfl;have up:∀ c o,h1.get? c=some o→(h1.push (Zan (s1.z+4))).get? c=some o:=fun c o e=>n2_ _ e;rw [m6] at m8;show _∧_
     rw [m6];refine ⟨⟨_,m8,rfl⟩,wpAny_pyIter_enum m8 ?_⟩;have I2:Inv X pins σ H1 { s1 with heap:=h1.push (Zan (s1.z+4)),toks:=s1.toks }:=I1.kept fun c o e=>up c o (m7 c o e);refine ⟨_,_,_,_,H1,rfl,I2,Zh6 (e:=s1.z+5) (z:=s1.z+4) (t:=s1.z+2) (o:=s1.z+3) (i:=s1.z) (j:=s1.z+1) (k:=k) (l:=l) (a:=a) (b:=b) (Zrq la lb) ?_,⟨⟨_,m8⟩,⟨_,_,up _ _ m1,.inl rfl⟩,up _ _ m2,⟨_,_,up _ _ m3⟩,m4.at fun u e=>up _ u e,m5.at fun u e=>up _ u e⟩,?_,q⟩
     · have la':@LT.lt Nat _ a s1.z:=la;have lb':@LT.lt Nat _ b s1.z:=lb;refine ⟨?_,?_,?_,?_,?_,?_,?_⟩<;>(intro h;have h':@Eq Nat _ _:=h;clear h;omega)
     · exact I1.fps (fp:=[s1.z+5,s1.z+4,s1.z+2,s1.z+3,s1.z,s1.z+1]) (by
        intro e he;simp only [n13_,n15_,or_false] at he
        rcases he with rfl|rfl|rfl|rfl|rfl|rfl<;>omega)
end
def Tk (H H':Hp):Prop:=∀ a xs,H a=some (.tup xs)→H' a=some (.tup xs)
theorem Tk.refl:Tk H H:=fun _ _ e=>e
theorem Tk.trans {H1:Hp} (a:Tk H H1) (b:Tk H1 H2):Tk H H2:=fun p xs e=>b p xs (a p xs e)
theorem Same.tk (s:?E):Tk H H':=fun a xs e=>s a _ e
theorem Tk.of_keep {ys:List V} (k:Keep l H H') (e:H l=some (.lst ys)):Tk H H':=fun a xs q=>k a _ (Zox q e (by intro z;cases z)) q
theorem Tk.upd_lst {ys zs:List V} (e:H D=some (.lst ys)):Tk H (upd H D (.lst zs)):=fun a xs q=>by rw [Zk (Zox q e (by intro z;cases z))];exact q
def Al {α:Type} (R:V→α→Prop) (vs:List V) (xs:List α):Prop:=vs.length=xs.length∧∀ (i:Nat) (v:V) (x:α),vs[i]? = some v→xs[i]? = some x→R v x
theorem Al.nil {R:V→α→Prop}:Al R [] []:=⟨rfl,fun i v x e=>by simp at e⟩
theorem Al.snoc {R:V→α→Prop} {xs:List α} {x:α} (h:Al R vs xs) (r:R v x):Al R (vs++[v]) (xs++[x]):=by
 refine ⟨by simp [h.1],fun i w y e1 e2=>?_⟩
 by_cases hi:i<vs.length
 · rw [n91_ hi] at e1;rw [n91_ (by rw [← h.1];exact hi)] at e2;exact h.2 i w y e1 e2
 · have:i=vs.length:=by
    have:=(n18_.mp e1).1
    simp at this;omega
   subst this;rw [n87_ (n11_ _)] at e1;rw [h.1,n87_ (n11_ _)] at e2;simp at e1 e2;subst e1;subst e2;exact r
theorem Al.imp {R S:V→α→Prop} {xs:List α} (h:Al R vs xs) (f:∀ v x,R v x→S v x):Al S vs xs:=⟨h.1,fun i v x e1 e2=>f v x (h.2 i v x e1 e2)⟩
theorem Al.get {R:V→α→Prop} {xs:List α} (h:Al R vs xs) (e:vs[i]? = some v):∃ x,xs[i]? = some x∧R v x:=by
 have hi:i<xs.length:=by rw [← h.1];exact (n18_.mp e).1
 exact ⟨xs[i],n1_ hi,h.2 i v _ e (n1_ hi)⟩
theorem Al.got {R:V→α→Prop} {xs:List α} {x:α} (h:Al R vs xs) (e:xs[i]? = some x):∃ v,vs[i]? = some v∧R v x:=by
 have hi:i<vs.length:=by rw [h.1];exact (n18_.mp e).1
 exact ⟨vs[i],n1_ hi,h.2 i _ x (n1_ hi) e⟩
theorem Al.cons {R:V→α→Prop} {x:α} {xs:List α} (r:R v x) (h:Al R vs xs):Al R (v :: vs) (x :: xs):=by
 refine ⟨by simp [h.1],fun i w y e1 e2=>?_⟩;cases i with
 | zero=>simp at e1 e2;subst e1;subst e2;exact r
 | succ i=>exact h.2 i w y (by simpa using e1) (by simpa using e2)
theorem Al.bls {bs:List Bool} (h:Al (fun v b=>v=V.bl b) vs bs):vs=bs.map V.bl:=by
 refine List.ext_getElem? fun i=>?_;rw [n4_];cases e:bs[i]? with
 | none =>
   have:=List.getElem?_eq_none_iff.mp e
   rw [n88_ (by rw [h.1];exact this)];rfl
 | some b =>
   obtain ⟨v,ev,rfl⟩:=h.got e;rw [ev];rfl
theorem Al.ints (h:Al (fun v n=>v=V.int n) vs ns):vs=ns.map V.int:=by
 refine List.ext_getElem? fun i=>?_;rw [n4_];cases e:ns[i]? with
 | none =>
   have:=List.getElem?_eq_none_iff.mp e
   rw [n88_ (by rw [h.1];exact this)];rfl
 | some b =>
   obtain ⟨v,ev,rfl⟩:=h.got e;rw [ev];rfl
theorem Al.of_ints (ns:?g):Al (fun v n=>v=V.int n) (ns.map V.int) ns:=⟨by simp,fun i v n e1 e2=>by rw [n4_,e2] at e1;exact (Option.some.inj e1).symm⟩
theorem Zky {J:It} {σ0:St} {Q:VK} (R:Hp→V→α→Prop) (hR:∀ H1 H2 v x,Tk H1 H2→R H1 v x→R H2 v x) (ys_:List α) (hn:ys_.length=n) (hz:n≤1000) (ok:St→Prop) (h0:ok σ0) (hD:H D=none)
 (hgo:∀ i H2,Same H H2→i<n→J.go i H2) (hstop:∀ H2,Same H H2→J.stop n H2)
 (hs:∀ i x σ2 H2 H3 (C:St→V→?y),i<n→Same H H2→J.yld i H2 x H3→ok σ2→(∀ σ4 y H5 z,ok σ4→Same H2 H5→ys_[i]? = some z→R H5 y z→C σ4 y H5)→g x σ2 H3 fun σ4 H4=>te σ4 H4 (C σ4))
 (hd:∀ H2 vs,Same H H2→H2 D=some (.lst vs)→Al (R H2) vs ys_→Q (.ref D) H2):LcGo J g tYes te σ0 H D Q:=by
 refine Zh5 (n:=n) (fun i σ H2=>Same H H2∧ok σ∧∃ vs,H2 D=some (.lst vs)∧Al (R H2) vs (ys_.take i)) ⟨Same.new hD,h0,[],Zc,by rw [List.take_zero];exact .nil⟩ (fun i σ H2 hi p=>hgo i H2 p.1 hi) (fun σ H2 p=>hstop H2 p.1) (fun i x σ2 H2 H3 hi y p=>?_) (fun σ2 H2 p=>?_)
 · obtain ⟨s2,o2,vs,e2,a2⟩:=p
   have:=hs i x σ2 H2 H3 (fun σ4 y H6=>∃ ys,H6 D=some (.lst ys)∧ys.length<sizeLine∧∃ m',m'<n-i∧LcN n (fun i σ H2=>Same H H2∧ok σ∧∃ vs,H2 D=some (.lst vs)∧Al (R H2) vs (ys_.take i)) (i+1) m' σ4 (upd H6 D (.lst (ys++[y])))) hi s2 y o2 ?_
   · exact this
   · intro σ4 v H5 z o4 s5 ez rz;have e5:H5 D=some (.lst vs):=s5 _ _ e2;refine ⟨vs,e5,?_,n-(i+1),?d,?d,rfl,fun b o e=>?_,o4,vs++[v],Zc,?_⟩
     · rw [a2.1,n43_,sizeLine_eq];omega
     · rw [Zk (Zm e hD)];exact s5 _ _ (s2 _ _ e)
     · have tk:Tk H5 (upd H5 D (.lst (vs++[v]))):=Tk.upd_lst e5;have hi':i<ys_.length:=?d
       rw [n69_ hi'];rw [n1_ hi'] at ez;cases ez
       exact (a2.imp fun v x r=>hR _ _ v x tk (hR _ _ v x s5.tk r)).snoc (hR _ _ _ _ tk rz)
 · obtain ⟨s2,_,vs,e2,a2⟩:=p;rw [n37_ (?d)] at a2;exact hd H2 vs s2 e2 a2
def SK.At (H:Hp) (a:Addr) (vs:List V):SK→Prop
 | .l=>H a=some (.lst vs)
 | .t=>H a=some (.tup vs)
theorem SK.At.sq {k:SK} {K:PySem.W.Frag} (h:k.At H a vs):k.Sq K H a vs:=by
 cases k with
 | l=>exact SqL.of h
 | t=>exact SqT.of h
theorem SK.At.same {k:SK} (h:k.At H a vs) (s:?E):k.At H' a vs:=by
 cases k with
 | l=>exact s _ _ h
 | t=>exact s _ _ h
def SK.Itk (K:PySem.W.Frag) (a:Addr):SK→L2.It
 | .l=>Itl K a
 | .t=>Itt K a
theorem Zns {k:SK} {K:PySem.W.Frag} (h:k.At H a vs) (hi:i<vs.length):(k.Itk K a).go i H:=by
 cases k with
 | l=>exact ⟨vs,vs[i],SqL.of h,n1_ hi⟩
 | t=>exact ⟨vs,vs[i],SqT.of h,n1_ hi⟩
theorem Zgm {k:SK} {K:PySem.W.Frag} (h:k.At H a vs) (hi:vs.length≤i):(k.Itk K a).stop i H:=by
 cases k with
 | l=>exact ⟨vs,SqL.of h,hi⟩
 | t=>exact ⟨vs,SqT.of h,hi⟩
theorem Zjp {k:SK} {K:PySem.W.Frag} {x:V} (h:k.At H a vs) (y:(k.Itk K a).yld i H x H'):H'=H∧vs[i]? = some x:=by
 cases k with
 | l=>exact ⟨y.1,y.2 vs (SqL.of h)⟩
 | t=>exact ⟨y.1,y.2 vs (SqT.of h)⟩
theorem lc_T {k:SK} {K:PySem.W.Frag} {Q:VK} (R:Hp→V→α→Prop) (hR:∀ H1 H2 v x,Tk H1 H2→R H1 v x→R H2 v x) (ys:List α) (hn:ys.length=vs.length) (hz:vs.length≤1000) (hD:H D=none) (ha:k.At H a vs)
 (hs:∀ (i:Nat) (w:V) (H2:Hp) (C:V→?y),vs[i]? = some w→Same H H2→(∀ y H5 z,Same H2 H5→ys[i]? = some z→R H5 y z→C y H5)→te (some w :: rest) H2 C)
 (hd:∀ H2 us,Same H H2→H2 D=some (.lst us)→Al (R H2) us ys→Q (.ref D) H2):LcGo (k.Itk K a) (Ye 0) tYes te (u0 :: rest) H D Q:=by
 refine Zky R hR ys hn hz (fun σ=>∃ u,σ=u :: rest) ⟨_,rfl⟩ hD (fun i H2 s hi=>Zns (ha.same s) hi) (fun H2 s=>Zgm (ha.same s) (n11_ _)) (fun i x σ2 H2 H3 C hi s y o c=>?_) hd;obtain ⟨u,rfl⟩:=o;obtain ⟨rfl,e⟩:=Zjp (ha.same s) y;exact hs i x H3 (C (some x :: rest)) e s fun y H5 z s5 ez rz=>c _ y H5 z ⟨_,rfl⟩ s5 ez rz
theorem lc_Z {k l:SK} {K:PySem.W.Frag} {ws:List V} {Q:VK} (R:Hp→V→α→Prop) (hR:∀ H1 H2 v x,Tk H1 H2→R H1 v x→R H2 v x) (ys:List α) (hn:ys.length=min vs.length ws.length) (hz:min vs.length ws.length≤1000) (hD:H D=none) (ha:k.At H a vs) (hb:l.At H b ws)
 (hs:∀ (i:Nat) (v w:V) (H2:Hp) (C:V→?y),vs[i]? = some v→ws[i]? = some w→Same H H2→(∀ y H5 z,Same H2 H5→ys[i]? = some z→R H5 y z→C y H5)→te (some v :: some w :: rest) H2 C)
 (hd:∀ H2 us,Same H H2→H2 D=some (.lst us)→Al (R H2) us ys→Q (.ref D) H2):LcGo (Itz k l K a b) ?R tYes te (u0 :: u1 :: rest) H D Q:=by
 refine Zky R hR ys hn hz (fun σ=>∃ u u',σ=u :: u' :: rest) ⟨_,_,rfl⟩ hD (fun i H2 s hi=>?_) (fun H2 s=>?_) (fun i x σ2 H2 H3 C hi s y o c=>?_) hd
 · have h1:i<vs.length:=?d
   have h2:i<ws.length:=?d
   exact ⟨vs,ws,vs[i],ws[i],(ha.same s).sq,(hb.same s).sq,n1_ h1,n1_ h2⟩
 · exact ⟨vs,ws,(ha.same s).sq,(hb.same s).sq,?d⟩
 · obtain ⟨u,u',rfl⟩:=o;obtain ⟨p,v,w,rfl,hp,rfl,y1,y2⟩:=y;have s3:Same H2 (upd H2 p (.tup [v,w])):=Same.new hp;refine ⟨p,[v,w],rfl,SqT.of Zc,rfl,v,[w],rfl,w,[],rfl,rfl,?_⟩;exact hs i v w _ (C (some v :: some w :: rest)) (y1 vs (ha.same s).sq) (y2 ws (hb.same s).sq) (s.trans s3) fun y H5 z s5 ez rz=>c _ y H5 z ⟨_,_,rfl⟩ (s3.trans s5) ez rz
theorem lc_E {k:SK} {K:PySem.W.Frag} {Q:VK} (R:Hp→V→α→Prop) (hR:∀ H1 H2 v x,Tk H1 H2→R H1 v x→R H2 v x) (f:Nat→Option α) (hz:vs.length≤1000) (hD:H D=none) (ha:k.At H a vs)
 (hs:∀ (i:Nat) (w:V) (H2:Hp) (C:V→?y) (N:?y),vs[i]? = some w→Same H H2→(∀ y H5 z,Same H2 H5→f i=some z→R H5 y z→C y H5)→(∀ H5,Same H2 H5→f i=none→N H5)→tt (some (.int i) :: some w :: rest) H2 fun b H5=>if b=true then te (some (.int i) :: some w :: rest) H5 C else N H5)
 (hd:∀ H2 us,Same H H2→H2 D=some (.lst us)→Al (R H2) us ((List.range vs.length).filterMap f)→Q (.ref D) H2):LcGo (Ite k K a) ?R tt te (u0 :: u1 :: rest) H D Q:=by
 refine Zh5 (n:=vs.length) (fun i σ H2=>Same H H2∧(∃ u u',σ=u :: u' :: rest)∧∃ us,H2 D=some (.lst us)∧us.length≤i∧Al (R H2) us ((List.range i).filterMap f)) ⟨Same.new hD,⟨_,_,rfl⟩,[],Zc,n11_ _,.nil⟩ (fun i σ H2 hi p=>⟨vs,vs[i],(ha.same p.1).sq,n1_ hi⟩) (fun σ H2 p=>⟨vs,(ha.same p.1).sq,rfl⟩) (fun i x σ2 H2 H3 hi y p=>?_) (fun σ2 H2 p=>?_)
 · obtain ⟨s2,⟨u,u',rfl⟩,us,e2,l2,a2⟩:=p;obtain ⟨q,w,rfl,hq,rfl,y1⟩:=y;have s3:Same H2 (upd H2 q (.tup [.int i,w])):=Same.new hq
   have rg:(List.range (i+1)).filterMap f=(List.range i).filterMap f++(f i).toList:=by
    rw [List.range_succ,List.filterMap_append];cases e:f i<;>simp [e]
   refine ⟨q,[.int i,w],rfl,SqT.of Zc,rfl,_,_,rfl,_,_,rfl,rfl,?_⟩;refine hs i w _ _ _ (y1 vs (ha.same s2).sq) (s2.trans s3) (fun v H5 z s5 ez rz=>?_) (fun H5 s5 ez=>?_)
   · have e5:H5 D=some (.lst us):=s5 _ _ (s3 _ _ e2);refine ⟨us,e5,by rw [sizeLine_eq];omega,vs.length-(i+1),?d,?d,rfl,fun b o e=>?_,⟨_,_,rfl⟩,us++[v],Zc,by simp;omega,?_⟩
     · rw [Zk (Zm e hD)];exact s5 _ _ (s3 _ _ (s2 _ _ e))
     · have tk:Tk H5 (upd H5 D (.lst (us++[v]))):=Tk.upd_lst e5;rw [rg,ez];exact (a2.imp fun v x r=>hR _ _ v x tk (hR _ _ v x (s3.trans s5).tk r)).snoc (hR _ _ _ _ tk rz)
   · refine ⟨vs.length-(i+1),?d,?d,rfl,s2.trans (s3.trans s5),⟨_,_,rfl⟩,us,s5 _ _ (s3 _ _ e2),?d,?_⟩;rw [rg,ez];simp only [Option.toList_none,List.append_nil];exact a2.imp fun v x r=>hR _ _ v x (s3.trans s5).tk r
 · obtain ⟨s2,_,us,e2,_,a2⟩:=p;exact hd H2 us s2 e2 a2
abbrev Pnt:=Int×Int
theorem len3 {l:List α} (h:l.length=3):∃ x y z,l=[x,y,z]:=by
 cases l with
 | nil=>cases h
 | cons x l=>cases l with
   | nil=>cases h
   | cons y l=>cases l with
     | nil=>cases h
     | cons z l=>cases l with
       | nil=>exact ⟨x,y,z,rfl⟩
       | cons=>cases h
inductive BxIsI (H:Hp) (v:V) (ns:?g):Prop
 | mk (a:_) (q1:v=.ref a) (q2:H a=some (.tup (ns.map V.int))):BxIsI H v ns
def IsI (H:Hp) (v:V) (ns:?g):Prop:=BxIsI H v ns
def IsP (H:Hp) (v:V) (p:Pnt):Prop:=IsI H v [p.1,p.2]
theorem IsI.tk (t:Tk H H') (h:IsI H v ns):IsI H' v ns:=by obtain ⟨a,e,q⟩:=h;exact ⟨a,e,t _ _ q⟩
theorem IsP.tk {p:Pnt} (t:Tk H H') (h:IsP H v p):IsP H' v p:=IsI.tk t h
inductive BxIsTupq {α:Type} (R:Hp→V→α→Prop) (H:Hp) (v:V) (xs:List α):Prop
 | mk (a:_) (vs:_) (q1:v=.ref a) (q2:H a=some (.tup vs)) (q3:Al (R H) vs xs):BxIsTupq R H v xs
def IsTup' {α:Type} (R:Hp→V→α→Prop) (H:Hp) (v:V) (xs:List α):Prop:=BxIsTupq R H v xs
theorem IsTup'.tk {R:Hp→V→α→Prop} (hR:∀ H1 H2 v x,Tk H1 H2→R H1 v x→R H2 v x) {xs:List α} (t:Tk H H') (h:IsTup' R H v xs):IsTup' R H' v xs:=by obtain ⟨a,vs,e,q,r⟩:=h;exact ⟨a,vs,e,t _ _ q,r.imp fun v x=>hR _ _ v x t⟩
structure Pl where
 cs:List Pnt
 ps:List (?g)
 ts:?g
 l:Int
 m:Int
def IsCs (H:Hp) (v:V) (cs:List Pnt):Prop:=IsTup' IsP H v cs
def IsPs (H:Hp) (v:V) (ps:List (?g)):Prop:=IsTup' IsI H v ps
theorem IsCs.tk {cs:List Pnt} (t:Tk H H') (h:IsCs H v cs):IsCs H' v cs:=IsTup'.tk (R:=IsP) (fun _ _ _ _ t r=>IsP.tk t r) t h
theorem IsPs.tk {ps:List (?g)} (t:Tk H H') (h:IsPs H v ps):IsPs H' v ps:=IsTup'.tk (R:=IsI) (fun _ _ _ _ t r=>IsI.tk t r) t h
inductive BxIsPl (H:Hp) (v:V) (P:Pl):Prop
 | mk (a:_) (c:_) (p:_) (t:_) (s:_) (q1:v=.ref a) (q2:H a=some (.tup [c,p,t,s])) (q3:IsCs H c P.cs) (q4:IsPs H p P.ps) (q5:IsI H t P.ts) (q6:IsI H s [P.l,P.m]):BxIsPl H v P
def IsPl (H:Hp) (v:V) (P:Pl):Prop:=BxIsPl H v P
theorem IsPl.tk {P:Pl} (t:Tk H H') (h:IsPl H v P):IsPl H' v P:=by obtain ⟨a,c,p,q,s,e,h1,h2,h3,h4,h5⟩:=h;exact ⟨a,c,p,q,s,e,t _ _ h1,h2.tk t,h3.tk t,h4.tk t,h5.tk t⟩
def tn (a b c:Pnt):Int:=(b.1-a.1)*(c.2-a.2)-(c.1-a.1)*(b.2-a.2)
structure Tri where
 a:Pnt
 b:Pnt
 c:Pnt
def tri (a b c:Pnt):Tri:=if tn a b c<0 then ⟨a,c,b⟩ else ⟨a,b,c⟩
def Tri.pts (t:Tri):List Pnt:=[t.a,t.b,t.c]
def Tri.edges (t:Tri):List (Pnt×Pnt):=[(t.a,t.b),(t.b,t.c),(t.c,t.a)]
def Zb4 (p:Pnt) (t:Tri):Bool:=(t.edges.map fun e=>decide (0≤tn e.1 e.2 p)).all id
def Zdx (e:Pnt×Pnt) (u:Tri):Bool:=(u.pts.map fun q=>decide (tn e.1 e.2 q≤0)).all id
def Xb (t u:Tri):Bool:=t.edges.any fun e=>Zdx e u
def apart (t u:Tri):Bool:=Xb t u||Xb u t
inductive BxIsT (H:Hp) (v:V) (t:Tri):Prop
 | mk (a:_) (x:_) (y:_) (z:_) (q1:v=.ref a) (q2:H a=some (.tup [x,y,z])) (q3:IsP H x t.a) (q4:IsP H y t.b) (q5:IsP H z t.c):BxIsT H v t
def IsT (H:Hp) (v:V) (t:Tri):Prop:=BxIsT H v t
theorem IsT.tk {u:Tri} (t:Tk H H') (h:IsT H v u):IsT H' v u:=by obtain ⟨a,x,y,z,e,h1,h2,h3,h4⟩:=h;exact ⟨a,x,y,z,e,t _ _ h1,h2.tk t,h3.tk t,h4.tk t⟩
def near (p:Pnt):Prop:=(-100≤p.1∧p.1≤100)∧(-100≤p.2∧p.2≤100)
def Tri.near (t:Tri):Prop:=L2.near t.a∧L2.near t.b∧L2.near t.c
def cAt (cs:List Pnt) (i:Int):Pnt:=cs.getD i.toNat (0,0)
def trOf (cs:List Pnt) (p:?g):Tri:=tri (cAt cs (p.getD 0 0)) (cAt cs (p.getD 1 0)) (cAt cs (p.getD 2 0))
def dOf (cs:List Pnt) (p:?g):Int:=tn (cAt cs (p.getD 0 0)) (cAt cs (p.getD 1 0)) (cAt cs (p.getD 2 0))
def Zbi (q:(Int→Bool)×Nat) (k:Int):(Int→Bool)×Nat:=(fun k'=>q.1 k'||decide (k'=k),if q.1 k then q.2 else q.2+1)
def cntS (l:?g):Nat:=(l.foldl Zbi (fun _=>false,0)).2
structure PieceOk (cs:List Pnt) (p:?g):Prop where
 len:p.length=3
 bd:∀ i∈p,0≤i∧i≤(cs.length:Int)-1
 rise:p.getD 0 0<p.getD 1 0∧p.getD 1 0<p.getD 2 0
 d:dOf cs p≠0
structure PlOk (P:Pl):Prop where
 c3:3≤P.cs.length
 c30:P.cs.length≤30
 nr:∀ p∈P.cs,near p
 nd:P.cs.Nodup
 p1:1≤P.ps.length
 p40:P.ps.length≤40
 pc:∀ p∈P.ps,PieceOk P.cs p
 rise:∀ i:Nat,i+1<P.ps.length→HT.lexLt (P.ps.getD i []) (P.ps.getD (i+1) [])=true
 t1:P.ts.length=P.ps.length
 t9:∀ t∈P.ts,1≤t∧t≤9
 l9:0≤P.l∧P.l≤9
 m9:1≤P.m∧P.m≤9
 used:cntS P.ps.flatten=P.cs.length
 strange:∀ p∈P.ps,∀ j:Nat,j<P.cs.length→(j:Int)∉p→Zb4 (P.cs.getD j (0,0)) (trOf P.cs p)=false
 apart:∀ i j:Nat,i<j→j<P.ps.length→L2.apart (trOf P.cs (P.ps.getD j [])) (trOf P.cs (P.ps.getD i []))=true
abbrev Nms:=List (Str×NameKind)
def relN (sc:Nms) (dn:Nms):Nms:=sc.map fun y=>if y.2 == .free&&dn.lookup y.1 == some .cell then (y.1,.cell) else y
def chk (sc dn:Nms) (N XN:List Str) (fr:List (Option Nat)):Bool :=
 sc.all (fun y=>y.2 != .free||dn.lookup y.1 == some .cell)&&sc.all (fun y=>y.2 != .local||sc.lookup y.1 == some .local)&&sc.all (fun y=>y.2 != .cell||sc.lookup y.1 == some .cell)&&(fr.length == N.length) &&
  (List.range fr.length).all fun i=>match fr[i]? with
    | some (some j)=>match N[i]? with
      | some x=>XN[j]? == some x&&dn.lookup x == some .cell&&(relN sc dn).lookup x == some .cell&&sc.all (fun y=>y.1 != x||y.2 != .cell)&&sc.any (fun y=>y.1 == x&&y.2 == .free)
      | none=>false
    | _=>true
theorem Zbo {cells:List (Str×Addr)} {sc:Nms} (key:(x,NameKind.free)∈sc):∃ c,(Yy cells sc).lookup x=some c:=by
 have hm:(x,(cells.lookup x).getD 0)∈Yy cells sc:=by
  unfold Yy;exact List.mem_reverse.mpr (n25_.mpr ⟨(x,.free),List.mem_filter.mpr ⟨key,rfl⟩,rfl⟩)
 cases q:(Yy cells sc).lookup x with
 | some c'=>exact ⟨c',rfl⟩
 | none =>
   have z:=(List.lookup_eq_none_iff.mp q) _ hm;simp at z
theorem Zf6 {sc dn:Nms} {k:NameKind} (hk:k=.cell∨k=.free) (h:(relN sc dn).lookup x=some k):(x,NameKind.free)∈sc∨(x,NameKind.cell)∈sc:=by
 have m:=n40_ h;obtain ⟨⟨n,k'⟩,hm,e⟩:=n25_.mp m
 by_cases hf:k'=.free
 · subst hf
   have:n=x:=by
    dsimp only at e;split at e<;>(injection e)
   subst this;exact .inl hm
 · have b:(k' == NameKind.free)=false:=by simpa using hf
   simp only [b,Bool.false_and,n19_,if_false] at e;injection e with e1 e2
   subst e1 e2
   rcases hk with rfl|rfl
   · exact .inr hm
   · exact absurd rfl hf
theorem Zb7 {dn:Nms} (hn:env.scope.names=dn) (hk:env.scope.kind=.function):(relabel scope env).names=relN scope.names dn:=by
 unfold relabel relN;show scope.names.map _=scope.names.map _
 refine List.map_congr_left fun y _=>?_;obtain ⟨n,k⟩:=y;have e:(env.scope.kind == ScopeKind.function)=true:=by rw [hk];rfl
 have e2:env.kindOf n=dn.lookup n:=by rw [← hn];rfl
 simp only [e,e2,Bool.and_true]
theorem Z3 {XN:List Str} (dn:Nms) (hn:X.env.scope.names=dn) (hk:X.env.scope.kind=.function) (hX:X.N=XN) (hc:∀ x,dn.lookup x=some .cell→∃ c,X.env.cells.lookup x=some c)
 (h:chk scope.names dn N XN fr=true) (hs:scope.kind=.function):LcO X scope (Yy X.env.cells scope.names) N fr:=by
 unfold chk at h;simp only [n35_] at h;obtain ⟨⟨⟨⟨h1,h2⟩,h3⟩,h4⟩,h5⟩:=h
 have hf:∀ y∈scope.names,y.2=.free→∃ c,X.env.cells.lookup y.1=some c:=fun y hy e=>by
  have:=n49_.mp h1 y hy
  rw [e] at this;exact hc _ (by simpa using this)
 refine ⟨Zc7 hf,fun x c e=>?_,fun x e=>?_,hs,fun y hy e=>?_,by simpa using h4,fun i j e=>?_⟩
 · have m:=n40_ e;unfold Yy at m;obtain ⟨⟨n,k⟩,hm,e2⟩:=n25_.mp (List.mem_reverse.mp m);obtain ⟨h1',h2'⟩:=List.mem_filter.mp hm;obtain ⟨c',hc'⟩:=hf _ h1' (by simpa using h2');injection e2 with e3 e4
   subst e3;rw [hc'] at e4;rw [hc',← e4];rfl
 · rw [Zb7 hn hk] at e
   have:(x,NameKind.free)∈scope.names∨(x,NameKind.cell)∈scope.names:=e.elim (Zf6 (.inl rfl)) (Zf6 (.inr rfl))
   rcases this with m|m
   · exact .inr (Zbo m)
   · have:=n49_.mp h3 _ m
     exact .inl (by simpa using this)
 · have:=n49_.mp h2 y hy
   rw [e] at this
   simpa using this
 · have hi:i<fr.length:=(n18_.mp e).1
   have:=n49_.mp h5 i (n42_.mpr hi)
   rw [e] at this;cases hx:N[i]? with
   | none=>rw [hx] at this;cases this
   | some x =>
     rw [hx] at this;simp only [n35_,beq_iff_eq] at this;obtain ⟨⟨⟨⟨t1,t2⟩,t3⟩,t4⟩,t5⟩:=this;obtain ⟨⟨z1,z2⟩,m1,m2⟩:=List.any_eq_true.mp t5;simp only [n35_,beq_iff_eq] at m2;obtain ⟨rfl,rfl⟩:=m2;refine ⟨z1,rfl,by rw [hX];exact t1,.inl (by rw [hn];exact t2),.inl (by rw [Zb7 hn hk];exact t3),Zbo m1,fun m=>?_⟩
     have:=n49_.mp t4 _ m
     simp at this
theorem Zdg {cells:List (Str×Addr)} {sc dn:Nms} (hc:sc.all (fun y=>y.2 != .cell||sc.lookup y.1 == some .cell)=true) (h:(relN sc dn).lookup x=some .cell):∃ c,(cellsFrom n sc (Yy cells sc)).lookup x=some c:=by
 refine Option.isSome_iff_exists.mp (PySem.W.cellsFrom_some sc n _ ?_)
 rcases Zf6 (.inl rfl) h with m|m
 · obtain ⟨c,e⟩:=Zbo (cells:=cells) m;exact .inr (by rw [e];rfl)
 · have:=n49_.mp hc _ m
   exact .inl (by simpa using this)
theorem Yc (h:scope.names.all (fun y=>y.2 != .cell&&y.2 != .free)=true) (hk:scope.kind=.function)
 (hn:∀ y∈scope.names,y.2=.local→scope.names.lookup y.1=some .local) (hl:fr.length=N.length) (hf:fr.all (·.isNone)=true):LcO X scope [] N fr:=by
 have no:∀ y∈scope.names,y.2≠.cell∧y.2≠.free:=fun y hy=>by
  have:=n49_.mp h y hy
  rw [n35_] at this
  simpa using this
 refine ⟨closureFor_none fun x hx=>(no x hx).2,fun x c e=>by simp at e,fun x e=>?_,hk,hn,hl,fun i j e=>?_⟩
 · exfalso
   have key:∀ k,(relabel scope X.env).names.lookup x=some k→k≠.cell∧k≠.free:=fun k e=>by
    obtain ⟨⟨n,k'⟩,hm,e2⟩:=n25_.mp (n40_ e);have b:(k' == NameKind.free)=false:=by simpa using (no _ hm).2
    simp only [b,Bool.false_and,n19_,if_false] at e2;cases e2
    exact no _ hm
   rcases e with e|e
   · exact (key _ e).1 rfl
   · exact (key _ e).2 rfl
 · have:=n49_.mp hf _ (n6_ e)
   cases this
theorem Zsl {sp:Sp} (C:Cal X.prog X.w X.K X.mg X.base x k [] sp) (hr:Room j X.A) (hj:k≤j) (hg:Gl X x) (hdb:(x == ("__debug__" : Str))=false:=by decide) :
 PE X (.Call (.Name x p) [] [] pos) (fun _ H Q=>sp [] H Q E0):=by
 obtain ⟨f,fd,F,hm,hk,hb⟩:=C.ex;have h:=Zp0 (dvs:=[]) (E:=E0) (p:=p) (pos:=pos) F (hr.mono hj) hg hm hk hb .nil Zt1 hdb;exact h
inductive BxRNeL (K:PySem.W.Frag) (x y:V) (H:Hp) (Q:VK):Prop
 | mk (a:_) (b:_) (xs:_) (q1:x=.ref a) (q2:y=.ref b) (q3:SqL K H a xs) (q4:SqL K H b []) (q5:Q (.bl (!decide (xs=[]))) H):BxRNeL K x y H Q
def rNeL (K:PySem.W.Frag):R2:=fun x y H Q=>BxRNeL K x y H Q
theorem Zvg (hu:X.A.units<cLine):OpR X (compareOp .NotEq) (rNeL X.K):=by
 intro pins s σ H x y v u Q I rx ry h;obtain ⟨a,b,xs,rfl,rfl,h1,h2,q⟩:=h;cases rx;cases ry
 obtain ⟨us,r1,p1,_⟩:=I.list h1;obtain ⟨ws,r2,p2,_⟩:=I.list h2;have l1:=r1.length;have e:ws=[]:=r2.nil_iff.mpr rfl;subst e;cases hx:xs with
 | nil =>
   subst hx;have e:us=[]:=r1.nil_iff.mpr rfl;subst e;exact SeqAt.RcNeAt.lists (e:=fun j=>true) p1.isList p2.isList rfl hu (fun j h1 h2=>absurd h2 ?f) _ _ _ _ ⟨.bl _,H,I,rfl,q⟩
 | cons y ys =>
   subst hx;exact SeqAt.RcNeAt.lists_lengths p1.isList p2.isList (by simp at l1;simp [← l1]) hu _ _ _ _ ⟨.bl _,H,I,rfl,q⟩
theorem Zkt (K:PySem.W.Frag) (h:X.K=K):IxR X (rIxL K):=h ▸ Yn
theorem Zao (K:PySem.W.Frag) (h:X.K=K):IxR X (rIxT K):=h ▸ Zq
theorem Zf2 (K:PySem.W.Frag) (h:X.K=K):OpR X (compareOp .NotIn) (rIn K true):=h ▸ Zcx
theorem Zgs (K:PySem.W.Frag) (h:X.K=K):Xe X (.builtin "len") (Zff K):=h ▸ Zr
theorem X4 (K:PySem.W.Frag) (h:X.K=K):Xe X (?G) (Zdf K):=h ▸ Zw
theorem Zf0 (K:PySem.W.Frag) (h:X.K=K):Xe X (.builtin "sorted") (Zfa K):=h ▸ Zhq
theorem Zfv (K:PySem.W.Frag) {l:Expr} (h:X.K=K) (hl:PE X l tl):PI X tg l (Zur K tl):=h ▸ Yh hl
theorem Zov (K:PySem.W.Frag) {l:Expr} (h:X.K=K) (hl:PE X l tl):PI X tg l (iTup K tl):=h ▸ Yp hl
theorem Zl5 {k:SK} {K:PySem.W.Frag} {Q:VK} (R:Hp→V→α→Prop) (hR:∀ H1 H2 v x,Tk H1 H2→R H1 v x→R H2 v x) (ys:List α) (hn:ys.length=vs.length) (hz:vs.length≤1000) (hD:H D=none) (ha:k.At H a vs)
 (hp:∀ (i:Nat) (w:V),vs[i]? = some w→∃ p x y,w=.ref p∧H p=some (.tup [x,y]))
 (hs:∀ (i:Nat) (p:Addr) (x y:V) (H2:Hp) (C:V→?y),vs[i]? = some (.ref p)→H p=some (.tup [x,y])→Same H H2→(∀ y H5 z,Same H2 H5→ys[i]? = some z→R H5 y z→C y H5)→te (some x :: some y :: rest) H2 C)
 (hd:∀ H2 us,Same H H2→H2 D=some (.lst us)→Al (R H2) us ys→Q (.ref D) H2):LcGo (k.Itk K a) ?R tYes te (u0 :: u1 :: rest) H D Q:=by
 refine Zky R hR ys hn hz (fun σ=>∃ u u',σ=u :: u' :: rest) ⟨_,_,rfl⟩ hD (fun i H2 s hi=>Zns (ha.same s) hi) (fun H2 s=>Zgm (ha.same s) (n11_ _)) (fun i x σ2 H2 H3 C hi s y o c=>?_) hd;obtain ⟨u,u',rfl⟩:=o;obtain ⟨rfl,e⟩:=Zjp (ha.same s) y;obtain ⟨p,x1,y1,rfl,e2⟩:=hp i x e;exact ⟨p,[x1,y1],rfl,SqT.of (s _ _ e2),rfl,x1,[y1],rfl,y1,[],rfl,rfl,hs i p x1 y1 H3 (C (some x1 :: some y1 :: rest)) e e2 s fun y H5 z s5 ez rz=>c _ y H5 z ⟨_,_,rfl⟩ s5 ez rz⟩
theorem Zr9 {K:PySem.W.Frag} {ps:List (?g)} {Q:VK} (ha:H a=some (.tup vs)) (al:Al (IsI H) vs ps) (hl:ps.flatten.length<1000) (hD:H D=none)
 (hd:∀ S,Q (.ref D) (upd H D (.set S (cntS ps.flatten)))) :
 ScGo (Itt K a) (Ye 0) (iTup K (tVar 0)) (Ye 1) (tVar 1) (u0 :: u1 :: rest) H D Q:=by
 have hsz:∀ l:?g,(l.foldl Zbi (fun _=>false,0)).2≤l.length:=by
  intro l
  have:∀ (l:?g) q,(l.foldl Zbi q).2≤q.2+l.length:=by
   intro l
   induction l with
   | nil=>intro q;simp
   | cons x l ih =>
     intro q
     have:=ih (Zbi q x)
     rw [n80_,n21_];have h2:(Zbi q x).2≤q.2+1:=by unfold Zbi;dsimp only;split<;>omega
     omega
  have:=this l (fun _=>false,0)
  simpa using this
 have sb:∀ n,n<1001→n+1<scanBound:=fun n h=>Nat.lt_trans (show n+1<1002 by omega) ?e
 let f:?g→(Int→Bool)×Nat:=fun l=>l.foldl Zbi (fun _=>false,0)
 refine ⟨fun i m σ H2=>m=vs.length-i∧i≤vs.length∧(∃ u u',σ=u :: u' :: rest)∧H2=upd H D (.set (f (ps.take i).flatten).1 (f (ps.take i).flatten).2),⟨_,rfl,n45_ _,⟨_,_,rfl⟩,by simp [f]⟩,?_⟩;rintro i m σ2 H2 ⟨rfl,hi,⟨u,u',rfl⟩,rfl⟩
 have e0:upd H D (.set (f (ps.take i).flatten).1 (f (ps.take i).flatten).2) a=some (.tup vs):=by rw [Zk (Zm ha hD)];exact ha
 by_cases hlt:i<vs.length
 · refine .inr ⟨⟨vs,vs[i],SqT.of e0,n1_ hlt⟩,fun x H3 y=>?_⟩;obtain ⟨rfl,y2⟩:=y;have ex:=y2 vs (SqT.of e0);obtain ⟨p,ep,b,rfl,hb⟩:=al.get ex;have hip:i<ps.length:=(n18_.mp ep).1;have tk:ps.take (i+1)=ps.take i++[p]:=by rw [n60_,ep];rfl
   have fl:(ps.take (i+1)).flatten=(ps.take i).flatten++p:=by rw [tk];simp
   have le1:(ps.take (i+1)).flatten.length≤ps.flatten.length:=by
    have:=congrArg (fun l:List (?g)=>l.flatten.length) (List.take_append_drop (i+1) ps)
    rw [List.flatten_append,n30_] at this;omega
   have eb:∀ o,upd H D o b=some (.tup (p.map V.int)):=fun o=>by rw [Zk (Zm hb hD)];exact hb
   refine ⟨.ref b,rfl,b,rfl,⟨_,SqT.of (eb _)⟩,?_⟩;refine ⟨fun i1 m1 σ6 H6=>m1=p.length-i1∧i1≤p.length∧(∃ u',σ6=some (.ref b) :: u' :: rest)∧H6=upd H D (.set (f ((ps.take i).flatten++p.take i1)).1 (f ((ps.take i).flatten++p.take i1)).2),⟨_,rfl,n45_ _,⟨_,rfl⟩,by simp⟩,?_⟩;rintro i1 m1 σ6 H6 ⟨rfl,hi1,⟨u2,rfl⟩,rfl⟩
   by_cases hl1:i1<p.length
   · refine .inr ⟨⟨p.map V.int,V.int p[i1],SqT.of (eb _),by simp [hl1]⟩,fun y H7 yy=>?_⟩;obtain ⟨rfl,y3⟩:=yy;have ey:=y3 _ (SqT.of (eb _));rw [n4_,n1_ hl1] at ey;cases ey
     have len:(ps.take i).flatten.length+p.length≤ps.flatten.length:=by rw [fl,n30_] at le1;exact le1
     refine ⟨_,rfl,p[i1],_,_,rfl,Zc,sb _ ?_,_,(?d:p.length-(i1+1)<_),rfl,?d,⟨_,rfl⟩,?_⟩
     · have:=hsz ((ps.take i).flatten++p.take i1)
       simp only [f];rw [n30_,n43_] at this;omega
     · have e5:p.take (i1+1)=p.take i1++[p[i1]]:=n69_ hl1;rw [Zst,e5,← n78_];simp only [f,List.foldl_append,n80_,List.foldl_nil];rfl
   · refine .inl ⟨⟨_,SqT.of (eb _),by simp;omega⟩,_,(?d:vs.length-(i+1)<_),rfl,?d,⟨_,_,rfl⟩,?_⟩;rw [fl,show p.take i1=p from n37_ (?d)]
 · have e:i=vs.length:=?d
   subst e;refine .inl ⟨⟨vs,SqT.of e0,n11_ _⟩,?_⟩;rw [n37_ (by rw [al.1];exact n11_ _)];exact hd _
theorem Znl:Xe X (.builtin "len") (fun xs H Q=>∃ D S n,xs=[.ref D]∧H D=some (.set S n)∧Q (.int n) H):=by
 intro pins s σ H xs us Q I r h;obtain ⟨D,S,n,rfl,hS,q⟩:=h;cases r with
 | cons rx r =>
   cases r
   cases (show _=Value.ref D from rx)
   obtain ⟨o,es,ep,t,e,ex,d,_,_,sz,f,en⟩:=(show ObjOk X.prog X.w H s.heap D (.set S n) from I.hok D _ hS);have hl:=Zdh
   have:(4096:Nat)=scanBound:=rfl
   refine call_len_set e ex d f (?d) ⟨.int n,H,I.tok _,⟨_,by rw [en]⟩,q⟩
theorem Zco {X:Cx} {x:Str} {pos' spos:Pos} {tg elt iter:Expr} {ifs:List Expr} {scope:Scope} {cl:List (Str×Addr)} {N:List Str} {fr:List (Option Nat)} {pos:Pos} {wi:TI} {g g':TG} {tt:TT} {te:TE}
 (hw:swapsWith (.ListComp elt [⟨tg,iter,ifs,0⟩] scope pos) (some (.Name x pos')) spos.line X.env=pure true)
 (hc:X.calm=true) (hg':PG X (.Name x pos') g') (L:LcO X scope cl N fr) (hi:PI X tg iter wi) (hg:∀ C s3 H3 fp,PG ?P tg g)
 (ht:∀ C s3 H3 fp,PIfs ?P ifs tt) (he:∀ C s3 H3 fp,PE ?P elt te)
 (hs:∀ x,foldedSetIterable iter X.env x=pure x:=by intro _;rfl):PS X (.Assign [.Name x pos'] (.ListComp elt [⟨tg,iter,ifs,0⟩] scope pos) spos) (tAsg (tLC wi g tt te fr) g'):=by
 intro pins s σ H D I h;rw [exec_Assign_Name_used _ _ _ _ hw];refine n0_ (wpAny_standAt (n0_ ?_));rw [arm_evalThenUse_ListComp];refine n0_ (wpAny_comprehension_free (Q:=fun _ s'=>wpAny ?z X.A (pure ()) (fun _ s''=>wpAny ?z X.A (pure Flow.next) (SP X pins D) X.xe s'') X.xe s') (use:=some (assign (.Name x pos') X.env)) rfl hs L.clos L.kind L.names (thn (hi pins s σ H _ I h) fun v s1 h1=>thn h1 fun itv s2 h2=>?_));obtain ⟨it,fp,tn,J,H2,e,I2,T,st2,f2,h⟩:=h2;subst e;obtain ⟨W,⟨m0,w0⟩,turn⟩:=h s2.z (I2.hok.fresh (n11_ _));refine wpAny_newObj_type ?_;generalize hs3:({ s2 with heap:=s2.heap.push { cls:=.type "list",dict:=none,data:=.seq ([]:?q).toArray } }:Shared)=s3;refine Zdd (ac:=.lst []) hs3.symm hc L hg I2 T st2 f2 ⟨n45_ _,[],_,.nil,n8_ _ rfl⟩ w0 turn (fun _ _ a b=>codeAny_compStart_list a (b _)) (fun LI s4 t n h=>Zcz LI t n h) (fun H6 s7 qn I3 fr7 c=>?_) (Zmw ht he);obtain ⟨m7,hn7,c7⟩:=c;have I8:Inv X pins σ H6 s7:=c7 s7.heap (Heap.SameBut.refl ..)
 have fpC:∀ {H6:Hp},H6 s3.z=none→∀ b∈[s3.z],FpOk X pins H6 b:=fun fr b hb=>by
  rw [n22_] at hb;subst hb;exact I3.fpOk (n11_ _) fr
 obtain ⟨oC,esC,epC,geC,dC,skC,nfC⟩:=hn7
 have I9:=I8.pinned (fpC fr7) (fun b hb=>by
  rw [n22_] at hb;subst hb;exact ⟨oC,geC,fun v z=>by rw [dC] at z;cases z⟩)
 refine thn (hg' _ s7 σ H6 (.ref s2.z) (.ref s2.z) _ I9 rfl qn) fun _ s9 ⟨σ9,H9,I10,q9⟩=>?_;have pC:=I10.pin (s3.z,oC) (n33_ _ (n33_ _ (Xd (n22_.mpr rfl) geC)));refine ⟨m7,⟨oC,esC,epC,pC.1,dC,skC,nfC⟩,fun h' sb=>?_⟩;refine n3_ (n3_ ?_);exact ⟨σ9,H9,I10.unpinned.turnGen (t':=s9.toks) (ch:=[s3.z]) (fun b u nb e=>(sb.2 b (fun z=>nb (by rw [z];exact n22_.mpr rfl))).trans e) (fpC pC.2.1) (fun _ _ e=>e) (fun _ _ _ e=>e) (fun b u e1 e2=>by rw [e1] at e2;cases e2),q9⟩
def tD (a b c x y q:Pnt):Int:=tn a b c*tn x y q
def inS (a b c q:Pnt):Prop:=0≤tD a b c a b q∧0≤tD a b c b c q∧0≤tD a b c c a q
def bey (a b c x y u v w:Pnt):Prop:=tD a b c x y u≤0∧tD a b c x y v≤0∧tD a b c x y w≤0
def sepS (a b c u v w:Pnt):Prop:=bey a b c a b u v w∨bey a b c b c u v w∨bey a b c c a u v w
instance {a b c q:Pnt}:Decidable (inS a b c q):=by unfold inS;infer_instance
instance {a b c x y u v w:Pnt}:Decidable (bey a b c x y u v w):=by unfold bey;infer_instance
instance {a b c u v w:Pnt}:Decidable (sepS a b c u v w):=by unfold sepS;infer_instance
theorem Zbs (a b q:Pnt):tn b a q =-tn a b q:=by unfold tn;grind
theorem Zq4 (a b c:Pnt):tn b c a=tn a b c:=by unfold tn;grind
theorem Zr8 (a b c x y q:Pnt):tD b a c x y q=tD a b c y x q:=by
 unfold tD;rw [Zbs a b c,Zbs x y q];grind
theorem Zrm (a b c x y q:Pnt):tD b c a x y q=tD a b c x y q:=by unfold tD;rw [Zq4]
theorem Zmt (a b c x y q:Pnt):tD b a c y x q=tD a b c x y q:=Zr8 a b c y x q
theorem Ztv {a b c q:Pnt} (h:inS a b c q):inS b c a q:=by
 unfold inS at *;simp only [Zrm];exact ⟨h.2.1,h.2.2,h.1⟩
theorem Zv4 {a b c q:Pnt} (h:inS a b c q):inS b a c q:=by
 unfold inS at *;simp only [Zmt];exact ⟨h.1,h.2.2,h.2.1⟩
theorem Ztj {a b c x y u v w:Pnt}:bey b c a x y u v w=bey a b c x y u v w:=by unfold bey;simp only [Zrm]
theorem Zuc {a b c x y u v w:Pnt}:bey b a c y x u v w=bey a b c x y u v w:=by unfold bey;simp only [Zmt]
theorem Zsu {a b c u v w:Pnt} (h:sepS a b c u v w):sepS b c a u v w:=by
 unfold sepS at *;simp only [Ztj];rcases h with h|h|h
 · exact .inr (.inr h)
 · exact .inl h
 · exact .inr (.inl h)
theorem Zub {a b c u v w:Pnt} (h:sepS a b c u v w):sepS b a c u v w:=by
 unfold sepS at *;simp only [Zuc];rcases h with h|h|h
 · exact .inl h
 · exact .inr (.inr h)
 · exact .inr (.inl h)
theorem Zqb {a b c u v w:Pnt} (h:sepS a b c u v w):sepS a b c v w u:=by
 unfold sepS bey at *;rcases h with ⟨h1,h2,h3⟩|⟨h1,h2,h3⟩|⟨h1,h2,h3⟩
 · exact .inl ⟨h2,h3,h1⟩
 · exact .inr (.inl ⟨h2,h3,h1⟩)
 · exact .inr (.inr ⟨h2,h3,h1⟩)
theorem Zsg {a b c u v w:Pnt} (h:sepS a b c u v w):sepS a b c v u w:=by
 unfold sepS bey at *;rcases h with ⟨h1,h2,h3⟩|⟨h1,h2,h3⟩|⟨h1,h2,h3⟩
 · exact .inl ⟨h2,h1,h3⟩
 · exact .inr (.inl ⟨h2,h1,h3⟩)
 · exact .inr (.inr ⟨h2,h1,h3⟩)
theorem Zpk [DecidableEq α] {x y z a b c:α} (h:[x,y,z].Perm [a,b,c]) (P:α→α→α→Prop) (rot:∀ a b c,P a b c→P b c a) (sw:∀ a b c,P a b c→P b a c) (p:P a b c):P x y z:=by
 have hx:x∈[a,b,c]:=h.mem_iff.mp ?f;simp only [n13_,n15_,or_false] at hx
 have two:∀ {y z b c:α},[y,z].Perm [b,c]→(y=b∧z=c)∨(y=c∧z=b):=by
  intro y z b c h;have hy:y∈[b,c]:=h.mem_iff.mp ?f;simp only [n13_,n15_,or_false] at hy
  rcases hy with rfl|rfl
  · have:=List.perm_cons y |>.mp h
    exact .inl ⟨rfl,by simpa using this⟩
  · have:=List.perm_cons y |>.mp (h.trans (List.Perm.swap y b []))
    exact .inr ⟨rfl,by simpa using this⟩
 rcases hx with rfl|rfl|rfl
 · rcases two ((List.perm_cons x).mp h) with ⟨rfl,rfl⟩|⟨rfl,rfl⟩
   · exact p
   · exact sw _ _ _ (rot _ _ _ (rot _ _ _ p))
 · rcases two ((List.perm_cons x).mp (h.trans (List.Perm.swap x a [c]))) with ⟨rfl,rfl⟩|⟨rfl,rfl⟩
   · exact sw _ _ _ p
   · exact rot _ _ _ p
 · have h2:[x,y,z].Perm [x,a,b]:=h.trans (((List.Perm.swap x b []).cons a).trans (List.Perm.swap x a [b]))
   rcases two ((List.perm_cons x).mp h2) with ⟨rfl,rfl⟩|⟨rfl,rfl⟩
   · exact rot _ _ _ (rot _ _ _ p)
   · exact sw _ _ _ (rot _ _ _ p)
theorem Zla {a b c q:Pnt} (hd:tn a b c≠0):Zb4 q (tri a b c)=true↔inS a b c q:=by
 unfold Zb4 tri inS tD
 by_cases h:tn a b c<0
 · rw [if_pos h];have e1:tn a c q =-tn c a q:=Zbs c a q;have e2:tn c b q =-tn b c q:=Zbs b c q;have e3:tn b a q =-tn a b q:=Zbs a b q;simp only [Tri.edges,n38_,n64_,List.all_cons,List.all_nil,id,Bool.and_true,n35_,decide_eq_true_eq,e1,e2,e3]
   have k:∀ t:Int,(0≤tn a b c*t↔0≤-t):=fun t=>by
    constructor
    · intro g
      by_cases ht:0<t
      · have:=Int.mul_neg_of_neg_of_pos h ht
        omega
      · omega
    · intro g;exact Int.mul_nonneg_of_nonpos_of_nonpos (?d) (?d)
   rw [k,k,k];constructor
   · rintro ⟨h1,h2,h3⟩;exact ⟨h3,h2,h1⟩
   · rintro ⟨h1,h2,h3⟩;exact ⟨h3,h2,h1⟩
 · rw [if_neg h];have hp:0<tn a b c:=?d
   simp only [Tri.edges,n38_,n64_,List.all_cons,List.all_nil,id,Bool.and_true,n35_,decide_eq_true_eq]
   have k:∀ t:Int,(0≤tn a b c*t↔0≤t):=fun t=>by
    constructor
    · intro g
      by_cases ht:t<0
      · have:=Int.mul_neg_of_pos_of_neg hp ht
        omega
      · omega
    · intro g;exact Int.mul_nonneg (?d) g
   rw [k,k,k]
theorem Zer {e:Pnt×Pnt} {u v w:Pnt} {t:Tri} (ht:t=tri u v w):Zdx e t=true↔tn e.1 e.2 u≤0∧tn e.1 e.2 v≤0∧tn e.1 e.2 w≤0:=by
 subst ht;unfold Zdx tri;split
 · simp only [Tri.pts,n38_,n64_,List.all_cons,List.all_nil,id,Bool.and_true,n35_,decide_eq_true_eq];constructor
   · rintro ⟨h1,h2,h3⟩;exact ⟨h1,h3,h2⟩
   · rintro ⟨h1,h2,h3⟩;exact ⟨h1,h3,h2⟩
 · simp only [Tri.pts,n38_,n64_,List.all_cons,List.all_nil,id,Bool.and_true,n35_,decide_eq_true_eq]
theorem Zcq {a b c u v w:Pnt} (hd:tn a b c≠0) (h:sepS a b c u v w):Xb (tri a b c) (tri u v w)=true:=by
 unfold Xb
 have k:∀ x y:Pnt,bey a b c x y u v w→(tn a b c<0→Zdx (y,x) (tri u v w)=true)∧(¬ tn a b c<0→Zdx (x,y) (tri u v w)=true):=by
  intro x y g;unfold bey tD at g;refine ⟨fun hn=>(Zer rfl).mpr ?_,fun hn=>(Zer rfl).mpr ?_⟩
  · have kk:∀ q:Pnt,tn a b c*tn x y q≤0→tn y x q≤0:=fun q hq=>by
     rw [Zbs x y q]
     by_cases ht:tn x y q<0
     · have:=Int.mul_pos_of_neg_of_neg hn ht
       omega
     · omega
    exact ⟨kk _ g.1,kk _ g.2.1,kk _ g.2.2⟩
  · have hp:0<tn a b c:=?d
    have kk:∀ q:Pnt,tn a b c*tn x y q≤0→tn x y q≤0:=fun q hq=>by
     by_cases ht:0<tn x y q
     · have:=Int.mul_pos hp ht
       omega
     · omega
    exact ⟨kk _ g.1,kk _ g.2.1,kk _ g.2.2⟩
 rw [List.any_eq_true];generalize tri u v w=T at k ⊢;unfold tri
 by_cases hn:tn a b c<0
 · rw [if_pos hn]
   rcases h with h|h|h
   · exact ⟨(b,a),by simp [Tri.edges],(k _ _ h).1 hn⟩
   · exact ⟨(c,b),by simp [Tri.edges],(k _ _ h).1 hn⟩
   · exact ⟨(a,c),by simp [Tri.edges],(k _ _ h).1 hn⟩
 · rw [if_neg hn]
   rcases h with h|h|h
   · exact ⟨(a,b),by simp [Tri.edges],(k _ _ h).2 hn⟩
   · exact ⟨(b,c),by simp [Tri.edges],(k _ _ h).2 hn⟩
   · exact ⟨(c,a),by simp [Tri.edges],(k _ _ h).2 hn⟩
structure Aff where
 a:Int
 b:Int
 c:Int
 d:Int
 s:Int
 t:Int
def Aff.at (A:Aff) (p:Pnt):Pnt:=(A.a*p.1+A.b*p.2+A.s,A.c*p.1+A.d*p.2+A.t)
def Aff.det (A:Aff):Int:=A.a*A.d-A.b*A.c
theorem Aff.tn (A:Aff) (p q r:Pnt):L2.tn (A.at p) (A.at q) (A.at r)=A.det*L2.tn p q r:=by
 unfold L2.tn Aff.at Aff.det;dsimp only
 grind
theorem Aff.tD (A:Aff) (a b c x y q:Pnt):L2.tD (A.at a) (A.at b) (A.at c) (A.at x) (A.at y) (A.at q)=A.det*A.det*L2.tD a b c x y q:=by
 unfold L2.tD;rw [A.tn,A.tn]
 grind
theorem Aff.sq {A:Aff} (h:A.det≠0):0<A.det*A.det:=by
 by_cases g:0<A.det
 · exact Int.mul_pos g g
 · exact Int.mul_pos_of_neg_of_neg (?d) (?d)
theorem Aff.nn {A:Aff} (h:A.det≠0) (t:Int):0≤A.det*A.det*t↔0≤t:=by
 have hp:=A.sq h;constructor
 · intro g
   by_cases ht:t<0
   · have:=Int.mul_neg_of_pos_of_neg hp ht
     omega
   · omega
 · intro g;exact Int.mul_nonneg (?d) g
theorem Aff.np {A:Aff} (h:A.det≠0) (t:Int):A.det*A.det*t≤0↔t≤0:=by
 have hp:=A.sq h;constructor
 · intro g
   by_cases ht:0<t
   · have:=Int.mul_pos hp ht
     omega
   · omega
 · intro g
   have:=Int.mul_nonneg (a:=A.det*A.det) (b:=-t) (?d) (?d)
   rw [Int.mul_neg] at this;omega
theorem Aff.inS {A:Aff} (h:A.det≠0) {a b c q:Pnt}:L2.inS (A.at a) (A.at b) (A.at c) (A.at q)↔L2.inS a b c q:=by
 unfold L2.inS;rw [A.tD,A.tD,A.tD,A.nn h,A.nn h,A.nn h]
theorem Aff.bey {A:Aff} (h:A.det≠0) {a b c x y u v w:Pnt}:L2.bey (A.at a) (A.at b) (A.at c) (A.at x) (A.at y) (A.at u) (A.at v) (A.at w)↔L2.bey a b c x y u v w:=by
 unfold L2.bey;rw [A.tD,A.tD,A.tD,A.np h,A.np h,A.np h]
theorem Aff.sep {A:Aff} (h:A.det≠0) {a b c u v w:Pnt}:L2.sepS (A.at a) (A.at b) (A.at c) (A.at u) (A.at v) (A.at w)↔L2.sepS a b c u v w:=by
 unfold L2.sepS;rw [A.bey h,A.bey h,A.bey h]
theorem Aff.inj {A:Aff} (h:A.det≠0) {p q:Pnt} (e:A.at p=A.at q):p=q:=by
 unfold Aff.at at e;have e1:=congrArg Prod.fst e;have e2:=congrArg Prod.snd e;dsimp only at e1 e2;unfold Aff.det at h;have f1:(A.a*A.d-A.b*A.c)*(p.1-q.1)=0:=by grind
 have f2:(A.a*A.d-A.b*A.c)*(p.2-q.2)=0:=by grind
 have g1:=(Int.mul_eq_zero.mp f1).resolve_left h;have g2:=(Int.mul_eq_zero.mp f2).resolve_left h;exact Prod.ext (?d) (?d)
def Zkd (pts:List Pnt):?g→Bool
 | [i,j,k]=>decide (0≤i∧i<(pts.length:Int))&&decide (0≤j∧j<(pts.length:Int))&&decide (0≤k∧k<(pts.length:Int))&&decide (i≠j∧i≠k∧j≠k)&&decide (tn (cAt pts i) (cAt pts j) (cAt pts k)≠0) &&
    (List.range pts.length).all fun x=>decide ((x:Int)=i∨(x:Int)=j∨(x:Int)=k)||!decide (inS (cAt pts i) (cAt pts j) (cAt pts k) (cAt pts x))
 | _=>false
def sepB (pts:List Pnt):?g→?g→Bool
 | [i,j,k],[u,v,w]=>decide (sepS (cAt pts i) (cAt pts j) (cAt pts k) (cAt pts u) (cAt pts v) (cAt pts w))||decide (sepS (cAt pts u) (cAt pts v) (cAt pts w) (cAt pts i) (cAt pts j) (cAt pts k))
 | _,_=>false
def Ztx (N M:Nat) (pts:List Pnt) (pcs:List (?g)):Bool :=
 decide (3≤pts.length∧pts.length≤N)&&decide (1≤pcs.length∧pcs.length≤M)&&decide pts.Nodup&&pcs.all (Zkd pts) &&
  ((List.range pts.length).all fun k=>pcs.any fun p=>decide ((k:Int)∈p)) &&
  (List.range pcs.length).all fun i=>(List.range pcs.length).all fun j=>decide (i=j)||(sepB pts (pcs.getD i []) (pcs.getD j [])&&(pcs.getD i []).any fun x=>decide (x∉pcs.getD j []))
structure BaseG (N M:Nat) (pts:List Pnt) (pcs:List (?g)):Prop where
 n3:3≤pts.length
 n6:pts.length≤N
 p1:1≤pcs.length
 p4:pcs.length≤M
 nd:pts.Nodup
 pc:∀ p∈pcs,Zkd pts p=true
 us:∀ k:Nat,k<pts.length→∃ p∈pcs,(k:Int)∈p
 sep:∀ i j:Nat,i<pcs.length→j<pcs.length→i≠j→sepB pts (pcs.getD i []) (pcs.getD j [])=true∧∃ x∈pcs.getD i [],x∉pcs.getD j []
theorem Zd3 {N M:Nat} {pts:List Pnt} {pcs:List (?g)} (h:Ztx N M pts pcs=true):BaseG N M pts pcs:=by
 unfold Ztx at h;simp only [n35_,decide_eq_true_eq,n49_,List.any_eq_true,n42_,Bool.or_eq_true] at h;obtain ⟨⟨⟨⟨⟨⟨h1,h2⟩,h3,h4⟩,h6⟩,h7⟩,h8⟩,h9⟩:=h;exact ⟨h1,h2,h3,h4,h6,h7,h8,fun i j hi hj ne=>(h9 i hi j hj).resolve_left ne⟩
structure Base (pts:List Pnt) (pcs:List (?g)):Prop extends BaseG 6 4 pts pcs where
 bd:∀ p∈pts,p.1.natAbs≤6∧p.2.natAbs≤6
structure CoOrd (n:Nat) (o:?g):Prop where
 len:o.length=n
 bd:∀ j:Nat,j<n→0≤o.getD j 0∧o.getD j 0<n
 inj:∀ i j:Nat,i<n→j<n→o.getD i 0=o.getD j 0→i=j
 sur:∀ k:Nat,k<n→∃ j:Nat,j<n∧o.getD j 0=k
theorem Zux {o:?g} (h:o.Perm ((List.range n).map fun i:Nat=>(i:Int))):CoOrd n o:=by
 have hl:o.length=n:=by rw [h.length_eq];simp
 have nd:o.Nodup:=h.symm.nodup (List.Pairwise.map _ (fun a b ne e=>ne (Int.ofNat.inj e)) List.nodup_range);have g:∀ j:Nat,(hj:j<n)→o.getD j 0=o[j]'(?d):=fun j hj=>by rw [n5_,n1_ (?d)];rfl
 refine ⟨hl,fun j hj=>?_,fun i j hi hj e=>?_,fun k hk=>?_⟩
 · rw [g j hj]
   have:o[j]'(?d)∈(List.range n).map fun i:Nat=>(i:Int):=h.mem_iff.mp (n28_ _)
   obtain ⟨k,hk,e⟩:=n25_.mp this
   have:=n42_.mp hk
   omega
 · rw [g i hi,g j hj] at e;exact (List.getElem_inj nd).mp e
 · have:(k:Int)∈o:=h.mem_iff.mpr (n25_.mpr ⟨k,n42_.mpr hk,rfl⟩)
   obtain ⟨j,hj,e⟩:=n52_ this;exact ⟨j,?d,by rw [g j (?d)];exact e⟩
def oAt (o:?g) (i:Int):Int:=o.getD i.toNat 0
theorem Zrg {pts:List Pnt} {p:?g} (h:Zkd pts p=true):∃ i j k,p=[i,j,k]∧(0≤i∧i<(pts.length:Int))∧(0≤j∧j<(pts.length:Int))∧(0≤k∧k<(pts.length:Int))∧(i≠j∧i≠k∧j≠k)∧tn (cAt pts i) (cAt pts j) (cAt pts k)≠0 ∧
 ∀ x:Nat,x<pts.length→(x:Int)∉p→¬ inS (cAt pts i) (cAt pts j) (cAt pts k) (cAt pts x):=by
 unfold Zkd at h;split at h
 · rename_i i j k
   simp only [n35_,decide_eq_true_eq,n49_,n42_,Bool.or_eq_true,Bool.not_eq_true',decide_eq_false_iff_not] at h;obtain ⟨⟨⟨⟨⟨h1,h2⟩,h3⟩,h4⟩,h5⟩,h6⟩:=h;refine ⟨i,j,k,rfl,h1,h2,h3,h4,h5,fun x hx nm=>(h6 x hx).resolve_left fun z=>nm ?_⟩
   simpa using z
 · cases h
theorem Zl8 (l:?g) (hb:∀ x∈l,0≤x∧x<n) (hs:∀ k:Nat,k<n→(k:Int)∈l):cntS l=n:=by
 have key:∀ (l:?g),(∀ x∈l,0≤x∧x<n)→∀ q:(Int→Bool)×Nat,q.2=(List.range n).countP (fun k:Nat=>q.1 k)→(l.foldl Zbi q).2=(List.range n).countP (fun k:Nat=>(l.foldl Zbi q).1 k)∧∀ x,(l.foldl Zbi q).1 x=(q.1 x||decide (x∈l)):=by
  intro l
  induction l with
  | nil=>intro _ q h;exact ⟨h,fun x=>by simp⟩
  | cons y l ih =>
    intro hb q h;rw [n80_];have hy:=hb y n24_
    have step:(Zbi q y).2=(List.range n).countP (fun k:Nat=>(Zbi q y).1 k):=by
     unfold Zbi;dsimp only
     by_cases g:q.1 y=true
     · rw [if_pos g,h];refine congrArg (fun f=>List.countP f (List.range n)) (funext fun k=>?_)
       by_cases e:(k:Int)=y
       · rw [e,g];rfl
       · simp [e]
     · rw [if_neg g,h];have g':q.1 y=false:=by simpa using g
       obtain ⟨m,rfl⟩:∃ m:Nat,y=m:=⟨y.toNat,?d⟩;have hm:m<n:=?d
       have:∀ r:Nat,(List.range r).countP (fun k:Nat=>q.1 k||decide ((k:Int)=(m:Int)))=(List.range r).countP (fun k:Nat=>q.1 k)+(if m<r then 1 else 0):=by
        intro r
        induction r with
        | zero=>rfl
        | succ r ihr =>
          rw [List.range_succ,List.countP_append,List.countP_append,ihr];simp only [List.countP_singleton]
          by_cases e:r=m
          · subst e;rw [g']
            simp
          · have e2:¬ (r:Int)=(m:Int):=?d
            simp only [e2,decide_false,Bool.or_false];have e3:(m<r+1)↔(m<r):=?d
            simp only [e3];omega
       rw [this n,if_pos hm]
    obtain ⟨i1,i2⟩:=ih (fun x hx=>hb x (n17_ _ hx)) (Zbi q y) step;refine ⟨i1,fun x=>?_⟩;rw [i2];unfold Zbi;dsimp only
    by_cases e:x=y
    · subst e;simp
    · simp [e]
 obtain ⟨k1,k2⟩:=key l hb (fun _=>false,0) ?f;unfold cntS;rw [k1]
 have:(List.range n).countP (fun k:Nat=>(l.foldl Zbi (fun _=>false,0)).1 k)=(List.range n).length:=by
  rw [List.countP_eq_length];intro k hk;rw [k2];simp [hs k (n42_.mp hk)]
 rw [this,n66_]
structure Small (A:Aff):Prop where
 a:A.a.natAbs≤3
 b:A.b.natAbs≤3
 c:A.c.natAbs≤3
 d:A.d.natAbs≤3
 s:A.s.natAbs≤30
 t:A.t.natAbs≤30
theorem Zr3 {A:Aff} (S:Small A) {p:Pnt} (h:p.1.natAbs≤6∧p.2.natAbs≤6):near (A.at p):=by
 have h1:(A.a*p.1).natAbs≤3*6:=by rw [n56_];exact n57_ S.a h.1
 have h2:(A.b*p.2).natAbs≤3*6:=by rw [n56_];exact n57_ S.b h.2
 have h3:(A.c*p.1).natAbs≤3*6:=by rw [n56_];exact n57_ S.c h.1
 have h4:(A.d*p.2).natAbs≤3*6:=by rw [n56_];exact n57_ S.d h.2
 have r:∀ {u v w:Int},u.natAbs≤3*6→v.natAbs≤3*6→w.natAbs≤30→(u+v+w).natAbs≤100:=fun a b c=>n36_ (Int.natAbs_add_le _ _) (n36_ (Nat.add_le_add (n36_ (Int.natAbs_add_le _ _) (Nat.add_le_add a b)) c) ?e);have k:∀ {z:Int},z.natAbs≤100→-100≤z∧z≤100:=fun h=>?d
 exact ⟨k (r h1 h2 S.s),k (r h3 h4 S.t)⟩
structure DrawnG (N M:Nat) (pts:List Pnt) (pcs:List (?g)) (A:Aff) (o:?g) (cs:List Pnt) (kl:List (?g)) (q:List Nat):Prop where
 base:BaseG N M pts pcs
 det:A.det≠0
 nr:∀ p∈pts,near (A.at p)
 ord:CoOrd pts.length o
 len:cs.length=pts.length
 at_:∀ j:Nat,j<pts.length→cs[(o.getD j 0).toNat]? = some (A.at (pts.getD j (0,0)))
 klen:kl.length=pcs.length
 key:∀ i:Nat,i<pcs.length→(kl.getD i []).Perm ((pcs.getD i []).map (oAt o))∧(kl.getD i []).Pairwise (·≤·)
 perm:q.Perm (List.range pcs.length)
structure Drawn (pts:List Pnt) (pcs:List (?g)) (A:Aff) (o:?g) (cs:List Pnt) (kl:List (?g)) (q:List Nat):Prop extends DrawnG 6 4 pts pcs A o cs kl q where
 bd:∀ p∈pts,p.1.natAbs≤6∧p.2.natAbs≤6
 small:Small A
theorem Drawn.of {pts:List Pnt} {pcs:List (?g)} {A:Aff} {o:?g} {cs:List Pnt} {kl:List (?g)} {q:List Nat} (b:Base pts pcs) (d:A.det≠0) (S:Small A) (ord:CoOrd pts.length o) (len:cs.length=pts.length)
 (at_:∀ j:Nat,j<pts.length→cs[(o.getD j 0).toNat]? = some (A.at (pts.getD j (0,0)))) (klen:kl.length=pcs.length) (key:∀ i:Nat,i<pcs.length→(kl.getD i []).Perm ((pcs.getD i []).map (oAt o))∧(kl.getD i []).Pairwise (·≤·))
 (perm:q.Perm (List.range pcs.length)):Drawn pts pcs A o cs kl q:=⟨⟨b.toBaseG,d,fun p hp=>Zr3 S (b.bd p hp),ord,len,at_,klen,key,perm⟩,b.bd,S⟩
section
variable {N M:Nat} {pts:List Pnt} {pcs:List (?g)} {A:Aff} {o:?g} {cs:List Pnt} {kl:List (?g)} {q:List Nat}
theorem DrawnG.corner (D:DrawnG N M pts pcs A o cs kl q) {i:Int} (h:0≤i∧i<pts.length):cAt cs (oAt o i)=A.at (cAt pts i):=by
 obtain ⟨n,rfl⟩:∃ n:Nat,i=n:=⟨i.toNat,?d⟩
 have:=D.at_ n (?d)
 unfold cAt oAt;rw [show ((n:Int)).toNat=n from rfl,n5_ (i:=(o.getD n 0).toNat),this];rfl
theorem DrawnG.piece (D:DrawnG N M pts pcs A o cs kl q) (hn:n<pcs.length):∃ i j k x y z,pcs.getD n []=[i,j,k]∧kl.getD n []=[x,y,z]∧[x,y,z].Perm [oAt o i,oAt o j,oAt o k]∧(x<y∧y<z)∧(0≤i∧i<(pts.length:Int))∧(0≤j∧j<(pts.length:Int))∧(0≤k∧k<(pts.length:Int))∧tn (cAt pts i) (cAt pts j) (cAt pts k)≠0 ∧
 ∀ x:Nat,x<pts.length→(x:Int)∉[i,j,k]→¬ inS (cAt pts i) (cAt pts j) (cAt pts k) (cAt pts x):=by
 have hm:pcs.getD n []∈pcs:=by rw [n5_,n1_ hn];exact n28_ hn
 obtain ⟨i,j,k,e,hi,hj,hk,⟨n1,n2,n3⟩,hd,hs⟩:=Zrg (D.base.pc _ hm);obtain ⟨pm,so⟩:=D.key n hn;rw [e] at pm hs;have l3:(kl.getD n []).length=3:=by rw [pm.length_eq];rfl
 generalize hr:kl.getD n []=r at *
 match r,l3 with
 | [x,y,z],_ =>
   have io:∀ {a b:Int},(0≤a∧a<(pts.length:Int))→(0≤b∧b<(pts.length:Int))→a≠b→oAt o a≠oAt o b:=fun {a b} ha hb ne z=>ne (by
    have:=D.ord.inj a.toNat b.toNat (?d) (?d) z
    omega)
   have nd:[x,y,z].Nodup:=pm.symm.nodup (by simp [io hi hj n1,io hi hk n2,io hj hk n3]);simp only [List.nodup_cons,n13_,n15_,or_false,not_or,List.pairwise_cons] at nd so;have s1:=so.1 y ?f;have s2:=so.2.1 z ?f;exact ⟨i,j,k,x,y,z,e,rfl,pm,⟨?d,?d⟩,hi,hj,hk,hd,hs⟩
theorem DrawnG.knd (D:DrawnG N M pts pcs A o cs kl q):kl.Nodup:=by
 rw [List.nodup_iff_pairwise_ne,n90_];intro i j hi hj lt e;rw [D.klen] at hi hj;obtain ⟨_,x,hx,nx⟩:=D.base.sep i j hi hj (?d);have g:∀ n,(h:n<pcs.length)→kl.getD n []=kl[n]'(by rw [D.klen];exact h):=fun n h=>by rw [n5_,n1_ (by rw [D.klen];exact h)];rfl
 have m1:oAt o x∈kl.getD i []:=(D.key i hi).1.mem_iff.mpr (n25_.mpr ⟨x,hx,rfl⟩);rw [g i hi,e,← g j hj] at m1;obtain ⟨y,hy,ey⟩:=n25_.mp ((D.key j hj).1.mem_iff.mp m1)
 have bdm:∀ n,n<pcs.length→∀ x∈pcs.getD n [],0≤x∧x<(pts.length:Int):=fun n hn x hx=>by
  obtain ⟨i,j,k,_,_,_,e,_,_,_,hi,hj,hk,_⟩:=D.piece hn;rw [e] at hx;simp only [n13_,n15_,or_false] at hx
  rcases hx with rfl|rfl|rfl<;>assumption
 have b1:=bdm i hi x hx;have b2:=bdm j hj y hy
 have:=D.ord.inj y.toNat x.toNat (?d) (?d) ey
 have:x=y:=?d
 exact nx (this ▸ hy)
theorem DrawnG.ok (D:DrawnG N M pts pcs A o cs kl q) {ts:?g} {l m:Int} (rise:(?Q).Pairwise fun a b=>HT.lexLt a b=true) (tl:ts.length=pcs.length) (t9:∀ t∈ts,1≤t∧t≤9) (l9:0≤l∧l≤9) (m9:1≤m∧m≤9) (hN:N≤30) (hM:M≤40) :
 PlOk ⟨cs,?Q,ts,l,m⟩:=by
 have n3:=D.base.n3;have n6:=D.base.n6;have p1:=D.base.p1;have p4:=D.base.p4;have hl:=D.len;have qlen:q.length=pcs.length:=by rw [D.perm.length_eq,n66_]
 have qlt:∀ i∈q,i<pcs.length:=fun i hi=>n42_.mp (D.perm.mem_iff.mp hi);have qnd:q.Nodup:=D.perm.symm.nodup List.nodup_range
 have whence:∀ k:Nat,k<cs.length→∃ j:Nat,j<pts.length∧o.getD j 0=k∧cs[k]? = some (A.at (pts.getD j (0,0))):=fun k hk=>by
  obtain ⟨j,hj,e⟩:=D.ord.sur k (?d)
  have:=D.at_ j hj
  rw [e] at this;exact ⟨j,hj,e,this⟩
 have ptm:∀ j:Nat,j<pts.length→pts.getD j (0,0)∈pts:=fun j hj=>by rw [n5_,n1_ hj];exact n28_ hj
 have pieceOk:∀ n,n<pcs.length→PieceOk cs (kl.getD n []):=fun n hn=>by
  obtain ⟨i,j,k,x,y,z,e,e2,pm,lt,hi,hj,hk,hd,hs⟩:=D.piece hn;rw [e2]
  have bo:∀ a∈[oAt o i,oAt o j,oAt o k],0≤a∧a≤(cs.length:Int)-1:=fun a ha=>by
   simp only [n13_,n15_,or_false] at ha;have b1:=D.ord.bd i.toNat (?d);have b2:=D.ord.bd j.toNat (?d);have b3:=D.ord.bd k.toNat (?d);unfold oAt at ha
   rcases ha with rfl|rfl|rfl<;>omega
  refine ⟨rfl,fun a ha=>bo a (pm.mem_iff.mp ha),lt,?_⟩;refine Zpk pm (fun x y z=>tn (cAt cs x) (cAt cs y) (cAt cs z)≠0) (fun a b c h=>by rw [Zq4];exact h) (fun a b c h=>by rw [Zbs];omega) ?_;rw [D.corner hi,D.corner hj,D.corner hk,A.tn];exact Int.mul_ne_zero D.det hd
 have strange:∀ n,n<pcs.length→∀ j:Nat,j<cs.length→(j:Int)∉kl.getD n []→Zb4 (cs.getD j (0,0)) (trOf cs (kl.getD n []))=false:=fun n hn jj hjj nm=>by
  have ok:=pieceOk n hn;obtain ⟨i,j,k,x,y,z,e,e2,pm,lt,hi,hj,hk,hd,hs⟩:=D.piece hn;rw [e2] at nm ok ⊢;have hne:=ok.d;refine Bool.eq_false_iff.mpr fun h=>?_;have h2:inS (cAt cs x) (cAt cs y) (cAt cs z) (cs.getD jj (0,0)):=(Zla hne).mp h;have h3:inS (cAt cs (oAt o i)) (cAt cs (oAt o j)) (cAt cs (oAt o k)) (cs.getD jj (0,0)):=Zpk pm.symm (fun x y z=>inS (cAt cs x) (cAt cs y) (cAt cs z) (cs.getD jj (0,0))) (fun a b c h=>Ztv h) (fun a b c h=>Zv4 h) h2;obtain ⟨j0,hj0,ej,ec⟩:=whence jj hjj;rw [D.corner hi,D.corner hj,D.corner hk,n5_,ec] at h3;have h4:=(A.inS D.det).mp h3;refine hs j0 hj0 (fun z=>nm (pm.mem_iff.mpr ?_)) (by unfold cAt at h4 ⊢;exact h4)
  have:oAt o (j0:Int)=jj:=ej
  rw [← this];have m2:oAt o (j0:Int)∈[i,j,k].map (oAt o):=n25_.mpr ⟨_,z,rfl⟩;exact m2
 refine ⟨by show 3≤cs.length;omega,by show cs.length≤30;omega,fun p hp=>?_,?_,by simp;omega,by simp;omega,fun p hp=>?_,fun i hi=>?_,by simp [tl,qlen],t9,l9,m9,?_,fun p hp=>?_,fun i j hij hj=>?_⟩
 · obtain ⟨k,hk,e⟩:=n52_ (show p∈cs from hp);obtain ⟨j,hj,_,ec⟩:=whence k hk;rw [n1_ hk,e] at ec;cases ec
   exact D.nr _ (ptm j hj)
 · show cs.Nodup
   rw [List.nodup_iff_pairwise_ne,n90_];intro k1 k2 h1 h2 lt e;obtain ⟨j1,hj1,e1,c1⟩:=whence k1 h1;obtain ⟨j2,hj2,e2,c2⟩:=whence k2 h2;rw [n1_ h1,e] at c1;rw [n1_ h2] at c2;rw [c1] at c2
   have:=A.inj D.det (Option.some.inj c2)
   have gd:∀ j,(h:j<pts.length)→pts.getD j (0,0)=pts[j]:=fun j h=>by rw [n5_,n1_ h];rfl
   rw [gd j1 hj1,gd j2 hj2] at this;have e3:=(List.getElem_inj D.base.nd).mp this;subst e3;omega
 · obtain ⟨n,hn,rfl⟩:=n25_.mp (show p∈q.map _ from hp);exact pieceOk n (qlt n hn)
 · have hi':i+1<(?Q).length:=hi
   have:=n90_.mp rise i (i+1) (?d) hi' (?d)
   show HT.lexLt ((?Q).getD i []) ((?Q).getD (i+1) [])=true
   rw [n5_,n5_,n1_ (?d),n1_ hi'];exact this
 · show cntS (?Q).flatten=cs.length
   refine Zl8 _ (fun x hx=>?_) (fun k hk=>?_)
   · obtain ⟨r,hr,hxr⟩:=List.mem_flatten.mp hx;obtain ⟨n,hn,rfl⟩:=n25_.mp hr
     have:=(pieceOk n (qlt n hn)).bd x hxr
     omega
   · obtain ⟨j,hj,e⟩:=D.ord.sur k (?d);obtain ⟨p,hp,hjp⟩:=D.base.us j hj;obtain ⟨n,hn,rfl⟩:=n52_ hp;have g:pcs.getD n []=pcs[n]:=by rw [n5_,n1_ hn];rfl
     refine List.mem_flatten.mpr ⟨kl.getD n [],n25_.mpr ⟨n,D.perm.mem_iff.mpr (n42_.mpr hn),rfl⟩,(D.key n hn).1.mem_iff.mpr ?_⟩;rw [g,← e];exact n25_.mpr ⟨_,hjp,rfl⟩
 · obtain ⟨n,hn,rfl⟩:=n25_.mp (show p∈q.map _ from hp);exact strange n (qlt n hn)
 · have hj':j<(?Q).length:=hj;have hjq:j<q.length:=by simpa using hj'
   have hiq:i<q.length:=?d
   show apart (trOf cs ((?Q).getD j [])) (trOf cs ((?Q).getD i []))=true
   have gq:∀ i,(h:i<q.length)→(?Q).getD i []=kl.getD q[i] []:=fun i h=>by
    rw [n5_,n4_,n1_ h];rfl
   rw [gq j hjq,gq i hiq];have h1:=qlt q[j] (n28_ _);have h2:=qlt q[i] (n28_ _);have ne:q[j]≠q[i]:=fun z=>by have:=(List.getElem_inj qnd).mp z;omega
   generalize q[j]=n1 at *;generalize q[i]=n2 at *;have sb:=(D.base.sep n1 n2 h1 h2 ne).1;have ok1:=pieceOk n1 h1;have ok2:=pieceOk n2 h2;obtain ⟨i1,j1,k1,x1,y1,z1,e1,f1,pm1,lt1,hi1,hj1,hk1,hd1,hs1⟩:=D.piece h1;obtain ⟨i2,j2,k2,x2,y2,z2,e2,f2,pm2,lt2,hi2,hj2,hk2,hd2,hs2⟩:=D.piece h2;rw [f1] at ok1 ⊢;rw [f2] at ok2 ⊢;rw [e1,e2] at sb;unfold sepB at sb;simp only [Bool.or_eq_true,decide_eq_true_eq] at sb
   have tr:∀ {i1 j1 k1 x1 y1 z1 i2 j2 k2 x2 y2 z2:Int},[x1,y1,z1].Perm [oAt o i1,oAt o j1,oAt o k1]→[x2,y2,z2].Perm [oAt o i2,oAt o j2,oAt o k2]→(0≤i1∧i1<(pts.length:Int))→(0≤j1∧j1<(pts.length:Int))→(0≤k1∧k1<(pts.length:Int))→(0≤i2∧i2<(pts.length:Int))→(0≤j2∧j2<(pts.length:Int))→(0≤k2∧k2<(pts.length:Int)) →
    sepS (cAt pts i1) (cAt pts j1) (cAt pts k1) (cAt pts i2) (cAt pts j2) (cAt pts k2)→sepS (cAt cs x1) (cAt cs y1) (cAt cs z1) (cAt cs x2) (cAt cs y2) (cAt cs z2):=by
    intro i1 j1 k1 x1 y1 z1 i2 j2 k2 x2 y2 z2 pm1 pm2 a1 a2 a3 b1 b2 b3 h;refine Zpk pm1 (fun x y z=>sepS (cAt cs x) (cAt cs y) (cAt cs z) (cAt cs x2) (cAt cs y2) (cAt cs z2)) (fun a b c h=>Zsu h) (fun a b c h=>Zub h) ?_;refine Zpk pm2 (fun x y z=>sepS (cAt cs (oAt o i1)) (cAt cs (oAt o j1)) (cAt cs (oAt o k1)) (cAt cs x) (cAt cs y) (cAt cs z)) (fun a b c h=>Zqb h) (fun a b c h=>Zsg h) ?_;rw [D.corner a1,D.corner a2,D.corner a3,D.corner b1,D.corner b2,D.corner b3];exact (A.sep D.det).mpr h
   unfold apart;rw [Bool.or_eq_true]
   rcases sb with sb|sb
   · exact .inl (Zcq ok1.d (tr pm1 pm2 hi1 hj1 hk1 hi2 hj2 hk2 sb))
   · exact .inr (Zcq ok2.d (tr pm2 pm1 hi2 hj2 hk2 hi1 hj1 hk1 sb))
theorem Drawn.ok (D:Drawn pts pcs A o cs kl q) {ts:?g} {l m:Int} (rise:(?Q).Pairwise fun a b=>HT.lexLt a b=true) (tl:ts.length=pcs.length) (t9:∀ t∈ts,1≤t∧t≤9) (l9:0≤l∧l≤9) (m9:1≤m∧m≤9) :
 PlOk ⟨cs,?Q,ts,l,m⟩:=D.toDrawnG.ok rise tl t9 l9 m9 ?e ?e
end
def Zdn:List (List Pnt×List (?g)) :=
 [([(0,0),(2,0),(0,3)],[[0,1,2]]),
  ([(0,0),(3,0),(3,2),(0,2)],[[0,1,2],[0,2,3]]),
  ([(0,0),(2,1),(2,-1),(-2,1),(-3,-1)],[[0,1,2],[0,3,4]]),
  ([(0,0),(2,0),(0,2),(4,0),(6,1),(4,3)],[[0,1,2],[3,4,5]]),
  ([(0,0),(6,0),(0,6),(2,1)],[[0,1,3],[0,2,3],[1,2,3]]),
  ([(0,0),(0,2),(2,0),(3,2),(5,0)],[[0,1,2],[1,2,3],[2,3,4]]),
  ([(0,0),(1,2),(2,0),(3,2),(4,0),(5,3)],[[0,1,2],[2,3,4],[3,4,5]]),
  ([(0,0),(2,0),(0,3),(-2,0),(0,-1)],[[0,1,2],[0,2,3],[0,3,4],[0,1,4]])]
theorem Znj:Zdn.all (fun s=>Ztx 6 4 s.1 s.2&&s.1.all fun p=>decide (p.1.natAbs≤6∧p.2.natAbs≤6))=true:=?i
theorem Zl2 {s:List Pnt×List (?g)} (h:s∈Zdn):Base s.1 s.2:=by
 have:=n49_.mp Znj s h
 rw [n35_] at this;exact ⟨Zd3 this.1,fun p hp=>n48_ (n49_.mp this.2 p hp)⟩
theorem PE.weak {t t':TE} (h:PE X e t) (w:∀ σ H Q,t' σ H Q→t σ H Q):PE X e t':=fun pins s σ H Q I q=>h pins s σ H Q I (w σ H Q q)
theorem PA.weak {es:List Expr} {t t':TA} (h:PA X es t) (w:∀ σ H Q,t' σ H Q→t σ H Q):PA X es t':=fun pos pins s σ H Q I q=>h pos pins s σ H Q I (w σ H Q q)
theorem nS {x:α} {P:Prop} (h:(none:Option α)=some x):P:=by cases h
def tupE:Expr→Option (List Expr)
 | .Tuple es _ _=>some es
 | _=>none
theorem Zjv {es:List Expr} (h:tupE e=some es):∃ c p,e=.Tuple es c p:=by
 cases e with
 | Tuple es' c p=>cases h;exact ⟨_,_,rfl⟩
 | _=>exact nS h
def cI:Const→Option Int
 | .int i=>some i
 | _=>none
def cE:Expr→Option Const
 | .Constant c _ _=>some c
 | _=>none
theorem Zuw {i:Int} (h:(cE e).bind cI=some i):∃ k p,e=.Constant (.int i) k p:=by
 cases e with
 | Constant c k p =>
   cases c with
   | int j=>cases h;exact ⟨_,_,rfl⟩
   | _=>exact nS h
 | _=>exact nS h
def negE:Expr→Option Expr
 | .UnaryOp o e _=>if o=.USub then some e else none
 | _=>none
theorem Zs3 {e':Expr} (h:negE e=some e'):∃ p,e=.UnaryOp .USub e' p:=by
 cases e with
 | UnaryOp o e p =>
   by_cases c:o=.USub
   · subst c;cases h;exact ⟨_,rfl⟩
   · rw [negE,if_neg c] at h;cases h
 | _=>exact nS h
def Zsy (e:Expr):Option Int:=((cE e).bind cI).orElse fun _=>((negE e).bind fun x=>(cE x).bind cI).map fun i=>-i
theorem Zsd {i:Int} (h:Zsy e=some i):PE X e (fun _ H Q=>Q (.int i) H)∧∀ es env,starEach (e :: es) env=(false,eval e env) :: starEach es env:=by
 unfold Zsy at h;cases h1:(cE e).bind cI with
 | some j =>
   rw [h1] at h;cases h
   obtain ⟨k,p,rfl⟩:=Zuw h1;exact ⟨Ze,?j⟩
 | none =>
   rw [h1] at h;obtain ⟨j,h2,rfl⟩:=n12_.mp (show _=some i from h);obtain ⟨x,h3,h4⟩:=n67_.mp h2;obtain ⟨p,rfl⟩:=Zs3 h3;obtain ⟨k,q,rfl⟩:=Zuw h4;exact ⟨PE.weak (Zsj Zn8 Ze) fun σ H Q q=>⟨_,rfl,q⟩,?j⟩
def Ziq {α:Type} (f:Expr→Option α):List Expr→Option (List α)
 | []=>some []
 | e :: es=>(f e).bind fun i=>(Ziq f es).map (i :: ·)
theorem Zab {f:Expr→Option α} {es:List Expr} {is:List α} (h:Ziq f (e :: es)=some is):∃ i js,is=i :: js∧f e=some i∧Ziq f es=some js:=by
 obtain ⟨i,h1,h2⟩:=n67_.mp (show ((f e).bind fun i=>(Ziq f es).map (i :: ·))=some is from h);obtain ⟨js,h3,rfl⟩:=n12_.mp h2;exact ⟨i,js,rfl,h1,h3⟩
def few {α:Type} (l:List α):Option (List α):=if l.length≤1000 then some l else none
theorem Zqz {l m:List α} (h:few l=some m):l=m∧m.length≤1000:=by
 by_cases c:l.length≤1000
 · rw [few,if_pos c] at h;cases h;exact ⟨rfl,c⟩
 · rw [few,if_neg c] at h;cases h
abbrev Zq1:List Expr→Option (?g):=Ziq Zsy
theorem Zqo (es:List Expr) (is:?g) (h:Zq1 es=some is):PA X es (fun _ H Q=>Q (is.map V.int) H):=by
 induction es generalizing is with
 | nil=>cases h;exact PA.weak Zb fun σ H Q q=>q
 | cons e es ih =>
   obtain ⟨i,js,rfl,h1,h2⟩:=Zab h;obtain ⟨p1,p2⟩:=Zsd (X:=X) h1;exact PA.weak (Za p1 (ih js h2) (p2 _ _)) fun σ H Q q=>q
def Zvp (e:Expr):Option (?g):=(tupE e).bind fun es=>(Zq1 es).bind few
theorem Zr4 {is:?g} (h:Zvp e=some is):PE X e (fun _ H Q=>∀ H' v,?E→IsI H' v is→Q v H')∧∀ es env,starEach (e :: es) env=(false,eval e env) :: starEach es env:=by
 obtain ⟨es,h1,h2⟩:=n67_.mp h;obtain ⟨c,p,rfl⟩:=Zjv h1;obtain ⟨l,h3,h4⟩:=n67_.mp h2;obtain ⟨rfl,hz⟩:=Zqz h4;exact ⟨PE.weak (Zv (Zqo _ _ h3)) fun σ H Q q=>⟨by rw [n7_,sizeLine_eq];omega,fun p np=>q _ _ (Same.new np) ⟨p,rfl,Zc⟩⟩,?j⟩
abbrev Zqv:List Expr→Option (List (?g)):=Ziq Zvp
theorem Zo6 (es:List Expr) (is:List (?g)) (h:Zqv es=some is):PA X es (fun _ H Q=>∀ H' vs,?E→Al (IsI H') vs is→Q vs H'):=by
 induction es generalizing is with
 | nil=>cases h;exact PA.weak Zb fun σ H Q q=>q _ _ (Same.refl _) .nil
 | cons e es ih =>
   obtain ⟨i,js,rfl,h1,h2⟩:=Zab h;obtain ⟨p1,p2⟩:=Zr4 (X:=X) h1;exact PA.weak (Za p1 (ih js h2) (p2 _ _)) fun σ H Q q H1 v s1 i1 H2 vs s2 i2=>q _ _ (s1.trans s2) (.cons (i1.tk s2.tk) i2)
def Zuh (e:Expr):Option (List (?g)):=(tupE e).bind fun es=>(Zqv es).bind few
theorem Zmq {is:List (?g)} (h:Zuh e=some is):PE X e (fun _ H Q=>∀ H' v,?E→IsPs H' v is→Q v H')∧∀ es env,starEach (e :: es) env=(false,eval e env) :: starEach es env:=by
 obtain ⟨es,h1,h2⟩:=n67_.mp h;obtain ⟨c,p,rfl⟩:=Zjv h1;obtain ⟨l,h3,h4⟩:=n67_.mp h2;obtain ⟨rfl,hz⟩:=Zqz h4;refine ⟨PE.weak (Zv (Zo6 _ _ h3)) fun σ H Q q H1 vs s1 a1=>⟨by rw [a1.1,sizeLine_eq];omega,fun p np=>?_⟩,?j⟩;have s2:Same H1 (upd H1 p (.tup vs)):=Same.new np;exact q _ _ (s1.trans s2) ⟨p,vs,rfl,Zc,a1.imp fun v x r=>r.tk s2.tk⟩
inductive BxIsSh (H:Hp) (v:V) (s:List Pnt×List (?g)):Prop
 | mk (a:_) (c:_) (p:_) (q1:v=.ref a) (q2:H a=some (.tup [c,p])) (q3:IsCs H c s.1) (q4:IsPs H p s.2):BxIsSh H v s
def IsSh (H:Hp) (v:V) (s:List Pnt×List (?g)):Prop:=BxIsSh H v s
theorem IsSh.tk {s:List Pnt×List (?g)} (t:Tk H H') (h:IsSh H v s):IsSh H' v s:=let ⟨a,c,p,e,h1,h2,h3⟩:=h;⟨a,c,p,e,t _ _ h1,h2.tk t,h3.tk t⟩
def shOf (e:Expr):Option (List (List (?g))):=(tupE e).bind (Ziq Zuh)
theorem Zpi {cs:List Pnt} (h:IsPs H v (cs.map fun p=>[p.1,p.2])):IsCs H v cs:=by
 obtain ⟨a,vs,e,q,al⟩:=h;refine ⟨a,vs,e,q,by rw [al.1,n7_],fun i w p e1 e2=>?_⟩;exact al.2 i w _ e1 (by rw [n4_,e2];rfl)
theorem X2 {X:Cx} {e:Expr} {s:List Pnt×List (?g)} (h:shOf e=some [s.1.map (fun p=>[p.1,p.2]),s.2]):PE X e (fun _ H Q=>∀ H' v,?E→IsSh H' v s→Q v H'):=by
 obtain ⟨es,h1,h2⟩:=n67_.mp h;obtain ⟨c,p,rfl⟩:=Zjv h1;cases es with
 | nil=>cases h2
 | cons a es =>
   obtain ⟨_,_,e1,h3,h4⟩:=Zab h2;cases e1
   cases es with
   | nil=>cases h4
   | cons b es =>
     obtain ⟨_,_,e1,h5,h6⟩:=Zab h4;cases e1
     cases es with
     | cons c es=>obtain ⟨_,_,e1,_⟩:=Zab h6;cases e1
     | nil =>
       obtain ⟨p1,s1⟩:=Zmq (X:=X) h3;obtain ⟨p2,s2⟩:=Zmq (X:=X) h5;refine PE.weak (Zv (Za p1 (Za p2 Zb (s2 _ _)) (s1 _ _))) fun σ H Q q H1 v s1 i1 H2 w s2 i2=>⟨z2_,fun p np=>?_⟩;have s3:Same H2 (upd H2 p (.tup [v,w])):=Same.new np;exact q _ _ (s1.trans (s2.trans s3)) ⟨p,v,w,rfl,Zc,Zpi (i1.tk (s2.trans s3).tk),i2.tk s3.tk⟩
theorem Zvq {c:TT} {ta tb rest:TS} {D:Ends} (R:St→?y) (h:c σ H fun k H1=>if k=true then ta { D with nx:=R } σ H1 else tb { D with nx:=R } σ H1)
 (mc:∀ Q Q':Bool→?y,(∀ b H1,Q b H1→Q' b H1)→c σ H Q→c σ H Q') (ma:(∀ σ H,R σ H→rest D σ H)→∀ H1,ta { D with nx:=R } σ H1→ta { D with nx:=rest D } σ H1) (mb:(∀ σ H,R σ H→rest D σ H)→∀ H1,tb { D with nx:=R } σ H1→tb { D with nx:=rest D } σ H1)
 (key:∀ σ H,R σ H→rest D σ H):tSeq (tIfS c ta tb) rest D σ H:=mc _ _ (fun b H1 q=>by
 cases b with
 | true=>exact ma key H1 q
 | false=>exact mb key H1 q) h
theorem lc_R {Q:VK} (R:Hp→V→α→Prop) (hR:∀ H1 H2 v x,Tk H1 H2→R H1 v x→R H2 v x) (ys:List α) (hn:ys.length=n) (hz:n≤1000) (hD:H D=none)
 (hs:∀ (i:Nat) (H2:Hp) (C:V→?y),i<n→Same H H2→(∀ y H5 z,Same H2 H5→ys[i]? = some z→R H5 y z→C y H5)→te (some (.int (0+i)) :: rest) H2 C)
 (hd:∀ H2 us,Same H H2→H2 D=some (.lst us)→Al (R H2) us ys→Q (.ref D) H2):LcGo (Itr 0 n) (Ye 0) tYes te (u0 :: rest) H D Q:=by
 refine Zky R hR ys hn hz (fun σ=>∃ u,σ=u :: rest) ⟨_,rfl⟩ hD (fun i H2 s hi=>hi) (fun H2 s=>n11_ _) (fun i x σ2 H2 H3 C hi s y o c=>?_) hd;obtain ⟨u,rfl⟩:=o;obtain ⟨rfl,rfl⟩:=y;exact hs i H3 (C _) hi s fun y H5 z s5 ez rz=>c _ y H5 z ⟨_,rfl⟩ s5 ez rz
open AutoSeq1 (wpAny_loadPart')
theorem Zax:fillsNumberSlot (?G) "mul" = pure false :=
 PySem.fillsNumberSlot_seq (id := "tuple.__mul__") (r:=some (.builtin "tuple.__rmul__")) F.slot_tuple_mul.lookup (?i) F.slot_tuple_rmul.lookup (?i)
theorem Zcy:seqRepeat? (?G)=pure (some (.builtin "tuple.__mul__")):=by
 unfold seqRepeat?;rw [PySem.seqSlot_of (T := "tuple") (name := "__mul__") (id := "tuple.__mul__") F.slot_tuple_mul.lookup (?i),PySem.seqSlot_of (T := "tuple") (name := "__rmul__") (id := "tuple.__rmul__") F.slot_tuple_rmul.lookup (?i)];rfl
theorem Zbk (a:Int) (t:Tok) (l:Addr) (items:?H) (n:Nat) (dd:Option Addr) (sl:Array (?D)) :
 Meets (Builtin.«int.__rmul__» ⟨[.int a t,.ref l],[]⟩) (fun _ R s=>s.heap.get? l=some { cls:=?G,dict:=dd,data:=.seq items n,slots:=sl }∧R (.ok (.ret Value.notImplemented)) s) :=
 .of_wp fun prog w A R s h=>by obtain ⟨hp,g,d,tk,os⟩:=s;obtain ⟨hl,h⟩:=h;wp_walk;exact ⟨_,rfl,h⟩
theorem Zlp (l:Addr) (items:?H) (n:Nat) (dd:Option Addr) (sl:Array (?D)) (x:Int) (u:Tok) (h2:2≤x) (h3:x≤1000) (he:items.isEmpty=false) (hz:items.size≤1000) :
 Meets (Builtin.«tuple.__mul__» ⟨[.ref l,.int x u],[]⟩) (fun _ R s=>s.heap.get? l=some { cls:=?G,dict:=dd,data:=.seq items n,slots:=sl }∧R (.ok (.ret (Value.ref s.z))) { s with heap:=s.heap.push { cls:=Value.type "tuple",data:=Data.seq ((List.replicate x.toNat items).foldl (·++·) #[]) },toks:=s.toks }) :=
 .of_wp fun prog w A R s h=>by
  obtain ⟨hp,g,d,tk,os⟩:=s;obtain ⟨hl,h⟩:=h;have f1:=AutoSeq1.idx_int;have f2:=AutoSeq1.sub_tuple_tuple;have f3:=AutoSeq1.sub_list_list;have f4:=AutoSeq1.sub_tuple_list;have f5:=AutoSeq1.sub_list_tuple
  have hm:((items.size:Nat):Int)*x≤1000*1000:=by
   have h4:((items.size:Nat):Int)≤1000:=?d
   exact Int.mul_le_mul h4 h3 (?d) (?d)
  have hc0:(decide (x < -2^63)||decide (x ≥ 2^63))=false:=by
   rw [n29_ (?d),n29_ (?d)];decide
  have hc1:(items.isEmpty||x == 1)=false:=by
   rw [he,beq_false_of_ne (?d)];decide
  have hc2:(decide (x≤0)||items.isEmpty)=false:=by
   rw [he,n29_ (?d)];decide
  have hc3:¬ ((items.size:Nat):Int)*x>(2^63-1)/8:=by
   have:(1000*1000:Int)≤(2^63-1)/8:=?t
   omega
  have sl1:(1000*1000:Nat)≤sizeLine:=?t
  have hc4:Builtin.Tuple.tupleTooMany (((items.size:Nat):Int)*x)=false:=by
   unfold Builtin.Tuple.tupleTooMany;rw [n29_ (?d)]
  have hsz:(List.foldl (fun x1 x2=>x1++x2) #[] (List.replicate x.toNat items)).size≤sizeLine:=by
   obtain ⟨its⟩:=items;have f0:=Zby its x.toNat [];rw [n59_] at f0;have f1:List.foldl (fun x1 x2=>x1++x2) #[] (List.replicate x.toNat its.toArray)=(List.replicate x.toNat its).flatten.toArray:=f0;rw [f1,n16_,Zi3];have h5:x.toNat≤1000:=?d
   have h6:its.length≤1000:=by simpa using hz
   exact n36_ (n57_ h5 h6) sl1
  wp_walk using wpAny_loadPart' hl
  refine wpAny_ite_false (by rw [hc0];rfl) ?_
  wp_walk using wpAny_loadPart' hl
  refine wpAny_ite_false (by rw [hc1];rfl) ?_
  wp_walk using wpAny_loadPart' hl
  refine wpAny_ite_false (by rw [hc2];rfl) ?_
  wp_walk using wpAny_loadPart' hl
  refine wpAny_ite_false (n29_ hc3) ?_
  wp_walk using wpAny_loadPart' hl
  first|exact ⟨_,rfl,h⟩|(refine wpAny_ite_false (n29_ (Nat.not_lt.mpr hsz)) ?_;wp_walk;exact ⟨_,rfl,h⟩)
section
variable {X:Cx}
inductive BxRRepT (x y:V) (H:Hp) (Q:VK):Prop
 | mk (l:_) (k:_) (xs:_) (q1:x=.ref l) (q2:y=.int k) (q3:H l=some (.tup xs)) (q4:2≤k) (q5:k≤1000) (q6:xs≠[]) (q7:xs.length≤1000) (q8:∀ p H',?E→H' p=some (.tup (List.replicate k.toNat xs).flatten)→Q (.ref p) H'):BxRRepT x y H Q
def Zwq:R2:=fun x y H Q=>BxRRepT x y H Q
theorem Ztb:OpR X (binaryOp .Mult) Zwq:=by
 intro pins s σ H x y v u Q I rx ry h;obtain ⟨l,k,xs,rfl,rfl,hH,h2,h3,hne,hz,q⟩:=h;cases rx
 obtain ⟨t,rfl⟩:=ry;obtain ⟨its,r,p,hzz⟩:=I.tuple (SqT.of hH);obtain ⟨⟨cls,dd,data,sl⟩,ho,hc,n,hd⟩:=id p;simp only at hc hd;subst hc hd;have hl:=r.length
 have he:its.toArray.isEmpty=false:=by
  cases its with
  | nil=>exact absurd (List.length_eq_zero_iff.mp hl) hne
  | cons a b=>rfl
 refine wpAny_binaryOp_repeat_ref (T := "tuple") (U := "int") ?e ⟨_,ho,rfl⟩ (fun s'=>typeIs_int s' k t) Zax F.fills_int_mul F.slot_int_rmul Zcy F.slot_int_index.lookup
  (call_meets F.slot_int_rmul (typeIs_int s k t) F.entry_int_rmul (F.args_int_rmul_2 _ _) (Zbk k t l its.toArray n dd sl)
    ⟨ho,rfl,⟨_,ho,rfl⟩,call_meets F.slot_tuple_mul ⟨_,ho,rfl⟩ F.entry_tuple_mul (F.args_tuple_mul_2 _ _) (Zlp l its.toArray n dd sl k t h2 h3 he (by rw [n16_,← hl];exact hz)) ⟨ho,?_⟩⟩)
 have f0:=Zby its k.toNat [];rw [n59_] at f0;have f1:List.foldl (fun x1 x2=>x1++x2) #[] (List.replicate k.toNat its.toArray)=(List.replicate k.toNat its).flatten.toArray:=f0;rw [f1]
 have hz2:(List.replicate k.toNat xs).flatten.length≤sizeLine:=by
  rw [Zi3];have sl1:(1000*1000:Nat)≤sizeLine:=?t
  exact n36_ (n57_ (show k.toNat≤1000 by omega) hz) sl1
 exact ⟨.ref _,_,I.laid (t':=s.toks) (o:=.tup (List.replicate k.toNat xs).flatten) (fun b ob q=>n2_ _ q) (n11_ _) ⟨hz2,_,r.rep k.toNat,IsTupN.new _ _⟩,rfl,q _ _ (Same.new I.fresh) Zc⟩
end
theorem lc_F {k:SK} {K:PySem.W.Frag} {Q:VK} (R:Hp→V→α→Prop) (hR:∀ H1 H2 v x,Tk H1 H2→R H1 v x→R H2 v x) (f:Nat→Option α) (hz:vs.length≤1000) (hD:H D=none) (ha:k.At H a vs)
 (hs:∀ (i:Nat) (w:V) (H2:Hp) (C:V→?y) (N:?y),vs[i]? = some w→Same H H2→(∀ y H5 z,Same H2 H5→f i=some z→R H5 y z→C y H5)→(∀ H5,Same H2 H5→f i=none→N H5)→tt (some w :: rest) H2 fun b H5=>if b=true then te (some w :: rest) H5 C else N H5)
 (hd:∀ H2 us,Same H H2→H2 D=some (.lst us)→Al (R H2) us ((List.range vs.length).filterMap f)→Q (.ref D) H2):LcGo (k.Itk K a) (Ye 0) tt te (u0 :: rest) H D Q:=by
 refine Zh5 (n:=vs.length) (fun i σ H2=>Same H H2∧(∃ u,σ=u :: rest)∧∃ us,H2 D=some (.lst us)∧us.length≤i∧Al (R H2) us ((List.range i).filterMap f)) ⟨Same.new hD,⟨_,rfl⟩,[],Zc,n11_ _,.nil⟩ (fun i σ H2 hi p=>Zns (ha.same p.1) hi) (fun σ H2 p=>Zgm (ha.same p.1) (n11_ _)) (fun i x σ2 H2 H3 hi y p=>?_) (fun σ2 H2 p=>?_)
 · obtain ⟨s2,⟨u,rfl⟩,us,e2,l2,a2⟩:=p;obtain ⟨rfl,ex⟩:=Zjp (ha.same s2) y
   have rg:(List.range (i+1)).filterMap f=(List.range i).filterMap f++(f i).toList:=by
    rw [List.range_succ,List.filterMap_append];cases h:f i<;>simp [h]
   show tt (some x :: rest) H3 _
   refine hs i x H3 _ _ ex s2 (fun y H5 z s5 ef r=>?_) (fun H5 s5 ef=>?_)
   · have sD:∀ us',Tk H5 (upd H5 D (.lst us')):=fun us'=>Tk.upd_lst (s5 _ _ e2);refine ⟨us,s5 _ _ e2,by rw [sizeLine_eq];omega,_,n9_ (Nat.sub_succ_lt_self _ _ hi) (n11_ _),hi,rfl,fun b o e=>?_,⟨_,rfl⟩,_,Zc,by simp;omega,?_⟩
     · rw [Zk (Zm e hD)];exact s5 _ _ (s2 _ _ e)
     · rw [rg,ef];exact (a2.imp fun v x r=>hR _ _ v x (s5.tk.trans (sD _)) r).snoc (hR _ _ _ _ (sD _) r)
   · refine ⟨_,n9_ (Nat.sub_succ_lt_self _ _ hi) (n11_ _),hi,rfl,s2.trans s5,⟨_,rfl⟩,us,s5 _ _ e2,?d,?_⟩;rw [rg,ef]
     simpa using a2.imp fun v x r=>hR _ _ v x s5.tk r
 · obtain ⟨s2,⟨u,rfl⟩,us,e2,l2,a2⟩:=p;exact hd H2 us s2 e2 a2
section
variable {κ:Type} [DecidableEq κ]
def valV (kvs:List (κ×V)) (k:κ):Option V:=(kvs.find? fun kv=>decide (kv.1=k)).map (·.2)
def putK (kvs:List (κ×V)) (k:κ) (v:V):List (κ×V) :=
 if (kvs.any fun kv=>decide (kv.1=k))=true then kvs.map (fun kv=>if kv.1=k then (kv.1,v) else kv) else kvs++[(k,v)]
theorem Zgt {p:κ×V} {r:List (κ×V)} {k:κ} (e:p.1=k):valV (p :: r) k=some p.2:=by simp [valV,List.find?_cons,e]
theorem Zfu {p:κ×V} {r:List (κ×V)} {k:κ} (e:¬ p.1=k):valV (p :: r) k=valV r k:=by simp [valV,List.find?_cons,e]
theorem Zkz (k:κ):∀ kvs:List (κ×V),(kvs.any fun kv=>decide (kv.1=k))=(valV kvs k).isSome
 | []=>rfl
 | p :: r=>by
   rw [List.any_cons]
   by_cases e:p.1=k
   · simp only [Zgt e,n44_ e,Bool.true_or,Option.isSome_some]
   · rw [Zfu e,n29_ e,Bool.false_or];exact Zkz k r
theorem Zea (kvs:List (κ×V)) (k:κ) (v:V):(putK kvs k v).length≤kvs.length+1:=by
 unfold putK;split
 · rw [n7_];omega
 · rw [n30_,n21_,List.length_nil];omega
theorem RelO.isSome_eq {o:Option V} {u:?D} (r:RelO o u):o.isSome=u.isSome:=by
 cases o with
 | none=>cases u with
   | none=>rfl
   | some _=>exact (show False from r).elim
 | some _=>cases u with
   | none=>exact (show False from r).elim
   | some _=>rfl
theorem KV.val {kvs:List (κ×V)} {vs:List (κ×Value)} (r:KV kvs vs) (k:κ):RelO (valV kvs k) (valueAt vs k):=by
 unfold KV at r
 induction r with
 | nil=>exact True.intro
 | @cons p q ps qs h t ih =>
   obtain ⟨h1,h2⟩:=h
   by_cases e:p.1=k
   · have e':q.1=k:=h1.symm.trans e;have b:valueAt (q :: qs) k=some q.2:=by simp [valueAt,List.find?_cons,e']
     rw [Zgt e,b];exact h2
   · have e':¬ q.1=k:=fun z=>e (h1.trans z);have b:valueAt (q :: qs) k=valueAt qs k:=by simp [valueAt,List.find?_cons,e']
     rw [Zfu e,b];exact ih
end
theorem Zto {k:Key} (r:RelV (kV k) u):(Y5 P w).is k u=true:=by
 cases k with
 | inl i=>obtain ⟨t,e⟩:=(show ∃ t,u=Value.int i t from r);subst e;exact Zjl P w i t
 | inr x=>obtain ⟨t,e⟩:=(show ∃ t,u=Value.str x t from r);subst e;exact Zjz P w x t
theorem Zhu:∀ {ks:List Key} {us:?q},Vals (ks.map kV) us→ItemsAre (Y5 P w) ks us
 | [],_,r=>by rw [n64_] at r;cases r;exact .nil
 | k :: ks,_,r=>by
   rw [n38_] at r;cases r with
   | cons h t=>exact .cons (Zto h) (Zhu t)
abbrev KT (H:Hp):List (List Key×V)→List (List Key×Addr×Value)→Prop:=Paired fun p q=>p.1=q.1∧H q.2.1=some (.tup (p.1.map kV))∧RelV p.2 q.2.2
theorem KT.val {xs:List (List Key×Addr×Value)} (r:KT H kvs xs) (k:List Key):RelO (valV kvs k) ((atKey xs k).map (·.2)):=by
 induction r with
 | nil=>exact True.intro
 | @cons p q ps qs h t ih =>
   obtain ⟨h1,_,h2⟩:=h
   by_cases e:p.1=k
   · have e':q.1=k:=h1.symm.trans e;have b:atKey (q :: qs) k=some q.2:=by simp [atKey,List.find?_cons,e']
     rw [Zgt e,b];exact h2
   · have e':¬ q.1=k:=fun z=>e (h1.trans z);have b:atKey (q :: qs) k=atKey qs k:=by simp [atKey,List.find?_cons,e']
     rw [Zfu e,b];exact ih
theorem KT.repl {xs:List (List Key×Addr×Value)} (r:KT H kvs xs) (k:List Key) (ry:RelV y u) :
 KT H (kvs.map fun kv=>if kv.1=k then (kv.1,y) else kv) (xs.map (putAt k u)):=by
 induction r with
 | nil=>exact .nil
 | @cons p q ps qs h t ih =>
   rw [n38_,n38_];refine .cons ?_ ih;obtain ⟨h1,h2,h3⟩:=h;unfold putAt
   by_cases e:p.1=k
   · rw [if_pos e,if_pos (h1.symm.trans e)];exact ⟨h1,h2,ry⟩
   · rw [if_neg e,if_neg (fun z=>e (h1.trans z))];exact ⟨h1,h2,h3⟩
theorem KT.put {xs:List (List Key×Addr×Value)} (r:KT H kvs xs) (k:List Key) (hb:H b=some (.tup (k.map kV))) (ry:RelV y u) :
 KT H (putK kvs k y) (storedH xs k b u):=by
 have e:(kvs.any fun kv=>decide (kv.1=k))=(atKey xs k).isSome:=by
  rw [Zkz,(r.val k).isSome_eq,Option.isSome_map]
 unfold putK storedH;rw [e]
 by_cases q:(atKey xs k).isSome=true
 · rw [if_pos q,if_pos q];exact r.repl k ry
 · rw [if_neg q,if_neg q];exact Paired.snoc r ⟨rfl,hb,ry⟩
theorem KT.keeps {xs:List (List Key×Addr×Value)} (r:KT H kvs xs) (ht:∀ b ys,H b=some (.tup ys)→H' b=some (.tup ys)):KT H' kvs xs :=
 Paired.mapP r fun _ _ z=>⟨z.1,ht _ _ z.2.1,z.2.2⟩
section
variable {P:Program} {w:World} {H:Hp} {h:Heap} {a:Addr}
theorem Zui {u:HO} (ok:HOk P w H h) (e:Rd H a u):ObjOk P w H h a u:=e.ok ok
theorem Zqs {kvs:List (Key×V)} (ok:HOk P w H h) (e:Rd H a (.dK kvs)):kvs.length≤sizeLine∧(a == sysModules)=false∧∃ vs,KV kvs vs∧h.DictOf (Y5 P w) a vs :=
 show ObjOk P w H h a (.dK kvs) from Zui ok e
theorem Zg7 {ks:List Key} (ok:HOk P w H h) (e:H a=some (.tup (ks.map kV))):(tupleKind (Y5 P w)).is h ks a:=by
 obtain ⟨_,its,r,o,h1,⟨h2,_⟩,n,h3⟩:=(show ObjOk P w H h a (.tup (ks.map kV)) from ok a _ e);exact ⟨o,its.toArray,n,h1,h2,h3,by simpa using Zhu r⟩
theorem Zng (ok:HOk P w H h) (e:Rd H a (.dT kvs)):kvs.length≤sizeLine∧(a == sysModules)=false ∧
 ∃ xs,KT H kvs xs∧h.DictOfH (tupleKind (Y5 P w)) a xs:=by
 obtain ⟨z,y,xs,r,o,es,ep,h1,h2,h3,h4,h5⟩:=(show ObjOk P w H h a (.dT kvs) from Zui ok e);refine ⟨z,y,xs,r,o,es,ep,h1,h2,h3,h4,fun x hx=>?_,h5⟩
 have all:∀ {l:List (List Key×V)} {m:List (List Key×Addr×Value)},KT H l m→∀ x∈m,(tupleKind (Y5 P w)).is h x.1 x.2.1:=by
  intro l m q
  induction q with
  | nil=>intro x hx;exact nomatch hx
  | @cons p q ps qs hq t ih =>
    intro x hx
    rcases n13_.mp hx with e|hx
    · subst e;exact Zg7 ok (by rw [← hq.1];exact hq.2.1)
    · exact ih x hx
 exact all r x hx
theorem Zvd (ok:HOk P w H h) (e:H a=some (.dT kvs)):kvs.length≤sizeLine∧(a == sysModules)=false ∧
 ∃ xs,KT H kvs xs∧h.DictOfH (tupleKind (Y5 P w)) a xs:=Zng ok (.inl e)
end
def DGet (H:Hp) (a:Addr) (y:V) (r:Option V):Prop :=
 (∃ kvs k,Rd H a (.dK kvs)∧y=kV k∧r=valV kvs k)∨∃ kvs k b,Rd H a (.dT kvs)∧y=.ref b∧H b=some (.tup (k.map kV))∧r=valV kvs k
theorem DGet.tq {k:List Key} (e:H a=some (.dT kvs)) (eb:H b=some (.tup (k.map kV))):DGet H a (.ref b) (valV kvs k):=.inr ⟨kvs,k,b,.inl e,rfl,eb,rfl⟩
section
variable {X:Cx} {pins:?A} {σ:St} {H:Hp} {s:Shared} {a:Addr} {y v:V} {u r:Value} {o:Option V} {A:Around} {E:Value→?k}
theorem Inv.big (I:?p):sysModules<s.z:=by
 have h:mainGlobals<s.z:=(I.mod.glob.keeps I.bk).lt;exact Nat.lt_trans ?e h
theorem Zn3 (hu:A.units+1<cLine) (I:?p) (g:DGet H a y (some v)) (ry:RelV y u) (h:∀ w' s',Inv X pins σ H s'→RelV v w'→Q w' s') :
 wpAny ?z A (getItem (.ref a) u) Q E s:=by
 rcases g with ⟨kvs,k,e,ey,l⟩|⟨kvs,k,b,e,ey,eb,l⟩
 · subst ey;obtain ⟨z,hd,vs,rel,dd⟩:=Zqs I.hok e;obtain ⟨w',hw,rw'⟩:=RelO.some_of (v:=v) (o:=valueAt vs k) (by rw [l];exact rel.val k);exact wpAny_getItem_of (Zto ry) dd.mapOf hw (h w' _ (I.tok _) rw')
 · subst ey;cases (show u=Value.ref b from ry)
   obtain ⟨z,hd,xs,rel,dd⟩:=Zng I.hok e;obtain ⟨w',hw,rw'⟩:=RelO.some_of (v:=v) (o:=(atKey xs k).map (·.2)) (by rw [l];exact rel.val k);obtain ⟨p,hp,hp2⟩:=n12_.mp hw;refine wpAny_getItem_heap (tupleKind_room_in1 hu) (Zg7 I.hok eb) dd hp ?_;rw [hp2];exact h w' _ (I.tok _) rw'
theorem d_in (hu:A.units+1<cLine) (I:?p) (g:DGet H a y o) (ry:RelV y u) (h:∀ s',Inv X pins σ H s'→Q (.bool o.isSome) s') :
 wpAny ?z A (compareOp .In u (.ref a)) Q E s:=by
 rcases g with ⟨kvs,k,e,ey,l⟩|⟨kvs,k,b,e,ey,eb,l⟩
 · subst ey;obtain ⟨z,hd,vs,rel,dd⟩:=Zqs I.hok e;refine wpAny_in_of (Zto ry) hd dd.mapOf ?_;rw [← (rel.val k).isSome_eq,← l];exact h _ (I.tok _)
 · subst ey;cases (show u=Value.ref b from ry)
   obtain ⟨z,hd,xs,rel,dd⟩:=Zng I.hok e;refine wpAny_in_heap (tupleKind_room_in1 hu) (Zg7 I.hok eb) hd dd ?_;have q:=(rel.val k).isSome_eq;rw [Option.isSome_map] at q;rw [← q,← l];exact h _ (I.tok _)
theorem Zjj {ob:HO} (I:?p) (mu:Mut (H a)) (hs:Heap.SameBut a s.heap h') (he:∃ q,h'.get? a=some q) (new:ObjOk X.prog X.w (upd H a ob) h' a ob) :
 Inv X pins σ (upd H a ob) { s with heap:=h',toks:=t' } :=
 I.write (x:=a) (e:=a) mu (.inl rfl) (fun b q hb z=>(hs.2 b hb).trans z) he new
end
section
variable {X:Cx} {pins:?A} {σ:St} {H:Hp} {s:Shared} {a:Addr} {kvs:List (Key×V)} {k:Key} {u:Value} {A:Around} {E:Value→?k}
end
def NoSl (i:Expr):Prop:=∀ ov iv,subscripted i false ov iv=operate [ov,iv] (getItem ov iv)
theorem Ztg {value slice:Expr} {T id:String}
 (hl:typeLookup (.type T) "__getitem__" = pure (some (.builtin id))) (hs:NoSl slice)
 (h:wpAny ?s A (eval value env) (fun o s₁=>wpAny ?s A (eval slice env) (fun i s₂=>s₂.TypeIs o T∧wpAny ?s A (getItem o i) Q E s₂) E s₁) E s) :
 wpAny ?s A (eval (.Subscript value slice pos) env) Q E s:=by
 refine Subscript_ (n55_ h (fun o s₁ h₁=>n55_ h₁ (fun i s₂ h₂=>?_) fun _ _ x=>x) fun _ _ x=>x);obtain ⟨hT,h₂⟩:=h₂;unfold subscriptTail;refine n0_ ?_;rw [getitemInPython_of_ne hT.not_modules];refine n0_ (wpAny_specialOf hT hl ?_)
 have fin:wpAny ?s A (subscripted slice false o i) (fun r s₃=>wpAny ?s A (letTemporaryGo value o r >>= fun _=>pure r) Q E s₃) E s₂:=by
  rw [hs o i];exact wpAny_operating (n55_ h₂ (fun r s₃ h₃=>n0_ (wpAny_letTemporaryGo (n3_ h₃))) fun _ _ x=>x)
 first
  | exact n3_ (n0_ fin)
  | exact n0_ (n3_ (n0_ fin))
  | exact n0_ fin
theorem Zim {o:Option V} (I:?p) (g:DGet H a y o):s.TypeIs (.ref a) "dict" := by
 rcases g with ⟨kvs,k,e,_,_⟩|⟨kvs,k,b,e,_,_,_⟩
 · obtain ⟨_,_,vs,_,dd⟩:=Zqs I.hok e;exact dd.typeIs
 · obtain ⟨_,_,xs,_,dd⟩:=Zng I.hok e;exact dd.typeIs
inductive BxTDGet (Q:VK) (x y:V) (H2:Hp):Prop
 | mk (a:_) (v:_) (q1:x=.ref a) (q2:DGet H2 a y (some v)) (q3:Q v H2):BxTDGet Q x y H2
def Zwf (td ty:TE):TE:=fun σ H Q=>td σ H fun x H1=>ty σ H1 fun y H2=>BxTDGet Q x y H2
inductive BxTDIn (Q:VK) (x y:V) (H2:Hp):Prop
 | mk (a:_) (o:_) (q1:x=.ref a) (q2:DGet H2 a y o) (q3:Q (.bl o.isSome) H2):BxTDIn Q x y H2
def tDIn (ty td:TE):TE:=fun σ H Q=>ty σ H fun y H1=>td σ H1 fun x H2=>BxTDIn Q x y H2
section
variable {X:Cx} {o i e value:Expr} {pos pos' tpos:Pos} {td ty tv:TE}
theorem Zso (hu:X.A.units+1<cLine) (ho:PE X o td) (hi:PE X i ty) (hs:NoSl i):PE X (.Subscript o i pos) (Zwf td ty):=by
 intro pins s σ H Q I h;refine Ztg PySem.F.slot_dict_getitem.lookup hs (thn (ho pins s σ H _ I h) fun u s1 ⟨x,H1,I1,rx,q1⟩=>thn (hi pins s1 σ H1 _ I1 q1) fun iv s2 zq=>?_);obtain ⟨y,H2,I2,ry,a,v,ex,g,q2⟩:=zq;subst ex;obtain rfl:u=Value.ref a:=rx;exact ⟨Zim I2 g,Zn3 hu I2 g ry fun w' s3 I3 rw'=>⟨v,H2,I3,rw',q2⟩⟩
theorem Zut (hu:X.A.units+1<cLine) (hi:PE X i ty) (ho:PE X o td):PC X .In i o (tDIn ty td):=by
 intro pins s σ H Q I h;refine thn (hi pins s σ H _ I h) fun iv s1 ⟨y,H1,I1,ry,q1⟩=>thn (ho pins s1 σ H1 _ I1 q1) fun u s2 zq=>?_;obtain ⟨x,H2,I2,rx,a,ov,ex,g,q2⟩:=zq;subst ex;obtain rfl:u=Value.ref a:=rx;exact d_in hu I2 g ry fun s3 I3=>⟨.bl ov.isSome,H2,I3,rfl,q2⟩
end
theorem Zj0 (h:Heap) (hb:sysModules<h.objs.size):ObjOk P w H (h.push { cls:=.type "dict",data:=.dict #[] }) h.objs.size (.dT []) :=
 ⟨n45_ _,beq_eq_false_iff_ne.mpr (Ne.symm (n26_ hb)),[],.nil,_,#[],0,n8_ _ rfl,⟨rfl,rfl,rfl⟩,rfl,rfl,List.nodup_nil⟩
def Zt5:TE:=fun _ H Q=>∀ p,H p=none→Q (.ref p) (upd H p (.dT []))
section
variable {X:Cx} {pos:Pos}
theorem Zpa:PE X (.Dict [] [] pos) Zt5:=fun pins s σ H Q I h =>
 wpAny_Dict_empty ⟨.ref s.z,_,I.laid (a:=s.z) (o:=.dT []) (t':=s.toks) (fun _ _ q=>n2_ _ q) (n11_ _) (Zj0 s.heap I.big),rfl,h _ (I.hok.fresh (n11_ _))⟩
end
def IsD (H:Hp) (a:Addr):Prop:=(∃ kvs,Rd H a (.dK kvs))∨∃ kvs,Rd H a (.dT kvs)
theorem Zt6 (I:?p) (d:IsD H a) :
 s.TypeIs (.ref a) "dict" ∧ (∀ b,Value.ref a=.ref b→∃ ob,?I=some ob∧ob.dict=none)∧(a == sysModules)=false:=by
 rcases d with ⟨kvs,e⟩|⟨kvs,e⟩
 · obtain ⟨_,hd,vs,_,dd⟩:=Zqs I.hok e;refine ⟨dd.typeIs,fun b q=>?_,hd⟩;cases q
   obtain ⟨ob,_,_,h1,h2,_⟩:=dd;exact ⟨ob,h1,h2.2.1⟩
 · obtain ⟨_,hd,xs,_,dd⟩:=Zng I.hok e;refine ⟨dd.typeIs,fun b q=>?_,hd⟩;cases q
   obtain ⟨ob,_,_,h1,h2,_⟩:=dd;exact ⟨ob,h1,h2.2.1⟩
section
variable {X:Cx} {pins:?A} {σ:St} {H:Hp} {s:Shared} {a:Addr} {y d:V} {u r:Value} {o:Option V} {A:Around} {E:Value→?k}
end
section
variable {X:Cx} {o e f:Expr} {apos cpos:Pos} {td ty tx:TE}
end
section
variable {X:Cx} {pins:?A} {σ:St} {H:Hp} {s:Shared} {a:Addr} {kvs:List (Key×V)} {A:Around} {E:Value→?k}
end
section
variable {X:Cx} {pins:?A} {σ:St} {H:Hp} {s:Shared} {a:Addr} {y:V} {u:Value} {A:Around} {E:Value→?k}
end
end L2
namespace PySem
section
variable {prog:Program} {w:World} {A:Around} {E:Value→?k} {s:Shared} {it d:Addr} {i ep:Nat} {es:Array DictEntry} {ok ov:Value}
def EntAt (h:Heap) (d:Addr) (es:Array DictEntry) (ep:Nat):Prop:=∃ o:Obj,h.get? d=some o∧o.data=.dict es ep
theorem EntAt.at {h h':Heap} (x:EntAt h d es ep) (k:∀ o,h.get? d=some o→h'.get? d=some o):EntAt h' d es ep:=let ⟨o,e,q⟩:=x;⟨o,k o e,q⟩
theorem Zpl {x:DictEntry} {Q:?D→?k} (hit:IsItemIter s.heap it d i es.size ep ok ov) (hm:EntAt s.heap d es ep) (hx:es[i]? = some x)
 (hQ:∀ h',IsItemIterOut h' it d (i+1) es.size ep x.key x.val s.heap.objs.size→h'.get? s.heap.objs.size=some { cls:=?G,data:=.seq #[x.key,x.val] } →
   (∀ b o,b≠it→?I=some o→h'.get? b=some o)→Q (some (.ref s.heap.objs.size)) { s with heap:=h' }):wpAny ?s A (pyNext (.ref it)) Q E s:=by
 obtain ⟨H0,G0,R0,K0,O0⟩:=s;obtain ⟨od,e0,q0⟩:=hm;have ty:∀ {h:Heap} {j:Nat} {y z:Value},IsItemIter h it d j es.size ep y z→Shared.TypeIs ⟨h,G0,R0,K0,O0⟩ (.ref it) "dict_itemiterator" := fun q=>⟨_,q,rfl⟩;have T0:=ty hit;have lt:it<H0.objs.size:=n14_ hit;have ne:H0.objs.size≠it:=n68_ lt;obtain ⟨li,rfl⟩:=Array.getElem?_eq_some_iff.mp hx;unfold pyNext;refine n0_ <| wpAny_attempt <| wpAny_callSpecial?_slot (name:=Str.ofString "__next__") T0 F.slot_dict_itemiterator_next <| wpAny_call_entry F.slot_dict_itemiterator_next T0 F.entry_dict_itemiterator_next ?_ (F.args_dict_itemiterator_next_1 _);refine n0_ <| n3_ <| n0_ <| n0_ <| n0_ <| wpAny_typeNameOfWhole_itemiter T0 <| n3_ <| n0_ <| wpAny_fieldsOf hit rfl ?_;have own:Builtin.Dict_items.ownsTuple "dict_itemiterator" = true:=?t
 simp only [own,if_true];show wpAny _ _ (if (Value.ref d == Value.none)=true then _ else _) _ _ _
 rw [if_neg (by intro z;cases z)];refine n0_ <| n3_ <| n0_ <| wpAny_dictEntries e0 q0 ?_;rw [if_neg ?f];refine n0_ <| n3_ <| n0_ <| wpAny_dictEpoch e0 q0 ?_;rw [if_neg ?f];refine n3_ ?_;have nn:¬ ((i:Int)<0):=?d
 simp only [nn,if_false,n61_,hx];refine n0_ <| n0_ <| wpAny_typeNameOfWhole_itemiter T0 <| n3_ <| n0_ <| wpAny_isOneOf_itemiter T0 ?_;show wpAny _ _ (setField (.ref it) 3 (rawInt ((i:Int)+1)) >>= _) _ _ ⟨H0,G0,R0,K0,O0⟩
 refine n0_ <| wpAny_setField_rec hit ?f fun H1 m1 b1=>?_
 have i1:IsItemIter H1 it d (i+1) es.size ep ok ov:=by
  have c:((i+1:Nat):Int)=(i:Int)+1:=Int.natCast_add i 1;unfold IsItemIter;rw [c];simpa [rawInt] using m1
 replace b1:Heap.SameBut it H0 H1:=b1;refine n0_ <| n34_ <| n0_ <| wpAny_isOneOf_itemiter (ty i1) <| n0_ <| wpAny_isOneOf_itemiter (ty i1) ?_;show wpAny _ _ (Builtin.Dict_items.pairFromOwner (.ref it) 6 es[i].key es[i].val) _ _ ⟨H1,G0,R0,K0,O0⟩
 unfold Builtin.Dict_items.pairFromOwner;refine n0_ <| wpAny_newTuple ?_;have z1:H1.objs.size=H0.objs.size:=b1.1;have i2:IsItemIter (H1.push { cls:=?G,data:=.seq #[es[i].key,es[i].val] }) it d (i+1) es.size ep ok ov:=n2_ _ i1;have t2:(H1.push { cls:=?G,data:=.seq #[es[i].key,es[i].val] }).get? H0.objs.size=some { cls:=?G,data:=.seq #[es[i].key,es[i].val] }:=z1 ▸ n8_ _ rfl;have k2:∀ b o,b≠it→H0.get? b=some o→(H1.push { cls:=?G,data:=.seq #[es[i].key,es[i].val] }).get? b=some o:=fun b o hb e=>n2_ _ (b1.extBut b o hb e);show wpAny _ _ (Builtin.Dict_items.ownedTupleIsFree (.ref it) >>= _) _ _ ⟨H1.push { cls:=?G,data:=.seq #[es[i].key,es[i].val] },G0,R0,K0,O0⟩
 rw [z1];generalize H1.push { cls:=?G,data:=.seq #[es[i].key,es[i].val] }=H2 at i2 t2 k2 ⊢;refine n0_ ?_;unfold Builtin.Dict_items.ownedTupleIsFree;refine n0_ <| wpAny_field i2 rfl (x:=.none) rfl <| n3_ ?_;simp only [if_true];refine n0_ <| wpAny_field i2 rfl (x:=ok) rfl <| n0_ <| wpAny_field i2 rfl (x:=ov) rfl ?_;refine n0_ <| wpAny_setField_rec i2 ?f fun H3 m3 b3=>?_;have i3:IsItemIter H3 it d (i+1) es.size ep es[i].key ov:=m3;refine n0_ <| wpAny_setField_rec i3 ?f fun H4 m4 b4=>?_;have i4:IsItemIter H4 it d (i+1) es.size ep es[i].key es[i].val:=m4;refine n0_ <| wpAny_setField_rec i4 ?f fun H5 m5 b5=>?_;have i5:IsItemIterOut H5 it d (i+1) es.size ep es[i].key es[i].val H0.objs.size:=m5;refine n0_ <| wpAny_setField_rec i5 ?f fun H6 m6 b6=>?_;have i6:IsItemIterOut H6 it d (i+1) es.size ep es[i].key es[i].val H0.objs.size:=m6;have up6:∀ b o,b≠it→H2.get? b=some o→H6.get? b=some o:=fun b o hb e=>Heap.SameBut.extBut (show Heap.SameBut it H5 H6 from b6) b o hb (Heap.SameBut.extBut (show Heap.SameBut it H4 H5 from b5) b o hb (Heap.SameBut.extBut (show Heap.SameBut it H3 H4 from b4) b o hb (Heap.SameBut.extBut (show Heap.SameBut it H2 H3 from b3) b o hb e)));exact n0_ <| wpAny_letGo <| n3_ <| n3_ ⟨_,rfl,n3_ <| hQ H6 i6 (up6 _ _ ne t2) fun b o hb e=>up6 b o hb (k2 b o hb e)⟩
theorem Zr6 {Q:?D→?k} (hh:A.handled=none) (hit:IsItemIter s.heap it d i es.size ep ok ov) (hm:EntAt s.heap d es ep) (hx:es[i]? = none)
 (hQ:∀ h',Heap.ExtBut it s.heap h'→Q none { s with heap:=h' }):wpAny ?s A (pyNext (.ref it)) Q E s:=by
 obtain ⟨od,e0,q0⟩:=hm;have T0:s.TypeIs (.ref it) "dict_itemiterator" := ⟨_,hit,rfl⟩;unfold pyNext;refine n0_ <| wpAny_attempt <| wpAny_callSpecial?_slot (name:=Str.ofString "__next__") T0 F.slot_dict_itemiterator_next <| wpAny_call_entry F.slot_dict_itemiterator_next T0 F.entry_dict_itemiterator_next ?_ (F.args_dict_itemiterator_next_1 _);refine n0_ <| n3_ <| n0_ <| n0_ <| n0_ <| wpAny_typeNameOfWhole_itemiter T0 <| n3_ <| n0_ <| wpAny_fieldsOf hit rfl ?_;have own:Builtin.Dict_items.ownsTuple "dict_itemiterator" = true:=?t
 simp only [own,if_true];show wpAny _ _ (if (Value.ref d == Value.none)=true then _ else _) _ _ s
 rw [if_neg (by intro z;cases z)];refine n0_ <| n3_ <| n0_ <| wpAny_dictEntries e0 q0 ?_;rw [if_neg ?f];refine n0_ <| n3_ <| n0_ <| wpAny_dictEpoch e0 q0 ?_;rw [if_neg ?f];refine n3_ ?_;have nn:¬ ((i:Int)<0):=?d
 simp only [nn,if_false,n61_,hx];refine n0_ <| n0_ <| wpAny_typeNameOfWhole_itemiter T0 <| n3_ ?_;show wpAny _ _ (setField (.ref it) 2 .none >>= _) _ _ s
 refine n0_ <| wpAny_setField hit rfl ?f ?_;show wpAny _ _ (newExc (.type "StopIteration") [] >>= _) _ _ _
 refine n0_ ?_;simp only [newExc,newTuple];refine n0_ <| wpAny_newObj_type ?_ (by size_fits);refine n0_ (m:=firstArgMember _ _) <| wpAny_of_eq (a:=Value.none) (by first|rfl|(simp only [firstArgMember];rfl)) ?_;refine wpAny_newObj_type ?_ (by size_fits);simp only [raiseNew];refine n0_ <| wpAny_handled ?_;rw [show A.in1.handled=none from hh];refine n0_ <| n3_ <| wpAny_throw ?_;refine n0_ (wpAny_isInstance (T := "StopIteration") (b:=true) ⟨_,n8_ _ rfl,rfl⟩ isSubtype_stop ?_);exact n3_ <| hQ _ <| ((Heap.SameBut.update ..).extBut.push _).push _
theorem Zls (d:Addr) (hd:(d == sysModules)=false):MeetsIn prog w (Builtin.«dict.items» ⟨[.ref d],[]⟩) (fun _ R s=>s.TypeIs (.ref d) "dict" ∧
 R (.ok (.ret (.ref s.z))) { s with heap:=s.heap.push { cls:=.type "dict_items",data:=.fields #[.ref d] } }) :=
 .of_wp fun A R s ⟨ty,h⟩=>by
  unfold Builtin.«dict.items»;refine n0_ ?_;unfold Builtin.Dict.noArgs;refine n0_ <| wpAny_notOrdered_dict ty ?_;show wpAny _ _ (pure d) _ _ s
  refine n3_ ?_;show wpAny _ _ (Builtin.Dict.showsAll d >>= _) _ _ s
  unfold Builtin.Dict.showsAll;rw [if_neg (by rw [hd];intro z;cases z)];exact n0_ <| n3_ <| n0_ <| wpAny_newObj_type <| n3_ ⟨_,rfl,h⟩
theorem Zqj {v:Addr} {Q:Value→?k} (hv:s.heap.IsItemsView v d) (hm:EntAt s.heap d es ep)
 (hQ:∀ h',IsItemIter h' s.z d 0 es.size ep .none .none→(∀ b o,?I=some o→h'.get? b=some o)→Q (.ref s.z) { s with heap:=h' }):wpAny ?s A (pyIter (.ref v)) Q E s:=by
 obtain ⟨o1,e1,c1,q1⟩:=id hv;obtain ⟨od,e0,q0⟩:=hm;refine wpAny_pyIter_slot hv.typeIs F.slot_dict_items_iter <| wpAny_call_entry F.slot_dict_items_iter hv.typeIs F.entry_dict_items_iter ?_ (F.args_dict_items_iter_1 _);unfold Builtin.«dict_items.__iter__»;refine n0_ <| n3_ <| n0_ ?_;unfold Builtin.Dict_items.dictOf;refine n0_ <| wpAny_field e1 q1 (x:=.ref d) rfl <| n3_ <| n0_ ?_;unfold Builtin.Dict_items.newIterator;refine n0_ <| wpAny_dictEntries e0 q0 <| n0_ <| wpAny_dictEpoch e0 q0 ?_;have own:Builtin.Dict_items.ownsTuple "dict_itemiterator" = true:=?t
 simp only [own,if_true]
 refine wpAny_newObj_type (n3_ ⟨_,rfl,"dict_itemiterator",_,⟨_,n8_ _ rfl,rfl⟩,F.slot_dict_itemiterator_next.lookup,?_⟩)
  (by simp only [sizeOk,Builtin.Dict_items.ownedTupleFields,n16_,n30_,n21_,List.length_nil,sizeLine_eq];omega)
 have q:=hQ (s.heap.push { cls:=.type "dict_itemiterator",data:=.fields #[.none,.bool false,.ref d,.int 0 0,.int es.size 0,.int ep 0,.none,.none] }) (n8_ _ rfl) fun b o e=>n2_ _ e
 simpa [rawInt,Builtin.Dict_items.ownedTupleFields] using q
end
end PySem
namespace L2
open PySem PySem.Spec PyProof.Rows
def Itd (o:Obj) (d:Addr):It where
 go:=fun i H=>∃ kvs,H d=some (.frz o (.dT kvs))∧i<kvs.length
 yld:=fun i H v H'=>∃ (g b:Addr) (k:List Key) (y:V),v=.ref g∧H g=none∧H'=upd H g (.tup [.ref b,y])∧H b=some (.tup (k.map kV))∧∀ kvs,H d=some (.frz o (.dT kvs))→kvs[i]? = some (k,y)
 stop:=fun i H=>∃ kvs,H d=some (.frz o (.dT kvs))∧kvs.length≤i
variable {D it:Addr} {A:Around} {X:Cx} {env:Env} {iter tg:Expr} {h:Heap} {H:Hp} {kvs:List (List Key×V)} {fr:List (Option Nat)} {cl:List (Str×Addr)} {N:List Str} {ep x1:Nat} {o:Obj} {pos tp:Pos} {P prog:Program} {scope:Scope} {s:Shared} {g:TG} {wi:TI} {w:World}
theorem Zl9 {d:Addr} {es:Array DictEntry} (x:HOk P w H h) (e:H d=some (.frz o (.dT kvs))) (od:o.data=.dict es ep) :
 EntAt h d es ep∧es.size=kvs.length∧∀ (i:Nat) (k:List Key) (y:V),kvs[i]? = some (k,y)→∃ (b:Addr) (u:Value) (t:Int),es[i]? = some ⟨t,.ref b,u⟩∧H b=some (.tup (k.map kV))∧RelV y u:=by
 obtain ⟨g,z,_,xs,rel,o2,es2,ep2,g2,_,d2,q,_⟩:=x d _ e;rw [g] at g2;cases g2
 rw [od] at d2;cases d2
 have l1:es.size=xs.length:=by rw [← Array.length_toList,q,n7_]
 have l2:=Paired.length rel;refine ⟨⟨o,g,od⟩,?d,fun i k y hi=>?_⟩
 have get:∀ (l1:List (List Key×V)) (l2:List (List Key×Addr×Value)),Paired (fun (p:List Key×V) (q:List Key×Addr×Value)=>p.1=q.1∧H q.2.1=some (.tup (p.1.map kV))∧RelV p.2 q.2.2) l1 l2→∀ i:Nat,l1[i]? = some (k,y)→∃ (b:Addr) (u:Value),l2[i]? = some (k,b,u)∧H b=some (.tup (k.map kV))∧RelV y u:=by
  intro l1 l2 r
  induction r with
  | nil=>intro i h;simp at h
  | cons r t ih =>
    intro i h;cases i with
    | zero =>
      cases h
      rename_i _ b _ _
      obtain ⟨b1,b2,b3⟩:=b;obtain ⟨r1,r2,r3⟩:=r;cases r1
      exact ⟨b2,b3,rfl,r2,r3⟩
    | succ i=>exact ih i h
 obtain ⟨b,u,e1,e2,e3⟩:=get _ _ rel i hi;refine ⟨b,u,(tupleKind (Y5 P w)).hash k,?_,e2,e3⟩;rw [← Array.getElem?_toList,q,n4_,e1];rfl
theorem Zlg {K:PySem.W.Frag} {ts:List Expr} {d:Addr} {es:Array DictEntry} (od:o.data=.dict es ep) (nd:d≠it) :
 Turn P w K (.Tuple ts x1 tp) (Itd o d) [it] it (fun n h=>∃ ok ov,IsItemIter h it d n es.size ep ok ov) where
 mem:=by simp
 obj:=fun n h st b hb=>by
  obtain ⟨ok,ov,e⟩:=st;rw [n22_.mp hb];exact ⟨_,e,fun v q=>by cases (show Data.fields _=Data.cell v from q)⟩
 keep:=fun n h h' st f=>by
  obtain ⟨ok,ov,e⟩:=st;exact ⟨ok,ov,f it ?f _ e⟩
 item:=by
  intro X hP hw hK hc n pins s σ H E I hf st hg;subst hP hw hK;obtain ⟨ok,ov,h1⟩:=st;obtain ⟨kvs,hd,hn⟩:=hg;obtain ⟨ent,sz,at_⟩:=Zl9 I.hok hd od;obtain ⟨⟨k,y⟩,ek⟩:∃ p,kvs[n]? = some p:=⟨kvs[n],n1_ hn⟩;obtain ⟨b,u,t,ex,hb,ru⟩:=at_ n k y ek
  have li:it≠s.z:=n26_ (n14_ h1);refine Zpl h1 ent ex fun h' r1 r2 r3=>?_;refine ⟨_,rfl,wpAny_letOwnedTupleGo_items r1 fun g2 z2 s2=>?_⟩;have T2:g2.get? s.z=some { cls:=?G,data:=.seq #[.ref b,u] }:=s2.extBut _ _ li.symm r2;have hp:H s.z=none:=I.hok.fresh (n11_ _)
  have I2:Inv X pins σ (upd H s.z (.tup [.ref b,y])) { s with heap:=g2,toks:=s.toks }:=by
   refine I.turnNew (ch:=[it]) (fun c o' ne q=>?_) (fun c hc=>hf c hc) (n11_ _) ⟨z2_,[.ref b,u],.cons rfl (.cons ru .nil),⟨_,T2,⟨rfl,rfl⟩,_,rfl⟩⟩;have ne':c≠it:=fun z=>ne (by rw [z];simp);exact s2.extBut _ _ ne' (r3 c o' ne' q)
  refine ⟨.ref s.z,_,I2,rfl,⟨_,b,k,y,rfl,hp,rfl,hb,fun kvs' e'=>?_⟩,⟨_,_,z2⟩,fun c hc=>?_⟩
  · rw [hd] at e';cases e';exact ek
  · rw [n22_.mp hc,Zk li];exact (hf it ?f).1
 done:=by
  intro X hP hw hK hc n pins s σ H E I hf st hg;subst hP hw hK;obtain ⟨ok,ov,h1⟩:=st;obtain ⟨kvs,hd,hn⟩:=hg;obtain ⟨ent,sz,_⟩:=Zl9 I.hok hd od;refine Zr6 (show X.A.handled=none from I.ok.hd hc) h1 ent (Array.getElem?_eq_none (?d)) fun h' x=>⟨rfl,?_⟩;exact I.turnOnly (t':=s.toks) (ch:=[it]) (fun c o' ne q=>x c o' (fun z=>ne (by rw [z];simp)) q) (fun c hc=>hf c hc)
 self:=fun A i s Q E st q=>by
  obtain ⟨ok,ov,h1⟩:=st;exact PySem.W.kcp_self h1 q
section
variable {X:Cx} {pins:?A} {σ:St} {H:Hp} {s:Shared}
theorem Inv.freeze {d:Addr} (I:?p) (e:H d=some (.dT kvs)):∃ o es ep,o.data=.dict es ep∧(d == sysModules)=false∧EntAt s.heap d es ep∧Inv X pins σ (upd H d (.frz o (.dT kvs))) s:=by
 have ok:=I.hok d _ e;obtain ⟨z,hd,xs,rel,o,es,ep,g,c,dd,q,nd⟩:=id ok;refine ⟨o,es,ep,dd,hd,⟨o,g,dd⟩,?_⟩;refine Zjj (t':=s.toks) I (by rw [e];exact True.intro) (Heap.SameBut.refl _ _) ⟨o,g⟩ ⟨g,z,hd,xs,Paired.mapP rel fun p r h=>⟨h.1,by rw [Zk (Zox h.2.1 e (fun z=>nomatch z))];exact h.2.1,h.2.2⟩,o,es,ep,g,c,dd,q,nd⟩
inductive BxIItm (R:It→?y) (x:V) (H1:Hp):Prop
 | mk (d:_) (kvs:_) (q1:x=.ref d) (q2:H1 d=some (.dT kvs)) (q3:∀ o,R (Itd o d) (upd H1 d (.frz o (.dT kvs)))):BxIItm R x H1
def iItm (td:TE):TI:=fun σ H R=>td σ H fun x H1=>BxIItm R x H1
theorem Zp7 {o:Expr} {td:TE} {apos cpos:Pos} {ts:List Expr} (ho:PE X o td)
 (hbase:attributeBase o "items" X.env (eval o X.env)=eval o X.env:=by rfl) (hline:(apos.endLine == cpos.line)=true:=by rfl):PI X (.Tuple ts x1 tp) (.Call (.Attribute o "items" apos) [] [] cpos) (iItm td):=by
 intro pins s σ H R I h;refine wpAny_Call_method0_late hbase hline (thn (ho pins s σ H _ I h) fun v s1 zq=>?_);obtain ⟨x,H1,I1,r1,d,kvs,ex,hd,q⟩:=zq;subst ex;cases (show v=Value.ref d from r1)
 obtain ⟨t1,t2,_⟩:=Zt6 I1 (.inr ⟨kvs,.inl hd⟩);obtain ⟨ob,es,ep,od,nm,ent,I2⟩:=I1.freeze hd;refine ⟨"dict","dict.items",PySem.F.plainAttrs_dict,PySem.F.slot_dict_items,PySem.F.type_dict_items,t1,t2,Calls.callWith_builtin rfl (PySem.evalArgs_none ?_)⟩;refine call_meetsIn PySem.F.slot_dict_items t1 PySem.F.entry_dict_items (PySem.F.args_dict_items_1 _) (Zls d nm) ⟨t1,?_⟩;have n1:(s1.heap.push { cls:=.type "dict_items",data:=.fields #[.ref d] }).objs.size=s1.z+1:=n50_ ..;refine Zqj (d:=d) (es:=es) (ep:=ep) ⟨_,n8_ _ rfl,rfl,rfl⟩ (ent.at fun o e=>n2_ _ e) fun h' e1 k1=>?_;have k2:∀ b o,s1.heap.get? b=some o→h'.get? b=some o:=fun b o e=>k1 b o (n2_ _ e);have ld:d<s1.z:=let ⟨_,e,_⟩:=ent;n14_ e;have nd:d≠(s1.heap.push { cls:=.type "dict_items",data:=.fields #[.ref d] }).objs.size:=n26_ (by rw [n1];exact n54_ ld);have le:s1.z≤(s1.heap.push { cls:=.type "dict_items",data:=.fields #[.ref d] }).objs.size:=by rw [n1];exact Nat.le_succ _
 refine ⟨_,_,_,_,_,rfl,I2.kept (t':=s1.toks) k2,Zlg od nd,⟨_,_,e1⟩,fun b hb=>?_,q ob⟩;rw [n22_.mp hb];exact I2.fpOk le (by rw [Zk nd.symm];exact I1.hok.fresh le)
end
theorem Zoe {R:Result→?k} {kx vx target:Expr} {it:Value} (I:Nat→?k)
 (turn:∀ n s,I n s→wpAny ?s A (pyNext it) (fun r s₁=>match r with
   | none=>R (.ok .next) s₁
   | some v=>wpAny ?s A (letOwnedTupleGo target it v) (fun _ s₀=>wpAny ?s A (assign target env v) (fun _ s₂ =>
      wpAny ?s A (eval kx env) (fun k s₃=>wpAny ?s A (eval vx env) (fun y s₄=>wpAny ?s A (dictSet D k y) (fun _ s₅=>∃ m,m<n∧I m s₅) (fun _ _=>False) s₄) (fun _ _=>False) s₃) (fun _ _=>False) s₂) (fun _ _=>False) s₀) (fun _ _=>False) s₁) (fun _ _=>False) s)
 (n:Nat) (h:I n s):codeAny ?s A (.compLoop (.DictComp kx vx [⟨target,iter,[],0⟩] scope pos) 0 it (.ref D) env) R s:=by
 refine codeAny_loop rfl I (fun n s hI=>?_) n h;show wpAny _ A ((compTurn (.DictComp kx vx [⟨target,iter,[],0⟩] scope pos) 0 it (.ref D) env).onRaise (fun x=>do noteFrame x env;theTreesLotGoes x)) _ _ s
 refine wpAny_noted ?_;rw [compTurn_dict];have no:∀ {α:Type} {m:Sem α} {Q Q':α→?k} {E:Value→?k} {s:Shared},wpAny ?s A m Q (fun _ _=>False) s→(∀ x s,Q x s→Q' x s)→wpAny ?s A m Q' E s:=fun h f=>n55_ h f fun _ _ z=>z.elim;refine n0_ (wpAny_standAt (n0_ (no (turn n s hI) fun r s₁ h₁=>?_)));cases r with
 | none=>exact n3_ h₁
 | some v =>
   refine n0_ (no h₁ fun _ s₀ h₀=>n0_ (no h₀ fun _ s₂ h₂=>?_));simp only [List.forIn_nil];refine n0_ (n3_ ?_);simp only [if_true];exact n0_ (n0_ (no h₂ fun k s₃ h₃=>n0_ (n34_ (no h₃ fun y s₄ h₄=>n0_ (wpAny_standAt (n34_ (no h₄ fun _ s₅ h₅=>n3_ ⟨rfl,h₅⟩)))))))
section
variable {X:Cx} {pins:?A} {σ:St} {H:Hp} {s:Shared} {A:Around} {E:Value→?k} {a b:Addr} {kvs:List (List Key×V)} {k:List Key} {r:Value} {v:V}
theorem Zny {Q:Unit→?k} (hu:A.units<cLine) (I:?p) (e:H a=some (.dT kvs)) (eb:H b=some (.tup (k.map kV))) (rv:RelV v r) (hl:kvs.length<sizeLine) (h:∀ s',Inv X pins σ (upd H a (.dT (putK kvs k v))) s'→Q () s') :
 wpAny ?z A (dictSet a (.ref b) r) Q E s:=by
 obtain ⟨z,hd,xs,rel,dd⟩:=Zvd I.hok e;have hl':(putK kvs k v).length≤sizeLine:=by have:=Zea kvs k v;omega
 refine wpAny_dictSet_heap (knd:=tupleKind (Y5 X.prog X.w)) (hsz:=by rw [← Paired.length rel];exact z) hu (Zg7 I.hok eb) dd fun h' dd' hs=>h _ ?_;obtain ⟨q,es,ep,hq,c2,c3,c4,_,c5⟩:=dd';refine Zjj I (by rw [e];exact True.intro) hs ⟨q,hq⟩ ⟨hl',hd,_,(rel.put k eb rv).keeps fun c ys ec=>?_,q,es,ep,hq,c2,c3,c4,c5⟩;rw [Zk (Zox ec e (fun z=>nomatch z))];exact ec
end
def DcGo (J:It) (g:TG) (tk tv:TE) (σ0:St) (H1:Hp) (D:Addr) (Q:VK):Prop:=∃ W:Nat→Nat→St→?y,(∃ m,W 0 m σ0 (upd H1 D (.dT []))) ∧
 ∀ i m σ2 H2,W i m σ2 H2→(J.stop i H2∧Q (.ref D) H2)∨(J.go i H2∧∀ x H3,J.yld i H2 x H3→g x σ2 H3 fun σ4 H4=>tk σ4 H4 fun k H5=>tv σ4 H5 fun y H6=>∃ kvs key b,H6 D=some (.dT kvs)∧k=.ref b∧H6 b=some (.tup (key.map kV))∧kvs.length<sizeLine ∧
   ∃ m',m'<m∧W (i+1) m' σ4 (upd H6 D (.dT (putK kvs key y))))
def tDC (wi:TI) (g:TG) (tk tv:TE) (fr:List (Option Nat)):TE:=fun σ H Q=>wi σ H fun J H1=>∀ D,H1 D=none→DcGo J g tk tv (Zar fr σ) H1 D Q
theorem Zwc {kx vx:Expr} {tk tv:TE}
 (hu:X.A.units<cLine) (hc:X.calm=true) (L:LcO X scope cl N fr) (hi:PI X tg iter wi) (hg:∀ C s3 H3 fp,PG ?P tg g)
 (hk:∀ C s3 H3 fp,PE ?P kx tk) (hv:∀ C s3 H3 fp,PE ?P vx tv)
 (hs:∀ x,foldedSetIterable iter X.env x=pure x:=by intro _;rfl):PE X (.DictComp kx vx [⟨tg,iter,[],0⟩] scope pos) (tDC wi g tk tv fr):=by
 intro pins s σ H Q I h;rw [show eval (.DictComp kx vx [⟨tg,iter,[],0⟩] scope pos) X.env=comprehension (.DictComp kx vx [⟨tg,iter,[],0⟩] scope pos) scope X.env (firstIterPos [⟨tg,iter,[],0⟩] pos) newDict (firstAsync [⟨tg,iter,[],0⟩]) (firstIter [⟨tg,iter,[],0⟩] X.env) from rfl];refine ?Y;obtain ⟨it,fp,tn,J,H2,e,I2,T,st2,f2,h⟩:=h2;subst e;obtain ⟨W,⟨m0,w0⟩,turn⟩:=h s2.z (I2.hok.fresh (n11_ _));refine wpAny_newObj_type ?_;refine Zdd (ac:=.dT []) rfl hc L hg I2 T st2 f2 (Zj0 s2.heap I2.big) w0 turn (fun _ _ a b=>codeAny_compStart_dict a (b _)) (fun LI s4 t n h=>Zoe LI t n h) (fun H7 s7 qn _ _ c=>Zjr qn c) fun LI n i σ9 H9 s9 ps I9 q9 again=>?_;refine thn (hk _ _ _ _ ps s9 σ9 H9 _ I9 q9) fun ku s10 ⟨kx',H10,I10,r10,q10⟩=>?_;refine thn (hv _ _ _ _ ps s10 σ9 H10 _ I10 q10) fun vu s11 ⟨vx',H11,I11,r11,kvs,key,b,hD11,ek,hb,hz,m',hm,w11⟩=>?_;subst ek;cases (show ku=Value.ref b from r10)
 exact Zny (X:=blk X scope cl _ N _ _ fp) hu I11 hD11 hb r11 hz fun s12 I12=>again I12 hm w11
end L2
namespace L2
open PySem PySem.Spec PyProof.Rows PySem.W
variable {a:Addr} {X:Cx} {N:List Str} {Q:Value→?k}
theorem fsc {P:List Str} {sc:Scope} (h:sc.kind=.function∧sc.isCoroutine=false∧sc.isGenerator=false∧N.Nodup∧N.take P.length=P∧(∀ x∈P,sc.names.lookup x=some .local∨sc.names.lookup x=some .cell)∧∀ y∈sc.names,y.2≠.free):FnScope N P sc:=let ⟨a,b,c,d,e,f,g⟩:=h;⟨a,b,c,d,e,f,g⟩
section
variable {prog:Program} {w:World} {K:Type} [DecidableEq K] {knd:HeapKind prog w K} {A:Around} {E:Value→?k} {s:Shared}
theorem Zio {d:Addr} {xs:List (K×Addr×Value)} {k:K} {v:Value} (hu:knd.room A) (hkey:knd.is s.heap k a) (hm:s.heap.DictOfH knd d xs)
 (h1:∀ p,atKey xs k=some p→Q p.2 { s with toks:=s.toks+knd.draws k })
 (h2:atKey xs k=none→∀ h',h'.DictOfH knd d (storedH xs k a v)→Heap.SameBut d s.heap h'→Q v { s with heap:=h',toks:=s.toks+knd.draws k })
 (hsz:xs.length≤sizeLine):wpAny ?s A (dictSetDefault d (.ref a) v) Q E s:=by
 obtain ⟨o,es,ep,ho,hc,hd,he,his,hn⟩:=hm;unfold dictSetDefault;refine n34_ ?_;refine n0_ (knd.pyHash hu hkey ?_);refine n0_ (wpAny_dictFind_heap (s:={ s with toks:=s.toks+knd.draws k }) hu hkey ho hd he his hn ?_ ?_)
 · intro hno;have hnot:k∉xs.map (·.1):=not_mem_keys_of_get hno;have hz:es.size≤sizeLine:=by have e:=size_of_entries he;omega
   refine n0_ (wpAny_rule (n0_ (wpAny_updateDictKeys (hz:=hz) (s:={ s with toks:=s.toks+knd.draws k }) ho hd (n3_ (h2 (atKey_none_of_get hno) _ ⟨_,_,ep+1,n53_ _ ho (Obj.isFreed_of_dict (Obj.data_mapDictKeys hd _)),hc.mapDictKeys _,Obj.data_mapDictKeys hd _,?_,?_,?_⟩ (Heap.SameBut.update ..))))))
   · rw [storedH_new (atKey_none_of_get hno)];simp [he,entryOfKey]
   · rw [storedH_new (atKey_none_of_get hno)];intro x hx
     rcases n39_.mp hx with hx|hx
     · exact knd.keeps (his x hx) ho hd (Heap.SameBut.update ..)
     · obtain rfl:=n22_.mp hx;exact knd.keeps hkey ho hd (Heap.SameBut.update ..)
   · rw [storedH_new (atKey_none_of_get hno),n51_,List.nodup_append];refine ⟨hn,by simp,fun x hx y hy=>?_⟩;obtain rfl:y=k:=by simpa using hy
     exact fun e=>hnot (e ▸ hx)
 · intro j p hj;have hp:=h1 p (atKey_of_get hn hj);refine n0_ (wpAny_dictEntries (s:={ s with toks:=s.toks+knd.draws k }) ho hd ?_);rw [entry_at he j,hj];exact n0_ (wpAny_rule (n3_ hp))
end
inductive BxRSetD (x:V) (vs:List V) (H:Hp) (Q:VK):Prop
 | mk (a:_) (b:_) (kvs:_) (k:_) (y:_) (q1:x=.ref a) (q2:vs=[.ref b,y]) (q3:H a=some (.dT kvs)) (q4:H b=some (.tup (k.map kV))) (q5:kvs.length<sizeLine) (q6:(∀ v,valV kvs k=some v→Q v H)) (q7:(valV kvs k=none→Q y (upd H a (.dT (putK kvs k y))))):BxRSetD x vs H Q
def Zw2:V→?N:=fun x vs H Q=>BxRSetD x vs H Q
theorem Zly (hu:X.A.units+1<cLine):MtR X "dict.setdefault" Zw2:=by
 intro pins s σ H x vs v us Q I rx rv h;obtain ⟨a,b,kvs,k,y,rfl,rfl,e,eb,l,q1,q2⟩:=h;cases rx
 cases rv with
 | cons rb rv =>
   cases rv with
   | cons ry rv =>
     cases rv
     rename_i ub uy
     cases (show ub=Value.ref b from rb)
     obtain ⟨z,hd,xs,rel,dd⟩:=Zvd I.hok e;have hz:xs.length≤sizeLine:=by rw [← Paired.length rel];exact z
     have hl:(putK kvs k y).length≤sizeLine:=by have:=Zea kvs k y;omega
     refine wpAny_call_entry F.slot_dict_setdefault dd.typeIs F.entry_dict_setdefault ?_ (F.args_dict_setdefault_3 _ _ _);unfold Builtin.«dict.setdefault»;refine n0_ ?_;unfold Builtin.Dict.keyAndDefault;refine n0_ (wpAny_notOrdered_dict dd.typeIs ?_);show wpAny _ _ (pure (a,Value.ref b,some uy)) _ _ s
     refine n3_ ?_;show wpAny _ _ (if (a == sysModules)=true then _ else (dictSetDefault a (.ref b) uy >>= _)) _ _ s
     rw [if_neg (by rw [hd];exact n27_)];have rv:=KT.val rel k;refine n0_ (Zio (tupleKind_room_in1 hu) (Zg7 I.hok eb) dd (fun p hp=>n3_ ⟨_,rfl,?_⟩) (fun hn h' dd' hs=>n3_ ⟨_,rfl,?_⟩) hz)
     · rw [hp] at rv;cases ev:valV kvs k with
       | none=>rw [ev] at rv;cases rv
       | some v =>
         rw [ev] at rv;exact ⟨v,H,I.kept fun b o e=>e,rv,q1 v ev⟩
     · rw [hn] at rv
       have ev:valV kvs k=none:=by
        cases ev:valV kvs k with
        | none=>rfl
        | some v=>rw [ev] at rv;cases rv
       obtain ⟨q,es,ep,hq,h2,h3,h4,_,h5⟩:=dd';refine ⟨y,_,Zjj (ob:=.dT (putK kvs k y)) I (by rw [e];exact True.intro) hs ⟨q,hq⟩ ⟨hl,hd,_,(rel.put k eb ry).keeps fun c ys ec=>?_,q,es,ep,hq,h2,h3,h4,h5⟩,ry,q2 ev⟩;rw [Zk (Zox ec e (fun z=>nomatch z))];exact ec
end L2
namespace STb
open PySem
structure TW (bt:Bool) (t:SetTable):Prop where
 led:t.led = !bt
 ris:t.place.toList.Pairwise (·<·)
 dum:t.dummies=#[]
theorem Zkj {l:List Nat} (h:l.Pairwise (·<·)) {i j x y:Nat} (hi:l[i]? = some x) (hj:l[j]? = some y) (hij:i<j):x<y:=by
 obtain ⟨h1,rfl⟩:=n18_.mp hi;obtain ⟨h2,rfl⟩:=n18_.mp hj;exact n90_.mp h i j h1 h2 hij
theorem Zfx {xs:Array Nat} {j:Nat} (hp:xs.toList.Pairwise (·<·)):∀ (fuel lo hi:Nat),hi-lo≤fuel→lo≤hi→hi≤xs.size→(∀ (i x:Nat),i<lo→xs.toList[i]? = some x→x<j)→(∀ (i x:Nat),hi≤i→xs.toList[i]? = some x→j≤x) →
 (∀ (i x:Nat),i<SetTable.below.go xs j fuel lo hi→xs.toList[i]? = some x→x<j)∧(∀ (i x:Nat),SetTable.below.go xs j fuel lo hi≤i→xs.toList[i]? = some x→j≤x)∧SetTable.below.go xs j fuel lo hi≤xs.size
 | 0,lo,hi,hf,hl,hz,h1,h2=>by
   have:hi=lo:=?d
   subst this;exact ⟨h1,h2,hz⟩
 | fuel+1,lo,hi,hf,hl,hz,h1,h2=>by
   unfold SetTable.below.go
   by_cases c:lo<hi
   · rw [if_pos c];have m1:(lo+hi)/2<hi:=?d
     have m2:lo≤(lo+hi)/2:=?d
     generalize (lo+hi)/2=mid at m1 m2;have hm:mid<xs.size:=?d
     have em:xs.toList[mid]? = some xs[mid]:=by rw [Array.getElem?_toList];exact Array.getElem?_eq_getElem hm
     have eg:xs.getD mid j=xs[mid]:=by simp [Array.getD,hm]
     dsimp only;rw [eg]
     by_cases c2:xs[mid]<j
     · rw [if_pos c2];refine Zfx hp fuel (mid+1) hi (?d) (?d) hz (fun i x hi' e=>?_) h2
       by_cases ci:i=mid
       · subst ci;rw [em] at e;cases e;exact c2
       · have:=Zkj hp e em (?d);omega
     · rw [if_neg c2];refine Zfx hp fuel lo mid (?d) m2 (?d) h1 (fun i x hi' e=>?_)
       by_cases ci:i=mid
       · subst ci;rw [em] at e;cases e;omega
       · have:=Zkj hp em e (?d);omega
   · rw [if_neg c]
     have:hi=lo:=?d
     subst this;exact ⟨h1,h2,hz⟩
theorem Zbf {xs:Array Nat} (j:Nat) (hp:xs.toList.Pairwise (·<·)):(∀ (i x:Nat),i<SetTable.below xs j→xs.toList[i]? = some x→x<j)∧(∀ (i x:Nat),SetTable.below xs j≤i→xs.toList[i]? = some x→j≤x)∧SetTable.below xs j≤xs.size :=
 Zfx hp xs.size 0 xs.size (?d) (?d) (n11_ _) (fun i x h=>absurd h (?d)) (fun i x h e=>by
  have:=(n18_.mp e).1
  rw [Array.length_toList] at this;omega)
theorem below_next {xs:Array Nat} (hp:xs.toList.Pairwise (·<·)) {k x:Nat} (e:xs.toList[k]? = some x):SetTable.below xs (x+1)=k+1:=by
 obtain ⟨h1,h2,h3⟩:=Zbf (x+1) hp;have lk:=(n18_.mp e).1;rw [Array.length_toList] at lk
 by_cases c:SetTable.below xs (x+1)≤k
 · have:=h2 k x c e;omega
 · by_cases c2:k+1<SetTable.below xs (x+1)
   · have lt:k+1<xs.toList.length:=by rw [Array.length_toList];omega
     have e2:xs.toList[k+1]? = some xs.toList[k+1]:=n1_ lt;have a:=h1 (k+1) _ c2 e2;have b:=Zkj hp e e2 (?d);omega
   · omega
theorem below_zero {xs:Array Nat} (hp:xs.toList.Pairwise (·<·)):SetTable.below xs 0=0:=by
 obtain ⟨h1,h2,h3⟩:=Zbf 0 hp
 by_cases c:SetTable.below xs 0=0
 · exact c
 · have lt:0<xs.toList.length:=by rw [Array.length_toList];omega
   have:=h1 0 _ (?d) (n1_ lt)
   omega
theorem Zms {t:SetTable} {j:Nat} (hp:t.place.toList.Pairwise (·<·)) (h:t.slot j=.empty):j∉t.place.toList:=fun hm=>by
 obtain ⟨i,hi,e⟩:=n52_ hm;have e':t.place.toList[i]? = some j:=by rw [n1_ hi,e]
 obtain ⟨h1,h2,h3⟩:=Zbf j hp
 have c1:SetTable.below t.place j≤i:=by
  by_cases c:i<SetTable.below t.place j
  · have:=h1 i j c e';omega
  · omega
 have c2:SetTable.below t.place j=i:=by
  by_cases c:SetTable.below t.place j=i
  · exact c
  · have lt:SetTable.below t.place j<t.place.toList.length:=?d
    have e2:=n1_ lt;have a:=h2 _ _ (n11_ _) e2;have b:=Zkj hp e2 e' (?d);omega
 have:t.place[SetTable.below t.place j]? = some j:=by rw [c2,← Array.getElem?_toList];exact e'
 unfold SetTable.slot at h;simp only [this,beq_self_eq_true,if_true] at h;cases h
theorem Zgj {α:Type} (xs:Array α) (p:Nat) (x:α):(SetTable.insertAt xs p x).toList=xs.toList.take p++x :: xs.toList.drop p:=by
 unfold SetTable.insertAt;simp [Array.toList_extract,List.extract_eq_take_drop];exact n37_ ?f
theorem TW.put {bt:Bool} {t:SetTable} {j:Nat} (w:TW bt t) (h:t.slot j=.empty):TW bt (t.put j).1:=by
 obtain ⟨h1,h2,h3⟩:=Zbf j w.ris;have nj:=Zms w.ris h;refine ⟨w.led,?_,?_⟩
 · show (SetTable.insertAt t.place (SetTable.below t.place j) j).toList.Pairwise (·<·)
   rw [Zgj,List.pairwise_append];refine ⟨w.ris.sublist (List.take_sublist ..),List.pairwise_cons.mpr ⟨fun y hy=>?_,w.ris.sublist (List.drop_sublist ..)⟩,fun a ha b hb=>?_⟩
   · obtain ⟨i,hi,e⟩:=n52_ hy;rw [List.getElem_drop] at e;have e':t.place.toList[SetTable.below t.place j+i]? = some y:=by rw [← e];exact n1_ _
     have:=h2 _ _ (Nat.le_add_right _ _) e'
     have:y≠j:=fun z=>nj (z ▸ n6_ e')
     omega
   · obtain ⟨i,hi,e⟩:=n52_ ha;rw [n43_] at hi;rw [List.getElem_take] at e;have e':t.place.toList[i]? = some a:=by rw [← e];exact n1_ _
     have aj:=h1 i a (?d) e'
     rcases n13_.mp hb with rfl|hb
     · exact aj
     · obtain ⟨i2,hi2,e2⟩:=n52_ hb;rw [List.getElem_drop] at e2;have e2':t.place.toList[SetTable.below t.place j+i2]? = some b:=by rw [← e2];exact n1_ _
       have:=h2 _ _ (Nat.le_add_right _ _) e2'
       omega
 · have h2:SetTable.has t.dummies j=false:=by
    rw [w.dum];unfold SetTable.has;simp
   show (if SetTable.has t.dummies j=true then _ else t.dummies)=#[]
   rw [h2];exact w.dum
theorem TW.laid {bt:Bool} {mask finger moves:Nat} {led plain:Bool} {hs:Array Int} {t':SetTable} {order:Array Nat} (hl:led = !bt) (e:SetTable.laid mask finger moves led plain hs=some (t',order)):TW bt t':=by
 unfold SetTable.laid at e;cases q:SetTable.layClean mask hs with
 | none=>rw [q] at e;cases e
 | some owner =>
   rw [q] at e;have e:=Option.some.inj e;have e1:=(Prod.mk.inj e).1;rw [← e1];refine ⟨hl,?_,rfl⟩;show (List.map (·.1) (List.filterMap (fun j=>(owner.getD j none).map (j,·)) (List.range (mask+1)))).Pairwise (·<·)
   rw [List.map_filterMap];refine List.Pairwise.filterMap _ (fun a b hab x hx y hy=>?_) List.pairwise_lt_range
   have ex:x=a:=by
    cases z:owner.getD a none with
    | none=>simp [z] at hx
    | some i=>simp [z] at hx;exact hx.symm
   have ey:y=b:=by
    cases z:owner.getD b none with
    | none=>simp [z] at hy
    | some i=>simp [z] at hy;exact hy.symm
   rw [ex,ey];exact hab
end STb
namespace STb
open PySem
def vals (owner:Array (Option Nat)):List Nat:=owner.toList.filterMap id
theorem Zgg (n:Nat):∀ (l:List (Option Nat)) (j:Nat),l[j]? = some none→((l.set j (some n)).filterMap id).Perm (n :: l.filterMap id)
 | [],j,h=>by simp at h
 | z :: l,0,h=>by
   have:z=none:=by simpa using h
   subst this;exact .refl _
 | none :: l,j+1,h=>Zgg n l j (by simpa using h)
 | some k :: l,j+1,h=>((Zgg n l j (by simpa using h)).cons k).trans (.swap ..)
theorem Zpq {owner:Array (Option Nat)} {j n:Nat} (h:owner[j]? = some none):(vals (owner.setIfInBounds j (some n))).Perm (n :: vals owner):=by
 unfold vals;rw [Array.toList_setIfInBounds];exact Zgg n _ j (by simpa using h)
theorem Zhz {M:Nat} (hm:masks M):∀ (hs:?g) (n:Nat) (owner:Array (Option Nat)),Own M n owner→(vals owner).Perm (List.range n)→n+hs.length<M+1→∃ owner',hs.foldl (X7 M) (some (owner,n))=some (owner',n+hs.length)∧Own M (n+hs.length) owner'∧(vals owner').Perm (List.range (n+hs.length))
 | [],n,owner,o,p,_=>⟨owner,rfl,o,p⟩
 | h :: hs,n,owner,o,p,hl=>by
   rw [n21_] at hl;obtain ⟨j,r1,r2⟩:=o.free hm (?d) h
   have e:X7 M (some (owner,n)) h=some (owner.setIfInBounds j (some n),n+1):=by
    unfold X7;show (SetTable.layClean.free M owner (SetTable.turns M) (SetTable.bits h % (M+1)) (SetTable.bits h)).bind _=_
    rw [r1];rfl
   have p2:(vals (owner.setIfInBounds j (some n))).Perm (List.range (n+1)):=by
    rw [List.range_succ];exact (Zpq r2).trans ((p.cons n).trans (List.perm_append_singleton n _).symm)
   obtain ⟨owner',e2,o2,p3⟩:=Zhz hm hs (n+1) _ (o.put r2) p2 (?d);refine ⟨owner',?_,?_,?_⟩
   · rw [n80_,e,e2,n21_];congr 2;omega
   · rw [n21_,show n+(hs.length+1)=n+1+hs.length by omega];exact o2
   · rw [n21_,show n+(hs.length+1)=n+1+hs.length by omega];exact p3
theorem Zgk {M:Nat} (hm:masks M) (hs:Array Int) (hl:hs.size<M+1):∃ owner,SetTable.layClean M hs=some owner∧Own M hs.size owner∧(vals owner).Perm (List.range hs.size):=by
 obtain ⟨owner,e,o,p⟩:=Zhz hm hs.toList 0 _ (own0 M) (by
  unfold vals;rw [Array.toList_replicate,List.filterMap_eq_nil_iff.mpr fun x hx=>by rw [List.eq_of_mem_replicate hx];rfl];exact .refl _) (by simpa using hl)
 refine ⟨owner,?_,by simpa using o,by simpa using p⟩;unfold SetTable.layClean;rw [← Array.foldl_toList]
 have:(hs.toList.foldl (X7 M) (some (Array.replicate (M+1) none,0)))=some (owner,0+hs.toList.length):=e
 show (List.foldl (X7 M) (some (Array.replicate (M+1) none,0)) hs.toList).map (·.1)=some owner
 rw [this];rfl
theorem Zn0 {M n:Nat} {owner:Array (Option Nat)} (o:Own M n owner):(List.map (·.2) ((List.range (M+1)).filterMap fun j=>(owner.getD j none).map (j,·)))=vals owner:=by
 have e2:owner.toList=(List.range owner.size).map (fun j=>owner.getD j none):=by
  refine List.ext_getElem ?f fun i h1 h2=>?_;have hi:i<owner.size:=by simpa using h1
  simp [Array.getD,hi]
 unfold vals;rw [e2,o.size,List.filterMap_map,List.map_filterMap];refine congrArg (fun f=>List.filterMap f (List.range (M+1))) (funext fun j=>?_);show Option.map (·.2) ((owner.getD j none).map (j,·))=owner.getD j none
 cases owner.getD j none<;>rfl
theorem Ziw {t:SetTable} {hs:Array Int} {wanted M:Nat} (hM:SetTable.sizeAbove wanted-1=M) (hm:masks M) (hl:hs.size<M+1):∃ (t':SetTable) (order:Array Nat),t.relaid hs wanted=some (t',order)∧t'.mask=M∧t'.dummies=#[]∧t'.place.size=hs.size∧t'.plain=t.plain∧order.toList.Perm (List.range hs.size):=by
 obtain ⟨owner,e,o,p⟩:=Zgk hm hs hl;unfold SetTable.relaid SetTable.laid;rw [hM,e];refine ⟨_,_,rfl,rfl,rfl,?_,rfl,?_⟩
 · simp only [n16_,n7_];exact Zf4 o
 · show (List.map (·.2) ((List.range (M+1)).filterMap fun j=>(owner.getD j none).map (j,·))).Perm _
   rw [Zn0 o];exact p
structure TP (bt:Bool) (n:Nat) (t:SetTable):Prop where
 tw:TW bt t
 pl:t.plain=true
 msk:masks t.mask
 sz:t.place.size=n
 few:n*5<t.mask*3
theorem Zi2 {t:SetTable} {n:Nat} (sz:t.place.size=n) (dum:t.dummies=#[]) (h:n≤t.mask):t.fits n=true:=by
 unfold SetTable.fits SetTable.fill;rw [dum,sz]
 simp
 exact h
theorem TP.fits {bt:Bool} {n:Nat} {t:SetTable} (w:TP bt n t):t.fits n=true:=Zi2 w.sz w.tw.dum (by have:=w.few;omega)
theorem TP.fresh (bt:Bool):TP bt 0 (.fresh 0 0 (!bt)):=⟨⟨rfl,.nil,rfl⟩,rfl,.inl rfl,rfl,show 0*5<7*3 by decide⟩
theorem Zfk {t:SetTable} {F:Nat→Int} {h:Int} (hF:∀ i,(F i == h)=false) (hd:t.dummies=#[]):∀ (fuel:Nat) (p:SetTable.Probe) {j i:Nat} {q:SetTable.Probe},SetTable.probe.go t F h fuel p≠some (.candidate j i q)
 | 0,p,j,i,q=>by intro e;cases e
 | fuel+1,p,j,i,q=>by
   intro e;unfold SetTable.probe.go at e
   rcases Zfj (t:=t) (j:=p.j) hd with z|⟨i',z,_⟩
   · rw [z] at e;cases e
   · rw [z] at e;simp only [hF,n19_,if_false] at e;exact Zfk hF hd fuel _ e
theorem TP.free {bt:Bool} {n:Nat} {t:SetTable} (w:TP bt n t) (h:Int):∃ j,t.freeSlot h=some (j,false)∧t.slot j=.empty:=by
 have lt:t.place.size<t.mask+1:=by rw [w.sz];have:=w.few;omega
 rcases go_near (t:=t) (f:=fun _=>h+1) (h:=h) w.tw.dum (10*(t.mask+13)) (10*SetTable.turns t.mask) (t.probeStart h) rfl (near_start w.msk w.tw.dum lt) (by unfold SetTable.turns;omega) with ⟨j,e,z⟩|⟨j,i,q,e,_⟩
 · refine ⟨j,?_,z⟩;unfold SetTable.freeSlot SetTable.probe;rw [e];rfl
 · exact absurd e (Zfk (fun i=>by simp;omega) w.tw.dum _ _)
theorem TP.layNew {bt:Bool} {t:SetTable} {es:Array (Int×Value)} (w:TP bt es.size t) (h:Int) (x:Value):∃ es1 t1,PySem.layNew t es h x=(es1,t1,false,false)∧TW bt t1∧t1.plain=true∧t1.mask=t.mask∧t1.place.size=es.size+1:=by
 obtain ⟨j,e,z⟩:=w.free h;obtain ⟨u1,u2,u3⟩:=L2.Zg9 t j;have few:=w.few
 have fit:((t.put j).1).fits (SetTable.insertAt es (t.put j).2 (h,x)).size=true:=by
  rw [insertAt_size];exact Zi2 (by rw [u1,w.sz]) (u2 w.tw.dum) (by rw [u3];omega)
 refine ⟨SetTable.insertAt es (t.put j).2 (h,x),(t.put j).1,?_,w.tw.put z,w.pl,u3,by rw [u1,w.sz]⟩;unfold PySem.layNew;rw [e];show (SetTable.insertAt es (t.put j).2 (h,x),SetTable.orStandIn (t.put j).1 (SetTable.insertAt es (t.put j).2 (h,x)).size,false,!((t.put j).1).fits (SetTable.insertAt es (t.put j).2 (h,x)).size)=_
 rw [fit];unfold SetTable.orStandIn;rw [if_pos fit];rfl
theorem relay_TP {bt:Bool} {t:SetTable} {es:Array (Int×Value)} (w:TW bt t) (pl:t.plain=true) (msk:masks t.mask) (sz:t.place.size=es.size) (hn:es.size≤30) (full:es.size*5 ≥ t.mask*3) (h2:(es.size-1)*5<t.mask*3):TP bt es.size (PySem.relayAll t es (SetTable.grown es.size)).2.1:=by
 obtain ⟨g1,g2,g3,_⟩:=L2.Zmi hn msk full h2;have z:(es.map (·.1)).size=es.size:=by simp
 obtain ⟨t',order,e,r1,r2,r3,r4,r5⟩:=Ziw (t:=t) (hs:=es.map (·.1)) (wanted:=SetTable.grown es.size) rfl g1 (by rw [z];exact g2);rw [z] at r3 r5;have os:order.size=es.size:=by rw [← Array.length_toList,r5.length_eq,n66_]
 have ok:∀ k∈order.toList,k<es.size:=fun k hk=>n42_.mp (r5.mem_iff.mp hk);have ps:=(pick_size os ok).1
 have cov:coversAll order es.size=true:=by
  unfold coversAll;exact List.isPerm_iff.mpr r5
 have fit:t'.fits (order.filterMap (es[·]?)).size=true:=by
  rw [ps];exact Zi2 r3 r2 (by rw [r1];omega)
 unfold PySem.relayAll;rw [e];dsimp only;rw [cov,fit];simp only [Bool.and_self,if_true];refine ⟨?_,by rw [r4,pl],by rw [r1];exact g1,r3,by rw [r1];exact g3⟩;exact TW.laid w.led e
end STb
namespace L2
open PySem PySem.Spec PyProof.Rows
def Xc (w:World):Bool:=w.params.followText "set-order"
structure IsW (bt:Bool) (ks:?g) (es:Array (Int×Value)) (t:SetTable):Prop where
 el:∀ e∈es.toList,(∃ k,Value.isInt k e.2=true∧e.1=hashInt k)∧e.2.scannable=true
 ns:∃ ns,IntsAre (es.toList.map (·.2)) ns∧ns.Perm ks
 nd:ks.Nodup
 tw:STb.TP bt es.size t
def SetI (bt:Bool) (h:Heap) (a:Addr) (ks:?g):Prop:=∃ o es ep t,h.get? a=some o∧o.ExactSet∧o.data=.set es ep t∧es.size<scanBound∧IsW bt ks es t
def setI (bt:Bool) (a:Addr) (ks:?g):HO:=.ext fun h=>SetI bt h a ks
variable {α:Type} {S a l:Addr} {es:Array (Int×Value)} {items:?H} {bt:Bool} {X:Cx} {elt i0 i1 t0 t1:Expr} {h h':Heap} {H:Hp} {fr:List (Option Nat)} {cl:List (Str×Addr)} {ks ns:?g} {N:List Str} {us:?q} {ep i n:Nat} {o:Obj} {pos:Pos} {P:Program} {scope:Scope} {s:Shared} {te:TE} {wi:TI} {Q:Value→?k} {w:World}
theorem SetI.stay (h1 h2:Heap) (s:SetI bt h1 a ks) (e:∀ o,h1.get? a=some o→h2.get? a=some o):SetI bt h2 a ks:=let ⟨o,es,ep,t,g,r⟩:=s;⟨o,es,ep,t,e _ g,r⟩
theorem Zip (s:SetI bt h a ks):ObjOk P w H h a (setI bt a ks):=⟨s,let ⟨o,_,_,_,g,_⟩:=s;⟨o,g⟩,fun h1 h2 x e=>SetI.stay h1 h2 x e⟩
theorem Zm2 (x:ObjOk P w H h a (setI bt a ks)):SetI bt h a ks:=x.1
theorem Zk2:∀ {vs:?q} {ns:?g} {k:Int},IntsAre vs ns→(k∈ns↔∃ v∈vs,Value.isInt k v=true)
 | _,_,k,.nil=>by simp
 | _,_,k,.cons n t r=>by
   rw [n13_,Zk2 r];constructor
   · rintro (rfl|⟨v,hv,e⟩)
     · exact ⟨_,n24_,by simp [Value.isInt]⟩
     · exact ⟨v,n17_ _ hv,e⟩
   · rintro ⟨v,hv,e⟩
     rcases n13_.mp hv with rfl|hv
     · left;exact (show n=k by simpa [Value.isInt] using e).symm
     · exact .inr ⟨v,hv,e⟩
theorem Zj5:∀ {vs us:?q} {ns ms:?g},IntsAre vs ns→IntsAre us ms→IntsAre (vs++us) (ns++ms)
 | _,_,_,_,.nil,h=>h
 | _,_,_,_,.cons n t r,h=>.cons n t (Zj5 r h)
theorem Zge:∀ {vs:?q} {ns:?g},IntsAre vs ns→vs.length=ns.length
 | _,_,.nil=>rfl
 | _,_,.cons n t r=>by simp [Zge r]
theorem Zdm {vs:?q} (p:List.Perm us vs):∀ {ns:?g},IntsAre vs ns→∃ ms,IntsAre us ms∧ms.Perm ns:=by
 induction p with
 | nil=>intro ns h;exact ⟨ns,h,.refl _⟩
 | cons x _ ih=>intro ns h;cases h with|cons n t r=>obtain ⟨ms,a,b⟩:=ih r;exact ⟨n :: ms,.cons n t a,.cons _ b⟩
 | swap x y l=>intro ns h;cases h with|cons n t r=>cases r with|cons m u r=>exact ⟨m :: n :: _,.cons m u (.cons n t r),.swap ..⟩
 | trans p1 p2 ih1 ih2=>intro ns h;obtain ⟨ms,a,b⟩:=ih2 h;obtain ⟨ks,c,d⟩:=ih1 a;exact ⟨ks,c,d.trans b⟩
theorem IsW.len {t:SetTable} (i:IsW bt ks es t):es.size=ks.length:=by
 obtain ⟨ns,a,p⟩:=i.ns
 have:=Zge a
 rw [n7_,Array.length_toList] at this;rw [this,p.length_eq]
theorem IsW.mem {t:SetTable} (i:IsW bt ks es t) (k:Int):k∈ks↔∃ e∈es.toList,Value.isInt k e.2=true:=by
 obtain ⟨ns,a,p⟩:=i.ns;rw [← p.mem_iff,Zk2 a];exact ⟨fun ⟨v,hv,e⟩=>let ⟨x,hx,ex⟩:=n25_.mp hv;⟨x,hx,by rw [ex];exact e⟩,fun ⟨x,hx,e⟩=>⟨x.2,n25_.mpr ⟨x,hx,rfl⟩,e⟩⟩
def addI (ks:?g) (k:Int):?g:=if k∈ks then ks else ks++[k]
section
variable {P:Program} {w:World} {bt:Bool} {A:Around} {E:Value→?k} {s:Shared}
theorem SetI.store {es':Array (Int×Value)} {t t':SetTable} (get:h.get? a=some o) (ex:o.ExactSet) (dat:o.data=.set es ep t) (hb:es'.size<scanBound) (i:IsW bt ks es' t') :
 (h.update a (Obj.putSet es' t')).get? a=some { o with data:=.set es' (ep+1) t' }∧SetI bt (h.update a (Obj.putSet es' t')) a ks:=by
 have hg:(h.update a (Obj.putSet es' t')).get? a=some { o with data:=.set es' (ep+1) t' }:=by
  have:=n53_ (Obj.putSet es' t') get (by rw [putSet_of es' t' dat];rfl)
  rw [putSet_of es' t' dat] at this;exact this
 exact ⟨hg,_,_,_,_,hg,ex,rfl,hb,i⟩
theorem Zpd {g:Bool→Sem Unit} (hg:∀ (b:Bool) (s₁:Shared) (Q':Unit→?k),Q' () s₁→wpAny (model P w) A (g b) Q' E s₁)
 {t:SetTable} (ho:s.heap.get? a=some o) (hex:o.ExactSet) (hd:o.data=.set es ep t)
 {es1:Array (Int×Value)} {t2:SetTable} (el:ElemsOf (intKind P w) es1.toList) (ns:∃ ns,IntsAre (es1.toList.map (·.2)) ns∧ns.Perm ks) (nd:ks.Nodup)
 (tw:STb.TW bt t2) (pl:t2.plain=true) (msk:STb.masks t2.mask) (sz:t2.place.size=es1.size) (hn:es1.size≤30) (h2:(es1.size-1)*5<t2.mask*3) {R:Option Bool→?k}
 (h:∀ h',Heap.SameBut a s.heap h'→SetI bt h' a ks→R (some true) { s with heap:=h' }) :
 wpAny (model P w) A (do
  storeSet a es1 t2
  if (!false&&t2.tooFull)=true then do
      g (relayAll t2 es1 (SetTable.grown es1.size)).2.2
      storeSet a (relayAll t2 es1 (SetTable.grown es1.size)).1 (relayAll t2 es1 (SetTable.grown es1.size)).2.1
      pure (some true)
   else pure (some true)) R E s:=by
 have hb1:es1.size<scanBound:=n10_ hn ?e
 have full:t2.tooFull=decide (es1.size*5 ≥ t2.mask*3):=by
  unfold SetTable.tooFull SetTable.fill;rw [tw.dum,sz];rfl
 refine n0_ (wpAny_storeSet_of ho hd ?_ (fits_of_scanBound hb1));have hsb1:=Heap.SameBut.update s.heap a (Obj.putSet es1 t2)
 have ho1:(s.heap.update a (Obj.putSet es1 t2)).get? a=some { o with data:=.set es1 (ep+1) t2 }:=by
  have:=n53_ (Obj.putSet es1 t2) ho (by rw [putSet_of es1 t2 hd];rfl)
  rw [putSet_of es1 t2 hd] at this;exact this
 by_cases hf:es1.size*5 ≥ t2.mask*3
 · rw [full,n44_ hf];simp only [Bool.not_false,Bool.true_and,if_true];have hp:=relayAll_perm t2 es1 (SetTable.grown es1.size);have htw:=STb.relay_TP (es:=es1) tw pl msk sz hn hf h2;generalize hRl:relayAll t2 es1 (SetTable.grown es1.size)=Rl at hp htw ⊢;obtain ⟨es2,t3,gave2⟩:=Rl;dsimp only at hp htw ⊢;have hsz:es2.size=es1.size:=by rw [← Array.length_toList,hp.length_eq,Array.length_toList]
   have hb2:es2.size<scanBound:=by rw [hsz];exact hb1
   have i2:IsW bt ks es2 t3:=by
    obtain ⟨ns,x,y⟩:=ns;obtain ⟨ms,x',y'⟩:=Zdm (hp.map (·.2)) x;exact ⟨el.perm hp,⟨ms,x',y'.trans y⟩,nd,by rw [hsz];exact htw⟩
   refine n0_ (hg _ _ _ ?_);refine n0_ (wpAny_storeSet_of ho1 rfl ?_ (fits_of_scanBound hb2));obtain ⟨_,hS2⟩:=SetI.store ho1 hex rfl hb2 i2;exact n3_ (h _ (hsb1.trans (Heap.SameBut.update _ a _)) hS2)
 · rw [full,n29_ hf];simp only [Bool.not_false,Bool.true_and,n19_,if_false];exact n3_ (h _ hsb1 ⟨_,_,_,_,ho1,hex,rfl,hb1,el,ns,nd,tw,pl,msk,sz,?d⟩)
theorem Zes {k:Int} {u:Tok} {Q:Bool→?k} (hS:SetI bt s.heap a ks) (hroom:ks.length<30)
 (h:∀ b h',Heap.SameBut a s.heap h'→SetI bt h' a (addI ks k)→Q b { s with heap:=h' }) :
 wpAny (model P w) A (setAddHashed a (.int k u) (hashInt k)) Q E s:=by
 obtain ⟨o,es,ep,t,ho,hex,hd,hb,i⟩:=hS;have hkey:(intKind P w).is k (.int k u)=true:=intKind_is _ _ _ _;have hlen:=i.len;unfold setAddHashed setAddHashedIn;refine n34_ (n0_ (wpAny_setState_of ho hd i.tw.fits ?_));dsimp only;rw [byScan_of (knd:=intKind P w) rfl hb (show ElemsOf (intKind P w) es.toList from i.el)];simp only [↓reduceIte];unfold setAddByScan;refine n0_ ?_;refine n0_ (wpAny_rule ?_);refine n0_ (wpAny_setScan_of (knd:=intKind P w) hkey ho hd i.tw.fits (show ElemsOf (intKind P w) es.toList from i.el) ?_);cases hr:List.findIdx? (fun e=>(intKind P w).is k e.2) es.toList with
 | some j =>
   dsimp only;obtain ⟨hj,hpj,_⟩:=List.findIdx?_eq_some_iff_getElem.mp hr;have hk:k∈ks:=(i.mem k).mpr ⟨es.toList[j],n28_ hj,hpj⟩;refine n3_ (n3_ ?_)
   have:=h false s.heap (Heap.SameBut.refl a s.heap) ⟨o,es,ep,t,ho,hex,hd,hb,by rw [addI,if_pos hk];exact i⟩
   have e:s={ s with heap:=s.heap }:=by cases s;rfl
   rw [e];exact this
 | none =>
   dsimp only
   have hk:k∉ks:=fun z=>by
    obtain ⟨e,he,hp⟩:=(i.mem k).mp z
    have:=List.findIdx?_eq_none_iff.mp hr e he
    rw [show (intKind P w).is k e.2=true from hp] at this;cases this
   have hperm:=layNew_perm t es (hashInt k) (.int k u);obtain ⟨es1,t1,hL,htw,hpl,hmk,hsz⟩:=i.tw.layNew (hashInt k) (.int k u);rw [hL] at hperm ⊢;dsimp only at hperm ⊢;rw [Array.toList_push] at hperm;have hel1:ElemsOf (intKind P w) es1.toList:=((show ElemsOf (intKind P w) es.toList from i.el).push hkey rfl).perm hperm;have hsz1:es1.size=es.size+1:=by rw [← Array.length_toList,hperm.length_eq,n30_,Array.length_toList];rfl
   have hns:∃ ns,IntsAre (es1.toList.map (·.2)) ns∧ns.Perm (addI ks k):=by
    obtain ⟨ns,x,y⟩:=i.ns
    have z:IntsAre ((es.toList++[(hashInt k,Value.int k u)]).map (·.2)) (ns++[k]):=by
     rw [n51_];exact Zj5 x (.cons k u .nil)
    obtain ⟨ms,x',y'⟩:=Zdm (hperm.map (·.2)) z;exact ⟨ms,x',y'.trans (by rw [addI,if_neg hk];exact y.append_right _)⟩
   have hnd:(addI ks k).Nodup:=by
    rw [addI,if_neg hk,List.nodup_append];exact ⟨i.nd,by simp,fun a ha b hb=>by rw [n22_.mp hb];exact fun z=>hk (z ▸ ha)⟩
   have few:=i.tw.few;refine n0_ (n3_ ?_);rw [hpl];simp only [↓reduceIte];refine n0_ ?_;rw [hashByValue_scannable 8 rfl];refine n3_ ?_;refine Zpd ?_ ho hex hd hel1 hns hnd htw hpl (by rw [hmk];exact i.tw.msk) (by rw [hsz,hsz1]) (?d) (by rw [hmk,hsz1];simpa using few) ?_
   · intro b s₁ Q' hq;cases b<;>first|exact n3_ hq|exact wpAny_rule hq
   · intro h' hsb hS';dsimp only;exact n3_ (h _ h' hsb hS')
theorem Zt3
 (h:∀ o0,SetI (Xc w) (s.heap.push o0) s.z []→Q (.ref s.z) { s with heap:=s.heap.push o0 }):wpAny (model P w) A (newSet (.type "set")) Q E s:=by
 unfold newSet setsByText;refine n0_ (n0_ (wpAny_askSetting (n3_ ?_)));dsimp only;simp only [newObj];exact n0_ (wpAny_alloc (n3_ (h _ ⟨_,#[],0,_,n8_ _ rfl,⟨rfl,rfl,rfl⟩,rfl,?t,fun e he=>by simp at he,⟨[],.nil,.refl _⟩,.nil,STb.TP.fresh _⟩)))
end
theorem X9:∀ {l:List α} {i:Nat} (h:i<l.length),(l[i] :: l.eraseIdx i).Perm l
 | x :: l,0,h=>.refl _
 | x :: l,i+1,h=>(List.Perm.swap ..).trans ((X9 (l:=l) (i:=i) (by simpa using h)).cons x)
theorem Zou (next:Nat→Nat):∀ (fuel k:Nat) (left:List α) (out:Array α),left.length=fuel→(pickOrder.go next fuel k left out).toList.Perm (out.toList++left)
 | 0,k,left,out,h=>by
   have:left=[]:=List.eq_nil_of_length_eq_zero h
   subst this;unfold pickOrder.go
   simp
 | fuel+1,k,left,out,h=>by
   have hp:0<left.length:=?d
   have hi:next k % left.length<left.length:=Nat.mod_lt _ hp
   unfold pickOrder.go;rw [n1_ hi];dsimp only;refine (Zou next fuel (k+1) _ _ (by rw [List.length_eraseIdx_of_lt hi];omega)).trans ?_;rw [Array.toList_push,n78_];exact List.Perm.append_left _ (X9 hi)
theorem Zh2 (next:Nat→Nat) (xs:Array α):(pickOrder next xs).toList.Perm xs.toList:=by
 have:=Zou next xs.size 0 xs.toList #[] ?f
 simpa [pickOrder] using this
def Zaw (w:World) (S:Addr) (ep:Nat) (es:Array (Int×Value)):?q:=(if Xc w=true then (pickOrder (w.params.setOrder S ep) es).toList else es.toList).map (·.2)
theorem Zh3 (w:World) (S:Addr) (ep:Nat) (es:Array (Int×Value)):(Zaw w S ep es).Perm (es.toList.map (·.2)):=by
 unfold Zaw;split
 · exact (Zh2 _ es).map _
 · exact .refl _
def X3 (w:World) (t:SetTable):Nat→Nat
 | 0=>0
 | i+1=>if Xc w=true then 0 else t.place.getD i 0+1
theorem Zjo {t:SetTable} (h:Xc w=true):∀ i,X3 w t i=0
 | 0=>rfl
 | i+1=>if_pos h
structure SetAt (w:World) (h:Heap) (S:Addr) (es:Array (Int×Value)) (ep:Nat) (t:SetTable):Prop where
 get:∃ o,h.get? S=some o∧o.ExactSet∧o.data=.set es ep t
 tp:STb.TP (Xc w) es.size t
theorem SetAt.stay {t:SetTable} (x:SetAt w h S es ep t) (e:∀ o,h.get? S=some o→h'.get? S=some o):SetAt w h' S es ep t:=⟨let ⟨o,a,b⟩:=x.get;⟨o,e _ a,b⟩,x.tp⟩
section
variable {P:Program} {w:World} {A:Around} {E:Value→?k} {s:Shared}
theorem Zb1 {Q:Bool→?k} (h:Q (Xc w) s):wpAny (model P w) A setsByText Q E s:=n0_ (wpAny_askSetting (n3_ h))
theorem Zcr {t:SetTable} {Q:Array (Int×Value)→?k} (x:SetAt w s.heap S es ep t) (ht:Xc w=true) (h:Q (pickOrder (w.params.setOrder S ep) es) s):wpAny (model P w) A (setWalk S) Q E s:=by
 obtain ⟨o,g,ex,d⟩:=x.get;unfold setWalk;refine n0_ (wpAny_setState_of g d x.tp.fits ?_);dsimp only;refine n0_ (Zb1 ?_);rw [ht];simp only [if_true];exact n0_ (wpAny_askSetting (n3_ h))
theorem Znf {t:SetTable} {v:Value} {Q:Option (Value×Nat)→?k} (x:SetAt w s.heap S es ep t) (hv:(Zaw w S ep es)[i]? = some v) (h:Q (some (v,X3 w t (i+1))) s) :
 wpAny (model P w) A (setNext S (X3 w t i) i ep) Q E s:=by
 obtain ⟨o,g,ex,d⟩:=id x.get;unfold setNext;refine n0_ (wpAny_setState_of g d x.tp.fits ?_);dsimp only;refine n0_ (Zb1 ?_);cases ht:Xc w with
 | true =>
   simp only [if_true];rw [if_neg ?f];refine n0_ (Zcr x ht (n3_ ?_));unfold Zaw at hv;rw [if_pos ht,n4_,Array.getElem?_toList] at hv;cases q:(pickOrder (w.params.setOrder S ep) es)[i]? with
   | none=>rw [q] at hv;cases hv
   | some e =>
     rw [q] at hv;have hv:e.2=v:=by simpa using hv
     rw [Zjo ht] at h ⊢;show Q (some (e.2,0)) s
     rw [hv];exact h
 | false =>
   simp only [n19_,if_false];rw [if_neg (by show ¬ ((!t.plain&&decide (es.size>1))=true);rw [x.tp.pl];simp)];have led:t.led=true:=by rw [x.tp.tw.led,ht];rfl
   refine n0_ ?_;show wpAny _ _ (if (!t.led&&!es.isEmpty)=true then _ else _) _ _ _
   rw [if_neg (by rw [led];simp)];refine n3_ (n3_ ?_)
   have hv':es[i]? = some (es.getD i default)∧(es.getD i default).2=v:=by
    unfold Zaw at hv;rw [if_neg (by rw [ht];decide),n4_,Array.getElem?_toList] at hv;cases q:es[i]? with
    | none=>rw [q] at hv;cases hv
    | some e =>
      rw [q] at hv
      have:es.getD i default=e:=by rw [Array.getD_eq_getD_getElem?,q];rfl
      rw [this];exact ⟨rfl,by simpa using hv⟩
   have hi:i<t.place.size:=by
    rw [x.tp.sz];exact (Array.getElem?_eq_some_iff.mp hv'.1).1
   have ej:t.place[i]? = some (t.place.getD i 0):=by rw [Array.getD_eq_getD_getElem?,Array.getElem?_eq_getElem hi];rfl
   have eb:SetTable.below t.place (X3 w t i)=i:=by
    cases i with
    | zero=>exact STb.below_zero x.tp.tw.ris
    | succ k =>
      show SetTable.below t.place (if Xc w=true then 0 else t.place.getD k 0+1)=k+1
      rw [if_neg (by rw [ht];decide)];have hk:k<t.place.size:=?d
      refine STb.below_next x.tp.tw.ris ?_;rw [Array.getElem?_toList,Array.getD_eq_getD_getElem?,Array.getElem?_eq_getElem hk];rfl
   rw [eb,hv'.1,ej];show Q (some ((es.getD i default).2,t.place.getD i 0+1)) s
   rw [hv'.2]
   have:X3 w t (i+1)=t.place.getD i 0+1:=if_neg (by rw [ht];decide)
   rw [this] at h;exact h
theorem Zpb {t:SetTable} {Q:Option (Value×Nat)→?k} (x:SetAt w s.heap S es ep t) (h:Q none s) :
 wpAny (model P w) A (setNext S (X3 w t es.size) es.size ep) Q E s:=by
 obtain ⟨o,g,ex,d⟩:=id x.get;unfold setNext;refine n0_ (wpAny_setState_of g d x.tp.fits ?_);dsimp only;refine n0_ (Zb1 ?_);cases ht:Xc w with
 | true =>
   simp only [if_true];rw [if_neg ?f];refine n0_ (Zcr x ht (n3_ ?_))
   have:(pickOrder (w.params.setOrder S ep) es)[es.size]? = none:=by
    refine Array.getElem?_eq_none ?_
    have:=(Zh2 (w.params.setOrder S ep) es).length_eq
    rw [Array.length_toList,Array.length_toList] at this;omega
   rw [this];exact h
 | false =>
   simp only [n19_,if_false];rw [if_neg (by show ¬ ((!t.plain&&decide (es.size>1))=true);rw [x.tp.pl];simp)];have led:t.led=true:=by rw [x.tp.tw.led,ht];rfl
   refine n0_ ?_;show wpAny _ _ (if (!t.led&&!es.isEmpty)=true then _ else _) _ _ _
   rw [if_neg (by rw [led];simp)];refine n3_ (n3_ ?_)
   have eb:es[SetTable.below t.place (X3 w t es.size)]? = none:=by
    have:SetTable.below t.place (X3 w t es.size)=es.size:=by
     have sz:=x.tp.sz;cases q:es.size with
     | zero=>exact STb.below_zero x.tp.tw.ris
     | succ k =>
       show SetTable.below t.place (if Xc w=true then 0 else t.place.getD k 0+1)=k+1
       rw [if_neg (by rw [ht];decide)];have hk:k<t.place.size:=?d
       refine STb.below_next x.tp.tw.ris ?_;rw [Array.getElem?_toList,Array.getD_eq_getD_getElem?,Array.getElem?_eq_getElem hk];rfl
    rw [this];exact Array.getElem?_eq_none (n11_ _)
   rw [eb];exact h
end
def IsSetIter (h:Heap) (I S:Addr) (n ep slot i:Nat):Prop:=∃ o,h.get? I=some o∧o.cls=.type "set_iterator" ∧ o.data=.fields #[.int slot 0,.int i 0,.ref S,.int n 0,.int ep 0]
theorem IsSetIter.typeIs {I:Addr} {slot:Nat} (x:IsSetIter s.heap I S n ep slot i):s.TypeIs (.ref I) "set_iterator" := let ⟨o,a,b,_⟩:=x;⟨o,a,b⟩
theorem IsSetIter.stay {I:Addr} {slot:Nat} (x:IsSetIter h I S n ep slot i) (e:∀ o,h.get? I=some o→h'.get? I=some o):IsSetIter h' I S n ep slot i:=let ⟨o,a,r⟩:=x;⟨o,e _ a,r⟩
theorem Zc0:Slot "set" "__iter__" "set.__iter__" :=
 .of (owner := "set") (n := "__iter__") (by rw [typeLookup_type,builtinLookup_eq_fast];kernel_rfl) (?i) (?i) (?i)
  (by first|exact .inl (?i)|exact .inr (?i)) (by rw [isSubtype_type];kernel_rfl)
theorem Y3:Slot "set_iterator" "__next__" "set_iterator.__next__" :=
 .of (owner := "set_iterator") (n := "__next__") (by rw [typeLookup_type,builtinLookup_eq_fast];kernel_rfl) (?i) (?i) (?i)
  (by first|exact .inl (?i)|exact .inr (?i)) (by rw [isSubtype_type];kernel_rfl)
theorem Zav:Slot "set_iterator" "__iter__" "set_iterator.__iter__" :=
 .of (owner := "set_iterator") (n := "__iter__") (by rw [typeLookup_type,builtinLookup_eq_fast];kernel_rfl) (?i) (?i) (?i)
  (by first|exact .inl (?i)|exact .inr (?i)) (by rw [isSubtype_type];kernel_rfl)
theorem Zfw:entryFor table "set.__iter__" = some Builtin.«frozenset.__iter__»:=entryFor_alias (id' := "frozenset.__iter__") (?o) rfl (?i) (?o)
theorem Zca:entryFor table "set_iterator.__iter__" = some Builtin.«dict_keyiterator.__iter__»:=entryFor_alias (id' := "dict_keyiterator.__iter__") (?o) rfl (?i) (?o)
theorem Zc8 (a:Value):argsOk "set_iterator.__iter__" ⟨[a],[]⟩:=by unfold argsOk;kernel_rfl
theorem Zb5:entryFor table "set_iterator.__next__" = some Builtin.«set_iterator.__next__»:=entryFor_of_fast (?o)
theorem Zii (a:Value):argsOk "set.__iter__" ⟨[a],[]⟩:=by unfold argsOk;kernel_rfl
theorem Zcw (a:Value):argsOk "set_iterator.__next__" ⟨[a],[]⟩:=by unfold argsOk;kernel_rfl
section
variable {P:Program} {w:World} {A:Around} {E:Value→?k} {s:Shared} {I S:Addr} {es:Array (Int×Value)} {ep i:Nat} {t:SetTable}
theorem SetAt.typeIs (x:SetAt w s.heap S es ep t):s.TypeIs (.ref S) "set" := let ⟨o,a,b,_⟩:=x.get;⟨o,a,b.1⟩
theorem SetAt.ents {Q:Array (Int×Value)→?k} (x:SetAt w s.heap S es ep t) (h:Q es s):wpAny (model P w) A (setEntries S) Q E s:=by
 obtain ⟨o,g,ex,d⟩:=x.get;exact wpAny_setEntries_of g d x.tp.fits h
theorem Zo5 (x:SetAt w s.heap S es ep t)
 (hQ:Q (.ref s.z) { s with heap:=s.heap.push { cls:=.type "set_iterator",data:=.fields #[.int (0:Nat) 0,.int (0:Nat) 0,.ref S,.int es.size 0,.int ep 0] } }) :
 wpAny (model P w) A (pyIter (.ref S)) Q E s:=by
 obtain ⟨o,g,ex,d⟩:=id x.get;refine wpAny_pyIter_slot x.typeIs Zc0 (wpAny_call_entry Zc0 x.typeIs Zfw ?_ (Zii _));unfold Builtin.«frozenset.__iter__»;show wpAny _ _ (Builtin.Frozenset.sizeOf S >>= _) _ _ s
 unfold Builtin.Frozenset.sizeOf;refine n0_ (n0_ (x.ents (n3_ ?_)));refine n0_ ?_;unfold setDrawn;refine n0_ (wpAny_setState_of g d x.tp.fits ?_);dsimp only;refine n0_ (Zb1 (n3_ ?_));have nd:(!Xc w&&(!t.plain&&decide (es.size>1)))=false:=by rw [x.tp.pl];simp
 show wpAny _ _ (if (!Xc w&&(!t.plain&&decide (es.size>1)))=true then _ else _) _ _ s
 rw [nd];simp only [n19_,if_false];refine n0_ (n3_ ?_);unfold setEpoch;refine n0_ (n0_ (wpAny_setState_of g d x.tp.fits (n3_ ?_)));exact n0_ (wpAny_newObj_type (n3_ ⟨_,rfl,"set_iterator",_,⟨_,n8_ _ rfl,rfl⟩,Y3.lookup,hQ⟩))
theorem Zm7 {slot:Nat} (hit:IsSetIter s.heap I S n ep slot i) (h:Q (.ref I) s):wpAny (model P w) A (pyIter (.ref I)) Q E s:=by
 refine wpAny_pyIter_slot hit.typeIs Zav (wpAny_call_entry Zav hit.typeIs Zca ?_ (Zc8 _));show wpAny _ _ (ret (.ref I)) _ _ s
 exact n3_ ⟨_,rfl,"set_iterator",_,hit.typeIs,Y3.lookup,h⟩
theorem Zlz {v:Value} {Q:?D→?k} (hne:S≠I) (hit:IsSetIter s.heap I S es.size ep (X3 w t i) i) (x:SetAt w s.heap S es ep t) (hv:(Zaw w S ep es)[i]? = some v)
 (hQ:∀ h',IsSetIter h' I S es.size ep (X3 w t (i+1)) (i+1)→Heap.SameBut I s.heap h'→Q (some v) { s with heap:=h' }):wpAny (model P w) A (pyNext (.ref I)) Q E s:=by
 obtain ⟨o,ho,hc,hd⟩:=id hit;unfold pyNext;refine n0_ (wpAny_attempt (wpAny_callSpecial?_slot (name:=Str.ofString "__next__") hit.typeIs Y3 (wpAny_call_entry Y3 hit.typeIs Zb5 ?_ (Zcw _))));unfold Builtin.«set_iterator.__next__»;refine n0_ (n3_ ?_);refine n0_ (wpAny_fieldsOf ho hd ?_);dsimp only;refine n0_ (x.ents ?_);rw [if_neg ?f];simp only [n61_];refine n0_ (Znf x hv ?_);dsimp only;refine n0_ (wpAny_setField ho hd ?f ?_);have hd1:=Obj.data_mapFields hd (·.setIfInBounds 0 (rawInt (X3 w t (i+1))));have ho1:=n53_ (Obj.mapFields (·.setIfInBounds 0 (rawInt (X3 w t (i+1))))) ho (Obj.isFreed_of_fields hd1);refine n0_ (wpAny_setField ho1 hd1 ?f ?_);have hd2:=Obj.data_mapFields hd1 (·.setIfInBounds 1 (rawInt ((i:Int)+1)));have ho2:=n53_ (Obj.mapFields (·.setIfInBounds 1 (rawInt ((i:Int)+1)))) ho1 (Obj.isFreed_of_fields hd2);refine n3_ ⟨v,rfl,n3_ (hQ _ ⟨_,ho2,?_,?_⟩ ((Heap.SameBut.update ..).trans (Heap.SameBut.update ..)))⟩
 · exact (Obj.cls_mapFields ..).trans ((Obj.cls_mapFields ..).trans hc)
 · rw [hd2];simp [rawInt]
theorem Zgc {Q:?D→?k} (hh:A.handled=none) (hit:IsSetIter s.heap I S es.size ep (X3 w t es.size) es.size) (x:SetAt w s.heap S es ep t)
 (hQ:∀ h',Heap.ExtBut I s.heap h'→Q none { s with heap:=h' }):wpAny (model P w) A (pyNext (.ref I)) Q E s:=by
 obtain ⟨o,ho,hc,hd⟩:=id hit;unfold pyNext;refine n0_ (wpAny_attempt (wpAny_callSpecial?_slot (name:=Str.ofString "__next__") hit.typeIs Y3 (wpAny_call_entry Y3 hit.typeIs Zb5 ?_ (Zcw _))));unfold Builtin.«set_iterator.__next__»;refine n0_ (n3_ ?_);refine n0_ (wpAny_fieldsOf ho hd ?_);dsimp only;refine n0_ (x.ents ?_);rw [if_neg ?f];simp only [n61_];refine n0_ (Zpb x ?_);dsimp only;refine n0_ (wpAny_setField ho hd ?f ?_);show wpAny _ _ (newExc (.type "StopIteration") [] >>= _) _ _ _
 refine n0_ ?_;simp only [newExc,newTuple];refine n0_ (wpAny_newObj_type ?_ (by size_fits));refine n0_ (m:=firstArgMember _ _) (wpAny_of_eq (a:=Value.none) (by first|rfl|(simp only [firstArgMember];rfl)) ?_);refine wpAny_newObj_type ?_ (by size_fits);simp only [raiseNew];refine n0_ (wpAny_handled ?_);rw [show A.in1.handled=none from hh];refine n0_ (n3_ (wpAny_throw ?_));refine n0_ (wpAny_isInstance (T := "StopIteration") (b:=true) ⟨_,n8_ _ rfl,rfl⟩ isSubtype_stop ?_);exact n3_ (hQ _ (((Heap.SameBut.update ..).extBut.push _).push _))
end
section
variable {P:Program} {w:World} {A:Around} {E:Value→?k} {s:Shared} {S:Addr} {es:Array (Int×Value)} {ep:Nat} {t:SetTable}
theorem Zf7:(Zaw w S ep es).length=es.size:=by rw [(Zh3 w S ep es).length_eq,n7_,Array.length_toList]
theorem Znm (hh:A.handled=none) (I:Addr) (hne:S≠I) :
 Walks P w A I [I,S] [I] es.size (fun i v=>(Zaw w S ep es)[i]? = some v) (fun i h=>IsSetIter h I S es.size ep (X3 w t i) i∧SetAt w h S es ep t) where
 sub:=fun b hb=>by simp at hb;simp [hb]
 frame:=fun _ _ _ st hk=>⟨st.1.stay fun o e=>hk I ?f o e,st.2.stay fun o e=>hk S ?f o e⟩
 item:=fun i s Q E hi st hQ=>by
  have hl:i<(Zaw w S ep es).length:=by rw [Zf7];exact hi
  have hv:=n1_ hl;exact Zlz hne st.1 st.2 hv fun h' hit' hs'=>hQ _ h' s.toks hv ⟨hit',st.2.stay fun o e=>(hs'.2 S hne).trans e⟩ fun b o hb e=>(hs'.2 b (fun z=>hb (by simp [z]))).trans e
 done:=fun s Q E st hQ=>Zgc hh st.1 st.2 fun h' he'=>hQ h' s.toks fun b o hb e=>he' b o (fun z=>hb (by simp [z])) e
 self:=fun _ _ _ _ st hQ=>Zm7 st.1 hQ
theorem Zr0:typeLookup (.type "set") "__len__" = pure (some (.builtin "set.__len__")):=by rw [typeLookup_type,builtinLookup_eq_fast];kernel_rfl
theorem Zl1 {vs:?q} {acc:?H} (h:ItemsOf (fun i v=>vs[i]? = some v) acc vs.length):acc.toList=vs:=by
 refine List.ext_getElem? fun j=>?_;rw [Array.getElem?_toList];cases e:acc[j]? with
 | some v=>exact (h.2 j v e).symm
 | none =>
   have:vs.length≤j:=by
    have:=Array.getElem?_eq_none_iff.mp e
    rw [h.1] at this;exact this
   exact (n88_ this).symm
set_option maxHeartbeats 4000000 in
theorem Zjy {Q:?q→?k} (hh:A.handled=none) (x:SetAt w s.heap S es ep t) (hn:es.size≤sizeLine)
 (h:∀ h' tk,(∀ b o,?I=some o→h'.get? b=some o)→s.z≤h'.objs.size→Q (Zaw w S ep es) { s with heap:=h',toks:=tk }):wpAny (model P w) A (collect (.ref S)) Q E s:=by
 have hSz:S<s.z:=by obtain ⟨o,g,_⟩:=x.get;exact n14_ g
 unfold collect;refine n0_ (wpAny_runValue (codeAny_builtin F.entry_proto_collect ?_));rw [Around.under_plainId F.plain_proto_collect _];show wpAny _ A.in1 (newList [] >>= fun l=>again (.builtin "list.__iadd__" ⟨[l,.ref S],[]⟩)) _ _ s
 refine n0_ (wpAny_newObj_type ?_);refine n3_ ⟨plainId_quiet F.plain_list_iadd _,codeAny_builtin F.entry_list_iadd ?_⟩;rw [Around.under_plainId F.plain_list_iadd _];generalize hs1:({ s with heap:=s.heap.push { cls:=.type "list",data:=.seq ([]:?q).toArray } }:Shared)=s1;have x1:SetAt w s1.heap S es ep t:=by rw [← hs1];exact x.stay fun o e=>n2_ _ e
 have g1:s1.heap.get? s.z=some { cls:=.type "list",data:=.seq ([]:?q).toArray }:=by rw [← hs1];exact n8_ _ rfl
 have z1:s1.z=s.z+1:=by rw [← hs1];exact n50_ ..
 have k1:∀ b o,?I=some o→s1.heap.get? b=some o:=fun b o e=>by rw [← hs1];exact n2_ _ e
 show wpAny _ A.in1 (Builtin.List.listExtendWith (.ref s.z) (.ref S) (.ref s.z)) _ _ s1
 unfold Builtin.List.listExtendWith;refine n0_ (wpAny_typeOf x1.typeIs ?_);have h1:Builtin.List.listSameRef (.ref s.z) (.ref S)=false:=by simp [Builtin.List.listSameRef,n68_ hSz]
 have h2:(Value.type "set" == Value.type "list")=false:=?t
 have h3:(Value.type "set" == Value.type "tuple")=false:=?t
 simp only [h1,h2,h3,Bool.or_false,n19_,if_false];refine n0_ (Zo5 x1 ?_);generalize hs2:({ s1 with heap:=s1.heap.push { cls:=.type "set_iterator",data:=.fields #[.int (0:Nat) 0,.int (0:Nat) 0,.ref S,.int es.size 0,.int ep 0] } }:Shared)=s2;have x2:SetAt w s2.heap S es ep t:=by rw [← hs2];exact x1.stay fun o e=>n2_ _ e
 have it2:IsSetIter s2.heap (s.z+1) S es.size ep 0 0:=by rw [← hs2,← z1];exact ⟨_,n8_ _ rfl,rfl,rfl⟩
 have g2:s2.heap.get? s.z=some { cls:=.type "list",data:=.seq ([]:?q).toArray }:=by rw [← hs2];exact n2_ _ g1
 have k2:∀ b o,?I=some o→s2.heap.get? b=some o:=fun b o e=>by rw [← hs2];exact n2_ _ (k1 b o e)
 refine n0_ (n34_ ?_);unfold Builtin.List.listLengthHint;refine n0_ (wpAny_specialOf x2.typeIs Zr0 ?_);have hsp:splitId "set.__len__" = some ("set","__len__"):=?i
 dsimp only;rw [hsp];dsimp only;refine n0_ (wpAny_isInstance (b:=true) x2.typeIs sub_set_self ?_);simp only [Bool.not_true,n19_,if_false];rw [if_pos (?i)];refine n0_ (wpAny_typeOf x2.typeIs ?_);dsimp only;refine n3_ ?_;rw [if_pos (?i)];refine n0_ (wpAny_rule ?_);refine n0_ ?_;show wpAny _ A.in1 (updateSeq s.z (·.push .none) >>= fun _=>updateSeq s.z (·.pop)) _ _ _
 refine n0_ (wpAny_updateSeq g2 rfl ?_);have g3:=n53_ (Obj.mapSeq (·.push Value.none)) g2 rfl;refine wpAny_updateSeq g3 rfl ?_;have g4:=n53_ (Obj.mapSeq (·.pop)) g3 rfl
 have oth:∀ b o,b≠s.z→s2.heap.get? b=some o→((s2.heap.update s.z (Obj.mapSeq (·.push Value.none))).update s.z (Obj.mapSeq (·.pop))).get? b=some o :=
  fun b o hb e=>(Heap.get?_update_other _ _ (Ne.symm hb)).trans ((Heap.get?_update_other _ _ (Ne.symm hb)).trans e)
 rw [z1];have hne:S≠s.z+1:=n26_ (n54_ hSz);have hh1:A.in1.handled=none:=by simp [hh]
 have W:=(Znm (P:=P) (w:=w) (ep:=ep) (es:=es) (t:=t) hh1 (s.z+1) hne).toS
 have hSf:s.z∉[s.z+1,S]:=by
  simp only [n13_,n15_,or_false,not_or];exact ⟨n26_ (n81_ _),n68_ hSz⟩
 refine n3_ ⟨plainId_quiet F.plain_extend_loop _,codeAny_extend_loopS W hn _ hSf _ es.size 0 _ _ _ rfl (n45_ _)
  ⟨it2.stay fun o e=>oth _ o (n68_ (n81_ _)) e,x2.stay fun o e=>oth _ o (n26_ hSz) e⟩ g4 (ItemsOf.nil _) fun s' acc' c' hm hS' hacc=>?_⟩
 show wpAny _ A (load s.z >>= _) _ _ s'
 refine n0_ (wpAny_load hS' ?_);rw [← Zf7 (w:=w) (S:=S) (ep:=ep)] at hacc;have ea:=Zl1 hacc;have em:=hm.eq_with;rw [em];show wpAny _ _ (pure acc'.toList) _ _ _
 rw [ea];refine n3_ ?_;subst hs2;subst hs1;refine h _ _ (fun b o e=>?_) ?_
 · have lb:=n14_ e;exact hm.heap b o (by simp only [n13_,n15_,or_false,not_or];exact ⟨n26_ lb,n26_ (n54_ lb)⟩) (oth b o (n26_ lb) (k2 b o e))
 · exact Nat.le_of_lt (n14_ hS')
end
def adW:TAd:=fun v D H C=>∃ (bt:Bool) (k:Int) (ks:?g),v=.int k∧H D=some (setI bt D ks)∧ks.length<30∧C (upd H D (setI bt D (addI ks k)))
def metI (ns:?g):?g:=ns.foldl addI []
theorem Znu (ns:?g) (k:Int):metI (ns++[k])=addI (metI ns) k:=by unfold metI;rw [List.foldl_append];rfl
theorem Zk5 {k x:Int}:x∈addI ks k↔x∈ks∨x=k:=by
 unfold addI;split
 · exact ⟨.inl,fun h=>h.elim id fun e=>by rw [e];assumption⟩
 · simp
theorem Zkv (ks:?g) (k:Int):(addI ks k).length≤ks.length+1:=by
 unfold addI;split
 · omega
 · simp
theorem Zmp {k:Int} (h:ks.Nodup):(addI ks k).Nodup:=by
 unfold addI;split
 · exact h
 · rename_i hk
   rw [List.nodup_append];exact ⟨h,by simp,fun a ha b hb=>by rw [n22_.mp hb];exact fun z=>hk (z ▸ ha)⟩
theorem Zj4:∀ (ns ks:?g) (x:Int),x∈ns.foldl addI ks↔x∈ks∨x∈ns
 | [],ks,x=>by simp
 | n :: ns,ks,x=>by
   rw [n80_,Zj4 ns,Zk5,n13_];constructor
   · rintro ((h|h)|h)
     · exact .inl h
     · exact .inr (.inl h)
     · exact .inr (.inr h)
   · rintro (h|h|h)
     · exact .inl (.inl h)
     · exact .inl (.inr h)
     · exact .inr h
theorem Zp2 {x:Int}:x∈metI ns↔x∈ns:=by rw [metI,Zj4];simp
theorem Zoq:∀ (ns ks:?g),ks.Nodup→(ns.foldl addI ks).Nodup
 | [],ks,h=>h
 | n :: ns,ks,h=>Zoq ns _ (Zmp h)
theorem Zsq (ns:?g):(metI ns).Nodup:=Zoq ns [] .nil
theorem Zk0:∀ (ns ks:?g),(ns.foldl addI ks).length≤ks.length+ns.length
 | [],ks=>by simp
 | n :: ns,ks=>by
   have:=Zk0 ns (addI ks n)
   have:=Zkv ks n
   rw [n80_,n21_];omega
theorem Zkr (ns:?g):(metI ns).length≤ns.length:=by have:=Zk0 ns [];simpa [metI] using this
section
variable {P:Program} {w:World} {bt:Bool} {A:Around} {E:Value→?k} {s:Shared}
theorem SetI.typeIs (h:SetI bt s.heap a ks):s.TypeIs (.ref a) "set" := by
 obtain ⟨o,es,ep,t,g,x,_⟩:=h;exact ⟨o,g,x.1⟩
end
section
variable {P:Program} {w:World} {bt:Bool} {A:Around} {R:Result→?k} {I:Addr} {fp wr:List Addr} {G:Array GenState→Array GenState→Prop} {St:Nat→?k}
theorem Zhg {Pv:Nat→Value→Prop} (W:WalksS P w A.in1 I fp wr G ns.length Pv St) (S:Addr) (hSf:S∉fp) (hval:∀ i v,i<ns.length→Pv i v→∃ t,v=.int (ns.getD i 0) t) (hb:ns.length≤30) :
 ∀ (k i:Nat) (s:Shared),ns.length-i=k→i≤ns.length→St i s→SetI bt s.heap S (metI (ns.take i)) →
   (∀ s',Moved (S :: wr) G s s'→SetI bt s'.heap S (metI ns)→R (.ok (.ret .none)) s') →
   codeAny (model P w) A (.builtin "set.update.loop" ⟨[.ref S,.ref I],[]⟩) R s:=by
 have hSw:S∉wr:=fun h=>hSf (W.sub _ h);have hsub:∀ b∈wr,b∈S :: wr:=fun b hb=>n17_ _ hb;intro k
 induction k with
 | zero =>
   intro i s hk hi hst hS hR;obtain rfl:i=ns.length:=?d
   rw [n89_] at hS;refine codeAny_builtin F.entry_set_update_loop ?_;rw [Around.under_plainId F.plain_set_update_loop _];show wpAny _ A.in1 (pyNext (.ref I) >>= _) _ _ s
   refine n0_ (W.done s _ _ hst fun s' hm=>?_);show wpAny _ A.in1 (ret Value.none) _ _ s'
   exact n3_ (hR s' (hm.mono hsub) (SetI.stay _ _ hS fun o e=>hm.heap S o hSw e))
 | succ k ih =>
   intro i s hk hi hst hS hR;have hlt:i<ns.length:=?d
   refine codeAny_builtin F.entry_set_update_loop ?_;rw [Around.under_plainId F.plain_set_update_loop _];show wpAny _ A.in1 (pyNext (.ref I) >>= _) _ _ s
   refine n0_ (W.item i s _ _ hlt hst fun v s' hP hst' hm=>?_);obtain ⟨t,rfl⟩:=hval i v hlt hP;have hS':=SetI.stay _ s'.heap hS fun o e=>hm.heap S o hSw e;show wpAny _ A.in1 (holding [Value.int (ns.getD i 0) t] (setAdd S (.int (ns.getD i 0) t)) >>= _) _ _ s'
   refine n0_ (n34_ ?_);unfold setAdd;refine n34_ ?_;refine n0_ ((intKind P w).pyHash (k:=ns.getD i 0) (intKind_is _ _ _ _) ?_)
   have hroom:(metI (ns.take i)).length<30:=by
    have:=Zkr (ns.take i)
    rw [n43_] at this;omega
   refine Zes (s:={ s' with toks:=s'.toks+1 }) hS' hroom fun bb h' hsb hS2=>?_
   have et:ns.take (i+1)=ns.take i++[ns.getD i 0]:=by
    rw [n69_ hlt,n5_,n1_ hlt];rfl
   rw [← Znu,← et] at hS2;refine n3_ ⟨plainId_quiet F.plain_set_update_loop _,ih (i+1) _ (?d) hlt (W.frame _ s' _ _ hst' (Nat.le_succ _) fun b hb o e=>?_) hS2 fun s'' hm'' hS''=>?_⟩
   · rw [hsb.2 b (fun h:b=S=>hSf (by rw [← h];exact hb))];exact e
   · refine hR s'' (Moved.trans W.gtrans ((hm.mono hsub).then_heap (Nat.le_succ _) fun b o hb e=>?_) hm'') hS'';rw [hsb.2 b (fun h:b=S=>hb (by rw [h];exact n24_))];exact e
end
abbrev set0 (w:World):Obj:={ cls:=.type "set",dict:=none,data:=.set #[] 0 (.fresh 0 0 (!Xc w)) }
theorem Zvk (e:h.get? a=some (set0 w)):SetI (Xc w) h a [] :=
 ⟨_,#[],0,_,e,⟨rfl,rfl,rfl⟩,rfl,?t,fun e he=>by simp at he,⟨[],.nil,.refl _⟩,.nil,STb.TP.fresh _⟩
section
variable {P:Program} {w:World} {A:Around} {E:Value→?k} {s:Shared}
theorem Zqa (a:Value) {Q₁:Value→?k} (h:Q₁ (.ref s.z) { s with heap:=s.heap.push (set0 w) }) :
 codeAny (model P w) A (.call (.builtin "set.__new__") ⟨[.type "set",a],[]⟩) (wants Q₁ E) s:=by
 refine codeAny_of_tree ?_;show wpAny _ A.in1 (do checkBuiltinCall "set.__new__" ⟨[.type "set",a],[]⟩;again (.builtin "set.__new__" ⟨[.type "set",a],[]⟩)) _ _ s
 refine n0_ (wpAny_of_eq (F.newCall_set_1 a) (n3_ ⟨plainId_quiet F.plain_set_new _,codeAny_builtin F.entry_set_new ?_⟩));rw [Around.under_plainId F.plain_set_new _];unfold Builtin.«set.__new__» Builtin.Frozenset.newClass;have hsub:=sub_set_self;obtain ⟨hp,g,d,tk,os⟩:=s;dsimp only
 wp_walk
 refine wpAny_askSetting (n3_ ?_);dsimp only;simp only [newObj];refine n0_ (wpAny_alloc (n3_ ?_));exact n3_ h
set_option maxHeartbeats 3200000 in
theorem Zmd
 (hh:A.handled=none) (hl:s.heap.IsList l items) (hi:IntsAre items.toList ns) (hb:items.size≤30)
 (h:∀ (h':Heap) (tk:Nat),SetI (Xc w) h' s.z (metI ns)→(∀ b o,b<s.z→?I=some o→h'.get? b=some o)→Q (.ref s.z) { s with heap:=h',toks:=tk }) :
 wpAny (model P w) A (call (.type "set") [.ref l]) Q E s:=by
 obtain ⟨c,tl,hmro⟩:=F.called_set.mro;have hmade:=F.called_set.made;have hsub:=F.called_set.sub;have hlen:items.size=ns.length:=by have:=Zge hi;rwa [Array.length_toList] at this
 refine wpAny_call (codeAny_of_tree ?_);show wpAny _ _ (callAny (.type "set") _) _ _ _
 refine n3_ ⟨Code.quiet_builtin _ (?i),codeAny_builtin F.entry_type_call ?_⟩;rw [Around.under_plain (weight_type_call_type "set" [.ref l] []) rfl];have h1:=F.called_set.notType;have h2:=F.called_set.canCreate;have hct:=F.typeCall_set_1 (.ref l)
 repeat (any_goals (first|assumption|wp_step))
 refine codeAny_mono (Zqa (.ref l) (E:=E) (Q₁:=fun obj s₁=>obj=.ref s.z∧s₁={ s with heap:=s.heap.push (set0 w) }) ⟨rfl,rfl⟩) fun r s₁ hr=>?_;cases r with
 | error e=>exact hr
 | ok fl =>
   cases fl with
   | ret obj =>
     obtain ⟨rfl,rfl⟩:=hr;have hS:(s.heap.push (set0 w)).get? s.z=some (set0 w):=n8_ _ rfl;have hT:Shared.TypeIs { s with heap:=s.heap.push (set0 w) } (.ref s.z) "set" := ⟨_,hS,rfl⟩;have hli:=F.called_set.init.lookup;have hbi:=F.called_set.init.bind (.ref s.z)
     repeat (any_goals (first|assumption|wp_step))
     refine codeAny_mono (codeAny_call_builtin (R:=wants (fun r s₂=>r=.none∧∃ h' tk,s₂={ s with heap:=h',toks:=tk }∧SetI (Xc w) h' s.z (metI ns)∧(∀ b o,b<s.z→?I=some o→h'.get? b=some o)) E) F.called_set.init.plain F.entry_set_init (check_set_init_1 hT ?_)) fun r₂ s₂ hr₂=>?_
     · obtain ⟨ol,hol,hcl,nl,hdl⟩:=hl;obtain ⟨ocls,odict,odata,oslots⟩:=ol;simp only at hcl hdl;subst hcl;subst hdl;have hol':(s.heap.push (set0 w)).get? l=some { cls:=.type "list",dict:=odict,data:=.seq items nl,slots:=oslots }:=n2_ _ hol;have hsls:=F.sub_list_set;have hslf:=F.sub_list_frozenset;have hne:(Value.type "list" == Value.type "dict")=false:=?t
       have hl1:(s.heap.push (set0 w)).IsList l items:=⟨_,hol',rfl,nl,rfl⟩;unfold Builtin.«set.__init__» noKeywords Builtin.Frozenset.updateFrom;generalize hPI:pyIter=PI
       wp_walk
       subst hPI;refine wpAny_pyIter_list hl1 ?_;refine n0_ (wpAny_runValue ?_);have hlS:l<s.z:=n14_ hol;have hh3:A.in1.in1.in1.handled=none:=by simp [hh]
       have hneI:l≠(s.heap.push (set0 w)).objs.size:=by
        rw [n50_];exact n26_ (n54_ hlS)
       have hSf:s.z∉[(s.heap.push (set0 w)).objs.size,l]:=by
        rw [n50_];simp only [n13_,n22_,n15_,or_false,not_or];exact ⟨n26_ (n81_ _),n68_ hlS⟩
       have hval:∀ (i:Nat) (v:Value),i<ns.length→items[i]? = some v→∃ t,v=.int (ns.getD i 0) t:=fun i v _ hv=>IntsAre.int_at hi i v (by rw [Array.getElem?_toList];exact hv);have hW:=(Walks.list (prog:=P) (w:=w) hh3 _ l hneI items).toS;rw [hlen] at hW;refine Zhg hW s.z hSf hval (?d) (ns.length-0) 0 _ rfl (n45_ _) ⟨⟨_,n8_ _ rfl,rfl,rfl⟩,(hl1.push _)⟩ (Zvk (n2_ _ hS)) ?hR
       case hR =>
        intro s' hm hS';obtain ⟨h',g',d',tk',os'⟩:=s';have eg:g'=s.gens:=hm.gens;have ed:d'=s.drawn:=hm.drawn;have eo:os'=s.os:=hm.os;subst eg;subst ed;subst eo;show wpAny _ _ _ _ _ _
        refine n3_ ?_;show wpAny _ _ (ret Value.none) _ _ _
        refine n3_ ⟨rfl,h',tk',rfl,hS',fun b o hb e=>?_⟩;have hb1:b≠s.z:=n26_ hb
        have hb2:b≠(s.heap.push (set0 w)).objs.size:=by
         rw [n50_];exact n26_ (n54_ hb)
        exact hm.heap b o (by simp only [n13_,n22_,n15_,or_false,not_or];exact ⟨hb1,hb2⟩) (n2_ _ (n2_ _ e))
     · cases r₂ with
       | error e=>exact hr₂
       | ok fl₂ =>
         cases fl₂ with
         | ret r =>
           obtain ⟨rfl,h',tk,rfl,hS',hk'⟩:=hr₂
           repeat (any_goals (first|assumption|wp_step))
           exact h _ _ hS' hk'
         | _=>exact hr₂.elim
   | _=>exact hr.elim
end
theorem Znb (hc:X.calm=true):Xe X (.type "set") (fun xs H Q=>∃ (p:Addr) (ns:?g),xs=[.ref p]∧SqL X.K H p (ns.map V.int)∧ns.length≤30∧∀ S,H S=none→Q (.ref S) (upd H S (setI (Xc X.w) S (metI ns)))):=by
 intro pins s σ H xs us Q I r h;obtain ⟨p,ns,rfl,hq,hb,q⟩:=h;cases r with
 | cons rx r =>
   cases r
   cases (show _=Value.ref p from rx)
   obtain ⟨its,rv,pl,hz⟩:=I.list hq;have hlen:=rv.length;rw [n7_] at hlen;have ia:=X8 rv;refine Zmd (I.ok.hd hc) pl.isList (by simpa using ia) (by simp;omega) fun h' tk hS hk=>?_;exact ⟨.ref s.z,_,I.laid (o:=setI (Xc X.w) s.z (metI ns)) (t':=tk) (fun b o e=>hk b o (n14_ e) e) (n11_ _) (Zip hS),rfl,q _ (I.hok.fresh (n11_ _))⟩
section
variable {P:Program} {w:World} {A:Around} {E:Value→?k} {s:Shared} {S:Addr}
theorem Zll (hh:A.handled=none) (x:SetI (Xc w) s.heap S ks) (h30:ks.length≤30)
 (h:∀ (L:Addr) (h':Heap) (tk:Nat) (out:?H) (e:Nat) (ns:?g),s.z≤L→(∀ b o,?I=some o→h'.get? b=some o)→h'.get? L=some (seqObj "list" out e)→IntsAre out.toList ns→ns.Perm ks→ns.Pairwise (·≤·)→Q (.ref L) { s with heap:=h',toks:=tk }) :
 wpAny (model P w) A (call (.builtin "sorted") [.ref S]) Q E s:=by
 obtain ⟨o,es,ep,t,g,ex,d,hb,i⟩:=x;have sa:SetAt w s.heap S es ep t:=⟨⟨o,g,ex,d⟩,i.tw⟩;obtain ⟨ns0,ia,pm⟩:=i.ns;obtain ⟨ms,iw,pw⟩:=Zdm (Zh3 w S ep es) ia;have hl:(Zaw w S ep es).length<64:=by rw [Zf7,i.len];omega
 refine Calls.call_function_entry kind_sorted plain_sorted entry_sorted (args_sorted1 _) ?_;unfold Builtin.«sorted»;refine n0_ (m:=checkCount "sorted" 1 1 _) (n3_ ?_);refine n0_ (Zjy (by simp [hh]) sa (by rw [i.len,sizeLine_eq];omega) fun h' tk keep le=>?_);generalize hvs:Zaw w S ep es=vs at iw hl;refine n0_ (wpAny_newList ?_);have hoL:(h'.push (seqObj "list" vs.toArray 0)).get? h'.objs.size=some (seqObj "list" vs.toArray 0):=n8_ _ rfl;refine n0_ (n34_ (wpAny_call_entry (s:={ s with heap:=h'.push (seqObj "list" vs.toArray 0),toks:=tk }) slot_list_sort ⟨_,hoL,rfl⟩ entry_list_sort (list_sort_tree hoL iw hl fun out ns' a1 a2 a3=>⟨_,rfl,?_⟩) (args_list_sort _)));obtain ⟨e,he⟩:=sortedHeap_at (out:=out) hoL;refine n3_ ⟨_,rfl,h _ _ _ out e ns' le (fun b o eb=>?_) he a1 (a2.trans (pw.trans pm)) a3⟩;have hk:=keep b o eb;have hlt:=n14_ hk;rw [sortedHeap_old (n26_ hlt) (by rw [n50_];exact n54_ hlt)];exact n2_ _ hk
end
theorem Zct (hc:X.calm=true):Xe X (.builtin "sorted") (fun xs H Q=>∃ (p:Addr) (ks:?g),xs=[.ref p]∧H p=some (setI (Xc X.w) p ks)∧ks.length≤30∧∀ (l:Addr) (ns:?g),H l=none→ns.Perm ks→ns.Pairwise (·≤·)→Q (.ref l) (upd H l (.lst (ns.map V.int)))):=by
 intro pins s σ H xs us Q I r h;obtain ⟨p,ks,rfl,hp,h30,q⟩:=h;cases r with
 | cons rx r =>
   cases r
   cases (show _=Value.ref p from rx)
   have sI:SetI (Xc X.w) s.heap p ks:=Zm2 (I.hok p _ hp);refine Zll (I.ok.hd hc) sI h30 fun L h' tk out e ns le keep he ia pm so=>?_;exact ⟨.ref L,_,I.laid (o:=.lst (ns.map V.int)) (t':=tk) (fun b u eb=>keep b u eb) le ⟨by rw [n7_,pm.length_eq,sizeLine_eq];omega,out.toList,e,Zdy ia,by simpa using he⟩,rfl,q L ns (I.hok.fresh le) pm so⟩
section
variable {P:Program} {w:World} {bt:Bool} {A:Around} {E:Value→?k} {s:Shared}
theorem Zo8 {k:Int} {u:Tok} (hS:SetI bt s.heap a ks) (hroom:ks.length<30)
 (h:∀ h',Heap.SameBut a s.heap h'→SetI bt h' a (addI ks k)→Q .none { s with heap:=h',toks:=s.toks+1 }):wpAny (model P w) A (call (.builtin "set.add") [.ref a,.int k u]) Q E s:=by
 refine wpAny_call_entry F.slot_set_add hS.typeIs F.entry_set_add ?_ (F.args_set_add_2 _ _);unfold Builtin.«set.add» Builtin.Frozenset.oneOther;simp only [List.isEmpty_nil,bind_assoc];unfold Builtin.Frozenset.addrOf setAdd;refine n0_ (n3_ ?_)
 try dsimp only
 refine n0_ (n3_ ?_)
 try dsimp only
 refine n0_ ?_;refine n34_ ?_;refine n0_ ((intKind P w).pyHash (k:=k) (intKind_is _ _ _ _) ?_);refine Zes (s:={ s with toks:=s.toks+1 }) hS hroom fun b h' hsb hS'=>?_;show wpAny _ _ (ret Value.none) _ _ _
 exact n3_ ⟨_,rfl,h h' hsb hS'⟩
end
theorem Zwa:PAd "set.add" adW:=fun X pins s σ H v u D C I r ⟨bt,k,ks,e,hS,hroom,q⟩=>by
 subst e;obtain ⟨tk,rfl⟩:=r;have hset:SetI bt s.heap D ks:=Zm2 (I.hok _ _ hS);refine Zo8 hset hroom fun h18 sb18 hset'=>⟨_,?_,q⟩;refine I.write (e:=D) (by rw [hS];trivial) (.inl rfl) (fun b o hb e=>(sb18.2 b hb).trans e) ?_ (Zip hset');obtain ⟨o,_,_,_,e,_⟩:=hset';exact ⟨o,e⟩
def tSW (bt:Bool) (wi:TI) (g0:TG) (wi1:TI) (g1:TG) (te:TE) (fr:List (Option Nat)):TE:=fun σ H Q=>wi σ H fun J H1=>∀ D,H1 D=none→C2Go adW (setI bt D []) J g0 wi1 g1 te (Zar fr σ) H1 D Q
theorem Zs9 {wi1:TI} {g0 g1:TG}
 (hc:X.calm=true) (L:LcO X scope cl N fr) (hi:PI X t0 i0 wi) (hg:∀ C s3 H3 fp,PG ?P t0 g0) (hi1:∀ C s3 H3 fp,PI ?P t1 i1 wi1) (hg1:∀ C s3 H3 fp,PG ?P t1 g1)
 (he:∀ C s3 H3 fp,PE ?P elt te)
 (hs:∀ x,foldedSetIterable i0 X.env x=pure x:=by intro _;rfl) (hs1:∀ env x,foldedSetIterable i1 env x=pure x:=by intro _ _;rfl):PE X (sc2 elt t0 i0 t1 i1 scope pos) (tSW (Xc X.w) wi g0 wi1 g1 te fr):=by
 intro pins s σ H Q I h;rw [arm_eval_SetComp];dsimp only;refine ?Y;obtain ⟨it,fp,tn,J,H2,e,I2,T,st2,f2,h⟩:=h2;subst e;refine Zt3 fun o0 setOf=>?_;exact Zmz (ac:=setI (Xc X.w) s2.z []) rfl hc L hg hi1 hg1 he Zwa I2 T st2 f2 (Zip setOf) (h _ (I2.hok.fresh (n11_ _))) hs1 Zrn
end L2
namespace L2
open PySem PySem.Spec PyProof.Rows PySem.W
variable {n:Nat} {Q:Value→?k}
section
variable {P:Program} {w:World} {A:Around} {E:Value→?k} {s:Shared} {r:Addr}
theorem Zin {Q:?q→?k} {a b c:Int} {t u v:Tok} (hh:A.handled=none) (hr:IsRange s.heap r a b c t u v) (hsmall:Builtin.Range.small a b c=true) (hn:Builtin.Range.rangeSize a b c=n) (hlen:n≤2^24)
 (hQ:∀ (h':Heap) (tk:Nat) (acc:?H),(∀ b o,?I=some o→h'.get? b=some o)→s.z≤h'.objs.size→ItemsOf (fun i v=>∃ t,v=.int (a+i*c) t) acc n→Q acc.toList { s with heap:=h',toks:=tk }):wpAny (model P w) A (collect (.ref r)) Q E s:=by
 unfold collect;refine n0_ (wpAny_runValue (codeAny_builtin F.entry_proto_collect ?_));rw [Around.under_plainId F.plain_proto_collect _];show wpAny _ A.in1 (newList [] >>= fun l=>again (.builtin "list.__iadd__" ⟨[l,.ref r],[]⟩)) _ _ s
 refine n0_ (wpAny_newObj_type ?_);refine n3_ ⟨plainId_quiet F.plain_list_iadd _,codeAny_builtin F.entry_list_iadd ?_⟩;rw [Around.under_plainId F.plain_list_iadd _];generalize hs1:({ s with heap:=s.heap.push { cls:=.type "list",data:=.seq ([]:?q).toArray } }:Shared)=s1;have k1:∀ b o,?I=some o→s1.heap.get? b=some o:=fun b o e=>by rw [← hs1];exact n2_ _ e
 have g1:s1.heap.get? s.z=some { cls:=.type "list",data:=.seq #[] 0 }:=by rw [← hs1];exact n8_ _ rfl
 show wpAny _ A.in1 (Builtin.List.listExtendWith (.ref s.z) (.ref r) (.ref s.z)) _ _ s1
 refine wpAny_extend_range (R:=fun res s'=>match res with|.ok (.ret v)=>wpAny (model P w) A (match v with|.ref a=>(do match (← load a).data with|.seq xs _=>pure xs.toList|_=>unsupported "internal:collect")|_=>unsupported "internal:collect") Q E s'|.ok _=>False|.error e=>E e s') hh (k1 _ _ hr) hsmall hn hlen s.z _ 0 g1 fun h' tk acc' c' hk hS' hacc=>?_;subst hs1;show wpAny _ A (load s.z >>= _) _ _ _
 refine n0_ (wpAny_load hS' ?_);exact n3_ (hQ h' tk acc' (fun b o e=>hk b o (n26_ (n14_ e)) (n2_ _ e)) (Nat.le_of_lt (n14_ hS')) hacc)
theorem Zed {a b c:Int} {t u v:Tok} (hh:A.handled=none) (hr:IsRange s.heap r a b c t u v) (hsmall:Builtin.Range.small a b c=true) (hn:Builtin.Range.rangeSize a b c=n) (hlen:n≤2^24)
 (hQ:∀ (h':Heap) (tk:Nat) (acc:?H),(∀ b o,?I=some o→h'.get? b=some o)→s.z≤h'.objs.size→ItemsOf (fun i v=>∃ t,v=.int (a+i*c) t) acc n→Q (.ref h'.objs.size) { s with heap:=h'.push { cls:=?G,data:=.seq acc },toks:=tk }) :
 wpAny (model P w) A (call (?G) [.ref r]) Q E s:=by
 refine callType_codes (Q₁:=fun obj s₁=>s₁.TypeIs obj "tuple" ∧ Q obj s₁) F.called_tuple (F.typeCall_tuple_1 _) F.entry_object_init (codeAny_of_tree ?_)
  fun obj s₁ h₁=>⟨h₁.1,F.args_object_init_2 obj _,object_init_meets F.called_tuple.init.lookup F.called_tuple.made ?e P w A.in1 _ s₁ ⟨h₁.1,rfl,h₁.2⟩⟩
 generalize hA:A.in1=A1;have hh1:A1.handled=none:=by rw [← hA];simp [hh]
 show wpAny _ A1.in1 (do checkBuiltinCall "tuple.__new__" ⟨[?G,.ref r],[]⟩;again (.builtin "tuple.__new__" ⟨[?G,.ref r],[]⟩)) _ _ s
 refine n0_ (wpAny_of_eq (F.newCall_tuple_1 _) (n3_ ⟨plainId_quiet F.plain_tuple_new _,codeAny_builtin F.entry_tuple_new ?_⟩));rw [Around.under_plainId F.plain_tuple_new _];have hsub:=sub_tuple_self;have hinit:=init_tuple_lookup;have hmh:=madeHere_tuple;have hT:s.TypeIs (.ref r) "range" := ⟨_,hr,rfl⟩;have hh2:A1.in1.handled=none:=by simp [hh1]
 wp_walk using wpAny_typeOf hT,Zin hh2 hr hsmall hn hlen
 intro h' tk acc keep le hacc;show wpAny _ _ (Builtin.Tuple.tupleExact acc.toList.toArray >>= fun v=>ret v) _ _ _
 unfold Builtin.Tuple.tupleExact;refine n0_ (wpAny_newObj_type ?_ (by show acc.toList.toArray.size≤sizeLine;simp only [Array.toArray_toList];rw [hacc.1,sizeLine_eq];omega));refine n3_ ?_;have e:acc.toList.toArray=acc:=by simp
 rw [e];exact ⟨⟨_,n8_ _ rfl,rfl⟩,hQ h' tk acc keep le hacc⟩
end
variable {X:Cx}
theorem Zm9 (hc:X.calm=true):Xe X (?G) (fun xs H Q=>∃ (r:Addr) (n:Nat),xs=[.ref r]∧H r=some (.rng 0 n)∧n≤1000∧∀ l,H l=none→Q (.ref l) (upd H l (.tup ((List.range n).map fun i:Nat=>V.int i)))):=by
 intro pins s σ H xs us Q I r h;obtain ⟨a,n,rfl,hr,hn,q⟩:=h;cases r with
 | cons rx r =>
   cases r
   cases (show _=Value.ref a from rx)
   obtain ⟨t,u,v,e⟩:=(show ObjOk X.prog X.w H s.heap a (.rng 0 n) from I.hok a _ hr);refine Zed (n:=n) (I.ok.hd hc) e (small_one (?d) (?d) (?d) (?d)) (by rw [rangeSize_one];split<;>omega) (?d) fun h' tk acc k le it=>?_;have fr:H h'.objs.size=none:=I.hok.fresh le;refine ⟨.ref h'.objs.size,_,I.laid (o:=.tup ((List.range n).map fun i:Nat=>V.int i)) (t':=tk) (fun b o e=>n2_ _ (k b o e)) le ⟨?_,acc.toList,?_,?_⟩,rfl,q _ fr⟩
   · rw [n7_,n66_,sizeLine_eq];omega
   · rw [List.range_eq_range'];refine Zdv 0 (by rw [Array.length_toList];exact it.1) fun j v e=>?_;obtain ⟨t',e'⟩:=it.2 j v (by simpa using e);exact ⟨t',by rw [e'];congr 1;omega⟩
   · simpa using IsTupN.new _ _
open AutoSeq1 (wpAny_loadPart')
theorem Zlb (l:Addr) (items:?H) (n:Nat) (dd:Option Addr) (sl:Array (?D)) (x:Int) (u:Tok) (h2:x=0) (he:items.isEmpty=false) :
 Meets (Builtin.«tuple.__mul__» ⟨[.ref l,.int x u],[]⟩) (fun _ R s=>s.heap.get? l=some { cls:=?G,dict:=dd,data:=.seq items n,slots:=sl }∧R (.ok (.ret (Value.ref s.z))) { s with heap:=s.heap.push { cls:=Value.type "tuple",data:=Data.seq #[] },toks:=s.toks }) :=
 .of_wp fun prog w A R s h=>by
  obtain ⟨hp,g,d,tk,os⟩:=s;obtain ⟨hl,h⟩:=h;have f1:=AutoSeq1.idx_int;have f2:=AutoSeq1.sub_tuple_tuple;have f3:=AutoSeq1.sub_list_list;have f4:=AutoSeq1.sub_tuple_list;have f5:=AutoSeq1.sub_list_tuple;have hc0:(decide (x < -2^63)||decide (x ≥ 2^63))=false:=by rw [h2];decide
  have hc1:(items.isEmpty||x == 1)=false:=by rw [he,h2];decide
  have hc2:(decide (x≤0)||items.isEmpty)=true:=by rw [h2];rfl
  wp_walk using wpAny_loadPart' hl
  exact ⟨_,rfl,h⟩
section
variable {X:Cx}
inductive BxRRepZ (x y:V) (H:Hp) (Q:VK):Prop
 | mk (l:_) (k:_) (xs:_) (q1:x=.ref l) (q2:y=.int k) (q3:H l=some (.tup xs)) (q4:k=0∨2≤k) (q5:k≤1000) (q6:xs≠[]) (q7:xs.length≤1000) (q8:∀ p H',?E→H' p=some (.tup (List.replicate k.toNat xs).flatten)→Q (.ref p) H'):BxRRepZ x y H Q
def Zwr:R2:=fun x y H Q=>BxRRepZ x y H Q
theorem Zrz:OpR X (binaryOp .Mult) Zwr:=by
 intro pins s σ H x y v u Q I rx ry h;obtain ⟨l,k,xs,rfl,rfl,hH,h2,h3,hne,hz,q⟩:=h
 rcases h2 with h0|h2
 case inr=>exact Ztb pins s σ H _ _ v u Q I rx ry ⟨l,k,xs,rfl,rfl,hH,h2,h3,hne,hz,q⟩
 cases rx
 obtain ⟨t,rfl⟩:=ry;obtain ⟨its,r,p,hzz⟩:=I.tuple (SqT.of hH);obtain ⟨⟨cls,dd,data,sl⟩,ho,hc,n,hd⟩:=id p;simp only at hc hd;subst hc hd;have hl:=r.length
 have he:its.toArray.isEmpty=false:=by
  cases its with
  | nil=>exact absurd (List.length_eq_zero_iff.mp hl) hne
  | cons a b=>rfl
 refine wpAny_binaryOp_repeat_ref (T := "tuple") (U := "int") ?e ⟨_,ho,rfl⟩ (fun s'=>typeIs_int s' k t) Zax F.fills_int_mul F.slot_int_rmul Zcy F.slot_int_index.lookup
  (call_meets F.slot_int_rmul (typeIs_int s k t) F.entry_int_rmul (F.args_int_rmul_2 _ _) (Zbk k t l its.toArray n dd sl)
    ⟨ho,rfl,⟨_,ho,rfl⟩,call_meets F.slot_tuple_mul ⟨_,ho,rfl⟩ F.entry_tuple_mul (F.args_tuple_mul_2 _ _) (Zlb l its.toArray n dd sl k t h0 he) ⟨ho,?_⟩⟩)
 subst h0;exact ⟨.ref _,_,I.laid (t':=s.toks) (o:=.tup []) (fun b ob q=>n2_ _ q) (n11_ _) ⟨n45_ _,[],.nil,IsTupN.new _ _⟩,rfl,q _ _ (Same.new I.fresh) Zc⟩
end
end L2
set_option maxHeartbeats 4000000
theorem L2.gen_upd {H H1:L2.Hp} {p:PySem.Addr} {o:L2.HO} (g:L2.upd H p o=H1) (n:H p=none):L2.Same H H1∧H1 p=some o:=g▸⟨L2.Same.new n,L2.Zc⟩
namespace My
open PySem PySem.Spec PyProof.Rows L2
def top (i:Nat):Stmt:=PySem.Challenge.pw_platerest_k50_frames_of_lots.main.body.getD i (.Pass ⟨0,0,0,0⟩)
theorem Zfe:bootBuiltins "abs" = some (.builtin "abs"):=?i
theorem Za0:bootBuiltins "all" = some (.builtin "all"):=?i
theorem Zup:bootBuiltins "any" = some (.builtin "any"):=?i
theorem Zsi:bootBuiltins "bool" = some (.type "bool"):=?i
theorem Zvf:bootBuiltins "int" = some (.type "int"):=?i
theorem Xk:bootBuiltins "isinstance" = some (.builtin "isinstance"):=?i
theorem Yr:bootBuiltins "len" = some (.builtin "len"):=?i
theorem Zit:bootBuiltins "list" = some (.type "list"):=?i
theorem Zrv:bootBuiltins "max" = some (.builtin "max"):=?i
theorem Zrt:bootBuiltins "min" = some (.builtin "min"):=?i
theorem Zgf:bootBuiltins "repr" = some (.builtin "repr"):=?i
theorem Zq8:bootBuiltins "set" = some (.type "set"):=?i
theorem Zbx:bootBuiltins "sorted" = some (.builtin "sorted"):=?i
theorem Zrj:bootBuiltins "sum" = some (.builtin "sum"):=?i
theorem Z4:bootBuiltins "tuple" = some (?G):=?i
structure Bt (mg:Str→?D):Prop where
 b_abs:mg "abs" = none
 b_all:mg "all" = none
 b_any:mg "any" = none
 b_bool:mg "bool" = none
 b_enumerate:mg "enumerate" = none
 b_int:mg "int" = none
 b_isinstance:mg "isinstance" = none
 b_len:mg "len" = none
 b_list:mg "list" = none
 b_max:mg "max" = none
 b_min:mg "min" = none
 b_range:mg "range" = none
 b_repr:mg "repr" = none
 b_set:mg "set" = none
 b_sorted:mg "sorted" = none
 b_sum:mg "sum" = none
 b_tuple:mg "tuple" = none
 b_zip:mg "zip" = none
 n_FARTHEST:∃ t,mg "FARTHEST" = some (.int 100 t)
 n_FEWEST_CORNERS:∃ t,mg "FEWEST_CORNERS" = some (.int 3 t)
 n_GREAT_BITS:∃ t,mg "GREAT_BITS" = some (.int 4000 t)
 n_MOST_CORNERS:∃ t,mg "MOST_CORNERS" = some (.int 30 t)
 n_MOST_PIECES:∃ t,mg "MOST_PIECES" = some (.int 40 t)
 n_MOST_STUFF:∃ t,mg "MOST_STUFF" = some (.int 9 t)
 n_THICKEST:∃ t,mg "THICKEST" = some (.int 9 t)
abbrev rt (q:Rat):List V:=[.int q.num,.int q.den]
inductive BxSp_plain (vs:List V) (H:Hp) (Q:VK):Prop
 | mk (a b:Int) (q1:vs=[.int a,.int b]) (q2:Q (.int (Int.gcd a b)) H):BxSp_plain vs H Q
def Zkn:Sp:=fun vs H Q _=>BxSp_plain vs H Q
inductive BxSp_divisor (vs:List V) (H:Hp) (Q:VK):Prop
 | mk (a b:Int) (q1:vs=[.int a,.int b]) (q2:b.natAbs<2^4000) (q3:Q (.int (Int.gcd a b)) H):BxSp_divisor vs H Q
def Ze9:Sp:=fun vs H Q _=>BxSp_divisor vs H Q
theorem X0 {a n:Nat} (h:a<2^64) (hn:64≤n:=by decide):a<2^n:=n9_ h (n23_ ?e hn)
theorem Zrr {a:Nat} (h:a<2^4000):a<2^8999:=n9_ h (n23_ ?e ?e)
theorem Zs7 {x y:Int} (h:y.natAbs<2^4000):decide ((4000:Int)<if (Builtin.Int.intBits y:Int)<(Builtin.Int.intBits x:Int) then (Builtin.Int.intBits y:Int) else (Builtin.Int.intBits x:Int))=false:=by
 have:=Zjh h ?e
 refine n29_ ?_;split<;>omega
inductive BxSp_is_whole (vs:List V) (H:Hp) (Q:VK):Prop
 | mk (a:Int) (q1:vs=[.int a]) (q2:Q (.bl true) H):BxSp_is_whole vs H Q
def Zdz:Sp:=fun vs H Q _=>BxSp_is_whole vs H Q
inductive BxSp_reduced (vs:List V) (H:Hp) (Q:VK):Prop
 | mk (t b:Int) (q1:vs=[.int t,.int b]) (q2:b≠0) (q3:b.natAbs<2^4000) (q4:∀ (p:Addr) (H':Hp),?E→H' p=some (.tup (rt (Rat.divInt t b)))→Q (.ref p) H'):BxSp_reduced vs H Q
def Zfc:Sp:=fun vs H Q _=>BxSp_reduced vs H Q
inductive BxSp_op (f:Rat→Rat→Rat) (vs:List V) (H:Hp) (Q:VK):Prop
 | mk (p r:Addr) (x y:Rat) (q1:vs=[.ref p,.ref r]) (q2:H p=some (.tup (rt x))) (q3:H r=some (.tup (rt y))) (q4:FM.B 1990 x) (q5:FM.B 1990 y) (q6:∀ (z:Addr) (H':Hp),?E→H' z=some (.tup (rt (f x y)))→Q (.ref z) H'):BxSp_op f vs H Q
def Zqd (f:Rat→Rat→Rat):Sp:=fun vs H Q _=>BxSp_op f vs H Q
theorem bd0:FM.B 1 0:=⟨?t,?t⟩
theorem up1 {a:Nat} (h:a<2^1990):a<2^1000000:=n9_ h (n23_ ?e ?e)
theorem mNN {x y:Rat} (hx:FM.B 1990 x) (hy:FM.B 1990 y):CMulB x.num y.num:=⟨up1 hx.1,up1 hy.1⟩
theorem mND {x y:Rat} (hx:FM.B 1990 x) (hy:FM.B 1990 y):CMulB x.num y.den:=⟨up1 hx.1,up1 hy.2⟩
theorem mDD {x y:Rat} (hx:FM.B 1990 x) (hy:FM.B 1990 y):CMulB x.den y.den:=⟨up1 hx.2,up1 hy.2⟩
theorem Zvt {x y:Rat} (hx:FM.B 1990 x) (hy:FM.B 1990 y):((x.den:Int)*y.den).natAbs<2^4000 :=
 n9_ (FM.natAbs_mul_lt (show (x.den:Int).natAbs<2^1990 from hx.2) (show (y.den:Int).natAbs<2^1990 from hy.2)) (n23_ ?e ?e)
def StAt (H:Hp) (l:Addr):Prop:=∃ s0 s1 s2:Int,H l=some (.lst [.int s0,.int s1,.int s2])∧0≤s1∧s1<4294967296
theorem StAt.same {H H':Hp} {l:Addr} (s:StAt H l) (k:?E):StAt H' l:=by
 obtain ⟨a,b,c,h,r⟩:=s;exact ⟨a,b,c,k _ _ h,r⟩
theorem StAt.new {H:Hp} {l p:Addr} {o:HO} (s:StAt H l) (h:H p=none):StAt (upd H p o) l:=by
 obtain ⟨a,b,c,e,r⟩:=s;exact ⟨a,b,c,by rw [Zk (Zm e h)];exact e,r⟩
theorem StAt.ne {H:Hp} {l p:Addr} (s:StAt H l) (h:H p=none):l≠p:=by
 obtain ⟨a,b,c,e,r⟩:=s;exact Zm e h
inductive BxSp_cell (K:PySem.W.Frag) (vs:List V) (H:Hp) (Q:VK):Prop
 | mk (a:Addr) (ns:?g) (k:Nat) (q1:vs=[.ref a,.int k]) (q2:SqL K H a (ns.map V.int)) (q3:∀ c:Int,Q (.int c) H):BxSp_cell K vs H Q
def Zor (K:PySem.W.Frag):Sp:=fun vs H Q _=>BxSp_cell K vs H Q
inductive BxSp_state (K:PySem.W.Frag) (vs:List V) (H:Hp) (Q:VK):Prop
 | mk (a:Addr) (ns:?g) (k:Nat) (q1:vs=[.ref a,.int k]) (q2:SqL K H a (ns.map V.int)) (q3:∀ (p:Addr) (H':Hp),H p=none→?E→StAt H' p→Q (.ref p) H'):BxSp_state K vs H Q
def Zk8 (K:PySem.W.Frag):Sp:=fun vs H Q _=>BxSp_state K vs H Q
inductive BxSp_choice (vs:List V) (H:Hp) (Q:VK):Prop
 | mk (l:Addr) (m:Int) (q1:vs=[.ref l,.int m]) (q2:StAt H l) (q3:0<m) (q4:m.natAbs<2^8999) (q5:∀ (r:Int) (H':Hp),0≤r→r<m→Keep l H H'→StAt H' l→Q (.int r) H'):BxSp_choice vs H Q
def Zdp:Sp:=fun vs H Q _=>BxSp_choice vs H Q
inductive BxSp_low (vs:List V) (H:Hp) (Q:VK):Prop
 | mk (t b:Int) (q1:vs=[.int t,.int b]) (q2:b≠0) (q3:b.natAbs<2^4000) (q4:∀ (p:Addr) (H':Hp),?E→H' p=some (.tup (rt (Rat.divInt t b)))→Q (.ref p) H'):BxSp_low vs H Q
def Zru:Sp:=fun vs H Q _=>BxSp_low vs H Q
theorem mulS {a b:Int} (ha:a.natAbs<2^64) (hb:b.natAbs<2^64):CMulB a b:=⟨n9_ ha (n23_ ?e ?e),n9_ hb (n23_ ?e ?e)⟩
theorem p64:(2:Nat)^64=18446744073709551616:=?t
inductive BxSp_sameD (vs:List V) (H:Hp) (Q:VK):Prop
 | mk (N:_) (k:_) (v:_) (u:_) (d:_) (q1:vs=[v,u]) (q2:Dt N H k v d) (q3:Dt N H k u d) (q4:k<1920) (q5:d.depth≤20) (q6:nz d≤8000) (q7:Q (.bl true) H):BxSp_sameD vs H Q
def Zkk:Sp:=fun vs H Q _=>BxSp_sameD vs H Q
theorem blT {p:Prop} [Decidable p] (h:p):V.bl (decide p)=V.bl true:=by rw [n44_ h]
theorem qT {p:Prop} [Decidable p] (h:p) {Q:VK} {H:Hp} (q:Q (.bl true) H):Q (.bl (decide p)) H:=by rw [blT h];exact q
theorem mul3 {a b:Int} (ha:a.natAbs≤1000) (hb:b.natAbs≤1000):CMulB a b:=⟨n10_ ha (n9_ (?t:(1000:Nat)<2^10) (n23_ ?e ?e)),n10_ hb (n9_ (?t:(1000:Nat)<2^10) (n23_ ?e ?e))⟩
inductive BxSp_between (vs:List V) (H:Hp) (Q:VK):Prop
 | mk (i lo hi:Int) (q1:vs=[.int i,.int lo,.int hi]) (q2:lo≤i) (q3:i≤hi) (q4:Q (.bl true) H):BxSp_between vs H Q
def Zez:Sp:=fun vs H Q _=>BxSp_between vs H Q
inductive BxSp_row (vs:List V) (H:Hp) (Q:VK):Prop
 | mk (a:Addr) (us:List V) (lo hi:Int) (q1:vs=[.ref a,.int lo,.int hi]) (q2:H a=some (.tup us)) (q3:lo≤us.length) (q4:(us.length:Int)≤hi) (q5:Q (.bl true) H):BxSp_row vs H Q
def Zri:Sp:=fun vs H Q _=>BxSp_row vs H Q
inductive BxSp_risingI (vs:List V) (H:Hp) (Q:VK):Prop
 | mk (a:Addr) (ns:?g) (q1:vs=[.ref a]) (q2:H a=some (.tup (ns.map V.int))) (q3:ns.length≤1000) (q4:(∀ (i:Nat) (x y:Int),ns[i]? = some x→ns[i+1]? = some y→x<y)) (q5:∀ H',?E→Q (.bl true) H'):BxSp_risingI vs H Q
def Zfg:Sp:=fun vs H Q _=>BxSp_risingI vs H Q
inductive BxSp_risingT (vs:List V) (H:Hp) (Q:VK):Prop
 | mk (a:Addr) (us:List V) (ks:List (?g)) (q1:vs=[.ref a]) (q2:H a=some (.tup us)) (q3:Al (IsI H) us ks) (q4:us.length≤1000) (q5:(∀ (i:Nat) (x y:?g),ks[i]? = some x→ks[i+1]? = some y→HT.lexLt x y=true)) (q6:∀ H',?E→Q (.bl true) H'):BxSp_risingT vs H Q
def Zfp:Sp:=fun vs H Q _=>BxSp_risingT vs H Q
inductive BxSp_corner (vs:List V) (H:Hp) (Q:VK):Prop
 | mk (v:V) (p:Pnt) (q1:vs=[v]) (q2:IsP H v p) (q3:near p) (q4:∀ H',?E→Q (.bl true) H'):BxSp_corner vs H Q
def Zil:Sp:=fun vs H Q _=>BxSp_corner vs H Q
inductive BxSp_corners (vs:List V) (H:Hp) (Q:VK):Prop
 | mk (v:V) (cs:List Pnt) (q1:vs=[v]) (q2:IsCs H v cs) (q3:3≤cs.length) (q4:cs.length≤30) (q5:(∀ p∈cs,near p)) (q6:cs.Nodup) (q7:∀ H',?E→Q (.bl true) H'):BxSp_corners vs H Q
def Zex:Sp:=fun vs H Q _=>BxSp_corners vs H Q
inductive BxSp_turn (vs:List V) (H:Hp) (Q:VK):Prop
 | mk (u v w:V) (a b c:Pnt) (q1:vs=[u,v,w]) (q2:IsP H u a) (q3:IsP H v b) (q4:IsP H w c) (q5:near a) (q6:near b) (q7:near c) (q8:Q (.int (tn a b c)) H):BxSp_turn vs H Q
def Zn6:Sp:=fun vs H Q _=>BxSp_turn vs H Q
theorem cut1 (xs:List V):cutV xs (some 1) none=xs.drop 1:=by
 unfold cutV;have e1:HT.sIx xs.length xs.length none=xs.length:=rfl
 have e2:HT.sIx xs.length 0 (some 1)=min 1 xs.length:=by
  unfold HT.sIx
  simp
  try omega
 rw [e1,e2];cases xs with
 | nil=>rfl
 | cons x xs=>simp
theorem Zb2 {α:Type} (x:α):∀ n:Nat,(List.replicate n [x]).flatten=List.replicate n x
 | 0=>rfl
 | n+1=>by rw [n76_,List.flatten_cons,Zb2 x n];rfl
theorem allT (n:Nat):(List.replicate n true).all id=true:=by rw [List.all_replicate];split<;>rfl
theorem repT {n i:Nat} (h:i<n):(List.replicate n true)[i]? = some true:=by rw [List.getElem?_replicate,if_pos h]
theorem Y7 {α:Type} {l:List α} {i:Nat} {x:α} (h:l[i]? = some x):i<l.length:=(n18_.mp h).1
abbrev RB:Hp→V→Bool→Prop:=fun _ v b=>v=V.bl b
theorem hRB:∀ H1 H2 v x,Tk H1 H2→RB H1 v x→RB H2 v x:=fun _ _ _ _ _ e=>e
abbrev RI:Hp→V→Int→Prop:=fun _ v b=>v=V.int b
theorem hRI:∀ H1 H2 v x,Tk H1 H2→RI H1 v x→RI H2 v x:=fun _ _ _ _ _ e=>e
theorem hRP:∀ H1 H2 v x,Tk H1 H2→IsP H1 v x→IsP H2 v x:=fun _ _ _ _ t h=>h.tk t
theorem hRT:∀ H1 H2 v x,Tk H1 H2→IsT H1 v x→IsT H2 v x:=fun _ _ _ _ t h=>h.tk t
inductive BxSp_turnOf (vs:List V) (H:Hp) (Q:VK):Prop
 | mk (u v:V) (cs:List Pnt) (p:?g) (q1:vs=[u,v]) (q2:IsCs H u cs) (q3:IsI H v p) (q4:p.length=3) (q5:(∀ i∈p,0≤i∧i≤(cs.length:Int)-1)) (q6:(∀ p∈cs,near p)) (q7:Q (.int (dOf cs p)) H):BxSp_turnOf vs H Q
def Zha:Sp:=fun vs H Q _=>BxSp_turnOf vs H Q
inductive BxSp_isPiece (vs:List V) (H:Hp) (Q:VK):Prop
 | mk (u v:V) (cs:List Pnt) (p:?g) (q1:vs=[u,v]) (q2:IsCs H u cs) (q3:IsI H v p) (q4:PieceOk cs p) (q5:(∀ p∈cs,near p)) (q6:∀ H',?E→Q (.bl true) H'):BxSp_isPiece vs H Q
def Zfi:Sp:=fun vs H Q _=>BxSp_isPiece vs H Q
inductive BxSp_pieces (vs:List V) (H:Hp) (Q:VK):Prop
 | mk (u v:V) (cs:List Pnt) (ps:List (?g)) (q1:vs=[u,v]) (q2:IsCs H u cs) (q3:IsPs H v ps) (q4:1≤ps.length) (q5:ps.length≤40) (q6:(∀ p∈ps,PieceOk cs p)) (q7:(∀ i:Nat,i+1<ps.length→HT.lexLt (ps.getD i []) (ps.getD (i+1) [])=true)) (q8:(∀ p∈cs,near p)) (q9:∀ H',?E→Q (.bl true) H'):BxSp_pieces vs H Q
def Zhk:Sp:=fun vs H Q _=>BxSp_pieces vs H Q
inductive BxSp_thicks (vs:List V) (H:Hp) (Q:VK):Prop
 | mk (u v:V) (ps:List (?g)) (ts:?g) (q1:vs=[u,v]) (q2:IsPs H u ps) (q3:IsI H v ts) (q4:ts.length=ps.length) (q5:ps.length≤40) (q6:(∀ t∈ts,1≤t∧t≤9)) (q7:∀ H',?E→Q (.bl true) H'):BxSp_thicks vs H Q
def Zh0:Sp:=fun vs H Q _=>BxSp_thicks vs H Q
inductive BxSp_stuff (vs:List V) (H:Hp) (Q:VK):Prop
 | mk (v:V) (l m:Int) (q1:vs=[v]) (q2:IsI H v [l,m]) (q3:(0≤l∧l≤9)) (q4:(1≤m∧m≤9)) (q5:Q (.bl true) H):BxSp_stuff vs H Q
def Zk3:Sp:=fun vs H Q _=>BxSp_stuff vs H Q
theorem Zln {H:Hp} {cs:List Pnt} {us:List V} (A:Al (IsP H) us cs) {i:Int} (h0:0≤i) (h1:i≤(cs.length:Int)-1):∃ v,atI us i=some v∧IsP H v (cAt cs i):=by
 obtain ⟨n,rfl⟩:∃ n:Nat,i=n:=⟨i.toNat,?d⟩;have hn:n<cs.length:=?d
 obtain ⟨v,ev,r⟩:=A.got (n1_ hn);refine ⟨v,Xg ev,?_⟩
 have:cAt cs (n:Int)=cs[n]:=by unfold cAt;simp [n5_,hn]
 rw [this];exact r
theorem Yx {cs:List Pnt} {i:Int} (h0:0≤i) (h1:i≤(cs.length:Int)-1):cAt cs i∈cs:=by
 have hn:i.toNat<cs.length:=?d
 unfold cAt;rw [n5_,n1_ hn];exact n28_ hn
def IsE (H:Hp) (v:V) (e:Pnt×Pnt):Prop:=∃ a x y,v=.ref a∧H a=some (.tup [x,y])∧IsP H x e.1∧IsP H y e.2
theorem IsE.tk {H H':Hp} {v:V} {e:Pnt×Pnt} (t:Tk H H') (h:IsE H v e):IsE H' v e:=let ⟨a,x,y,e,h1,h2,h3⟩:=h;⟨a,x,y,e,t _ _ h1,h2.tk t,h3.tk t⟩
def IsQ (H:Hp) (v:V) (q:Rat):Prop:=∃ a,v=.ref a∧H a=some (.tup (rt q))
theorem IsQ.tk {H H':Hp} {v:V} {q:Rat} (t:Tk H H') (h:IsQ H v q):IsQ H' v q:=let ⟨a,e,h1⟩:=h;⟨a,e,t _ _ h1⟩
inductive BxSp_tri (vs:List V) (H:Hp) (Q:VK):Prop
 | mk (u v:V) (cs:List Pnt) (p:?g) (q1:vs=[u,v]) (q2:IsCs H u cs) (q3:IsI H v p) (q4:p.length=3) (q5:(∀ i∈p,0≤i∧i≤(cs.length:Int)-1)) (q6:(∀ p∈cs,near p)) (q7:∀ H' w,?E→IsT H' w (trOf cs p)→Q w H'):BxSp_tri vs H Q
def Zq6:Sp:=fun vs H Q _=>BxSp_tri vs H Q
inductive BxSp_edges (vs:List V) (H:Hp) (Q:VK):Prop
 | mk (v:V) (t:Tri) (q1:vs=[v]) (q2:IsT H v t) (q3:∀ H' w,?E→IsTup' IsE H' w t.edges→Q w H'):BxSp_edges vs H Q
def Zko:Sp:=fun vs H Q _=>BxSp_edges vs H Q
inductive BxSp_liesIn (vs:List V) (H:Hp) (Q:VK):Prop
 | mk (u v:V) (p:Pnt) (t:Tri) (q1:vs=[u,v]) (q2:IsP H u p) (q3:IsT H v t) (q4:near p) (q5:t.near) (q6:∀ H',?E→Q (.bl (Zb4 p t)) H'):BxSp_liesIn vs H Q
def Zik:Sp:=fun vs H Q _=>BxSp_liesIn vs H Q
inductive BxSp_partsFrom (vs:List V) (H:Hp) (Q:VK):Prop
 | mk (u v:V) (t r:Tri) (q1:vs=[u,v]) (q2:IsT H u t) (q3:IsT H v r) (q4:t.near) (q5:r.near) (q6:∀ H',?E→Q (.bl (Xb t r)) H'):BxSp_partsFrom vs H Q
def Zcs:Sp:=fun vs H Q _=>BxSp_partsFrom vs H Q
inductive BxSp_apart (vs:List V) (H:Hp) (Q:VK):Prop
 | mk (u v:V) (t r:Tri) (q1:vs=[u,v]) (q2:IsT H u t) (q3:IsT H v r) (q4:t.near) (q5:r.near) (q6:∀ H',?E→Q (.bl (L2.apart t r)) H'):BxSp_apart vs H Q
def Zk4:Sp:=fun vs H Q _=>BxSp_apart vs H Q
inductive BxSp_used (vs:List V) (H:Hp) (Q:VK):Prop
 | mk (u v:V) (cs:List Pnt) (ps:List (?g)) (q1:vs=[u,v]) (q2:IsCs H u cs) (q3:IsPs H v ps) (q4:(∀ p∈ps,p.length=3)) (q5:ps.length≤40) (q6:cntS ps.flatten=cs.length) (q7:cs.length≤30) (q8:∀ H',?E→Q (.bl true) H'):BxSp_used vs H Q
def Zmg:Sp:=fun vs H Q _=>BxSp_used vs H Q
inductive BxSp_strange (vs:List V) (H:Hp) (Q:VK):Prop
 | mk (u v w:V) (cs:List Pnt) (p:?g) (t:Tri) (q1:vs=[u,v,w]) (q2:IsCs H u cs) (q3:IsI H v p) (q4:IsT H w t) (q5:cs.length≤30) (q6:(∀ p∈cs,near p)) (q7:t.near) (q8:(∀ j:Nat,j<cs.length→(j:Int)∉p→Zb4 (cs.getD j (0,0)) t=false)) (q9:∀ H',?E→Q (.bl true) H'):BxSp_strange vs H Q
def Ze2:Sp:=fun vs H Q _=>BxSp_strange vs H Q
structure FitOk (cs:List Pnt) (ps:List (?g)):Prop where
 c30:cs.length≤30
 nr:∀ p∈cs,near p
 p40:ps.length≤40
 pc:∀ p∈ps,PieceOk cs p
 strange:∀ p∈ps,∀ j:Nat,j<cs.length→(j:Int)∉p→Zb4 (cs.getD j (0,0)) (trOf cs p)=false
 apart:∀ i j:Nat,i<j→j<ps.length→L2.apart (trOf cs (ps.getD j [])) (trOf cs (ps.getD i []))=true
inductive BxSp_fit (vs:List V) (H:Hp) (Q:VK):Prop
 | mk (u v:V) (cs:List Pnt) (ps:List (?g)) (q1:vs=[u,v]) (q2:IsCs H u cs) (q3:IsPs H v ps) (q4:FitOk cs ps) (q5:∀ H',?E→Q (.bl true) H'):BxSp_fit vs H Q
def Zqx:Sp:=fun vs H Q _=>BxSp_fit vs H Q
inductive BxSp_isPlate (vs:List V) (H:Hp) (Q:VK):Prop
 | mk (v:V) (P:Pl) (q1:vs=[v]) (q2:IsPl H v P) (q3:PlOk P) (q4:∀ H',?E→Q (.bl true) H'):BxSp_isPlate vs H Q
def Zev:Sp:=fun vs H Q _=>BxSp_isPlate vs H Q
inductive BxSp_lookPlate (vs:List V) (H:Hp) (Q:VK):Prop
 | mk (v:V) (P:Pl) (q1:vs=[v]) (q2:IsPl H v P) (q3:PlOk P) (q4:∀ H',?E→Q .non H'):BxSp_lookPlate vs H Q
def Zcu:Sp:=fun vs H Q _=>BxSp_lookPlate vs H Q
theorem Zib {cs:List Pnt} {p:?g} (hb:∀ i∈p,0≤i∧i≤(cs.length:Int)-1) (hl:p.length=3) (nr:∀ p∈cs,near p):(trOf cs p).near:=by
 obtain ⟨a,b,c,rfl⟩:=len3 hl;have ha:=nr _ (Yx (hb a ?f).1 (hb a ?f).2);have hb':=nr _ (Yx (hb b ?f).1 (hb b ?f).2);have hc:=nr _ (Yx (hb c ?f).1 (hb c ?f).2);show (tri (cAt cs a) (cAt cs b) (cAt cs c)).near
 unfold tri;split
 · exact ⟨ha,hc,hb'⟩
 · exact ⟨ha,hb',hc⟩
theorem hRQ:∀ H1 H2 v x,Tk H1 H2→IsQ H1 v x→IsQ H2 v x:=fun _ _ _ _ t h=>h.tk t
theorem Zhi {t:Tri} (n:t.near) {e:Pnt×Pnt} (h:e∈t.edges):near e.1∧near e.2:=by
 obtain ⟨a,b,c⟩:=n;simp only [Tri.edges,n13_,n15_,or_false] at h
 rcases h with rfl|rfl|rfl
 · exact ⟨a,b⟩
 · exact ⟨b,c⟩
 · exact ⟨c,a⟩
theorem Zss {t:Tri} (n:t.near) {e:Pnt} (h:e∈t.pts):near e:=by
 obtain ⟨a,b,c⟩:=n;simp only [Tri.pts,n13_,n15_,or_false] at h
 rcases h with rfl|rfl|rfl
 · exact a
 · exact b
 · exact c
theorem Zu6 {H:Hp} {v:V} {t:Tri} (h:IsT H v t):∃ a vs,v=.ref a∧H a=some (.tup vs)∧vs.length=3∧Al (IsP H) vs t.pts:=by
 obtain ⟨a,x,y,z,rfl,ha,hx,hy,hz⟩:=h;exact ⟨a,_,rfl,ha,rfl,.cons hx (.cons hy (.cons hz .nil))⟩
theorem cs3 {H:Hp} {us:List V} {cs:List Pnt} (al:Al (IsP H) us cs) {p:?g} (hl:p.length=3) (bd:∀ i∈p,0≤i∧i≤(cs.length:Int)-1) {vs:List V} (a2:Al (IsP H) vs (p.map (cAt cs))):∃ x y z,vs=[x,y,z]∧IsP H x (cAt cs (p.getD 0 0))∧IsP H y (cAt cs (p.getD 1 0))∧IsP H z (cAt cs (p.getD 2 0)):=by
 obtain ⟨i,j,k,rfl⟩:=len3 hl
 have:=a2.1
 obtain ⟨x,y,z,rfl⟩:=len3 this;exact ⟨x,y,z,rfl,a2.2 0 x _ rfl rfl,a2.2 1 y _ rfl rfl,a2.2 2 z _ rfl rfl⟩
theorem Zuf (xs:List V) (i:Nat) (h:i≤xs.length):cutV xs none (some (i:Int))=xs.take i:=by
 unfold cutV;rw [HT.sIx_none,HT.sIx_nat];simp [Nat.min_eq_left h]
theorem Ztt (xs:List V) (i:Nat) (h:i≤xs.length):cutV xs (some (i:Int)) none=xs.drop i:=by
 unfold cutV;rw [HT.sIx_none,HT.sIx_nat,Nat.min_eq_left h];exact n37_ ?f
theorem anyM {α:Type} {l:List α} {f:α→Bool} (h:∀ x∈l,f x=false):(l.map f).any id=false:=by
 rw [List.any_map];exact List.any_eq_false.mpr fun x hx=>by simp [h x hx]
theorem prs {H:Hp} {vs:List V} {es:List (Pnt×Pnt)} (al:Al (IsE H) vs es):∀ (i:Nat) (w:V),vs[i]? = some w→∃ p x y,w=.ref p∧H p=some (.tup [x,y]):=fun i w e=>by
 obtain ⟨_,_,p,x,y,rfl,h,_⟩:=al.get e;exact ⟨p,x,y,rfl,h⟩
theorem pr1 {H:Hp} {vs:List V} {es:List (Pnt×Pnt)} (al:Al (IsE H) vs es) {i:Nat} {p:Addr} {x y:V} (e:vs[i]? = some (.ref p)) (hp:H p=some (.tup [x,y])):∃ q,es[i]? = some q∧IsP H x q.1∧IsP H y q.2:=by
 obtain ⟨q,eq,p',x',y',e1,h,h1,h2⟩:=al.get e;cases e1
 rw [hp] at h;cases h
 exact ⟨q,eq,h1,h2⟩
theorem Zg2 (n:Int) (p:?g):inV (V.int n) (p.map V.int)=decide (n∈p):=by
 unfold inV;rw [List.any_map]
 induction p with
 | nil=>rfl
 | cons x p ih =>
   rw [List.any_cons,ih]
   by_cases h:n=x
   · subst h
     have:eqV (V.int n) (V.int n)=true:=by simp [eqV]
     simp [Function.comp,this]
   · have:eqV (V.int x) (V.int n)=false:=by simp [eqV];exact fun z=>h z.symm
     simp [Function.comp,this,h]
abbrev IsQs (H:Hp) (v:V) (ms:List Rat):Prop:=IsTup' IsQ H v ms
theorem Yw {H H':Hp} {v:V} {ms:List Rat} (t:Tk H H') (h:IsQs H v ms):IsQs H' v ms:=IsTup'.tk (R:=IsQ) hRQ t h
theorem Zqr {m b:Int} (hm:0<m) (hb:0<b):0<m.fdiv (Int.gcd m b:Int)*b∧m∣m.fdiv (Int.gcd m b:Int)*b∧b∣m.fdiv (Int.gcd m b:Int)*b∧(m.fdiv (Int.gcd m b:Int)).natAbs≤m.natAbs:=by
 have hg:(0:Int)<Int.gcd m b:=by have:=FM.gcd_ne (t:=m) (b:=b) (?d);omega
 obtain ⟨k,hk⟩:=Int.gcd_dvd_left m b;obtain ⟨j,hj⟩:=Int.gcd_dvd_right m b;generalize (Int.gcd m b:Int)=g at *;have e:m.fdiv g=k:=by rw [hk,n70_];exact FM.fdiv_mul (?d)
 rw [e]
 have kp:0<k:=by
  refine Int.pos_of_mul_pos_left (b:=g) ?_ hg;rw [n70_,← hk];exact hm
 refine ⟨Int.mul_pos kp hb,⟨j,?_⟩,⟨k,n70_ _ _⟩,?_⟩
 · rw [hj,hk];grind
 · rw [hk,n56_];exact Nat.le_mul_of_pos_left _ (?d)
def lev (m:Int) (q:Rat):Int:=q.num*m.fdiv q.den
theorem Zuj (q:Rat):q=(q.num:Rat)/(q.den:Rat):=by
 have:=Rat.mkRat_self q
 rw [Rat.mkRat_eq_div] at this;exact this.symm
theorem Zwt (q:Rat):(q.den:Rat)≠0:=fun z=>q.den_nz (by exact_mod_cast z)
theorem Znk {m:Int} {q:Rat} (h:(q.den:Int)∣m):(lev m q:Rat)=q*m:=by
 obtain ⟨k,rfl⟩:=h;unfold lev;rw [n70_ (q.den:Int),FM.fdiv_mul (FM.den_ne q)];have e:=Zuj q;have hd:=Zwt q;rw [n32_,n32_];generalize (q.num:Rat)=n at *;have hd2:((q.den:Int):Rat)=(q.den:Rat):=by first|rfl|exact Rat.intCast_natCast _
 rw [hd2];generalize (q.den:Rat)=dd at *;rw [e]
 grind
theorem Xf {a b:Int} {n:Nat} (ha:a.natAbs<2^n) (hb:b.natAbs<2^n) (hn:n≤1000000:=by decide):CMulB a b:=⟨n9_ ha (n23_ ?e hn),n9_ hb (n23_ ?e hn)⟩
theorem up {a n:Nat} (m:Nat) (h:a<2^n) (l:n≤m:=by decide):a<2^m:=n9_ h (n23_ ?e l)
def dotI (xs ys:?g):Int:=(List.zipWith (·*·) xs ys).sum
inductive BxSp_dot (vs:List V) (H:Hp) (Q:VK):Prop
 | mk (a b:Addr) (xs ys:?g) (q1:vs=[.ref a,.ref b]) (q2:H a=some (.lst (xs.map V.int))) (q3:H b=some (.lst (ys.map V.int))) (q4:xs.length≤100) (q5:(∀ x∈xs,x.natAbs<2^5000)) (q6:(∀ x∈ys,x.natAbs<2^5000)) (q7:∀ H',?E→Q (.int (dotI xs ys)) H'):BxSp_dot vs H Q
def Zq0:Sp:=fun vs H Q _=>BxSp_dot vs H Q
def p0 (cs:List Pnt) (p:?g):Pnt:=cAt cs (p.getD 0 0)
def p1 (cs:List Pnt) (p:?g):Pnt:=cAt cs (p.getD 1 0)
def p2 (cs:List Pnt) (p:?g):Pnt:=cAt cs (p.getD 2 0)
def Z7 (cs:List Pnt) (p:?g):?g:=[(p1 cs p).2-(p2 cs p).2,(p2 cs p).2-(p0 cs p).2,(p0 cs p).2-(p1 cs p).2]
def Z6 (cs:List Pnt) (p:?g):?g:=[(p2 cs p).1-(p1 cs p).1,(p0 cs p).1-(p2 cs p).1,(p1 cs p).1-(p0 cs p).1]
def Z1 (p:?g):?g:=p.map (fun i=>2*i)++p.map (fun i=>2*i+1)
def pcOf (P:Pl) (n:Int):?g:=P.ps.getD n.toNat []
inductive BxSp_slopes (vs:List V) (H:Hp) (Q:VK):Prop
 | mk (v:V) (P:Pl) (n:Int) (q1:vs=[v,.int n]) (q2:IsPl H v P) (q3:PlOk P) (q4:0≤n) (q5:n<P.ps.length) (q6:∀ (H':Hp) (r bl cl:Addr),?E→H' r=some (.tup [.int (dOf P.cs ?w),.ref bl,.ref cl])→H' bl=some (.lst ((Z7 P.cs ?w).map V.int))→H' cl=some (.lst ((Z6 P.cs ?w).map V.int))→Q (.ref r) H'):BxSp_slopes vs H Q
def Zhc:Sp:=fun vs H Q _=>BxSp_slopes vs H Q
inductive BxSp_pways (vs:List V) (H:Hp) (Q:VK):Prop
 | mk (v:V) (P:Pl) (n:Int) (q1:vs=[v,.int n]) (q2:IsPl H v P) (q3:PlOk P) (q4:0≤n) (q5:n<P.ps.length) (q6:∀ (H':Hp) (r:Addr),?E→H' r=some (.lst ((Z1 ?w).map V.int))→Q (.ref r) H'):BxSp_pways vs H Q
def Zkf:Sp:=fun vs H Q _=>BxSp_pways vs H Q
def Zbm (P:Pl) (n:Int) (ms:List Rat):List Rat:=(Z1 ?w).map fun w=>ms.getD w.toNat 0
def strI (bs cs six:?g):?g:=[dotI bs (six.take 3),dotI cs (six.drop 3),dotI (cs++bs) six]
inductive BxSp_strained (vs:List V) (H:Hp) (Q:VK):Prop
 | mk (a b c:Addr) (bs cs six:?g) (q1:vs=[.ref a,.ref b,.ref c]) (q2:H a=some (.lst (bs.map V.int))) (q3:H b=some (.lst (cs.map V.int))) (q4:H c=some (.lst (six.map V.int))) (q5:bs.length=3) (q6:cs.length=3) (q7:six.length=6) (q8:(∀ x∈bs,x.natAbs<2^5000)) (q9:(∀ x∈cs,x.natAbs<2^5000)) (q10:(∀ x∈six,x.natAbs<2^5000)) (q11:∀ (H':Hp) (r:Addr),?E→H' r=some (.lst ((strI bs cs six).map V.int))→Q (.ref r) H'):BxSp_strained vs H Q
def Zdj:Sp:=fun vs H Q _=>BxSp_strained vs H Q
inductive BxSp_stressed (vs:List V) (H:Hp) (Q:VK):Prop
 | mk (a b:Addr) (l m e f g:Int) (q1:vs=[.ref a,.ref b]) (q2:H a=some (.tup [.int l,.int m])) (q3:H b=some (.lst [.int e,.int f,.int g])) (q4:(0≤l∧l≤9)) (q5:(1≤m∧m≤9)) (q6:e.natAbs<2^5000) (q7:f.natAbs<2^5000) (q8:g.natAbs<2^5000) (q9:∀ (H':Hp) (r:Addr),?E→H' r=some (.lst [.int (l*(e+f)+2*m*e),.int (l*(e+f)+2*m*f),.int (m*g)])→Q (.ref r) H'):BxSp_stressed vs H Q
def Zdt:Sp:=fun vs H Q _=>BxSp_stressed vs H Q
theorem Xj {P:Pl} {n:Int} (h0:0≤n) (h1:n<P.ps.length):pcOf P n∈P.ps:=by
 unfold pcOf;have hn:n.toNat<P.ps.length:=?d
 rw [n5_,n1_ hn];exact n28_ hn
theorem Zqq {H:Hp} {P:Pl} {ws:List V} (bl:Al (IsI H) ws P.ps) {n:Int} (h0:0≤n) (h1:n<P.ps.length):∃ v,atI ws n=some v∧IsI H v ?w:=by
 obtain ⟨k,rfl⟩:∃ k:Nat,n=k:=⟨n.toNat,?d⟩;have hk:k<P.ps.length:=?d
 obtain ⟨v,ev,r⟩:=bl.got (n1_ hk);refine ⟨v,Xg ev,?_⟩
 have:pcOf P (k:Int)=P.ps[k]:=by unfold pcOf;simp [n5_,hk]
 rw [this];exact r
theorem Zu3 {H:Hp} {ms:List Rat} {us:List V} (al:Al (IsQ H) us ms) {i:Int} (h0:0≤i) (h1:i<ms.length):∃ v,atI us i=some v∧IsQ H v (ms.getD i.toNat 0):=by
 obtain ⟨k,rfl⟩:∃ k:Nat,i=k:=⟨i.toNat,?d⟩;have hk:k<ms.length:=?d
 obtain ⟨v,ev,r⟩:=al.got (n1_ hk);refine ⟨v,Xg ev,?_⟩
 have:ms.getD (k:Int).toNat 0=ms[k]:=by simp [n5_,hk]
 rw [this];exact r
theorem Zi9 {cs:List Pnt} (nr:∀ p∈cs,near p) {p:?g} (hl:p.length=3) (bd:∀ i∈p,0≤i∧i≤(cs.length:Int)-1):(∀ x∈Z7 cs p,x.natAbs≤200)∧(∀ x∈Z6 cs p,x.natAbs≤200)∧(dOf cs p).natAbs≤80000:=by
 obtain ⟨i,j,k,rfl⟩:=len3 hl;obtain ⟨⟨a1,a2⟩,a3,a4⟩:=nr _ (Yx (bd i ?f).1 (bd i ?f).2);obtain ⟨⟨b1,b2⟩,b3,b4⟩:=nr _ (Yx (bd j ?f).1 (bd j ?f).2);obtain ⟨⟨c1,c2⟩,c3,c4⟩:=nr _ (Yx (bd k ?f).1 (bd k ?f).2);refine ⟨fun x hx=>?_,fun x hx=>?_,?_⟩
 · simp only [Z7,p0,p1,p2,n13_,n15_,or_false,n46_,n47_] at hx
   rcases hx with rfl|rfl|rfl<;>omega
 · simp only [Z6,p0,p1,p2,n13_,n15_,or_false,n46_,n47_] at hx
   rcases hx with rfl|rfl|rfl<;>omega
 · show (tn (cAt cs i) (cAt cs j) (cAt cs k)).natAbs≤80000
   unfold tn
   have h1:(((cAt cs j).1-(cAt cs i).1)*((cAt cs k).2-(cAt cs i).2)).natAbs≤200*200:=by
    rw [n56_];exact n57_ (?d) (?d)
   have h2:(((cAt cs k).1-(cAt cs i).1)*((cAt cs j).2-(cAt cs i).2)).natAbs≤200*200:=by
    rw [n56_];exact n57_ (?d) (?d)
   omega
def dotQ (bs:?g) (us:List Rat):Rat:=(List.zipWith (fun (b:Int) (u:Rat)=>(b:Rat)*u) bs us).sum
theorem Zkw {m:Int}:∀ (bs:?g) (us:List Rat),(∀ q∈us,(q.den:Int)∣m)→((dotI bs (us.map (lev m)):Int):Rat)=dotQ bs us*m
 | [],us,_=>by simp [dotI,dotQ,Rat.zero_mul]
 | b :: bs,[],_=>by simp [dotI,dotQ,Rat.zero_mul]
 | b :: bs,u :: us,h=>by
   have ih:=Zkw bs us fun q hq=>h q (n17_ _ hq);have e:=Znk (h u n24_);unfold dotI dotQ at *;simp only [n38_,n62_,n65_];rw [n71_,n32_,ih,e]
   grind
theorem Zj2 {a b:Nat}:∀ (xs ys:?g),(∀ x∈xs,x.natAbs<2^a)→(∀ y∈ys,y.natAbs<2^b)→(dotI xs ys).natAbs≤xs.length*2^(a+b)
 | [],ys,_,_=>by simp [dotI]
 | x :: xs,[],_,_=>by simp [dotI]
 | x :: xs,y :: ys,hx,hy=>by
   have ih:=Zj2 xs ys (fun z hz=>hx z (n17_ _ hz)) fun z hz=>hy z (n17_ _ hz);have h1:=FM.natAbs_mul_lt (hx x n24_) (hy y n24_);have e:dotI (x :: xs) (y :: ys)=x*y+dotI xs ys:=rfl;rw [e,n21_,Nat.add_mul,Nat.one_mul];omega
def strQ (P:Pl) (n:Int) (ms:List Rat):List Rat :=
 [dotQ (Z7 P.cs ?w) ((Zbm P n ms).take 3)/(dOf P.cs ?w:Rat),dotQ (Z6 P.cs ?w) ((Zbm P n ms).drop 3)/(dOf P.cs ?w:Rat),dotQ (Z6 P.cs ?w++Z7 P.cs ?w) (Zbm P n ms)/(dOf P.cs ?w:Rat)]
def stsQ (l m:Int) (s:List Rat):List Rat:=[(l:Rat)*(s.getD 0 0+s.getD 1 0)+2*(m:Rat)*s.getD 0 0,(l:Rat)*(s.getD 0 0+s.getD 1 0)+2*(m:Rat)*s.getD 1 0,(m:Rat)*s.getD 2 0]
theorem Xs {d:Int} (h:d≠0):(d:Rat)≠0:=fun z=>h (by exact_mod_cast z)
theorem Zn7 {t d m:Int} {S:Rat} (hd:d≠0) (hm:m≠0) (h:(t:Rat)=S*m):Rat.divInt t (d*m)=S/d:=by
 rw [n77_,h,n32_];have h1:=Xs hd;have h2:=Xs hm
 grind
theorem Zvu {P:Pl} {n m:Int} {ms:List Rat} (hd:dOf P.cs ?w≠0) (hm:m≠0) (dv:∀ q∈Zbm P n ms,(q.den:Int)∣m) :
 (strI (Z7 P.cs ?w) (Z6 P.cs ?w) ((Zbm P n ms).map (lev m))).map (fun t=>Rat.divInt t (dOf P.cs ?w*m))=strQ P n ms:=by
 unfold strI strQ;simp only [n38_,n64_];rw [← List.map_take,← List.map_drop];rw [Zn7 hd hm (Zkw _ _ fun q hq=>dv q (List.mem_of_mem_take hq)),Zn7 hd hm (Zkw _ _ fun q hq=>dv q (List.mem_of_mem_drop hq)),Zn7 hd hm (Zkw _ _ dv)]
theorem Zu0 {l m E F G b:Int}:([l*(E+F)+2*m*E,l*(E+F)+2*m*F,m*G].map fun t=>Rat.divInt t b)=stsQ l m ([E,F,G].map fun t=>Rat.divInt t b):=by
 unfold stsQ;simp only [n38_,n64_,n46_,n47_,n77_,n71_,n32_];have e2:((2:Int):Rat)=2:=rfl;rw [e2];refine List.ext_getElem rfl fun i h1 h2=>?_
 match i,h1 with
 | 0,_=>simp only [List.getElem_cons_zero];grind
 | 1,_=>simp only [List.getElem_cons_zero,List.getElem_cons_succ];grind
 | 2,_=>simp only [List.getElem_cons_zero,List.getElem_cons_succ];grind
inductive BxSp_multG (vs:List V) (H:Hp) (Q:VK):Prop
 | mk (l:Addr) (ds:?g) (k:Nat) (q1:vs=[.ref l]) (q2:H l=some (.lst (ds.map V.int))) (q3:(∀ x∈ds,0<x∧x.natAbs<2^k)) (q4:k*ds.length≤3900) (q5:k≤3900) (q6:∀ m:Int,0<m→(∀ x∈ds,x∣m)→m.natAbs<2^(k*ds.length+1)→Q (.int m) H):BxSp_multG vs H Q
def Zj1:Sp:=fun vs H Q _=>BxSp_multG vs H Q
def levP (m:Int) (p:Pnt):Int:=p.1*m.fdiv p.2
abbrev PB (k:Nat) (ps:List Pnt):Prop:=∀ p∈ps,(0<p.2∧p.2.natAbs<2^k)∧p.1.natAbs<2^1000
def LevQ (ps:List Pnt) (k:Nat) (H:Hp) (Q:VK):Prop:=∀ (H':Hp) (p t:Addr) (m:Int),?E→H' p=some (.tup [.ref t,.int m])→H' t=some (.lst ((ps.map (levP m)).map V.int))→0<m→(∀ p∈ps,p.2∣m)→m.natAbs<2^(k*ps.length+1)→Q (.ref p) H'
inductive BxSp_levL (vs:List V) (H:Hp) (Q:VK):Prop
 | mk (l:Addr) (us:List V) (ps:List Pnt) (k:Nat) (q1:vs=[.ref l]) (q2:H l=some (.lst us)) (q3:Al (IsP H) us ps) (q4:PB k ps) (q5:k*ps.length≤3900) (q6:k≤3900) (q7:ps.length≤1000) (q8:LevQ ps k H Q):BxSp_levL vs H Q
def Znz:Sp:=fun vs H Q _=>BxSp_levL vs H Q
theorem Zqw {H:Hp} {us:List V} {ps:List Pnt} (al:Al (IsP H) us ps):∀ (i:Nat) (w:V),us[i]? = some w→∃ p x y,w=.ref p∧H p=some (.tup [x,y]):=fun i w e=>by
 obtain ⟨q,_,p,rfl,h⟩:=al.get e;exact ⟨p,_,_,rfl,h⟩
theorem Zvh {H:Hp} {us:List V} {ps:List Pnt} (al:Al (IsP H) us ps) {i:Nat} {p:Addr} {x y:V} (e:us[i]? = some (.ref p)) (hp:H p=some (.tup [x,y])):∃ q,ps[i]? = some q∧x=.int q.1∧y=.int q.2:=by
 obtain ⟨q,eq,p',e1,h⟩:=al.get e;cases e1
 rw [hp] at h;cases h
 exact ⟨q,eq,rfl,rfl⟩
theorem Xp {m b:Int} {k:Nat} (hb:0<b) (h:b∣m) (hm:m.natAbs<2^k):(m.fdiv b).natAbs<2^k:=by
 obtain ⟨j,rfl⟩:=h;rw [n70_,FM.fdiv_mul (?d)];refine n10_ ?_ hm;rw [n56_];exact Nat.le_mul_of_pos_left _ (?d)
def prQ (q:Rat):Pnt:=(q.num,(q.den:Int))
theorem Zol {H:Hp} {us:List V} {qs:List Rat} (al:Al (IsQ H) us qs):Al (IsP H) us (qs.map prQ):=⟨by rw [al.1,n7_],fun i v p e1 e2=>by
 rw [n4_] at e2;obtain ⟨q,eq,rfl⟩:=n12_.mp e2;obtain ⟨a,rfl,h⟩:=al.2 i v q e1 eq;exact ⟨a,rfl,h⟩⟩
theorem Zvo {k:Nat} {qs:List Rat} (h:∀ q∈qs,FM.B 1000 q∧q.den<2^k):PB k (qs.map prQ):=fun p hp=>by
 obtain ⟨q,hq,rfl⟩:=n25_.mp hp;exact ⟨⟨FM.den_pos q,(h q hq).2⟩,(h q hq).1.1⟩
theorem hRQs:∀ H1 H2 v x,Tk H1 H2→IsQs H1 v x→IsQs H2 v x:=fun _ _ _ _ t h=>Yw t h
abbrev Zn5 (H:Hp) (v:V) (ss:List (List Rat)):Prop:=IsTup' IsQs H v ss
theorem Zqt {H H':Hp} {v:V} {ss:List (List Rat)} (t:Tk H H') (h:Zn5 H v ss):Zn5 H' v ss:=IsTup'.tk (R:=IsQs) hRQs t h
def Zgq (P:Pl) (ms:List Rat):List (List Rat):=(List.range P.ps.length).map fun n:Nat=>stsQ P.l P.m (strQ P n ms)
structure SOk (P:Pl) (ss:List (List Rat)):Prop where
 len:ss.length=P.ps.length
 three:∀ s∈ss,s.length=3
 bd:∀ s∈ss,∃ D:Int,(0<D∧D.natAbs<2^23)∧∀ q∈s,FM.B 90 q∧(q.den:Int)∣D
def rsum (ps:List Pnt):Rat:=(ps.map fun p=>(p.1:Rat)/(p.2:Rat)).sum
inductive BxSp_added (vs:List V) (H:Hp) (Q:VK):Prop
 | mk (l:Addr) (us:List V) (ps:List Pnt) (q1:vs=[.ref l]) (q2:H l=some (.lst us)) (q3:Al (IsP H) us ps) (q4:PB 71 ps) (q5:ps.length≤40) (q6:∀ (H':Hp) (v:V),?E→IsQ H' v (rsum ps)→Q v H'):BxSp_added vs H Q
def Zkc:Sp:=fun vs H Q _=>BxSp_added vs H Q
inductive BxSp_mixed (vs:List V) (H:Hp) (Q:VK):Prop
 | mk (a l:Addr) (us:List V) (ps:List Pnt) (b:Int) (q1:vs=[.ref a,.ref l,.int b]) (q2:H a=some (.lst (List.replicate ps.length (.int 1)))) (q3:H l=some (.lst us)) (q4:Al (IsP H) us ps) (q5:PB 71 ps) (q6:ps.length≤40) (q7:b≠0) (q8:b.natAbs<2^1000) (q9:∀ (H':Hp) (v:V),?E→IsQ H' v (rsum ps/b)→Q v H'):BxSp_mixed vs H Q
def Zf3:Sp:=fun vs H Q _=>BxSp_mixed vs H Q
theorem Zs8 {m:Int} {p:Pnt} (h0:0<p.2) (h:p.2∣m):(levP m p:Rat)=(p.1:Rat)/(p.2:Rat)*m:=by
 obtain ⟨k,rfl⟩:=h;unfold levP;rw [n70_ p.2 k,FM.fdiv_mul (?d),n32_,n32_]
 have:=Xs (show p.2≠0 by omega)
 generalize (p.1:Rat)=a at *;generalize (p.2:Rat)=b at *
 grind
theorem Znp {m:Int}:∀ (ps:List Pnt),(∀ p∈ps,0<p.2∧p.2∣m)→(((ps.map (levP m)).sum:Int):Rat)=rsum ps*m
 | [],_=>by simp [rsum,Rat.zero_mul]
 | p :: ps,h=>by
   have ih:=Znp ps fun q hq=>h q (n17_ _ hq);obtain ⟨h1,h2⟩:=h p n24_;have e:=Zs8 h1 h2;unfold rsum at *;simp only [n38_,n65_];rw [n71_,ih,e]
   grind
theorem Zsz {m:Int} {p:Pnt} {k:Nat} (h0:0<p.2) (h:p.2∣m) (hm:m.natAbs<2^k) (ht:p.1.natAbs<2^1000):(levP m p).natAbs<2^(1000+k):=FM.natAbs_mul_lt ht (Xp h0 h hm)
def Zgu (bs cs three:?g):?g:=(List.zipWith (fun b c=>three.getD 0 0*b+three.getD 2 0*c) bs cs)++(List.zipWith (fun b c=>three.getD 2 0*b+three.getD 1 0*c) bs cs)
inductive BxSp_pushed (vs:List V) (H:Hp) (Q:VK):Prop
 | mk (a b c:Addr) (bs cs three:?g) (q1:vs=[.ref a,.ref b,.ref c]) (q2:H a=some (.lst (bs.map V.int))) (q3:H b=some (.lst (cs.map V.int))) (q4:H c=some (.lst (three.map V.int))) (q5:three.length=3) (q6:bs.length=3) (q7:cs.length=3) (q8:(∀ x∈bs,x.natAbs<2^5000)) (q9:(∀ x∈cs,x.natAbs<2^5000)) (q10:(∀ x∈three,x.natAbs<2^5000)) (q11:∀ (H':Hp) (r:Addr),?E→H' r=some (.lst ((Zgu bs cs three).map V.int))→Q (.ref r) H'):BxSp_pushed vs H Q
def Zh4:Sp:=fun vs H Q _=>BxSp_pushed vs H Q
def thk (P:Pl) (n:Nat):Int:=if 0<dOf P.cs ?w then P.ts.getD n 0 else -(P.ts.getD n 0)
def xP (P:Pl) (n:Nat) (s:List Rat) (c:Nat):Rat:=(thk P n:Rat)*(s.getD 0 0*((Z7 P.cs ?w).getD c 0:Int)+s.getD 2 0*((Z6 P.cs ?w).getD c 0:Int))/2
def yP (P:Pl) (n:Nat) (s:List Rat) (c:Nat):Rat:=(thk P n:Rat)*(s.getD 2 0*((Z7 P.cs ?w).getD c 0:Int)+s.getD 1 0*((Z6 P.cs ?w).getD c 0:Int))/2
def pnt (P:Pl) (n:Nat) (c:Nat):Int:=(pcOf P n).getD c 0
def ctr (P:Pl) (n:Nat) (s:List Rat):List (Int×Rat):=[(2*pnt P n 0,xP P n s 0),(2*pnt P n 1,xP P n s 1),(2*pnt P n 2,xP P n s 2),(2*pnt P n 0+1,yP P n s 0),(2*pnt P n 1+1,yP P n s 1),(2*pnt P n 2+1,yP P n s 2)]
def pt' (l:List (Int×Rat)) (w:Nat):Rat:=(l.map fun e=>if e.1=(w:Int) then e.2 else 0).sum
def Fn (P:Pl) (ss:List (List Rat)):Nat→Nat→Rat
 | 0,_=>0
 | i+1,w=>Fn P ss i w+pt' (ctr P i (ss.getD i [])) w
def Zlo (P:Pl) (ss:List (List Rat)):List Rat:=(List.range (2*P.cs.length)).map (Fn P ss ss.length)
theorem Zoa (l:List (Int×Rat)) (e:Int×Rat) (w:Nat):pt' (l++[e]) w=pt' l w+if e.1=(w:Int) then e.2 else 0:=by
 unfold pt';rw [n51_,List.sum_append];simp [Rat.add_zero]
theorem Zoi {bs cs th:?g} (hb:∀ x∈bs,x.natAbs≤200) (hc:∀ x∈cs,x.natAbs≤200) (h3:th.length=3) (ht:∀ x∈th,x.natAbs<2^200):∀ x∈Zgu bs cs th,x.natAbs<2^300:=by
 match th,h3 with
 | [p,q,r],_ =>
   have key:∀ (a b c d:Int),a.natAbs<2^200→c.natAbs<2^200→b.natAbs≤200→d.natAbs≤200→(a*b+c*d).natAbs<2^300:=by
    intro a b c d ha hc hb hd;have h1:=FM.natAbs_mul_lt ha (n10_ hb (show 200<2^8 by decide));have h2:=FM.natAbs_mul_lt hc (n10_ hd (show 200<2^8 by decide));have h3:2^(200+8)+2^(200+8)<2^300:=?t
    omega
   intro x hx
   rcases n39_.mp hx with h|h
   · obtain ⟨i,hi,e⟩:=n52_ h;rw [List.length_zipWith] at hi;rw [List.getElem_zipWith] at e;rw [← e];exact key _ _ _ _ (ht p ?f) (ht r ?f) (hb _ (n28_ _)) (hc _ (n28_ _))
   · obtain ⟨i,hi,e⟩:=n52_ h;rw [List.length_zipWith] at hi;rw [List.getElem_zipWith] at e;rw [← e];exact key _ _ _ _ (ht r ?f) (ht q ?f) (hb _ (n28_ _)) (hc _ (n28_ _))
theorem Zia {α β:Type} (f:α→β):∀ (l:List α) (i:Nat),(l.map f).eraseIdx i=(l.eraseIdx i).map f
 | [],i=>by cases i<;>rfl
 | x :: l,0=>rfl
 | x :: l,i+1=>by simp only [n38_,List.eraseIdx_cons_succ,Zia f l i]
theorem X9 {α:Type}:∀ (l:List α) (i:Nat) (h:i<l.length),(l[i] :: l.eraseIdx i).Perm l
 | [],i,h=>by simp at h
 | x :: l,0,h=>.refl _
 | x :: l,i+1,h=>by
   simp only [List.eraseIdx_cons_succ,List.getElem_cons_succ];exact (List.Perm.swap x _ _).trans ((X9 l i (by simpa using h)).cons x)
theorem Zp4 {α:Type} {R:V→α→Prop} {vs:List V} {xs:List α} {v:V} {x:α} (h:Al R vs xs) (j:Nat) (r:R v x):Al R (vs.set j v) (xs.set j x):=by
 refine ⟨by simp [h.1],fun i w y e1 e2=>?_⟩;rw [List.getElem?_set] at e1 e2
 by_cases hi:j=i
 · subst hi;rw [if_pos rfl] at e1 e2;split at e1
   · split at e2
     · cases e1;cases e2;exact r
     · cases e2
   · cases e1
 · rw [if_neg hi] at e1 e2;exact h.2 i w y e1 e2
theorem Zmr {S:V→?g→Prop} {T:?g→?g→Prop}:∀ {vs:List V} {ps:List (?g)},Al (fun v p=>∃ r,S v r∧T r p) vs ps→∃ kl:List (?g),kl.length=ps.length∧Al S vs kl∧∀ i:Nat,i<ps.length→T (kl.getD i []) (ps.getD i [])
 | [],[],_=>⟨[],rfl,.nil,fun i hi=>by simp at hi⟩
 | [],p :: ps,h=>by have:=h.1;simp at this
 | v :: vs,[],h=>by have:=h.1;simp at this
 | v :: vs,p :: ps,h=>by
   obtain ⟨r,s,t⟩:=h.2 0 v p rfl rfl;obtain ⟨kl,l,a,k⟩:=Zmr (vs:=vs) (ps:=ps) ⟨by have:=h.1;simpa using this,fun i w x e1 e2=>h.2 (i+1) w x (by simpa using e1) (by simpa using e2)⟩;refine ⟨r :: kl,by simp [l],.cons s a,fun i hi=>?_⟩;cases i with
   | zero=>exact t
   | succ i=>simpa using k i (by simpa using hi)
theorem Ze8 {n:Nat} {k:Int} (h0:0≤k) (h1:k<n):ixN n k=some k.toNat:=by
 unfold ixN;rw [if_pos h0,if_pos (?d)]
theorem seqI {n:Nat} {k:Int} (h0:0≤k) (h1:k<n):seqIndex? k n=some k.toNat:=(Zjx (Ze8 h0 h1)).1
theorem tkS {H H':Hp} {l:Addr} (k:Keep l H H') (s:StAt H l):Tk H H':=by
 obtain ⟨a,b,c,e,_⟩:=s;exact Tk.of_keep k e
theorem StAt.neN {H:Hp} {l p:Addr} (s:StAt H l) (h:H p=none):p≠l:=fun z=>s.ne h z.symm
theorem Ztm {J:It} {n:Nat} {l D:Addr} {g:TG} {te:TE} {σ0:L2.St} {H:Hp} {Q:VK} {α:Type} (R:Hp→V→α→Prop) (hR:∀ H1 H2 v x,Tk H1 H2→R H1 v x→R H2 v x) (hz:n≤1000) (ok:L2.St→Prop) (h0:ok σ0) (hD:H D=none) (hl:StAt H l)
 (hgo:∀ i H2,Keep l H H2→i<n→J.go i H2) (hstop:∀ H2,Keep l H H2→J.stop n H2)
 (hs:∀ i x σ2 H2 H3 (C:L2.St→V→?y),i<n→Keep l H H2→StAt H2 l→J.yld i H2 x H3→ok σ2→(∀ σ4 y H5 z,ok σ4→Keep l H2 H5→StAt H5 l→R H5 y z→C σ4 y H5)→g x σ2 H3 fun σ4 H4=>te σ4 H4 (C σ4))
 (hd:∀ H2 vs ys,Keep l H H2→StAt H2 l→H2 D=some (.lst vs)→ys.length=n→Al (R H2) vs ys→Q (.ref D) H2):LcGo J g tYes te σ0 H D Q:=by
 have neD:D≠l:=hl.neN hD;refine Zh5 (n:=n) (fun i σ H2=>Keep l H H2∧StAt H2 l∧ok σ∧∃ vs ys,ys.length=i∧H2 D=some (.lst vs)∧Al (R H2) vs ys) ⟨Keep.new hD,hl.new hD,h0,[],[],rfl,Zc,.nil⟩ (fun i σ H2 hi p=>hgo i H2 p.1 hi) (fun σ H2 p=>hstop H2 p.1) (fun i x σ2 H2 H3 hi y p=>?_) (fun σ2 H2 p=>?_)
 · obtain ⟨s2,l2,o2,vs,ys,hy,e2,a2⟩:=p;refine hs i x σ2 H2 H3 (fun σ4 y H6=>∃ ys,H6 D=some (.lst ys)∧ys.length<sizeLine∧∃ m',m'<n-i∧LcN n (fun i σ H2=>Keep l H H2∧StAt H2 l∧ok σ∧∃ vs ys,ys.length=i∧H2 D=some (.lst vs)∧Al (R H2) vs ys) (i+1) m' σ4 (upd H6 D (.lst (ys++[y])))) hi s2 l2 y o2 ?_;intro σ4 v H5 z o4 s5 l5 rz;have e5:H5 D=some (.lst vs):=s5 _ _ neD e2;have tk:Tk H5 (upd H5 D (.lst (vs++[v]))):=Tk.upd_lst e5;refine ⟨vs,e5,?_,n-(i+1),?d,?d,rfl,fun b o nb e=>?_,?_,o4,vs++[v],ys++[z],by simp [hy],Zc,?_⟩
   · rw [a2.1,sizeLine_eq];omega
   · rw [Zk (Zm e hD)];exact s5 _ _ nb (s2 _ _ nb e)
   · obtain ⟨a,b,c,e,r⟩:=l5;exact ⟨a,b,c,by rw [Zk neD.symm];exact e,r⟩
   · exact (a2.imp fun v x r=>hR _ _ v x tk (hR _ _ v x (tkS s5 l2) r)).snoc (hR _ _ _ _ tk rz)
 · obtain ⟨s2,l2,_,vs,ys,hy,e2,a2⟩:=p;exact hd H2 vs ys s2 l2 e2 hy a2
inductive BxSp_order (vs:List V) (H:Hp) (Q:VK):Prop
 | mk (l:Addr) (n:Nat) (q1:vs=[.ref l,.int n]) (q2:StAt H l) (q3:n≤60) (q4:∀ (H':Hp) (r:Addr) (o:?g),Keep l H H'→StAt H' l→H r=none→H' r=some (.lst (o.map V.int))→o.Perm ((List.range n).map fun i:Nat=>(i:Int))→Q (.ref r) H'):BxSp_order vs H Q
def Zkm:Sp:=fun vs H Q _=>BxSp_order vs H Q
def tot (qs:List Rat):Rat:=qs.foldl (·+·) 0
theorem Zpo {n:Nat} (qs:List Rat) (h:∀ q∈qs,FM.B n q):FM.B ((n+1)*qs.length+1) (tot qs):=by
 have:∀ (qs:List Rat) (a:Rat) (k:Nat),(∀ q∈qs,FM.B n q)→FM.B k a→FM.B (k+(n+1)*qs.length) (qs.foldl (·+·) a):=by
  intro qs
  induction qs with
  | nil=>intro a k _ ha;exact ha
  | cons q qs ih =>
    intro a k hq ha;rw [n80_]
    have:=ih (a+q) (k+n+1) (fun x hx=>hq x (n17_ _ hx)) (FM.B_add ha (hq q n24_))
    refine this.mono ?_;rw [n21_,Nat.mul_add];omega
 exact (this qs 0 1 h bd0).mono (?d)
inductive BxSp_total (vs:List V) (H:Hp) (Q:VK):Prop
 | mk (a:Addr) (us:List V) (qs:List Rat) (q1:vs=[.ref a]) (q2:H a=some (.lst us)) (q3:Al (IsQ H) us qs) (q4:(∀ q∈qs,FM.B 150 q)) (q5:qs.length≤12) (q6:∀ (H':Hp) (v:V),?E→IsQ H' v (tot qs)→Q v H'):BxSp_total vs H Q
def Zkp:Sp:=fun vs H Q _=>BxSp_total vs H Q
def Zhv:Sp:=fun vs H Q _=>vs=[]∧∀ (H':Hp) (r:Addr) (us:List V),?E→H r=none→H' r=some (.lst us)→Al (IsSh H') us Zdn→Q (.ref r) H'
inductive BxSp_plate (vs:List V) (H:Hp) (Q:VK):Prop
 | mk (l:Addr) (q1:vs=[.ref l,.int 8]) (q2:StAt H l) (q3:∀ (H':Hp) (v:V) (P:Pl),Keep l H H'→StAt H' l→IsPl H' v P→PlOk P→P.ps.length≤4→Q v H'):BxSp_plate vs H Q
def Zk7:Sp:=fun vs H Q _=>BxSp_plate vs H Q
theorem Zok (t:Int) {b:Int} (h:b≠0):((Rat.divInt t b).den:Int)∣b:=by
 rw [← FM.fdiv_den h]
 have hs:FM.sg t b∣b:=by
  unfold FM.sg;split
  · exact Int.neg_dvd.mpr (Int.gcd_dvd_right t b)
  · exact Int.gcd_dvd_right t b
 obtain ⟨k,hk⟩:=hs
 have e:b.fdiv (FM.sg t b)=k:=by
  have h0:=FM.sg_ne (t:=t) h;generalize FM.sg t b=g at *;rw [hk,n70_];exact FM.fdiv_mul h0
 rw [e];exact ⟨_,by rw [n70_];exact hk⟩
theorem Zqk {H:Hp} {us:List V} (al:Al (IsSh H) us Zdn) {r:Int} (h0:0≤r) (h1:r<8):∃ (v:V) (s:List Pnt×List (?g)),atI us r=some v∧IsSh H v s∧s∈Zdn:=by
 obtain ⟨k,rfl⟩:∃ k:Nat,r=k:=⟨r.toNat,?d⟩;have hk:k<Zdn.length:=by show k<8;omega
 obtain ⟨v,ev,rv⟩:=al.got (n1_ hk);exact ⟨v,_,Xg ev,rv,n28_ hk⟩
theorem Zkb {α:Type} {R:V→α→Prop} {v:V} {x:α} (r:R v x):∀ n:Nat,Al R (List.replicate n v) (List.replicate n x)
 | 0=>.nil
 | n+1=>by rw [n76_,n76_];exact .cons r (Zkb r n)
theorem mul4 {a b:Int} (ha:a.natAbs≤1000) (hb:b.natAbs≤1000):CMulB a b:=mul3 ha hb
theorem o_at {o:?g} {n:Nat} (O:CoOrd n o) {i:Int} (h0:0≤i) (h1:i<n):atI (o.map V.int) i=some (.int (oAt o i)):=by
 obtain ⟨k,rfl⟩:∃ k:Nat,i=k:=⟨i.toNat,?d⟩;have hk:k<o.length:=by rw [O.len];omega
 refine Xg ?_;rw [n4_,n1_ hk];unfold oAt;simp [n5_,hk]
theorem Zpz {p:Pnt} (h:p.1.natAbs≤6∧p.2.natAbs≤6):p.1.natAbs≤1000∧p.2.natAbs≤1000:=⟨?d,?d⟩
theorem Zwj {H:Hp} {vs:List V} {kl:List (?g)} (al:Al (IsI H) vs kl) {q:List Nat} (hq:∀ i∈q,i<kl.length):Al (IsI H) (q.map fun i=>vs.getD i .non) (?Q):=by
 refine ⟨by simp,fun n v r e1 e2=>?_⟩;rw [n4_] at e1 e2;obtain ⟨i,ei,rfl⟩:=n12_.mp e1;rw [ei] at e2;cases e2
 have hi:=hq i (n6_ ei);have hv:i<vs.length:=by rw [al.1];exact hi
 have:=al.2 i vs[i] kl[i] (n1_ hv) (n1_ hi)
 show IsI H (vs.getD i .non) (kl.getD i [])
 rw [n5_,n5_,n1_ hv,n1_ hi];exact this
def Zmc (H:Hp) (v:V) (r:Int×Rat×Rat):Prop:=∃ a x y,v=.ref a∧H a=some (.tup [.int r.1,x,y])∧IsQ H x r.2.1∧IsQ H y r.2.2
theorem Zbt {H H':Hp} {v:V} {r:Int×Rat×Rat} (t:Tk H H') (h:Zmc H v r):Zmc H' v r:=let ⟨a,x,y,e,h1,h2,h3⟩:=h;⟨a,x,y,e,t _ _ h1,h2.tk t,h3.tk t⟩
def slQ (cs:List Pnt) (p:?g):List (Int×Rat×Rat) :=
 [(p.getD 0 0,Rat.divInt ((p1 cs p).2-(p2 cs p).2) (dOf cs p),Rat.divInt ((p2 cs p).1-(p1 cs p).1) (dOf cs p)),
  (p.getD 1 0,Rat.divInt ((p2 cs p).2-(p0 cs p).2) (dOf cs p),Rat.divInt ((p0 cs p).1-(p2 cs p).1) (dOf cs p)),
  (p.getD 2 0,Rat.divInt ((p0 cs p).2-(p1 cs p).2) (dOf cs p),Rat.divInt ((p1 cs p).1-(p0 cs p).1) (dOf cs p))]
inductive BxSp_lslopes (vs:List V) (H:Hp) (Q:VK):Prop
 | mk (v:V) (P:Pl) (n:Int) (q1:vs=[v,.int n]) (q2:IsPl H v P) (q3:PlOk P) (q4:0≤n) (q5:n<P.ps.length) (q6:∀ (H':Hp) (r f:Addr) (us:List V),?E→H' r=some (.tup [.int (dOf P.cs ?w),.ref f])→H f=none→H' f=some (.lst us)→Al (Zmc H') us (slQ P.cs ?w)→Q (.ref r) H'):BxSp_lslopes vs H Q
def Zfo:Sp:=fun vs H Q _=>BxSp_lslopes vs H Q
theorem lowB {a b:Int} (ha:a.natAbs≤200) (hb:b.natAbs≤80000) (h0:b≠0):FM.B 20 (Rat.divInt a b):=FM.B_divInt h0 (n10_ ha ?e) (n10_ hb ?e)
def mAt (ms:List Rat) (w:Int):Rat:=ms.getD w.toNat 0
def eL (ms:List Rat) (rs:List (Int×Rat×Rat)):List Rat:=rs.map fun r=>r.2.1*mAt ms (2*r.1)
def fL (ms:List Rat) (rs:List (Int×Rat×Rat)):List Rat:=rs.map fun r=>r.2.2*mAt ms (2*r.1+1)
def gL (ms:List Rat) (rs:List (Int×Rat×Rat)):List Rat:=rs.flatMap fun r=>[r.2.2*mAt ms (2*r.1),r.2.1*mAt ms (2*r.1+1)]
theorem Zq3 (ms:List Rat):∀ rs:List (Int×Rat×Rat),(gL ms rs).length=2*rs.length
 | []=>rfl
 | r :: rs=>by
   have:=Zq3 ms rs
   unfold gL at *;rw [List.flatMap_cons,n30_,this,n21_];show 2+2*rs.length=2*(rs.length+1)
   omega
theorem Zks {P:Pl} {n:Int} {ms:List Rat} (hl:(pcOf P n).length=3) (hd:dOf P.cs ?w≠0) :
 [tot (eL ms (slQ P.cs ?w)),tot (fL ms (slQ P.cs ?w)),tot (gL ms (slQ P.cs ?w))]=strQ P n ms:=by
 have h1:=Xs hd;unfold strQ Zbm;generalize pcOf P n=p at *;obtain ⟨i,j,k,rfl⟩:=len3 hl;have e0:Z1 [i,j,k]=[2*i,2*j,2*k,2*i+1,2*j+1,2*k+1]:=rfl;rw [e0];simp only [n38_,n64_,n75_,List.take_zero,n86_,List.drop_zero];simp only [eL,fL,gL,slQ,tot,mAt,n38_,n64_,List.flatMap_cons,List.flatMap_nil,n74_,n59_,n80_,List.foldl_nil,n46_,n47_,n77_];simp only [Z7,Z6,dotQ,n74_,n59_,n62_,n79_,n73_,n65_,List.sum_nil];generalize (dOf P.cs [i,j,k]:Rat)=d at *;generalize (((p1 P.cs [i,j,k]).2-(p2 P.cs [i,j,k]).2:Int):Rat)=b0;generalize (((p2 P.cs [i,j,k]).2-(p0 P.cs [i,j,k]).2:Int):Rat)=b1;generalize (((p0 P.cs [i,j,k]).2-(p1 P.cs [i,j,k]).2:Int):Rat)=b2;generalize (((p2 P.cs [i,j,k]).1-(p1 P.cs [i,j,k]).1:Int):Rat)=c0;generalize (((p0 P.cs [i,j,k]).1-(p2 P.cs [i,j,k]).1:Int):Rat)=c1;generalize (((p1 P.cs [i,j,k]).1-(p0 P.cs [i,j,k]).1:Int):Rat)=c2;generalize ms.getD (2*i).toNat 0=u0;generalize ms.getD (2*j).toNat 0=u1;generalize ms.getD (2*k).toNat 0=u2;generalize ms.getD (2*i+1).toNat 0=v0;generalize ms.getD (2*j+1).toNat 0=v1;generalize ms.getD (2*k+1).toNat 0=v2;have q1:0+b0/d*u0+b1/d*u1+b2/d*u2=(b0*u0+(b1*u1+(b2*u2+0)))/d:=by grind
 have q2:0+c0/d*v0+c1/d*v1+c2/d*v2=(c0*v0+(c1*v1+(c2*v2+0)))/d:=by grind
 have q3:0+c0/d*u0+b0/d*v0+c1/d*u1+b1/d*v1+c2/d*u2+b2/d*v2=(c0*u0+(c1*u1+(c2*u2+(b0*v0+(b1*v1+(b2*v2+0))))))/d:=by grind
 rw [q1,q2,q3]
inductive BxSp_lstrain (vs:List V) (H:Hp) (Q:VK):Prop
 | mk (v w:V) (P:Pl) (n:Int) (ms:List Rat) (q1:vs=[v,w,.int n]) (q2:IsPl H v P) (q3:PlOk P) (q4:0≤n) (q5:n<P.ps.length) (q6:IsQs H w ms) (q7:ms.length=2*P.cs.length) (q8:(∀ q∈ms,FM.B 60 q)) (q9:∀ (H':Hp) (r:V),?E→IsQs H' r (strQ P n ms)→Q r H'):BxSp_lstrain vs H Q
def Zew:Sp:=fun vs H Q _=>BxSp_lstrain vs H Q
theorem sl_B {P:Pl} {n:Int} (ok:PlOk P) (h0:0≤n) (h1:n<P.ps.length):∀ r∈slQ P.cs ?w,(0≤r.1∧r.1≤(P.cs.length:Int)-1)∧FM.B 20 r.2.1∧FM.B 20 r.2.2:=by
 have pk:=ok.pc _ (Xj h0 h1);obtain ⟨b1,b2,b3⟩:=Zi9 ok.nr pk.len pk.bd;have bd:=pk.bd;have hd:=pk.d;generalize pcOf P n=p at *;have hl:=pk.len;intro r hr;have gm:∀ i:Nat,i<3→p.getD i 0∈p:=fun i hi=>by rw [n5_,n1_ (?d)];exact n28_ _
 simp only [slQ,n13_,n15_,or_false] at hr
 rcases hr with rfl|rfl|rfl
 · exact ⟨bd _ (gm 0 ?e),lowB (b1 _ (by simp [Z7])) b3 hd,lowB (b2 _ (by simp [Z6])) b3 hd⟩
 · exact ⟨bd _ (gm 1 ?e),lowB (b1 _ (by simp [Z7])) b3 hd,lowB (b2 _ (by simp [Z6])) b3 hd⟩
 · exact ⟨bd _ (gm 2 ?e),lowB (b1 _ (by simp [Z7])) b3 hd,lowB (b2 _ (by simp [Z6])) b3 hd⟩
theorem Zmx {ms:List Rat} {k:Nat} (h:∀ q∈ms,FM.B k q) (hk:1≤k) (w:Int):FM.B k (mAt ms w):=by
 unfold mAt;rw [n5_];cases e:ms[w.toNat]? with
 | none=>exact bd0.mono hk
 | some x=>exact h x (n6_ e)
theorem Al.app {α:Type} {R:V→α→Prop} {vs ws:List V} {xs ys:List α} (h:Al R vs xs) (g:Al R ws ys):Al R (vs++ws) (xs++ys):=by
 refine ⟨by simp [h.1,g.1],fun i w y e1 e2=>?_⟩
 by_cases hi:i<vs.length
 · rw [n91_ hi] at e1;rw [n91_ (by rw [← h.1];exact hi)] at e2;exact h.2 i w y e1 e2
 · rw [n87_ (?d)] at e1;rw [n87_ (by rw [← h.1];omega),← h.1] at e2;exact g.2 _ w y e1 e2
theorem Zwz {P:Pl} {n:Int} {ms:List Rat} (ok:PlOk P) (h0:0≤n) (h1:n<P.ps.length) (hB:∀ q∈ms,FM.B 60 q):∀ q∈strQ P n ms,FM.B 600 q:=by
 have pk:=ok.pc _ (Xj h0 h1);rw [← Zks pk.len pk.d];have sb:=sl_B ok h0 h1;have hm:=fun w=>Zmx hB ?e w;intro q hq;simp only [n13_,n15_,or_false] at hq
 rcases hq with rfl|rfl|rfl
 · exact (Zpo (n:=80) _ fun x hx=>by obtain ⟨r,hr,rfl⟩:=n25_.mp hx;exact FM.B_mul (sb r hr).2.1 (hm _)).mono (by simp [eL,slQ])
 · exact (Zpo (n:=80) _ fun x hx=>by obtain ⟨r,hr,rfl⟩:=n25_.mp hx;exact FM.B_mul (sb r hr).2.2 (hm _)).mono (by simp [fL,slQ])
 · refine (Zpo (n:=80) _ fun x hx=>?_).mono (by simp [gL,slQ]);obtain ⟨r,hr,hx⟩:=List.mem_flatMap.mp hx;simp only [n13_,n15_,or_false] at hx
   rcases hx with rfl|rfl
   · exact FM.B_mul (sb r hr).2.2 (hm _)
   · exact FM.B_mul (sb r hr).2.1 (hm _)
inductive BxSp_lstress (vs:List V) (H:Hp) (Q:VK):Prop
 | mk (v w:V) (P:Pl) (s:List Rat) (q1:vs=[v,w]) (q2:IsPl H v P) (q3:PlOk P) (q4:IsQs H w s) (q5:s.length=3) (q6:(∀ q∈s,FM.B 600 q)) (q7:∀ (H':Hp) (r:V),?E→IsQs H' r (stsQ P.l P.m s)→Q r H'):BxSp_lstress vs H Q
def Ze0:Sp:=fun vs H Q _=>BxSp_lstress vs H Q
theorem Zkl (l:Int):rt (l:Rat)=[.int l,.int 1]:=by
 unfold rt;rfl
theorem Zjb {l:Int} (h:l.natAbs≤18):FM.B 5 (l:Rat):=⟨n10_ (show (l:Rat).num.natAbs≤18 from h) ?e,by show 1<2^5;decide⟩
def dI (ns:?g):PyData:=.tuple (ns.map .int)
def dP (p:Pnt):PyData:=dI [p.1,p.2]
def dQ (q:Rat):PyData:=.tuple [.int q.num,.int q.den]
def dQs (qs:List Rat):PyData:=.tuple (qs.map dQ)
def dPl (P:Pl):PyData:=.tuple [.tuple (P.cs.map dP),.tuple (P.ps.map dI),dI P.ts,dI [P.l,P.m]]
theorem Ze1 {α:Type} {N:Addr→Prop} {H:Hp} {k:Nat} {R:V→α→Prop} {f:α→PyData}:∀ {vs:List V} {xs:List α},Al R vs xs→(∀ v x,x∈xs→R v x→Dt N H k v (f x))→Dts N H k vs (xs.map f)
 | [],[],_,_=>.nil
 | [],x :: xs,h,_=>by have:=h.1;simp at this
 | v :: vs,[],h,_=>by have:=h.1;simp at this
 | v :: vs,x :: xs,h,g=>.cons (g v x n24_ (h.2 0 v x rfl rfl)) (Ze1 ⟨by have:=h.1;simpa using this,fun i w y e1 e2=>h.2 (i+1) w y (by simpa using e1) (by simpa using e2)⟩ fun v x hx=>g v x (n17_ _ hx))
theorem Zaa {α:Type} {f:α→PyData} {c:Nat}:∀ {xs:List α},(∀ x∈xs,(f x).depth≤c)→PyData.depthAll (xs.map f)≤c
 | [],_=>n45_ _
 | x :: xs,h=>by
   have h1:=h x n24_;have h2:=Zaa (xs:=xs) fun y hy=>h y (n17_ _ hy);simp only [n38_,PyData.depthAll];omega
theorem Ze4 {α:Type} {f:α→PyData} {c:Nat}:∀ {xs:List α},(∀ x∈xs,nz (f x)≤c)→Zb9 (xs.map f)≤xs.length*(c+1)
 | [],_=>n45_ _
 | x :: xs,h=>by
   have h1:=h x n24_;have h2:=Ze4 (xs:=xs) fun y hy=>h y (n17_ _ hy);simp only [n38_,Zb9,n21_,Nat.add_mul,Nat.one_mul];omega
theorem Zfm {N:Addr→Prop} {H:Hp} {k:Nat} {v:V} {ns:?g} (h:IsI H v ns) (hb:∀ i∈ns,i.natAbs<2^k):Dt N H k v (dI ns):=by
 obtain ⟨a,rfl,q⟩:=h;exact .tup q (Ze1 (Al.of_ints ns) fun v x hx e=>by cases e;exact .int (hb x hx))
theorem Zeu (ns:?g):(dI ns).depth≤1:=by
 have:=Zaa (f:=PyData.int) (c:=0) (xs:=ns) fun x _=>n11_ _
 simp only [dI,PyData.depth];omega
theorem nzI (ns:?g):nz (dI ns)≤1+ns.length*2:=by
 have:=Ze4 (f:=PyData.int) (c:=1) (xs:=ns) fun x _=>n11_ _
 simp only [dI,nz];omega
theorem dtQ {N:Addr→Prop} {H:Hp} {k:Nat} {v:V} {q:Rat} (h:IsQ H v q) (hb:FM.B k q):Dt N H k v (dQ q):=by
 obtain ⟨a,rfl,e⟩:=h;exact .tup e (.cons (.int hb.1) (.cons (.int (by simpa using hb.2)) .nil))
theorem dtQs {N:Addr→Prop} {H:Hp} {k:Nat} {v:V} {qs:List Rat} (h:IsQs H v qs) (hb:∀ q∈qs,FM.B k q):Dt N H k v (dQs qs):=by
 obtain ⟨a,vs,rfl,e,al⟩:=h;exact .tup e (Ze1 al fun v x hx r=>dtQ r (hb x hx))
theorem Znr (qs:List Rat):(dQs qs).depth≤2:=by
 have:=Zaa (f:=dQ) (c:=1) (xs:=qs) fun x _=>n11_ _
 simp only [dQs,PyData.depth];omega
theorem nzQs (qs:List Rat):nz (dQs qs)≤1+qs.length*6:=by
 have:=Ze4 (f:=dQ) (c:=5) (xs:=qs) fun x _=>n11_ _
 simp only [dQs,nz];omega
theorem dtPl {N:Addr→Prop} {H:Hp} {k:Nat} {v:V} {P:Pl} (h:IsPl H v P) (ok:PlOk P) (hk:10≤k):Dt N H k v (dPl P):=by
 have up':∀ {i:Int},i.natAbs≤1000→i.natAbs<2^k:=fun {i} hi=>n10_ hi (n9_ (show 1000<2^10 by decide) (n23_ ?e hk));obtain ⟨a,c,p,t,s,rfl,ha,⟨c',cv,rfl,hc,cal⟩,⟨p',pv,rfl,hp,pal⟩,ht,hs⟩:=h;have c30:=ok.c30;refine .tup ha (.cons (.tup hc (Ze1 cal fun v x hx r=>Zfm r fun i hi=>?_)) (.cons (.tup hp (Ze1 pal fun v x hx r=>Zfm r fun i hi=>?_)) (.cons (Zfm ht fun i hi=>?_) (.cons (Zfm hs fun i hi=>?_) .nil))))
 · obtain ⟨⟨n1,n2⟩,n3,n4⟩:=ok.nr x hx;simp only [n13_,n15_,or_false] at hi
   rcases hi with rfl|rfl<;>exact up' (?d)
 · have:=(ok.pc x hx).bd i hi
   exact up' (?d)
 · have:=ok.t9 i hi
   exact up' (?d)
 · have:=ok.l9
   have:=ok.m9
   simp only [n13_,n15_,or_false] at hi
   rcases hi with rfl|rfl<;>exact up' (?d)
theorem Zsb (P:Pl):(dPl P).depth≤3:=by
 have h1:=Zaa (f:=dP) (c:=1) (xs:=P.cs) fun x _=>Zeu _;have h2:=Zaa (f:=dI) (c:=1) (xs:=P.ps) fun x _=>Zeu _;have h3:=Zeu P.ts;have h4:=Zeu [P.l,P.m];simp only [dPl,PyData.depth,PyData.depthAll];omega
theorem nzPl {P:Pl} (ok:PlOk P):nz (dPl P)≤1000:=by
 have h1:=Ze4 (f:=dP) (c:=5) (xs:=P.cs) fun x _=>nzI _;have h2:=Ze4 (f:=dI) (c:=7) (xs:=P.ps) fun x hx=>by have:=nzI x;have:=(ok.pc x hx).len;omega
 have h3:=nzI P.ts;have h4:=nzI [P.l,P.m]
 have:=ok.c30
 have:=ok.p40
 have:=ok.t1
 simp only [dPl,nz,Zb9];simp only [n21_,List.length_nil] at h4;omega
abbrev NF:Addr→Prop:=fun _=>False
inductive BxSp_law (K:PySem.W.Frag) (vs:List V) (H:Hp) (Q:VK):Prop
 | mk (a:Addr) (ns:?g) (q1:vs=[.ref a]) (q2:SqL K H a (ns.map V.int)) (q3:ns.length≤63) (q4:∀ H',Q (.bl true) H'):BxSp_law K vs H Q
def Zke (K:PySem.W.Frag):Sp:=fun vs H Q _=>BxSp_law K vs H Q
theorem Zwb {P:Pl} {n:Int} {ms:List Rat} (ok:PlOk P) (h0:0≤n) (h1:n<P.ps.length) (hB:∀ q∈ms,FM.B 60 q) (h60:∀ q∈ms,q.den∣60):∃ D:Int,(0<D∧D.natAbs<2^23)∧∀ q∈stsQ P.l P.m (strQ P n ms),FM.B 90 q∧(q.den:Int)∣D:=by
 have pk:=ok.pc _ (Xj h0 h1);obtain ⟨c1,c2,c3⟩:=Zi9 ok.nr pk.len pk.bd
 have dv:∀ q∈Zbm P n ms,(q.den:Int)∣60:=fun q hq=>by
  obtain ⟨w,hw,rfl⟩:=n25_.mp hq;rw [n5_];cases e:ms[w.toNat]? with
  | none=>decide
  | some x=>exact_mod_cast h60 x (n6_ e)
 have hd:=pk.d;have hb:dOf P.cs ?w*60≠0:=Int.mul_ne_zero hd ?e
 have hz:∀ y∈(Zbm P n ms).map (lev 60),y.natAbs<2^66:=fun y hy=>by
  obtain ⟨q,hq,rfl⟩:=n25_.mp hy
  have h6:FM.B 60 q:=by
   obtain ⟨w,hw,rfl⟩:=n25_.mp hq;exact Zmx hB ?e w
  exact FM.natAbs_mul_lt h6.1 (Xp (k:=6) (FM.den_pos q) (dv q hq) ?e)
 have b1:∀ x∈Z7 P.cs ?w,x.natAbs<2^8:=fun x hx=>n10_ (c1 x hx) ?e;have b2:∀ x∈Z6 P.cs ?w,x.natAbs<2^8:=fun x hx=>n10_ (c2 x hx) ?e;have hs:=Zvu (ms:=ms) (m:=60) hd ?e dv;rw [← hs];have hE:=Zj2 _ _ b1 fun y (hy:y∈((Zbm P n ms).map (lev 60)).take 3)=>hz y (List.mem_of_mem_take hy);have hF:=Zj2 _ _ b2 fun y (hy:y∈((Zbm P n ms).map (lev 60)).drop 3)=>hz y (List.mem_of_mem_drop hy);have hG:=Zj2 _ _ (fun x (hx:x∈Z6 P.cs (pcOf P n)++Z7 P.cs (pcOf P n))=>(n39_.mp hx).elim (b2 x) (b1 x)) hz;have l1:(Z7 P.cs ?w).length=3:=rfl;have l2:(Z6 P.cs ?w).length=3:=rfl;rw [l1] at hE;rw [l2] at hF;rw [n30_,l1,l2] at hG;unfold strI;generalize dotI (Z7 P.cs ?w) (((Zbm P n ms).map (lev 60)).take 3)=E at *;generalize dotI (Z6 P.cs ?w) (((Zbm P n ms).map (lev 60)).drop 3)=F at *;generalize dotI (Z6 P.cs ?w++Z7 P.cs ?w) ((Zbm P n ms).map (lev 60))=G at *;rw [← Zu0];generalize dOf P.cs ?w=dd at *;obtain ⟨l0,l9⟩:=ok.l9;obtain ⟨m0,m9⟩:=ok.m9;have p23:(2:Nat)^23=8388608:=?t
 have key:∀ t:Int,t.natAbs<2^90→FM.B 90 (Rat.divInt t (dd*60)):=fun t ht=>FM.B_divInt hb ht (n9_ (show (dd*60).natAbs<2^23 by omega) (n23_ ?e ?e));have p77:3*2^(8+66)=56668397794435742564352:=?t
 have p78:6*2^(8+66)=113336795588871485128704:=?t
 have p90:2^90=1237940039285380274899124224:=?t
 have m1:∀ (a x:Int),0≤a→a≤18→x.natAbs≤200000000000000000000000→(a*x).natAbs≤18*200000000000000000000000:=fun a x h1 h2 hx=>by
  rw [n56_];exact n57_ (?d) hx
 refine ⟨(dd*60).natAbs,⟨?d,?d⟩,fun q hq=>?_⟩;obtain ⟨t,ht,rfl⟩:=n25_.mp hq;refine ⟨key t ?_,Int.dvd_natAbs.mpr (Zok t hb)⟩;have a1:=m1 P.l (E+F) l0 (?d) (?d);have a2:=m1 (2*P.m) E (?d) (?d) (?d);have a3:=m1 (2*P.m) F (?d) (?d) (?d);have a4:=m1 P.m G (?d) (?d) (?d);simp only [n13_,n15_,or_false] at ht
 rcases ht with rfl|rfl|rfl<;>omega
inductive BxSp_lstresses (vs:List V) (H:Hp) (Q:VK):Prop
 | mk (v w:V) (P:Pl) (ms:List Rat) (q1:vs=[v,w]) (q2:IsPl H v P) (q3:PlOk P) (q4:IsQs H w ms) (q5:ms.length=2*P.cs.length) (q6:(∀ q∈ms,FM.B 60 q)) (q7:∀ (H':Hp) (r:V),?E→Zn5 H' r (Zgq P ms)→Q r H'):BxSp_lstresses vs H Q
def Zc3:Sp:=fun vs H Q _=>BxSp_lstresses vs H Q
theorem Zu2 {t d b c:Int} {p r:Rat} (hd:d≠0):Rat.divInt (t*(if d<0 then -d else d)) 2*(p*Rat.divInt b d+r*Rat.divInt c d)=((if 0<d then t else -t:Int):Rat)*(p*(b:Int)+r*(c:Int))/2:=by
 simp only [n77_];have h1:=Xs hd;have e2:((2:Int):Rat)=2:=rfl
 by_cases h:d<0
 · rw [if_pos h,if_neg (?d),n32_,Rat.intCast_neg,Rat.intCast_neg,e2];generalize (d:Rat)=D at *
   grind
 · rw [if_neg h,if_pos (?d),n32_,e2];generalize (d:Rat)=D at *
   grind
def ctrL (P:Pl) (n:Nat) (s:List Rat):List (Int×Rat):=[(2*pnt P n 0,xP P n s 0),(2*pnt P n 0+1,yP P n s 0),(2*pnt P n 1,xP P n s 1),(2*pnt P n 1+1,yP P n s 1),(2*pnt P n 2,xP P n s 2),(2*pnt P n 2+1,yP P n s 2)]
theorem Zt2 (P:Pl) (n:Nat) (s:List Rat) (w:Nat):pt' (ctrL P n s) w=pt' (ctr P n s) w:=by
 unfold pt' ctrL ctr;simp only [n38_,n64_,n65_,List.sum_nil]
 grind
theorem x_B {P:Pl} {n c:Nat} {u v:Rat} {D:Int} (ok:PlOk P) (hn:n<P.ps.length) (hc:c<3) (hD:0<D∧D.natAbs<2^23) (hu:FM.B 90 u∧(u.den:Int)∣D) (hv:FM.B 90 v∧(v.den:Int)∣D) (b c':Int) (hb:b.natAbs≤200) (hc':c'.natAbs≤200):FM.B 127 ((thk P n:Rat)*(u*(b:Int)+v*(c':Int))/2):=by
 have e1:=Znk hu.2;have e2:=Znk hv.2;have z1:(lev D u).natAbs<2^113:=FM.natAbs_mul_lt hu.1.1 (Xp (FM.den_pos u) hu.2 hD.2);have z2:(lev D v).natAbs<2^113:=FM.natAbs_mul_lt hv.1.1 (Xp (FM.den_pos v) hv.2 hD.2)
 have ht:(thk P n).natAbs≤9:=by
  have h:P.ts.getD n 0∈P.ts:=by
   have:n<P.ts.length:=by rw [ok.t1];exact hn
   rw [n5_,n1_ this];exact n28_ _
  have:=ok.t9 _ h
  unfold thk;split<;>omega
 have hD0:=Xs (show D≠0 by omega)
 have val:(thk P n:Rat)*(u*(b:Int)+v*(c':Int))/2=Rat.divInt (thk P n*(lev D u*b+lev D v*c')) (2*D):=by
  rw [n77_,n32_,n71_,n32_,n32_,n32_,e1,e2];have f3:((2:Int):Rat)=2:=rfl;rw [f3];generalize (D:Rat)=M at *
  grind
 rw [val];generalize lev D u=U at *;generalize lev D v=W at *;have g1:=FM.natAbs_mul_lt z1 (n10_ hb (show 200<2^8 by decide));have g2:=FM.natAbs_mul_lt z2 (n10_ hc' (show 200<2^8 by decide))
 have g3:(U*b+W*c').natAbs<2^122:=by
  have:2^(113+8)+2^(113+8)=2^122:=?t
  omega
 refine FM.B_divInt (?d) (n9_ (FM.natAbs_mul_lt (n:=4) (n10_ ht ?e) g3) (n23_ ?e ?e)) ?_;refine n9_ (show (2*D).natAbs<2^24 from ?_) (n23_ ?e ?e)
 have:2^24=2*2^23:=?t
 omega
inductive BxSp_lpushes (vs:List V) (H:Hp) (Q:VK):Prop
 | mk (v w:V) (P:Pl) (ss:List (List Rat)) (q1:vs=[v,w]) (q2:IsPl H v P) (q3:PlOk P) (q4:P.ps.length≤4) (q5:Zn5 H w ss) (q6:SOk P ss) (q7:∀ (H':Hp) (r:V),?E→IsQs H' r (Zlo P ss)→(∀ q∈Zlo P ss,FM.B 1600 q)→Q r H'):BxSp_lpushes vs H Q
def Ze6:Sp:=fun vs H Q _=>BxSp_lpushes vs H Q
def e6 (c:Nat):?g:=(List.range 6).map fun i=>if i=c then 1 else 0
def stsI (l m:Int) (s:?g):?g:=[l*(s.getD 0 0+s.getD 1 0)+2*m*s.getD 0 0,l*(s.getD 0 0+s.getD 1 0)+2*m*s.getD 1 0,m*s.getD 2 0]
def opI (P:Pl) (n:Nat) (a:Nat):?g:=Zgu (Z7 P.cs ?w) (Z6 P.cs ?w) (stsI P.l P.m (strI (Z7 P.cs ?w) (Z6 P.cs ?w) (e6 a)))
def opP (P:Pl) (n:Nat) (a i:Nat):Pnt:=(P.ts.getD n 0*(opI P n a).getD i 0,2*((dOf P.cs ?w).natAbs:Int))
def wAt (P:Pl) (n:Nat) (i:Nat):Int:=(Z1 ?w).getD i 0
def ownL (P:Pl) (n:Nat):List ((Int×Int)×Pnt):=(List.range 6).flatMap fun a=>(List.range 6).map fun i=>((wAt P n i,wAt P n a),opP P n a i)
def uQ (N o:Nat):List Rat:=(List.range N).map fun i=>if i=o then 1 else 0
def pq (p:Pnt):Rat:=(p.1:Rat)/(p.2:Rat)
def tbl (es:List ((Int×Int)×Pnt)) (k:Int×Int):List Pnt:=(es.filter fun e=>e.1=k).map (·.2)
theorem Zdo (p:Pnt) (r:List Pnt):rsum (p :: r)=pq p+rsum r:=rfl
theorem Zo9 (r s:List Pnt):rsum (r++s)=rsum r+rsum s:=by unfold rsum;rw [n51_,List.sum_append]
theorem Zgp (r s:List ((Int×Int)×Pnt)) (k:Int×Int):tbl (r++s) k=tbl r k++tbl s k:=by unfold tbl;rw [List.filter_append,n51_]
theorem Zqn (e:(Int×Int)×Pnt) (s:List ((Int×Int)×Pnt)) (k:Int×Int):rsum (tbl (e :: s) k)=(if e.1=k then pq e.2 else 0)+rsum (tbl s k):=by
 unfold tbl
 by_cases h:e.1=k
 · rw [n82_ (by simpa using h),n38_,Zdo,if_pos h]
 · rw [n83_ (by simpa using h),if_neg h,Rat.zero_add]
theorem Ztl (b0 b1 b2 c0 c1 c2 l m D t s B C x0 x1 x2 x3 x4 x5:Rat) :
 (t*s)*((l*((b0*x0+(b1*x1+(b2*x2+0)))*D+(c0*x3+(c1*x4+(c2*x5+0)))*D)+2*m*((b0*x0+(b1*x1+(b2*x2+0)))*D))*B+(m*((c0*x0+(c1*x1+(c2*x2+(b0*x3+(b1*x4+(b2*x5+0))))))*D))*C)/2
 = x0*((t*((l*b0+2*m*b0)*B+m*c0*C))*(s*D)/2)+x1*((t*((l*b1+2*m*b1)*B+m*c1*C))*(s*D)/2)+x2*((t*((l*b2+2*m*b2)*B+m*c2*C))*(s*D)/2)
 + x3*((t*((l*c0)*B+m*b0*C))*(s*D)/2)+x4*((t*((l*c1)*B+m*b1*C))*(s*D)/2)+x5*((t*((l*c2)*B+m*b2*C))*(s*D)/2):=by
 grind
theorem Ztu (b0 b1 b2 c0 c1 c2 l m D t s B C x0 x1 x2 x3 x4 x5:Rat) :
 (t*s)*((m*((c0*x0+(c1*x1+(c2*x2+(b0*x3+(b1*x4+(b2*x5+0))))))*D))*B+(l*((b0*x0+(b1*x1+(b2*x2+0)))*D+(c0*x3+(c1*x4+(c2*x5+0)))*D)+2*m*((c0*x3+(c1*x4+(c2*x5+0)))*D))*C)/2
 = x0*((t*(m*c0*B+(l*b0)*C))*(s*D)/2)+x1*((t*(m*c1*B+(l*b1)*C))*(s*D)/2)+x2*((t*(m*c2*B+(l*b2)*C))*(s*D)/2)
 + x3*((t*(m*b0*B+(l*c0+2*m*c0)*C))*(s*D)/2)+x4*((t*(m*b1*B+(l*c1+2*m*c1)*C))*(s*D)/2)+x5*((t*(m*b2*B+(l*c2+2*m*c2)*C))*(s*D)/2):=by
 grind
theorem Zwe {P:Pl} {n:Nat} (hd:dOf P.cs ?w≠0):∃ s:Rat,(thk P n:Rat)=(P.ts.getD n 0:Int)*s∧∀ X:Int,pq (P.ts.getD n 0*X,2*((dOf P.cs ?w).natAbs:Int))=(((P.ts.getD n 0:Int):Rat)*(X:Rat))*(s*(dOf P.cs ?w:Rat)⁻¹)/2:=by
 have h1:=Xs hd;have e2:((2:Int):Rat)=2:=rfl;unfold thk pq;generalize P.ts.getD n 0=t
 by_cases h:0<dOf P.cs ?w
 · refine ⟨1,by rw [if_pos h,Rat.mul_one],fun X=>?_⟩;rw [show ((dOf P.cs ?w).natAbs:Int)=dOf P.cs ?w by omega];simp only [n32_];rw [e2];generalize (dOf P.cs ?w:Rat)=D at *
   grind
 · refine ⟨-1,by rw [if_neg h,Rat.intCast_neg];grind,fun X=>?_⟩;rw [show ((dOf P.cs ?w).natAbs:Int) = -dOf P.cs ?w by omega];simp only [n32_,Rat.intCast_neg];rw [e2];generalize (dOf P.cs ?w:Rat)=D at *
   grind
theorem Zwu {P:Pl} {n:Nat} (hd:dOf P.cs ?w≠0) {ms:List Rat} {x0 x1 x2 x3 x4 x5:Rat} (h6:Zbm P n ms=[x0,x1,x2,x3,x4,x5]) {i:Nat} (hi:i<6) :
 ((ctr P n (stsQ P.l P.m (strQ P n ms))).getD i (0,0)).2=x0*pq (opP P n 0 i)+x1*pq (opP P n 1 i)+x2*pq (opP P n 2 i)+x3*pq (opP P n 3 i)+x4*pq (opP P n 4 i)+x5*pq (opP P n 5 i):=by
 obtain ⟨s,hs,hp⟩:=Zwe hd;unfold opP;simp only [hp];unfold opI ctr xP yP strQ;rw [h6,hs];obtain ⟨b0,b1,b2,hb⟩:∃ b0 b1 b2:Int,Z7 P.cs ?w=[b0,b1,b2]:=⟨_,_,_,rfl⟩;obtain ⟨c0,c1,c2,hc⟩:∃ b0 b1 b2:Int,Z6 P.cs ?w=[b0,b1,b2]:=⟨_,_,_,rfl⟩;rw [hb,hc];have e2:((2:Int):Rat)=2:=rfl;have e0:((0:Int):Rat)=0:=rfl;have e1:((1:Int):Rat)=1:=rfl;have g:∀ x:Rat,x/(dOf P.cs ?w:Rat)=x*(dOf P.cs ?w:Rat)⁻¹:=fun x=>Rat.div_def _ _;have o0:e6 0=[1,0,0,0,0,0]:=rfl;have o1:e6 1=[0,1,0,0,0,0]:=rfl;have o2:e6 2=[0,0,1,0,0,0]:=rfl;have o3:e6 3=[0,0,0,1,0,0]:=rfl;have o4:e6 4=[0,0,0,0,1,0]:=rfl;have o5:e6 5=[0,0,0,0,0,1]:=rfl;rw [o0,o1,o2,o3,o4,o5]
 match i,hi with
 | 0,_ =>
   simp only [stsQ,stsI,strI,Zgu,dotI,dotQ,g,n46_,n47_,n75_,List.take_zero,n86_,List.drop_zero,n62_,n79_,n73_,n65_,List.sum_nil,n74_,n59_,n71_,n32_,e2,e0,e1];rw [Ztl b0 b1 b2 c0 c1 c2 P.l P.m (dOf P.cs ?w:Rat)⁻¹ (P.ts.getD n 0:Int) s b0 c0 x0 x1 x2 x3 x4 x5]
   grind
 | 1,_ =>
   simp only [stsQ,stsI,strI,Zgu,dotI,dotQ,g,n46_,n47_,n75_,List.take_zero,n86_,List.drop_zero,n62_,n79_,n73_,n65_,List.sum_nil,n74_,n59_,n71_,n32_,e2,e0,e1];rw [Ztl b0 b1 b2 c0 c1 c2 P.l P.m (dOf P.cs ?w:Rat)⁻¹ (P.ts.getD n 0:Int) s b1 c1 x0 x1 x2 x3 x4 x5]
   grind
 | 2,_ =>
   simp only [stsQ,stsI,strI,Zgu,dotI,dotQ,g,n46_,n47_,n75_,List.take_zero,n86_,List.drop_zero,n62_,n79_,n73_,n65_,List.sum_nil,n74_,n59_,n71_,n32_,e2,e0,e1];rw [Ztl b0 b1 b2 c0 c1 c2 P.l P.m (dOf P.cs ?w:Rat)⁻¹ (P.ts.getD n 0:Int) s b2 c2 x0 x1 x2 x3 x4 x5]
   grind
 | 3,_ =>
   simp only [stsQ,stsI,strI,Zgu,dotI,dotQ,g,n46_,n47_,n75_,List.take_zero,n86_,List.drop_zero,n62_,n79_,n73_,n65_,List.sum_nil,n74_,n59_,n71_,n32_,e2,e0,e1];rw [Ztu b0 b1 b2 c0 c1 c2 P.l P.m (dOf P.cs ?w:Rat)⁻¹ (P.ts.getD n 0:Int) s b0 c0 x0 x1 x2 x3 x4 x5]
   grind
 | 4,_ =>
   simp only [stsQ,stsI,strI,Zgu,dotI,dotQ,g,n46_,n47_,n75_,List.take_zero,n86_,List.drop_zero,n62_,n79_,n73_,n65_,List.sum_nil,n74_,n59_,n71_,n32_,e2,e0,e1];rw [Ztu b0 b1 b2 c0 c1 c2 P.l P.m (dOf P.cs ?w:Rat)⁻¹ (P.ts.getD n 0:Int) s b1 c1 x0 x1 x2 x3 x4 x5]
   grind
 | 5,_ =>
   simp only [stsQ,stsI,strI,Zgu,dotI,dotQ,g,n46_,n47_,n75_,List.take_zero,n86_,List.drop_zero,n62_,n79_,n73_,n65_,List.sum_nil,n74_,n59_,n71_,n32_,e2,e0,e1];rw [Ztu b0 b1 b2 c0 c1 c2 P.l P.m (dOf P.cs ?w:Rat)⁻¹ (P.ts.getD n 0:Int) s b2 c2 x0 x1 x2 x3 x4 x5]
   grind
theorem Ztk {P:Pl} {n:Nat} (hd:dOf P.cs ?w≠0) (h3:(pcOf P n).length=3) {N o w:Nat} (hw:∀ x∈Z1 ?w,0≤x∧x<N) :
 rsum (tbl (ownL P n) (w,o))=pt' (ctr P n (stsQ P.l P.m (strQ P n (uQ N o)))) w:=by
 obtain ⟨i,j,k,hp⟩:∃ i j k,pcOf P n=[i,j,k]:=by
  match hp:pcOf P n,h3 with
  | [i,j,k],_=>exact ⟨i,j,k,rfl⟩
 have ewl:Z1 ?w=[2*i,2*j,2*k,2*i+1,2*j+1,2*k+1]:=by rw [hp];rfl
 have u:∀ x:Int,0≤x∧x<N→(uQ N o).getD x.toNat 0=if x=o then 1 else 0:=fun x ⟨x0,x1⟩=>by
  unfold uQ;rw [n5_,n4_,n85_ (?d)];show (if x.toNat=o then (1:Rat) else 0)=_
  by_cases z:x=o
  · rw [if_pos z,if_pos (?d)]
  · rw [if_neg z,if_neg (?d)]
 have h6:Zbm P n (uQ N o)=(Z1 ?w).map fun x=>if x=(o:Int) then 1 else 0:=List.map_congr_left fun x hx=>u x (hw x hx)
 rw [ewl] at h6;simp only [n38_,n64_] at h6;have v:=fun i hi=>Zwu hd h6 (i:=i) hi;have v0:=v 0 ?e;have v1:=v 1 ?e;have v2:=v 2 ?e;have v3:=v 3 ?e;have v4:=v 4 ?e;have v5:=v 5 ?e;unfold ctr at *;simp only [n46_,n47_] at v0 v1 v2 v3 v4 v5;unfold pt' ownL;have p0:pnt P n 0=i:=by unfold pnt;rw [hp];rfl
 have p1':pnt P n 1=j:=by unfold pnt;rw [hp];rfl
 have p2':pnt P n 2=k:=by unfold pnt;rw [hp];rfl
 simp only [n38_,n64_,n65_,List.sum_nil,v0,v1,v2,v3,v4,v5,p0,p1',p2'];have w0:∀ c,wAt P n c=[2*i,2*j,2*k,2*i+1,2*j+1,2*k+1].getD c 0:=fun c=>by unfold wAt;rw [ewl]
 have r6:List.range 6=[0,1,2,3,4,5]:=rfl;simp only [r6,List.flatMap_cons,List.flatMap_nil,n38_,n64_,n74_,n59_,List.append_nil,Zqn,w0,n46_,n47_,Prod.mk.injEq];generalize 2*i=a0 at *;generalize 2*j=a1 at *;generalize 2*k=a2 at *;generalize a0+1=a3 at *;generalize a1+1=a4 at *;generalize a2+1=a5 at *
 have e:∀ (a b:Int) (x:Rat),(if a=(w:Int)∧b=(o:Int) then x else 0)=(if b=(o:Int) then 1 else 0)*(if a=(w:Int) then x else 0):=fun a b x=>by
  by_cases h1:a=(w:Int)<;>by_cases h2:b=(o:Int)<;>simp [h1,h2,Rat.one_mul,Rat.zero_mul]
 have e':∀ (a:Int) (x:Rat),(if a=(w:Int) then x else 0)=(if a=(w:Int) then 1 else 0)*x:=fun a x=>by
  by_cases h1:a=(w:Int)<;>simp [h1,Rat.one_mul,Rat.zero_mul]
 simp only [e];have z:rsum (tbl [] ((w:Int),(o:Int)))=0:=rfl;rw [z];simp only [e' _ (pq _),e' _ (_+_)];generalize (if a0=(o:Int) then (1:Rat) else 0)=y0;generalize (if a1=(o:Int) then (1:Rat) else 0)=y1;generalize (if a2=(o:Int) then (1:Rat) else 0)=y2;generalize (if a3=(o:Int) then (1:Rat) else 0)=y3;generalize (if a4=(o:Int) then (1:Rat) else 0)=y4;generalize (if a5=(o:Int) then (1:Rat) else 0)=y5;generalize (if a0=(w:Int) then (1:Rat) else 0)=z0;generalize (if a1=(w:Int) then (1:Rat) else 0)=z1;generalize (if a2=(w:Int) then (1:Rat) else 0)=z2;generalize (if a3=(w:Int) then (1:Rat) else 0)=z3;generalize (if a4=(w:Int) then (1:Rat) else 0)=z4;generalize (if a5=(w:Int) then (1:Rat) else 0)=z5
 grind
def mskS (P:Pl) (ks:List Nat) (o:Nat):List (List Rat):=(List.range P.ps.length).map fun k=>if k∈ks then stsQ P.l P.m (strQ P k (uQ (2*P.cs.length) o)) else [0,0,0]
def allL (P:Pl) (ks:List Nat):List ((Int×Int)×Pnt):=ks.flatMap (ownL P)
structure LotOk (P:Pl) (ks:List Nat):Prop where
 rise:ks.Pairwise (·<·)
 lt:∀ k∈ks,k<P.ps.length
theorem Zho (n:Nat):∀ {ks:List Nat},ks.Pairwise (·<·)→ks.filter (·<n+1)=ks.filter (·<n)++if n∈ks then [n] else []
 | [],_=>by simp
 | a :: t,h=>by
   obtain ⟨h1,h2⟩:=List.pairwise_cons.mp h;have ih:=Zho n h2
   by_cases c:a<n
   · rw [n82_ (by simp;omega),n82_ (by simpa using c),ih,n74_]
     congr 2
     by_cases z:n∈t
     · rw [if_pos z,if_pos (n17_ _ z)]
     · rw [if_neg z,if_neg fun m=>(n13_.mp m).elim (fun e=>?d) z]
   · have nt:n∉t:=fun m=>by have:=h1 n m;omega
     have f1:t.filter (·<n)=[]:=List.filter_eq_nil_iff.mpr fun x hx=>by have:=h1 x hx;simp;omega
     rw [if_neg nt,f1] at ih
     by_cases z:a=n
     · subst z;rw [n82_ ?f,n83_ ?f,ih,f1,if_pos n24_];rfl
     · rw [n83_ (by simp;omega),n83_ (by simp;omega),ih,f1,if_neg fun m=>(n13_.mp m).elim (fun e=>z e.symm) nt]
theorem pt_z (P:Pl) (k w:Nat):pt' (ctr P k [0,0,0]) w=0:=by
 unfold pt' ctr xP yP;simp only [n38_,n64_,n65_,List.sum_nil,n46_,n47_,Rat.zero_mul,Rat.mul_zero,Rat.add_zero,Rat.div_def,ite_self]
theorem pc3 {P:Pl} (ok:PlOk P) {n:Nat} (hn:n<P.ps.length):PieceOk P.cs ?w:=ok.pc _ (Xj (?d) (?d))
theorem Zr5 {P:Pl} {ks:List Nat} {o k:Nat} (h:k<P.ps.length):(mskS P ks o).getD k []=if k∈ks then stsQ P.l P.m (strQ P k (uQ (2*P.cs.length) o)) else [0,0,0]:=by
 unfold mskS;rw [n5_,n4_,n85_ h];rfl
theorem Znt {P:Pl} {ks:List Nat} (hw:∀ k<P.ps.length,dOf P.cs (pcOf P k)≠0∧(pcOf P k).length=3∧∀ x∈Z1 (pcOf P k),0≤x∧x<((2*P.cs.length:Nat):Int)) (L:LotOk P ks) (w o:Nat):∀ n≤P.ps.length,rsum (tbl (allL P (ks.filter (·<n))) (w,o))=Fn P (mskS P ks o) n w
 | 0,_=>by
   rw [List.filter_eq_nil_iff.mpr fun x _=>by simp];rfl
 | n+1,hn=>by
   have ih:=Znt hw L w o n (?d);obtain ⟨h1,h2,h3⟩:=hw n (?d);rw [Zho n L.rise];unfold allL at *;rw [List.flatMap_append,Zgp,Zo9,ih];show _=Fn P (mskS P ks o) n w+pt' (ctr P n ((mskS P ks o).getD n [])) w
   rw [Zr5 (?d)]
   congr 1
   by_cases z:n∈ks
   · rw [if_pos z,if_pos z,List.flatMap_cons,List.flatMap_nil,List.append_nil];exact Ztk h1 h2 h3
   · rw [if_neg z,if_neg z,pt_z];rfl
theorem Zch {P:Pl} (ok:PlOk P) {k:Nat} (hk:k<P.ps.length):dOf P.cs (pcOf P k)≠0∧(pcOf P k).length=3∧∀ x∈Z1 (pcOf P k),0≤x∧x<((2*P.cs.length:Nat):Int):=by
 have h:=pc3 ok hk;refine ⟨h.d,h.len,fun x hx=>?_⟩;unfold Z1 at hx
 rcases n39_.mp hx with m|m<;>obtain ⟨i,hi,rfl⟩:=n25_.mp m<;>have:=h.bd i hi<;>omega
theorem Zp8 {P:Pl} (ok:PlOk P) {ks:List Nat} (L:LotOk P ks) (w o:Nat):rsum (tbl (allL P ks) (w,o))=Fn P (mskS P ks o) P.ps.length w:=by
 have h:=Znt (fun k hk=>Zch ok hk) L w o P.ps.length (n11_ _);rw [List.filter_eq_self.mpr fun x hx=>by simpa using L.lt x hx] at h;exact h
theorem uQ_B {N o:Nat}:∀ q∈uQ N o,FM.B 60 q∧q.den∣60:=fun q hq=>by
 obtain ⟨i,_,rfl⟩:=n25_.mp hq
 by_cases h:i=o
 · rw [if_pos h];exact ⟨⟨?t,?t⟩,?t⟩
 · rw [if_neg h];exact ⟨⟨?t,?t⟩,?t⟩
theorem Zre {P:Pl} {ks:List Nat} {o:Nat} (ok:PlOk P):SOk P (mskS P ks o):=by
 refine ⟨by unfold mskS;simp,fun s hs=>?_,fun s hs=>?_⟩
 · obtain ⟨n,_,rfl⟩:=n25_.mp hs
   by_cases h:n∈ks
   · rw [if_pos h];rfl
   · rw [if_neg h];rfl
 · obtain ⟨n,hn,rfl⟩:=n25_.mp hs
   have:=n42_.mp hn
   by_cases h:n∈ks
   · rw [if_pos h];exact Zwb ok (?d) (?d) (fun q hq=>(uQ_B q hq).1) fun q hq=>(uQ_B q hq).2
   · rw [if_neg h];refine ⟨1,?t,fun q hq=>?_⟩
     have:q=0:=by simpa using hq
     subst this;exact ⟨⟨?t,?t⟩,?t⟩
abbrev nI (ks:List Nat):?g:=ks.map fun k:Nat=>(k:Int)
theorem Xy:∀ {ks:List Nat} {n m:Nat},ks.Pairwise (·<·)→(∀ k∈ks,m≤k∧k<n)→ks.length≤n-m
 | [],_,_,_,_=>n45_ _
 | k :: t,n,m,h,b=>by
   obtain ⟨h1,h2⟩:=List.pairwise_cons.mp h;have ih:=Xy (n:=n) (m:=k+1) h2 fun x hx=>⟨h1 x hx,(b x (n17_ _ hx)).2⟩
   have:=b k n24_
   rw [n21_];omega
theorem Zsh {K:PySem.W.Frag} {p:Addr} {x:Int} {ns:?g} {H:Hp} {Q:VK} (h:SqL K H p (ns.map V.int)) (q:Q (.bl (decide (x∈ns))) H):rIn K false (.int x) (.ref p) H Q:=⟨p,_,rfl,.inl h,rfl,by rw [List.all_map];exact n49_.mpr ?j,by rw [Zg2];exact q⟩
inductive BxSp_isOne (vs:List V) (H:Hp) (Q:VK):Prop
 | mk (l:Addr) (ns:?g) (x:Int) (q1:vs=[.ref l,.int x]) (q2:H l=some (.lst (ns.map V.int))) (q3:x∈ns) (q4:Q (.bl true) H):BxSp_isOne vs H Q
def Zj7:Sp:=fun vs H Q _=>BxSp_isOne vs H Q
inductive BxSp_areSome (vs:List V) (H:Hp) (Q:VK):Prop
 | mk (l a:Addr) (n:Nat) (ks:List Nat) (q1:vs=[.ref l,.ref a]) (q2:H l=some (.lst ((nI (List.range n)).map V.int))) (q3:H a=some (.tup ((nI ks).map V.int))) (q4:ks.Pairwise (·<·)) (q5:(∀ k∈ks,k<n)) (q6:n≤40) (q7:∀ H',?E→Q (.bl true) H'):BxSp_areSome vs H Q
def Zey:Sp:=fun vs H Q _=>BxSp_areSome vs H Q
def IsOwn (H:Hp) (v:V) (e:(Int×Int)×Pnt):Prop:=∃ a p,v=.ref a∧H a=some (.tup [.int e.1.1,.int e.1.2,.ref p])∧H p=some (.tup [.int e.2.1,.int e.2.2])
theorem IsOwn.tk {H H':Hp} {v:V} {e:(Int×Int)×Pnt} (t:Tk H H') (h:IsOwn H v e):IsOwn H' v e:=let ⟨a,p,e1,h1,h2⟩:=h;⟨a,p,e1,t _ _ h1,t _ _ h2⟩
theorem Zom {bs cs:?g} (lb:bs.length=3) (lc:cs.length=3) (hb:∀ x∈bs,x.natAbs≤200) (hc:∀ x∈cs,x.natAbs≤200) {a:Nat} (ha:a<6):∀ x∈strI bs cs (e6 a),x.natAbs≤200:=by
 match bs,lb,cs,lc,hb,hc with
 | [b0,b1,b2],_,[c0,c1,c2],_,hb,hc =>
   have p0:=hb b0 ?f;have p1:=hb b1 ?f;have p2:=hb b2 ?f;have q0:=hc c0 ?f;have q1:=hc c1 ?f;have q2:=hc c2 ?f
   match a,ha with
   | 0,_=>intro x hx;simp [strI,e6,dotI,List.range,List.range.loop] at hx;omega
   | 1,_=>intro x hx;simp [strI,e6,dotI,List.range,List.range.loop] at hx;omega
   | 2,_=>intro x hx;simp [strI,e6,dotI,List.range,List.range.loop] at hx;omega
   | 3,_=>intro x hx;simp [strI,e6,dotI,List.range,List.range.loop] at hx;omega
   | 4,_=>intro x hx;simp [strI,e6,dotI,List.range,List.range.loop] at hx;omega
   | 5,_=>intro x hx;simp [strI,e6,dotI,List.range,List.range.loop] at hx;omega
theorem mul9 {l t:Int} {k:Nat} (hl:0≤l∧l≤9) (ht:t.natAbs≤k):(l*t).natAbs≤9*k:=by
 rw [n56_];exact n57_ (?d) ht
theorem Zra {l m:Int} (hl:0≤l∧l≤9) (hm:1≤m∧m≤9) {s:?g} (h3:s.length=3) (h:∀ x∈s,x.natAbs≤200):∀ x∈stsI l m s,x.natAbs≤10000:=by
 match s,h3 with
 | [e,f,g],_ =>
   have p0:=h e ?f;have p1:=h f ?f;have p2:=h g ?f;have m':0≤m∧m≤9:=?d
   have k1:=mul9 (t:=e+f) (k:=400) hl (?d);have k2:=mul9 (t:=e) (k:=200) m' p0;have k3:=mul9 (t:=f) (k:=200) m' p1;have k4:=mul9 (t:=g) (k:=200) m' p2;have a1:2*m*e=2*(m*e):=Int.mul_assoc ..;have a2:2*m*f=2*(m*f):=Int.mul_assoc ..;intro x hx;simp only [stsI,n46_,n47_,n13_,n15_,or_false,a1,a2] at hx
   rcases hx with rfl|rfl|rfl<;>omega
theorem set6:∀ {i:Nat},i<6→(List.replicate 6 (V.int 0)).set i (.int 1)=(e6 i).map V.int
 | 0,_=>rfl
 | 1,_=>rfl
 | 2,_=>rfl
 | 3,_=>rfl
 | 4,_=>rfl
 | 5,_=>rfl
theorem Zty {P:Pl} {n i j:Nat} (hi:i<6) (hj:j<6):(ownL P n)[6*i+j]? = some ((wAt P n j,wAt P n i),opP P n i j) :=
 match i,hi with
 | 0,_ =>
   match j,hj with
   | 0,_=>rfl
   | 1,_=>rfl
   | 2,_=>rfl
   | 3,_=>rfl
   | 4,_=>rfl
   | 5,_=>rfl
 | 1,_ =>
   match j,hj with
   | 0,_=>rfl
   | 1,_=>rfl
   | 2,_=>rfl
   | 3,_=>rfl
   | 4,_=>rfl
   | 5,_=>rfl
 | 2,_ =>
   match j,hj with
   | 0,_=>rfl
   | 1,_=>rfl
   | 2,_=>rfl
   | 3,_=>rfl
   | 4,_=>rfl
   | 5,_=>rfl
 | 3,_ =>
   match j,hj with
   | 0,_=>rfl
   | 1,_=>rfl
   | 2,_=>rfl
   | 3,_=>rfl
   | 4,_=>rfl
   | 5,_=>rfl
 | 4,_ =>
   match j,hj with
   | 0,_=>rfl
   | 1,_=>rfl
   | 2,_=>rfl
   | 3,_=>rfl
   | 4,_=>rfl
   | 5,_=>rfl
 | 5,_ =>
   match j,hj with
   | 0,_=>rfl
   | 1,_=>rfl
   | 2,_=>rfl
   | 3,_=>rfl
   | 4,_=>rfl
   | 5,_=>rfl
inductive BxSp_own (vs:List V) (H:Hp) (Q:VK):Prop
 | mk (v:V) (P:Pl) (n:Nat) (q1:vs=[v,.int n]) (q2:IsPl H v P) (q3:PlOk P) (q4:n<P.ps.length) (q5:∀ (H':Hp) (r:Addr) (us:List V),?E→H' r=some (.lst us)→Al (IsOwn H') us (ownL P n)→Q (.ref r) H'):BxSp_own vs H Q
def Zrc:Sp:=fun vs H Q _=>BxSp_own vs H Q
inductive BxSp_unit (vs:List V) (H:Hp) (Q:VK):Prop
 | mk (N o:Nat) (q1:vs=[.int N,.int o]) (q2:N≤1000) (q3:∀ (H':Hp) (r:V),?E→IsQs H' r (uQ N o)→Q r H'):BxSp_unit vs H Q
def Zmn:Sp:=fun vs H Q _=>BxSp_unit vs H Q
inductive BxSp_lot (vs:List V) (H:Hp) (Q:VK):Prop
 | mk (l:Addr) (v:V) (P:Pl) (q1:vs=[.ref l,v]) (q2:StAt H l) (q3:IsPl H v P) (q4:PlOk P) (q5:∀ (H':Hp) (a:Addr) (ks:List Nat),Keep l H H'→StAt H' l→H' a=some (.tup ((nI ks).map V.int))→LotOk P ks→Q (.ref a) H'):BxSp_lot vs H Q
def Zqy:Sp:=fun vs H Q _=>BxSp_lot vs H Q
abbrev ek (e:Int×Int):List Key:=[.inl e.1,.inl e.2]
theorem Zrb {a b:Int×Int} (h:ek a=ek b):a=b:=by
 obtain ⟨a,a'⟩:=a;obtain ⟨b,b'⟩:=b;injection h with h1 h2
 injection h2 with h2 _
 injection h1 with h1
 injection h2 with h2
 rw [show a=b from h1,show a'=b' from h2]
abbrev kvE (kas:List ((Int×Int)×V)):List (List Key×V):=kas.map fun p=>(ek p.1,p.2)
theorem valE (k:Int×Int):∀ kas:List ((Int×Int)×V),(∀ v,valV (kvE kas) (ek k)=some v→(k,v)∈kas)∧(valV (kvE kas) (ek k)=none→k∉kas.map (·.1))
 | []=>⟨fun v h=>(nomatch h),fun _=>by simp⟩
 | p :: r=>by
   have ih:=valE k r
   have st:valV (kvE (p :: r)) (ek k)=if p.1=k then some p.2 else valV (kvE r) (ek k):=by
    unfold valV;rw [show kvE (p :: r)=(ek p.1,p.2) :: kvE r from rfl,List.find?_cons]
    by_cases c:p.1=k
    · rw [if_pos c,n44_ (by rw [c])];rfl
    · rw [if_neg c,n29_ fun z=>c (Zrb z)]
   rw [st]
   by_cases c:p.1=k
   · rw [if_pos c];refine ⟨fun v h=>?_,fun h=>by cases h⟩;cases h
     rw [← c];exact n24_
   · rw [if_neg c];refine ⟨fun v h=>n17_ _ (ih.1 v h),fun h z=>?_⟩;rw [n38_] at z;exact (n13_.mp z).elim (fun z=>c z.symm) (ih.2 h)
theorem putE {kas:List ((Int×Int)×V)} {k:Int×Int} (h:k∉kas.map (·.1)) (v:V):putK (kvE kas) (ek k) v=kvE (kas++[(k,v)]):=by
 unfold putK;rw [if_neg,kvE,kvE,n51_]
 · rfl
 · intro z;obtain ⟨x,hx,e⟩:=List.any_eq_true.mp z;obtain ⟨p,hp,rfl⟩:=n25_.mp hx;exact h (Zrb (n48_ e) ▸ n84_ hp)
structure PTab (H0 H:Hp) (D:Addr) (kas:List ((Int×Int)×V)) (es:List ((Int×Int)×Pnt)):Prop where
 dt:H D=some (.dT (kvE kas))
 nk:(kas.map (·.1)).Nodup
 na:(kas.map (·.2)).Nodup
 at_:∀ p∈kas,∃ a us,p.2=.ref a∧H0 a=none∧H a=some (.lst us)∧Al (IsP H) us (tbl es p.1)
 fr:H0 D=none
 has:∀ e∈es,e.1∈kas.map (·.1)
 len:kas.length≤es.length
theorem PTab.more {H0 H H':Hp} {D:Addr} {kas:List ((Int×Int)×V)} {es:List ((Int×Int)×Pnt)} (t:PTab H0 H D kas es) (s:?E):PTab H0 H' D kas es :=
 ⟨s _ _ t.dt,t.nk,t.na,fun p hp=>let ⟨a,us,e1,e2,e3,e4⟩:=t.at_ p hp;⟨a,us,e1,e2,s _ _ e3,e4.imp fun v x r=>r.tk s.tk⟩,t.fr,t.has,t.len⟩
theorem Zn1 {α β:Type} {f:α→β}:∀ {l:List α},(l.map f).Nodup→∀ {x y:α},x∈l→y∈l→f x=f y→x=y
 | [],_,_,_,h,_,_=>by cases h
 | a :: l,nd,x,y,hx,hy,e=>by
   rw [n38_,List.nodup_cons] at nd
   rcases n13_.mp hx with z|hx<;>rcases n13_.mp hy with z'|hy
   · rw [z,z']
   · exact absurd (by rw [← z,e];exact n84_ hy) nd.1
   · exact absurd (by rw [← z',← e];exact n84_ hx) nd.1
   · exact Zn1 nd.2 hx hy e
theorem Zkh (es:List ((Int×Int)×Pnt)) (e:(Int×Int)×Pnt) (k:Int×Int):tbl (es++[e]) k=if e.1=k then tbl es k++[e.2] else tbl es k:=by
 rw [Zgp];unfold tbl
 by_cases h:e.1=k
 · rw [if_pos h,n82_ (by simpa using h)];rfl
 · rw [if_neg h,n83_ (by simpa using h)];simp
theorem PTab.old {H0 H:Hp} {D a q:Addr} {kas:List ((Int×Int)×V)} {es:List ((Int×Int)×Pnt)} {us:List V} (t:PTab H0 H D kas es) {e:(Int×Int)×Pnt} (hk:(e.1,V.ref a)∈kas) (hu:H a=some (.lst us)) (hq:IsP H (.ref q) e.2) :
 PTab H0 (upd H a (.lst (us++[.ref q]))) D kas (es++[e]):=by
 have tk:Tk H (upd H a (.lst (us++[.ref q]))):=fun b xs h=>by
  rw [Zk fun z=>by rw [z,hu] at h;cases h];exact h
 refine ⟨?_,t.nk,t.na,fun p hp=>?_,t.fr,fun x hx=>?_,by have:=t.len;simp;omega⟩
 · rw [Zk fun z=>by have:=t.dt;rw [z,hu] at this;cases this];exact t.dt
 · obtain ⟨b,ws,e1,e2,e3,e4⟩:=t.at_ p hp;rw [Zkh]
   by_cases c:p.1=e.1
   · have:p=(e.1,V.ref a):=Zn1 t.nk hp hk c
     rw [this] at e1 e4;cases e1
     rw [hu] at e3;cases e3
     rw [if_pos c.symm,c];exact ⟨a,_,by rw [this],e2,Zc,(e4.imp fun v x r=>r.tk tk).snoc (hq.tk tk)⟩
   · have nb:b≠a:=fun z=>c (congrArg Prod.fst (Zn1 t.na hp hk (by rw [e1,z])));rw [if_neg fun z=>c z.symm];exact ⟨b,ws,e1,e2,by rw [Zk nb];exact e3,e4.imp fun v x r=>r.tk tk⟩
 · rcases n39_.mp hx with h|h
   · exact t.has x h
   · rw [n22_.mp h];exact n84_ hk
theorem PTab.new {H0 H:Hp} {D L q:Addr} {kas:List ((Int×Int)×V)} {es:List ((Int×Int)×Pnt)} (t:PTab H0 H D kas es) {e:(Int×Int)×Pnt} (hn:valV (kvE kas) (ek e.1)=none) (nL:V.ref L∉kas.map (·.2)) (hL:H L=some (.lst [])) (fL:H0 L=none) (hq:IsP H (.ref q) e.2) :
 PTab H0 (upd (upd H D (.dT (putK (kvE kas) (ek e.1) (.ref L)))) L (.lst [.ref q])) D (kas++[(e.1,.ref L)]) (es++[e]):=by
 have hs:=(valE e.1 kas).2 hn;have nD:L≠D:=fun z=>by have:=t.dt;rw [← z,hL] at this;cases this
 have tk:Tk H (upd (upd H D (.dT (putK (kvE kas) (ek e.1) (.ref L)))) L (.lst [.ref q])):=fun b xs h=>by
  rw [Zk (fun z=>by rw [z,hL] at h;cases h),Zk (fun z=>by rw [z,t.dt] at h;cases h)];exact h
 refine ⟨?_,?_,?_,fun p hp=>?_,t.fr,fun x hx=>?_,by have:=t.len;simp;omega⟩
 · rw [Zk nD.symm,Zc,putE hs]
 · rw [n51_,List.nodup_append];exact ⟨t.nk,by simp,fun x hx y hy=>by rw [n22_.mp hy];exact fun z=>hs (by rw [show x=e.1 from z] at hx;exact hx)⟩
 · rw [n51_,List.nodup_append];exact ⟨t.na,by simp,fun x hx y hy=>by rw [n22_.mp hy];exact fun z=>nL (by rw [show x=V.ref L from z] at hx;exact hx)⟩
 · rw [Zkh]
   rcases n39_.mp hp with hp|hp
   · obtain ⟨b,ws,e1,e2,e3,e4⟩:=t.at_ p hp;have c:¬ e.1=p.1:=fun z=>hs (z ▸ n84_ hp);have nb:b≠L:=fun z=>nL (by rw [← z,← e1];exact n84_ hp);rw [if_neg c];exact ⟨b,ws,e1,e2,by rw [Zk nb,Zk (fun z=>by rw [z,t.dt] at e3;cases e3)];exact e3,e4.imp fun v x r=>r.tk tk⟩
   · rw [n22_.mp hp,if_pos rfl]
     have z:tbl es e.1=[]:=by
      unfold tbl;rw [List.filter_eq_nil_iff.mpr fun x hx=>?_];rfl;intro c;exact hs (n48_ c ▸ t.has x hx)
     rw [z];exact ⟨L,_,rfl,fL,Zc,Al.nil.snoc (hq.tk tk)⟩
 · rw [n51_]
   rcases n39_.mp hx with h|h
   · exact List.mem_append_left _ (t.has x h)
   · rw [n22_.mp h];exact n33_ _ n24_
theorem Zts {P:Pl} {n:Nat} (h:PieceOk P.cs ?w):(Z1 ?w).Nodup:=by
 match hp:pcOf P n,h.len,h.rise with
 | [i,j,k],_,hr =>
   simp only [n46_,n47_] at hr;show [2*i,2*j,2*k,2*i+1,2*j+1,2*k+1].Nodup
   simp only [List.nodup_cons,n13_,n15_,or_false,List.nodup_nil,and_true,not_or,not_false_eq_true];omega
theorem Zo0 (g:Nat→Int) (f:Nat→Nat→Pnt) (x y:Int) (ws:List Nat):∀ as:List Nat,(tbl (as.flatMap fun a=>ws.map fun i=>((g i,g a),f a i)) (x,y)).length=(as.map g).count y*(ws.map g).count x
 | []=>by simp [tbl]
 | a :: as=>by
   have ih:=Zo0 g f x y ws as;rw [List.flatMap_cons,Zgp,n30_,ih,n38_,List.count_cons]
   have:(tbl (ws.map fun i=>((g i,g a),f a i)) (x,y)).length=if g a=y then (ws.map g).count x else 0:=by
    unfold tbl;rw [n7_,List.filter_map,n7_]
    by_cases c:g a=y
    · rw [if_pos c,List.count_eq_length_filter,List.filter_map,n7_]
      congr 1
      refine List.filter_congr fun i _=>?_
      by_cases d:g i=x<;>simp [c,d,Function.comp]
    · rw [if_neg c,List.filter_eq_nil_iff.mpr fun i _=>by simp [c,Function.comp]];rfl
   rw [this]
   by_cases c:g a=y
   · simp [c,Nat.add_mul];omega
   · simp [c]
theorem Zt0 {P:Pl} {n:Nat} (h:PieceOk P.cs ?w) (k:Int×Int):(tbl (ownL P n) k).length≤1:=by
 have e:(List.range 6).map (wAt P n)=Z1 ?w:=by
  match hp:pcOf P n,h.len with
  | [i,j,l],_=>unfold wAt;rw [hp];rfl
 have nd:=List.nodup_iff_count.mp (Zts h)
 have:=Zo0 (wAt P n) (opP P n) k.1 k.2 (List.range 6) (List.range 6)
 rw [e] at this;unfold ownL;rw [this];exact n57_ (nd k.2) (nd k.1)
theorem Zga {P:Pl} (ok:PlOk P) (k:Int×Int):∀ ks:List Nat,(∀ n∈ks,n<P.ps.length)→(tbl (allL P ks) k).length≤ks.length
 | [],_=>n11_ _
 | n :: ks,h=>by
   have ih:=Zga ok k ks fun m hm=>h m (n17_ _ hm);unfold allL at *;rw [List.flatMap_cons,Zgp,n30_,n21_]
   have:=Zt0 (pc3 ok (h n n24_)) k
   omega
abbrev SmT (p:Pnt):Prop:=0<p.2∧p.2.natAbs≤160000∧p.1.natAbs<2^310
theorem Zq7:∀ ps:List Pnt,(∀ p∈ps,SmT p)→∃ t b:Int,rsum ps=Rat.divInt t b∧0<b∧b.natAbs≤160000^ps.length∧t.natAbs≤ps.length*(2^310*160000^ps.length)
 | [],_=>⟨0,1,by first|rfl|exact (Rat.zero_divInt _).symm|decide,?t,?t,?t⟩
 | p :: ps,h=>by
   obtain ⟨t,b,e,b0,b1,t1⟩:=Zq7 ps fun q hq=>h q (n17_ _ hq);obtain ⟨p0,p1,p2⟩:=h p n24_;refine ⟨p.1*b+t*p.2,p.2*b,?_,Int.mul_pos p0 b0,?_,?_⟩
   · rw [Zdo,e,pq,n77_,n77_,n71_,n32_,n32_,n32_];have h1:=Xs (show p.2≠0 by omega);have h2:=Xs (show b≠0 by omega);generalize (p.2:Rat)=x at *;generalize (b:Rat)=y at *
     grind
   · rw [n56_,n21_,show 160000^(ps.length+1)=160000^ps.length*160000 from Nat.pow_succ ..,Nat.mul_comm];exact n57_ b1 p1
   · rw [n21_,show 160000^(ps.length+1)=160000^ps.length*160000 from Nat.pow_succ ..];have g1:(p.1*b).natAbs≤2^310*160000^ps.length:=by rw [n56_];exact n57_ (Nat.le_of_lt p2) b1
     have g2:(t*p.2).natAbs≤ps.length*(2^310*160000^ps.length)*160000:=by rw [n56_];exact n57_ t1 p1
     have g3:=Int.natAbs_add_le (p.1*b) (t*p.2);generalize 2^310=A at *;rw [show (ps.length+1)*(A*(160000^ps.length*160000))=(A*160000^ps.length)*160000+ps.length*(A*160000^ps.length)*160000 by rw [← Nat.mul_assoc A,Nat.add_mul,Nat.one_mul,Nat.add_comm,← Nat.mul_assoc ps.length]];generalize ps.length*(A*160000^ps.length)=C at *;generalize A*160000^ps.length=B at *;omega
theorem Zm8 {ps:List Pnt} (h:∀ p∈ps,SmT p) (h4:ps.length≤4):FM.B 1000 (rsum ps)∧(rsum ps).den<2^71:=by
 obtain ⟨t,b,e,b0,b1,t1⟩:=Zq7 ps h;have c1:160000^ps.length≤160000^4:=n23_ ?e h4;have b2:b.natAbs<2^71:=n10_ (n36_ b1 c1) ?e;have t2:t.natAbs<2^1000:=n10_ (n36_ t1 (n57_ h4 (Nat.mul_le_mul_left _ c1))) (?i);rw [e];refine ⟨FM.B_divInt (?d) t2 (n9_ b2 (n23_ ?e ?e)),?_⟩
 have:=Int.le_of_dvd b0 (Zok t (show b≠0 by omega))
 omega
theorem Zuq {P:Pl} (ok:PlOk P) {n:Nat} (hn:n<P.ps.length):∀ e∈ownL P n,SmT e.2:=fun e he=>by
 obtain ⟨a,ha,he⟩:=List.mem_flatMap.mp he;obtain ⟨i,hi,rfl⟩:=n25_.mp he;have ha:=n42_.mp ha;have hi:=n42_.mp hi;have pk:=pc3 ok hn;obtain ⟨bz,cz,dz⟩:=Zi9 ok.nr pk.len pk.bd;have d0:=pk.d;have sz:=Zom (a:=a) (bs:=Z7 P.cs ?w) (cs:=Z6 P.cs ?w) rfl rfl bz cz ha;have tz:=Zra ok.l9 ok.m9 (s:=strI (Z7 P.cs ?w) (Z6 P.cs ?w) (e6 a)) rfl sz
 have pz:=Zoi bz cz rfl (fun x hx=>n10_ (tz x hx) (show 10000<2^200 by decide)) ((opI P n a).getD i 0) (by
  have lo:(opI P n a).length=6:=rfl;rw [n5_,n1_ (show i<(opI P n a).length by omega)];exact n28_ _)
 have tz9:(P.ts.getD n 0).natAbs≤9:=by
  have h:P.ts.getD n 0∈P.ts:=by
   have:n<P.ts.length:=by rw [ok.t1];exact hn
   rw [n5_,n1_ this];exact n28_ _
  have:=ok.t9 _ h
  omega
 refine ⟨?_,?_,?_⟩
 · show 0<2*((dOf P.cs ?w).natAbs:Int);omega
 · show (2*((dOf P.cs ?w).natAbs:Int)).natAbs≤160000;omega
 · exact n9_ (FM.natAbs_mul_lt (n:=4) (n10_ tz9 ?e) pz) (n23_ ?e ?e)
def fLot (P:Pl) (ks:List Nat) (k:Int×Int):Rat:=rsum (tbl (allL P ks) k)
theorem Znh {P:Pl} (ok:PlOk P) {ks:List Nat} (h:∀ n∈ks,n<P.ps.length) (k:Int×Int):∀ p∈tbl (allL P ks) k,SmT p:=fun p hp=>by
 obtain ⟨e,he,rfl⟩:=n25_.mp hp;obtain ⟨n,hn,he⟩:=List.mem_flatMap.mp (List.mem_filter.mp he).1;exact Zuq ok (h n hn) e he
theorem Zwi {ps:List Pnt} (h:∀ p∈ps,SmT p):PB 71 ps:=fun p hp=>by
 obtain ⟨a,b,c⟩:=h p hp;exact ⟨⟨a,n10_ b ?e⟩,n9_ c (n23_ ?e ?e)⟩
def TabQ (H:Hp) (T:Addr) (f:Int×Int→Rat):Prop:=∃ kvs,H T=some (.dT kvs)∧∀ k,(∀ v,valV kvs (ek k)=some v→IsQ H v (f k)∧FM.B 1000 (f k)∧(f k).den<2^71)∧(valV kvs (ek k)=none→f k=0)
theorem TabQ.more {H H':Hp} {T:Addr} {f:Int×Int→Rat} (h:TabQ H T f) (s:?E):TabQ H' T f:=let ⟨kvs,e,g⟩:=h;⟨kvs,s _ _ e,fun k=>⟨fun v hv=>let ⟨a,b⟩:=(g k).1 v hv;⟨a.tk s.tk,b⟩,(g k).2⟩⟩
theorem Zt4 {H H':Hp} {a:Addr} (s:?E) (h:H' a=none):H a=none:=by
 cases e:H a with
 | none=>rfl
 | some o=>rw [s _ _ e] at h;cases h
theorem Zte {H:Hp} {us:List V} {l:List ((Int×Int)×Pnt)} {m:List Pnt} (h0:0<us.length) (h1:Al (IsOwn H) us l) (h2:Al (IsP H) us m):False:=by
 obtain ⟨_,_,a,p,e,h,_⟩:=h1.get (n1_ h0);obtain ⟨_,_,b,e',h'⟩:=h2.get (n1_ h0);rw [e] at e';cases e'
 rw [h] at h';injection h' with h'
 injection h' with h'
 injection h' with _ h'
 injection h' with _ h'
 cases h'
theorem Zul (es:List ((Int×Int)×Pnt)) (k:Int×Int):(tbl es k).length≤es.length:=by unfold tbl;rw [n7_];exact List.length_filter_le ..
inductive BxSp_ptable (vs:List V) (H:Hp) (Q:VK):Prop
 | mk (v:V) (P:Pl) (a:Addr) (ks:List Nat) (q1:vs=[v,.ref a]) (q2:IsPl H v P) (q3:PlOk P) (q4:P.ps.length≤4) (q5:H a=some (.tup ((nI ks).map V.int))) (q6:LotOk P ks) (q7:∀ (H':Hp) (T:Addr),?E→TabQ H' T (fLot P ks)→Q (.ref T) H'):BxSp_ptable vs H Q
def Zhf:Sp:=fun vs H Q _=>BxSp_ptable vs H Q
theorem Ztc {J:It} {n:Nat} {D:Addr} {g:TG} {tk tv:TE} {σ0:L2.St} {H:Hp} {Q:VK} (Pv:Nat→L2.St→?y) (h0:Pv 0 σ0 (upd H D (.dT [])))
 (hg:∀ i σ H,i<n→Pv i σ H→J.go i H) (hs:∀ σ H,Pv n σ H→J.stop n H)
 (hb:∀ i x σ H2 H3,i<n→J.yld i H2 x H3→Pv i σ H2→g x σ H3 fun σ4 H4=>tk σ4 H4 fun k H5=>tv σ4 H5 fun y H6=>∃ kvs key b,H6 D=some (.dT kvs)∧k=.ref b∧H6 b=some (.tup (key.map kV))∧kvs.length<sizeLine∧∃ m',m'<n-i∧LcN n Pv (i+1) m' σ4 (upd H6 D (.dT (putK kvs key y))))
 (hd:∀ σ H,Pv n σ H→Q (.ref D) H):DcGo J g tk tv σ0 H D Q:=by
 refine ⟨LcN n Pv,⟨_,n45_ _,rfl,h0⟩,?_⟩;rintro i m σ2 H2 ⟨hi,rfl,p⟩
 by_cases hlt:i<n
 · exact .inr ⟨hg i σ2 H2 hlt p,fun x H3 y=>hb i x σ2 H2 H3 hlt y p⟩
 · have e:i=n:=?d
   subst e;exact .inl ⟨hs _ _ p,hd _ _ p⟩
inductive BxSp_together (vs:List V) (H:Hp) (Q:VK):Prop
 | mk (dl:Addr) (v:V) (x:Rat) (q1:vs=[.ref dl,v]) (q2:((H dl=some (.lst [])∧x=0)∨∃ T f b k,H dl=some (.lst [.ref T])∧TabQ H T f∧v=.ref b∧H b=some (.tup ((ek k).map kV))∧x=f k)) (q3:∀ (H':Hp) (r:V),?E→IsQ H' r x→Q r H'):BxSp_together vs H Q
def Zdk:Sp:=fun vs H Q _=>BxSp_together vs H Q
theorem Zpn (q:Rat):rsum [prQ q]=q:=by
 rw [Zdo,show rsum []=0 from rfl,Rat.add_zero];show ((q.num:Int):Rat)/((q.den:Int):Rat)=q
 rw [← n77_,Rat.num_divInt_den]
def IsFr (H:Hp) (v:V) (ns:?g) (f:Int×Int→Rat):Prop:=∃ a w r z,v=.ref a∧H a=some (.tup [w,r,z])∧IsI H w ns∧Zn5 H r (ns.map fun w=>ns.map fun o=>f (w,o))∧IsQs H z (ns.map fun _=>0)
inductive BxSp_frameBy (vs:List V) (H:Hp) (Q:VK):Prop
 | mk (wl tl rl T:Addr) (ns:?g) (f:Int×Int→Rat) (q1:vs=[.ref wl,.ref tl,.ref rl]) (q2:H wl=some (.lst (ns.map V.int))) (q3:H tl=some (.lst [.ref T])) (q4:H rl=some (.lst [])) (q5:TabQ H T f) (q6:ns.length≤30) (q7:∀ (H':Hp) (v:V),?E→IsFr H' v ns f→Q v H'):BxSp_frameBy vs H Q
def Ze7:Sp:=fun vs H Q _=>BxSp_frameBy vs H Q
structure WaysL (P:Pl) (ks:List Nat) (ns:?g):Prop where
 rise:ns.Pairwise (·<·)
 mem:∀ x,x∈ns↔∃ k∈ks,x∈Z1 (pcOf P k)
 le:ns.length≤24
inductive BxSp_frameOf (vs:List V) (H:Hp) (Q:VK):Prop
 | mk (v:V) (P:Pl) (a:Addr) (ks:List Nat) (q1:vs=[v,.ref a]) (q2:IsPl H v P) (q3:PlOk P) (q4:P.ps.length≤4) (q5:H a=some (.tup ((nI ks).map V.int))) (q6:LotOk P ks) (q7:∀ (H':Hp) (r:V) (ns:?g),?E→WaysL P ks ns→IsFr H' r ns (fLot P ks)→Q r H'):BxSp_frameOf vs H Q
def Zbg:Sp:=fun vs H Q _=>BxSp_frameOf vs H Q
theorem Zl3 {P:Pl} {ks:List Nat} {ns ms:?g} (h:WaysL P ks ns) (g:WaysL P ks ms):ns=ms:=by
 have nd:∀ {l:?g},l.Pairwise (·<·)→l.Nodup:=fun h=>h.imp fun h=>?d
 have pm:ns.Perm ms:=(List.perm_ext_iff_of_nodup (nd h.rise) (nd g.rise)).mpr fun x=>(h.mem x).trans (g.mem x).symm;exact pm.eq_of_pairwise (le:=(·<·)) (fun a b _ _ h1 h2=>?d) h.rise g.rise
theorem Zde {p:?g} {x:Int}:x∈Z1 p↔∃ c∈p,x=2*c∨x=2*c+1:=by
 unfold Z1;rw [n39_,n25_,n25_];constructor
 · rintro (⟨c,hc,rfl⟩|⟨c,hc,rfl⟩)
   · exact ⟨c,hc,.inl rfl⟩
   · exact ⟨c,hc,.inr rfl⟩
 · rintro ⟨c,hc,rfl|rfl⟩
   · exact .inl ⟨c,hc,rfl⟩
   · exact .inr ⟨c,hc,rfl⟩
def mixS (P:Pl) (ks:List Nat) (ms:List Rat) (i:Nat):List (List Rat):=(List.range P.ps.length).map fun k=>if k∈ks∨i≤k then stsQ P.l P.m (strQ P k ms) else [0,0,0]
theorem Zva (P:Pl) (ks:List Nat) (ms:List Rat):mixS P ks ms 0=Zgq P ms:=by
 unfold mixS Zgq;exact List.map_congr_left fun k _=>if_pos (.inr (n45_ _))
theorem Zve (P:Pl) (ks:List Nat) (o:Nat):mixS P ks (uQ (2*P.cs.length) o) P.ps.length=mskS P ks o:=by
 unfold mixS mskS;refine List.map_congr_left fun k hk=>?_
 have:=n42_.mp hk
 by_cases h:k∈ks
 · rw [if_pos h,if_pos (.inl h)]
 · rw [if_neg h,if_neg fun z=>z.elim h fun z=>?d]
theorem Zsp {P:Pl} {ks:List Nat} {ms:List Rat} {i:Nat} (h:i∈ks):mixS P ks ms (i+1)=mixS P ks ms i:=by
 unfold mixS;refine List.map_congr_left fun k hk=>?_
 by_cases z:k=i
 · rw [if_pos (.inl (z ▸ h)),if_pos (.inl (z ▸ h))]
 · by_cases y:k∈ks∨i≤k
   · rw [if_pos y,if_pos (y.imp_right fun _=>?d)]
   · rw [if_neg y,if_neg fun w=>y (w.imp_right fun _=>?d)]
theorem Zqh {P:Pl} {ks:List Nat} {ms:List Rat} {i:Nat} (h:i∉ks):mixS P ks ms (i+1)=(mixS P ks ms i).set i [0,0,0]:=by
 unfold mixS;apply List.ext_getElem?
 intro j;rw [List.getElem?_set,n7_,n66_,n4_,n4_]
 by_cases hj:j<P.ps.length
 · rw [n85_ hj]
   by_cases z:i=j
   · subst z;rw [if_pos rfl,if_pos hj];exact congrArg some (if_neg fun w=>w.elim h fun w=>?d)
   · rw [if_neg z];refine congrArg some ?_;show (if j∈ks∨i+1≤j then stsQ P.l P.m (strQ P j ms) else [0,0,0])=if j∈ks∨i≤j then stsQ P.l P.m (strQ P j ms) else [0,0,0]
     by_cases y:j∈ks∨i≤j
     · rw [if_pos y,if_pos (y.imp_right fun _=>?d)]
     · rw [if_neg y,if_neg fun w=>y (w.imp_right fun _=>?d)]
 · rw [n88_ (by rw [n66_];omega)];split
   · split
     · omega
     · rfl
   · rfl
theorem Zm4 {X:Cx} (hc:X.calm=true):Xe X (.type "set") (fun xs H Q=>∃ (p:Addr) (ns:?g),xs=[.ref p]∧SqL X.K H p (ns.map V.int)∧ns.length≤30∧∀ S H',?E→H' S=some (setI (Xc X.w) S (metI ns))→Q (.ref S) H'):=fun pins s σ H xs us Q I r h=>Znb hc pins s σ H xs us Q I r (let ⟨p,ns,e,a,b,q⟩:=h;⟨p,ns,e,a,b,fun S nS=>q S _ (Same.new nS) Zc⟩)
theorem Zlm {K:PySem.W.Frag} {p:Addr} {x:Int} {ns:?g} {H:Hp} {Q:VK} (h:SqT K H p (ns.map V.int)) (q:Q (.bl (!decide (x∈ns))) H):rIn K true (.int x) (.ref p) H Q:=⟨p,_,rfl,.inr h,rfl,by rw [List.all_map];exact n49_.mpr ?j,by rw [Zg2];exact q⟩
def dFr (ns:?g) (f:Int×Int→Rat):PyData:=.tuple [dI ns,.tuple (ns.map fun w=>dQs (ns.map fun o=>f (w,o))),dQs (ns.map fun _=>0)]
theorem dtFr {N:Addr→Prop} {H:Hp} {v:V} {ns:?g} {f:Int×Int→Rat} (h:IsFr H v ns f) (hi:∀ x∈ns,x.natAbs<2^1000) (hb:∀ k,FM.B 1000 (f k)):Dt N H 1000 v (dFr ns f):=by
 obtain ⟨a,w,r,z,rfl,e,hw,⟨b,us,rfl,eb,al⟩,hz⟩:=h
 have hd:Dts N H 1000 us ((ns.map fun w=>ns.map fun o=>f (w,o)).map dQs):=Ze1 al fun v x hx r=>dtQs r fun q hq=>by
  obtain ⟨w,_,rfl⟩:=n25_.mp hx;obtain ⟨o,_,rfl⟩:=n25_.mp hq;exact hb _
 rw [List.map_map] at hd;exact .tup e (.cons (Zfm hw hi) (.cons (.tup eb hd) (.cons (dtQs hz fun q hq=>by obtain ⟨_,_,rfl⟩:=n25_.mp hq;exact ⟨Nat.two_pow_pos _,Nat.one_lt_two_pow ?e⟩) .nil)))
theorem Zta (ns:?g) (f:Int×Int→Rat):(dFr ns f).depth≤4:=by
 have h1:=Zeu ns;have h2:=Zaa (f:=fun w=>dQs (ns.map fun o=>f (w,o))) (c:=2) (xs:=ns) fun x _=>Znr _;have h3:=Znr (ns.map fun _=>0);simp only [dFr,PyData.depth,PyData.depthAll];omega
theorem nzFr {ns:?g} (f:Int×Int→Rat) (h:ns.length≤24):nz (dFr ns f)≤8000:=by
 have h1:=nzI ns
 have h2:=Ze4 (f:=fun w=>dQs (ns.map fun o=>f (w,o))) (c:=145) (xs:=ns) fun x _=>by
  have:=nzQs (ns.map fun o=>f (x,o))
  rw [n7_] at this;omega
 have h3:=nzQs (ns.map fun _=>0);rw [n7_] at h3;simp only [dFr,nz,Zb9];omega
theorem Zq2 {P:Pl} {ks:List Nat} (ok:PlOk P) (p4:P.ps.length≤4) (lot:LotOk P ks) (k:Int×Int):FM.B 1000 (fLot P ks k):=by
 have lk:ks.length≤4:=by
  have:=Xy (m:=0) (n:=P.ps.length) lot.rise fun k hk=>⟨n45_ _,lot.lt k hk⟩
  omega
 exact (Zm8 (Znh ok lot.lt k) (n36_ (Zga ok k ks lot.lt) lk)).1
theorem Zro {P:Pl} {ks:List Nat} {ns:?g} (ok:PlOk P) (lot:LotOk P ks) (h:WaysL P ks ns):∀ x∈ns,x.natAbs<2^1000:=fun x hx=>by
 obtain ⟨k,hk,m⟩:=(h.mem x).mp hx
 have:=(Zch ok (lot.lt k hk)).2.2 x m
 have:=ok.c30
 exact n10_ (show x.natAbs≤100 by omega) (?i)
def dPlL (P:Pl) (ks:List Nat):PyData:=.tuple [dPl P,dI (nI ks)]
theorem Zua {N:Addr→Prop} {H:Hp} {v:V} {a b:Addr} {P:Pl} {ks:List Nat} (ha:H a=some (.tup [v,.ref b])) (h:IsPl H v P) (ok:PlOk P) (hb:H b=some (.tup ((nI ks).map V.int))) (lot:LotOk P ks):Dt N H 60 (.ref a) (dPlL P ks) :=
 .tup ha (.cons (dtPl h ok ?e) (.cons (Zfm ⟨b,rfl,hb⟩ fun i hi=>by
  obtain ⟨k,hk,rfl⟩:=n25_.mp hi
  have:=lot.lt k hk
  have:=ok.p40
  exact n10_ (show ((k:Nat):Int).natAbs≤40 by omega) ?e) .nil))
theorem Zj8 (P:Pl) (ks:List Nat):(dPlL P ks).depth≤4:=by
 have h1:=Zsb P;have h2:=Zeu (nI ks);simp only [dPlL,PyData.depth,PyData.depthAll];omega
theorem Zug {P:Pl} {ks:List Nat} (ok:PlOk P) (lot:LotOk P ks):nz (dPlL P ks)≤2000:=by
 have h1:=nzPl ok;have h2:=nzI (nI ks)
 have:=Xy (m:=0) (n:=P.ps.length) lot.rise fun k hk=>⟨n45_ _,lot.lt k hk⟩
 have:=ok.p40
 rw [n7_] at h2;simp only [dPlL,nz,Zb9];omega
abbrev IsLt (P:Pl) (H:Hp) (v:V) (ks:List Nat):Prop:=∃ a,v=.ref a∧H a=some (.tup ((nI ks).map V.int))∧LotOk P ks
section
variable (P:Program) (w:World) (K:PySem.W.Frag) (mg:Str→?D) (base:Heap)
abbrev a0_:=Cal P w K mg base "plain_divisor" 1 ["one","other"] Zkn
abbrev a1_:=Cal P w K mg base "divisor" 2 ["one","other"] Ze9
abbrev a2_:=Cal P w K mg base "is_whole" 1 ["thing"] Zdz
abbrev a3_:=Cal P w K mg base "is_between" 2 ["thing","least","most"] Zez
abbrev a4_:=Cal P w K mg base "is_row" 1 ["thing","fewest","most"] Zri
abbrev a5_:=Cal P w K mg base "is_corner" 3 ["thing"] Zil
abbrev a6_:=Cal P w K mg base "turn" 1 ["first","second","third"] Zn6
abbrev a7_:=Cal P w K mg base "are_rising" 1 ["things"] Zfg
abbrev a8_:=Cal P w K mg base "turn_of" 2 ["corners","piece"] Zha
abbrev a9_:=Cal P w K mg base "are_rising" 1 ["things"] Zfp
abbrev a10_:=Cal P w K mg base "is_piece" 3 ["corners","thing"] Zfi
abbrev a11_:=Cal P w K mg base "edges" 1 ["points"] Zko
abbrev a12_:=Cal P w K mg base "parts_from" 2 ["points","others"] Zcs
abbrev a13_:=Cal P w K mg base "lies_in" 2 ["point","points"] Zik
abbrev a14_:=Cal P w K mg base "are_apart" 3 ["points","others"] Zk4
abbrev a15_:=Cal P w K mg base "no_strange_corner" 3 ["corners","piece","points"] Ze2
abbrev a16_:=Cal P w K mg base "triangle" 2 ["corners","piece"] Zq6
abbrev a17_:=Cal P w K mg base "are_corners" 4 ["thing"] Zex
abbrev a18_:=Cal P w K mg base "are_pieces" 4 ["corners","thing"] Zhk
abbrev a19_:=Cal P w K mg base "are_thicks" 3 ["pieces","thing"] Zh0
abbrev a20_:=Cal P w K mg base "every_corner_is_used" 2 ["corners","pieces"] Zmg
abbrev a21_:=Cal P w K mg base "fit_together" 4 ["corners","pieces"] Zqx
abbrev a22_:=Cal P w K mg base "is_stuff" 3 ["thing"] Zk3
abbrev a23_:=Cal P w K mg base "is_plate" 5 ["thing"] Zev
abbrev a24_:=Cal P w K mg base "multiple" 3 ["bottoms"] Zj1
abbrev a25_:=Cal P w K mg base "levelled" 4 ["parts"] Znz
abbrev a26_:=Cal P w K mg base "reduced" 3 ["top","bottom"] Zfc
abbrev a27_:=Cal P w K mg base "dot" 1 ["ones","others"] Zq0
abbrev a28_:=Cal P w K mg base "is_one_of" 2 ["known","thing"] Zj7
abbrev a29_:=Cal P w K mg base "piece_ways" 1 ["plate","number"] Zkf
abbrev a30_:=Cal P w K mg base "pushed" 1 ["bees","cees","three"] Zh4
abbrev a31_:=Cal P w K mg base "slopes" 3 ["plate","number"] Zhc
abbrev a32_:=Cal P w K mg base "strained" 2 ["bees","cees","six"] Zdj
abbrev a33_:=Cal P w K mg base "stressed" 1 ["stuff","three"] Zdt
abbrev a34_:=Cal P w K mg base "added" 6 ["terms"] Zkc
abbrev a35_:=Cal P w K mg base "own_pushes" 6 ["plate","number"] Zrc
abbrev a36_:=Cal P w K mg base "together" 7 ["dicts","key"] Zdk
abbrev a37_:=Cal P w K mg base "are_some_of" 3 ["known","thing"] Zey
abbrev a38_:=Cal P w K mg base "frame_by" 8 ["ways","tables","rights"] Ze7
abbrev a39_:=Cal P w K mg base "look_at_plate" 6 ["plate"] Zcu
abbrev a40_:=Cal P w K mg base "push_table" 8 ["plate","numbers"] Zhf
abbrev a41_:=Cal P w K mg base "_law_cell_at" 1 ["_law_script","_law_k"] (Zor K)
abbrev a42_:=Cal P w K mg base "_law_choice" 1 ["_law_state_here","_law_many"] Zdp
abbrev a43_:=Cal P w K mg base "_law_low" 1 ["_law_top","_law_bottom"] Zru
abbrev a44_:=Cal P w K mg base "_law_add" 2 ["_law_one","_law_other"] (Zqd (·+·))
abbrev a45_:=Cal P w K mg base "_law_order" 2 ["_law_state_here","_law_many"] Zkm
abbrev a46_:=Cal P w K mg base "_law_shapes" 1 [] Zhv
abbrev a47_:=Cal P w K mg base "_law_mul" 2 ["_law_one","_law_other"] (Zqd (·*·))
abbrev a48_:=Cal P w K mg base "_law_slopes" 2 ["_law_plate_here","_law_piece"] Zfo
abbrev a49_:=Cal P w K mg base "_law_total" 3 ["_law_some"] Zkp
abbrev a50_:=Cal P w K mg base "_law_strain" 4 ["_law_plate_here","_law_motions","_law_piece"] Zew
abbrev a51_:=Cal P w K mg base "_law_stress" 3 ["_law_plate_here","_law_own"] Ze0
abbrev a52_:=Cal P w K mg base "_law_pushes" 4 ["_law_plate_here","_law_some"] Ze6
abbrev a53_:=Cal P w K mg base "_law_stresses" 5 ["_law_plate_here","_law_motions"] Zc3
abbrev a54_:=Cal P w K mg base "_law_unit" 2 ["_law_many","_law_way"] Zmn
abbrev a55_:=Cal P w K mg base "_law_lot" 4 ["_law_state_here","_law_sheet"] Zqy
abbrev a56_:=Cal P w K mg base "_law_lot_frame" 7 ["_law_sheet","_law_lot_here"] Zbg
abbrev a57_:=Cal P w K mg base "_law_plate" 3 ["_law_state_here","_law_most"] Zk7
abbrev a58_:=Cal P w K mg base "_law_same" 1 ["_law_found","_law_due"] Zkk
abbrev a59_:=Cal P w K mg base "_law_state" 2 ["_law_script","_law_k"] (Zk8 K)
abbrev a60_:=Cal P w K mg base "frame_of" 9 ["plate","lot"] Zbg
end
section
variable {P:Program} {w:World} {K:PySem.W.Frag} {mg:Str→?D} {base:Heap} {f:Addr} {fd:FuncData} (T:Bt mg)
include T
abbrev Xr:Stmt:=top 7
theorem Zc5 (F:Fun K "plain_divisor" "plain_divisor" Xr f fd):FnOk P w K mg base CX0 1 f fd ["one","other"] Zkn:=by
 have sc:FnScope ["one","other"] ["one","other"] (Zf Xr):=fsc (?i);refine F.ok sc (fun vs H Q E h=>by obtain ⟨a,b,rfl,_⟩:=h;rfl) ?B;obtain ⟨a,b,rfl,q⟩:=h;have nd:=sc.nd;refine' ?C
 case term=>refine' Zd (Zc9 PassesOwn.never (Z2 (pv 1) (fun _=>rfl)) (Zh (Zcv rfl nd (i:=0) (j:=1) rfl rfl ?e rfl rfl (Za (pv 1) (Za (Zn X5 (pv 0) (pv 1)) Zb rfl) rfl) rfl))) (Zh (Zo (Zl Za9 rfl T.b_abs Zfe ?L)))
 refine Zda (fun σ H'=>∃ x y:Int,σ=[some (.int x),some (.int y)]∧H'=H∧Int.gcd x y=Int.gcd a b) (fun σ _=>match σ with|[_,some (.int y)]=>y.natAbs|_=>0) ⟨a,b,rfl,rfl,rfl⟩ ?_ ?_
 · rintro σ H' ⟨x,y,rfl,rfl,e⟩
   refine ⟨_,rfl,(y != 0),rfl,?_⟩
   by_cases hy:y=0
   · subst hy;refine iteF ?_;refine ⟨_,rfl,x,rfl,?_⟩
     have z:(if x<0 then -x else x)=(Int.gcd a b:Int):=by
      rw [← e,Int.gcd_zero_right];split<;>omega
     rw [z];exact q
   · rw [show (y != 0)=true by simpa using hy];refine iteT ?_;refine ⟨_,rfl,_,rfl,_,rfl,x,y,rfl,rfl,hy,_,_,rfl,⟨y,x.fmod y,rfl,rfl,by rw [FM.gcd_fmod hy];exact e⟩,FM.fmod_abs_lt hy⟩
 · rintro σ H' Q1 Q2 hq ⟨v,e,k,t,q'⟩
   exact ⟨v,e,k,t,hq _ _ q'⟩
abbrev Zd2:Stmt:=top 11
theorem Zlh (F:Fun K "divisor" "divisor" Zd2 f fd) (Cs_:a0_ P w K mg base):FnOk P w K mg base CX0 2 f fd ["one","other"] Ze9:=by
 have sc:FnScope ["one","other","half"] ["one","other"] (Zf Zd2):=fsc (?i);refine F.ok sc (fun vs H Q E h=>by obtain ⟨a,b,rfl,_⟩:=h;rfl) ?B;obtain ⟨a,b,rfl,hb,q⟩:=h;refine' ?C
 case term=>refine' Zd (Zc9 PassesOwn.never (Y6 Zqf (Zl (Zhs rfl) rfl T.b_min Zrt (Za (Zq9 PySem.F.plainAttrs_int PySem.F.slot_int_bit_length PySem.F.type_int_bit_length Zob (pv 0)) (Za (Zq9 PySem.F.plainAttrs_int PySem.F.slot_int_bit_length PySem.F.type_int_bit_length Zob (pv 1)) Zb rfl) rfl)) (Zag T.n_GREAT_BITS rfl) (Y0 _)) Zdl) (Zh (Zo (Zj Cs_ hr ?e rfl (Za (pv 0) ?M rfl))))
 refine Zda (fun σ H'=>σ=[some (.int a),some (.int b),none]∧H'=H) (fun σ _=>0) ⟨rfl,rfl⟩ ?_ ?_
 · rintro σ H' ⟨rfl,rfl⟩
   refine ⟨_,rfl,rfl,_,rfl,rfl,_,rfl,rfl,_,rfl,rfl,_,_,rfl,_,_,rfl,rfl,_,rfl,?_⟩;rw [Zs7 hb];refine iteF ?_;exact ⟨_,rfl,_,rfl,a,b,rfl,q⟩
 · rintro σ H' Q1 Q2 hq ⟨v1,e1,t1,i1,a1,n1,v2,e2,t2,i2,a2,n2,i,j,e3,i4,j4,e4,e5,b,e6,q'⟩
   exact ⟨v1,e1,t1,i1,a1,n1,v2,e2,t2,i2,a2,n2,i,j,e3,i4,j4,e4,e5,b,e6,hq _ _ q'⟩
abbrev Zcm:Stmt:=top 13
theorem Zjn (F:Fun K "is_whole" "is_whole" Zcm f fd):FnOk P w K mg base CX0 1 f fd ["thing"] Zdz:=by
 have sc:FnScope ["thing"] ["thing"] (Zf Zcm):=fsc (?i);refine F.ok sc (fun vs H Q E h=>by obtain ⟨a,rfl,_⟩:=h;rfl) ?B;obtain ⟨a,rfl,q⟩:=h;refine' ?C
 case term=>refine' Zh (Zo (Zc2 (Zl Zdc rfl T.b_isinstance Xk (Za (pv 0) (Za (Zg0 (v:=.ty "int") rfl T.b_int Zvf rfl) Zb rfl) rfl)) (Zbz (Zrs (Zl Zdc rfl T.b_isinstance Xk (Za (pv 0) (Za (Zg0 (v:=.ty "bool") rfl T.b_bool Zsi rfl) Zb rfl) rfl))))))
 refine ⟨_,rfl,_,_,_,_,rfl,TyOf.int a,rfl,true,rfl,iteT ?_⟩;refine ⟨_,rfl,_,_,_,_,rfl,TyOf.int a,rfl,false,rfl,q⟩
abbrev Zd7:Stmt:=top 15
theorem Zlv (F:Fun K "reduced" "reduced" Zd7 f fd) (Co_:a1_ P w K mg base):FnOk P w K mg base CX0 3 f fd ["top","bottom"] Zfc:=by
 have sc:FnScope ["top","bottom","common"] ["top","bottom"] (Zf Zd7):=fsc (?i);refine F.ok sc (fun vs H Q E h=>by obtain ⟨t,b,rfl,_⟩:=h;rfl) ?B;obtain ⟨t,b,rfl,hb,hz,q⟩:=h;have nd:=sc.nd;refine' ?C
 case term=>refine' Zd (Zx (i:=2) nd rfl ?l (Zj Co_ hr ?e rfl (Za (pv 0) ?M rfl))) (Zd (Xv (Y6 Znq (pv 1) Ze (Y0 _)) (Zh (Zx (i:=2) nd rfl ?l (Zsj Zn8 (pv 2)))) Z9) (Zh (Zo (Zv (Za (Zn Xh (pv 0) (pv 2)) (Za (Zn Xh (pv 1) (pv 2)) Zb rfl) rfl)))))
 refine ⟨_,rfl,_,rfl,t,b,rfl,hz,?_⟩;have hg:=FM.gcd_ne (t:=t) hb;have hgz:(Int.gcd t b)<2^8999:=n10_ (Nat.gcd_le_right _ (Int.natAbs_pos.mpr hb)) (Zrr hz);have hsg:FM.sg t b≠0:=FM.sg_ne hb
 have hsz:(FM.sg t b).natAbs<2^8999:=by
  unfold FM.sg;split
  · rw [Int.natAbs_neg];exact hgz
  · exact hgz
 have fin:∀ g:Int,g=FM.sg t b→∀ p,H p=none→Q (.ref p) (upd H p (.tup [.int (t.fdiv g),.int (b.fdiv g)])):=by
  rintro g rfl p hp
  rw [FM.fdiv_num hb,FM.fdiv_den hb];exact q p _ (Same.new hp) Zc
 refine ⟨_,rfl,_,_,rfl,rfl,_,rfl,?_⟩;refine ite2 (fun hlt=>?_) (fun hlt=>?_)
 · have hlt':b<0:=n48_ hlt;have e:-(Int.gcd t b:Int)=FM.sg t b:=by unfold FM.sg;rw [if_pos hlt']
   refine ⟨_,rfl,_,rfl,?_⟩;refine ⟨_,rfl,_,rfl,t,_,rfl,rfl,⟨by rw [e];exact hsg,by rw [e];exact hsz⟩,_,rfl,_,rfl,b,_,rfl,rfl,⟨by rw [e];exact hsg,by rw [e];exact hsz⟩,z2_,?_⟩;exact fin _ e
 · have hlt':¬ b<0:=fun z=>hlt (n44_ z);have e:(Int.gcd t b:Int)=FM.sg t b:=by unfold FM.sg;rw [if_neg hlt']
   refine ⟨_,rfl,_,rfl,t,_,rfl,rfl,⟨by rw [e];exact hsg,by rw [e];exact hsz⟩,_,rfl,_,rfl,b,_,rfl,rfl,⟨by rw [e];exact hsg,by rw [e];exact hsz⟩,z2_,?_⟩;exact fin _ e
abbrev Zaz:Stmt:=top 25
theorem Zft (F:Fun K "is_between" "is_between" Zaz f fd) (Cm_:a2_ P w K mg base):FnOk P w K mg base CX0 2 f fd ["thing","least","most"] Zez:=by
 have sc:FnScope ["thing","least","most"] ["thing","least","most"] (Zf Zaz):=fsc (?i);refine F.ok sc (fun vs H Q E h=>by obtain ⟨i,lo,hi,rfl,_⟩:=h;rfl) ?B;obtain ⟨i,lo,hi,rfl,h1,h2,q⟩:=h;refine' ?C
 case term=>refine' Zh (Zo (Zc2 (Zj Cm_ hr ?e rfl ?L) (Zbz (Zj3 Zoc Zoc (pv 1) (pv 0) (pv 2)))))
 refine ⟨_,rfl,i,rfl,true,rfl,iteT ?_⟩;refine ⟨_,rfl,_,rfl,_,_,rfl,rfl,true,blT h1,iteT ?_⟩;exact ⟨_,rfl,_,_,rfl,rfl,qT h2 q⟩
abbrev Zgo:Stmt:=top 26
theorem Zme (F:Fun K "is_row" "is_row" Zgo f fd):FnOk P w K mg base CX0 1 f fd ["thing","fewest","most"] Zri:=by
 have sc:FnScope ["thing","fewest","most"] ["thing","fewest","most"] (Zf Zgo):=fsc (?i);refine F.ok sc (fun vs H Q E h=>by obtain ⟨a,us,lo,hi,rfl,_⟩:=h;rfl) ?B;obtain ⟨a,us,lo,hi,rfl,ha,h1,h2,q⟩:=h;refine' ?C
 case term=>refine' Zh (Zo (Zc2 (Zl Zdc rfl T.b_isinstance Xk (Za (pv 0) (Za (Zg0 (v:=.ty "tuple") rfl T.b_tuple Z4 rfl) Zb rfl) rfl)) (Zbz (Zj3 Zoc Zoc (pv 1) (Zl Zr rfl T.b_len Yr ?L) (pv 2)))))
 refine ⟨_,rfl,_,_,_,_,rfl,TyOf.tup ha,rfl,true,rfl,iteT ?_⟩;refine ⟨_,rfl,_,rfl,a,_,rfl,.inr (SqT.of ha),_,_,rfl,rfl,true,blT h1,iteT ?_⟩;exact ⟨_,rfl,_,_,rfl,rfl,qT h2 q⟩
abbrev Zak:Stmt:=top 27
theorem Zeo (F:Fun K "are_rising" "are_rising" Zak f fd):FnOk P w K mg base CX0 1 f fd ["things"] Zfg:=by
 have sc:FnScope ["things"] ["things"] (Zf Zak):=fsc (?i);refine F.ok sc (fun vs H Q E h=>by obtain ⟨a,ns,rfl,_⟩:=h;rfl) ?B;obtain ⟨a,ns,rfl,ha,hz,hr',q⟩:=h;refine' ?C
 case term=>refine' Zh (Zo (Zl (Yo rfl) rfl T.b_all Za0 (Za (Y4 (g:=?R) (N:=["one","other"]) (fr:=[none,none]) rfl (Yc ?e rfl ?e rfl rfl) (Zd0 .t .t rfl T.b_zip (Za (pv 0) (Za (Zb0 Zmj (pv 0) (Zd8 Ze) Zdi) Zb rfl) rfl)) ?S ?K (fun _ _ _ _=>Zac Znq (pv 0) (pv 1) (Y0 _))) Zb rfl)))
 refine ⟨_,rfl,_,rfl,_,rfl,a,_,rfl,ha,fun p H1 s1 h1=>?_⟩;rw [cut1] at h1;refine ⟨a,p,rfl,⟨_,SqT.of (s1 _ _ ha)⟩,⟨_,SqT.of h1⟩,fun D nD=>?_⟩;refine lc_Z (k:=.t) (l:=.t) (vs:=ns.map V.int) (ws:=(ns.map V.int).drop 1) (fun _ v b=>v=V.bl b) (fun _ _ _ _ _ e=>e) (List.replicate (ns.length-1) true) ?f (by simp;omega) nD (s1 _ _ ha) h1 (fun i v w H2 C hv hw s2 c=>?_) (fun H2 us s2 e2 a2=>?_)
 · rw [List.getElem?_drop,n4_,Nat.add_comm] at hw;rw [n4_] at hv;obtain ⟨x,ex,rfl⟩:=n12_.mp hv;obtain ⟨y,ey,rfl⟩:=n12_.mp hw;refine ⟨_,rfl,_,rfl,_,_,rfl,rfl,qT (hr' i x y ex ey) (c _ _ true (Same.refl _) ?_ rfl)⟩
   have:i+1<ns.length:=(n18_.mp ey).1
   rw [List.getElem?_replicate,if_pos (?d)]
 · rw [a2.bls] at e2;refine ⟨D,List.replicate (ns.length-1) true,rfl,SqL.of e2,?_⟩;rw [List.all_replicate];split<;>exact q _ (s1.trans s2)
abbrev Zb8:Stmt:=top 27
theorem Zej (F:Fun K "are_rising" "are_rising" Zb8 f fd):FnOk P w K mg base CX0 1 f fd ["things"] Zfp:=by
 have sc:FnScope ["things"] ["things"] (Zf Zb8):=fsc (?i);refine F.ok sc (fun vs H Q E h=>by obtain ⟨a,us,ks,rfl,_⟩:=h;rfl) ?B;obtain ⟨a,us,ks,rfl,ha,al,hz,hr',q⟩:=h;have hu:=Zo3 hr;have hu1:=Nat.lt_of_succ_lt hu;refine' ?C
 case term=>refine' Zh (Zo (Zl (Yo rfl) rfl T.b_all Za0 (Za (Y4 (g:=?R) (N:=["one","other"]) (fr:=[none,none]) rfl (Yc ?e rfl ?e rfl rfl) (Zd0 .t .t rfl T.b_zip (Za (pv 0) (Za (Zb0 Zmj (pv 0) (Zd8 Ze) Zdi) Zb rfl) rfl)) ?S ?K (fun _ _ _ _=>Zac (show OpR _ (compareOp .Lt) (rLtT K) from Zuu hu1) (pv 0) (pv 1) (Y0 _))) Zb rfl)))
 refine ⟨_,rfl,_,rfl,_,rfl,a,_,rfl,ha,fun p H1 s1 h1=>?_⟩;rw [cut1] at h1;refine ⟨a,p,rfl,⟨_,SqT.of (s1 _ _ ha)⟩,⟨_,SqT.of h1⟩,fun D nD=>?_⟩;refine lc_Z (k:=.t) (l:=.t) (vs:=us) (ws:=us.drop 1) RB hRB (List.replicate (us.length-1) true) ?f (by simp;omega) nD (s1 _ _ ha) h1 (fun i v w H2 C hv hw s2 c=>?_) (fun H2 us' s2 e2 a2=>?_)
 · rw [List.getElem?_drop,Nat.add_comm] at hw;obtain ⟨x,ex,a,rfl,qa⟩:=al.get hv;obtain ⟨y,ey,b,rfl,qb⟩:=al.get hw;refine ⟨_,rfl,_,rfl,a,b,x,y,rfl,rfl,SqT.of ((s1.trans s2) _ _ qa),SqT.of ((s1.trans s2) _ _ qb),?_⟩;rw [hr' i x y ex ey];refine c _ _ true (Same.refl _) (repT ?_) rfl
   have:=Y7 hw
   omega
 · rw [a2.bls] at e2;refine ⟨D,List.replicate (us.length-1) true,rfl,SqL.of e2,?_⟩;rw [allT];exact q _ (s1.trans s2)
abbrev Zbl:Stmt:=top 28
theorem Zid (F:Fun K "is_corner" "is_corner" Zbl f fd) (Ce_:a3_ P w K mg base) (Cc_:a4_ P w K mg base):FnOk P w K mg base CX0 3 f fd ["thing"] Zil:=by
 have sc:FnScope ["thing"] ["thing"] (Zf Zbl):=fsc (?i);refine F.ok sc (fun vs H Q E h=>by obtain ⟨v,p,rfl,_⟩:=h;rfl) ?B;obtain ⟨v,p,rfl,⟨a,rfl,ha⟩,⟨⟨n1,n2⟩,n3,n4⟩,q⟩:=h;refine' ?C
 case term=>refine' Zh (Zo (Zc2 (Zj Cc_ hr ?e rfl (Za (pv 0) (Za Ze ?J rfl) rfl)) (Zbz (Zl (Yo rfl) rfl T.b_all Za0 (Za (Y4 (N:=["part"]) (fr:=[none]) rfl (Yc ?e rfl ?e rfl rfl) (Yp (pv 0)) ?O ?K (fun _ _ _ _=>Zj Ce_ hr ?e rfl (Za (pv 0) (Za (Zsj Zn8 (Zag T.n_FARTHEST rfl)) (Za (Zag T.n_FARTHEST rfl) Zb rfl) rfl) rfl))) Zb rfl)))))
 refine ⟨_,rfl,a,_,2,2,rfl,ha,by simp,by simp,true,rfl,iteT ?_⟩;refine ⟨_,rfl,a,rfl,⟨_,SqT.of ha⟩,fun D nD=>?_⟩;refine lc_T (k:=.t) (vs:=[V.int p.1,V.int p.2]) RB hRB [true,true] rfl ?f nD ha (fun i w H2 C hw s2 c=>?_) (fun H2 us' s2 e2 a2=>?_)
 · have hi:i=0∨i=1:=by have:i<2:=Y7 hw;omega
   rcases hi with rfl|rfl
   · cases (show V.int p.1=w by simpa using hw)
     exact ⟨_,rfl,_,rfl,p.1,-100,100,rfl,n1,n2,c _ _ true (Same.refl _) rfl rfl⟩
   · cases (show V.int p.2=w by simpa using hw)
     exact ⟨_,rfl,_,rfl,p.2,-100,100,rfl,n3,n4,c _ _ true (Same.refl _) rfl rfl⟩
 · rw [a2.bls] at e2;exact ⟨D,[true,true],rfl,SqL.of e2,q _ s2⟩
abbrev Zas:Stmt:=top 29
theorem Zeh (F:Fun K "are_corners" "are_corners" Zas f fd) (Cao_:a5_ P w K mg base) (Cc_:a4_ P w K mg base):FnOk P w K mg base CX0 4 f fd ["thing"] Zex:=by
 have sc:FnScope ["thing"] ["thing"] (Zf Zas):=fsc (?i);refine F.ok sc (fun vs H Q E h=>by obtain ⟨v,cs,rfl,_⟩:=h;rfl) ?B;obtain ⟨v,cs,rfl,⟨a,us,rfl,ha,al⟩,h3,h30,nr,nd',q⟩:=h;refine' ?C
 case term=>refine' Zd ?g1 (Zh (Zo (Zac Znv (Zl Zoy rfl T.b_len Yr (Za (Zz (Zm6 rfl hr) rfl T.b_set Zq8 ?L) Zb rfl)) (Zl Zr rfl T.b_len Yr ?L) (Y0 _))));case g1=>refine' Xv ?g2 (Zh (Zo Za6)) Z9;case g2=>refine' PW.pt ?g3;case g3=>refine' Zlu (Yz (Z2 (Zj Cc_ hr ?e rfl (Za (pv 0) (Za (Zag T.n_FEWEST_CORNERS rfl) (Za (Zag T.n_MOST_CORNERS rfl) Zb rfl) rfl) rfl)) (fun _=>rfl))) ?g4;case g4=>refine' Ze5 ?g5;case g5=>refine' Yz ?g6;case g6=>refine' Z2 (Zl (Yo rfl) rfl T.b_all Za0 (Za (Y4 (N:=["part"]) (fr:=[none]) rfl (Yc ?e rfl ?e rfl rfl) (Yp (pv 0)) ?O ?K (fun _ _ _ _=>Zj Cao_ hr ?e rfl ?L)) Zb rfl)) (fun _=>rfl)
 have hl:=al.1;refine ⟨_,rfl,a,_,3,30,rfl,ha,?d,?d,true,rfl,iteF ?_⟩;refine ⟨_,rfl,a,rfl,⟨_,SqT.of ha⟩,fun D nD=>?_⟩;refine lc_T (k:=.t) (vs:=us) RB hRB (List.replicate us.length true) ?f (?d) nD ha (fun i w H2 C hw s2 c=>?_) (fun H2 us' s2 e2 a2=>?_)
 · obtain ⟨p,ep,rp⟩:=al.get hw;exact ⟨_,rfl,w,p,rfl,rp.tk s2.tk,nr p (n6_ ep),fun H5 s5=>c _ _ true s5 (repT (Y7 hw)) rfl⟩
 · rw [a2.bls] at e2;refine ⟨D,List.replicate us.length true,rfl,SqL.of e2,true,by rw [allT];rfl,iteF ?_⟩;refine ⟨_,rfl,a,us,cs.map (fun p=>[p.1,p.2]),rfl,SqT.of (s2 _ _ ha),by simp [hl],fun i v hv=>?_,?_,by simp;omega,fun S nS=>?_⟩
   · obtain ⟨p,ep,b,rfl,hb⟩:=al.get hv;exact ⟨b,[p.1,p.2],rfl,by rw [n4_,ep];rfl,SqT.of (s2 _ _ hb)⟩
   · rw [List.nodup_iff_pairwise_ne,List.pairwise_map];refine (List.nodup_iff_pairwise_ne.mp nd').imp fun {x y} ne e=>ne ?_;simp at e;exact Prod.ext e.1 e.2
   · have s3:Same H2 (upd H2 S (.ext (Zfq S (cs.map fun p=>[p.1,p.2]).length))):=Same.new nS;refine ⟨S,_,rfl,Zc,by rw [n7_,sizeLine_eq];omega,_,rfl,a,us,rfl,.inr (SqT.of (s3 _ _ (s2 _ _ ha))),rfl,?_⟩;have e:V.int ((cs.map fun p=>[p.1,p.2]).length:Nat)=V.int us.length:=by rw [n7_,hl]
     exact qT e (q _ (s2.trans s3))
abbrev Znw:Stmt:=top 30
theorem Zsa (F:Fun K "turn" "turn" Znw f fd):FnOk P w K mg base CX0 1 f fd ["first","second","third"] Zn6:=by
 have sc:FnScope ["first","second","third","ahead"] ["first","second","third"] (Zf Znw):=fsc (?i);refine F.ok sc (fun vs H Q E h=>by obtain ⟨u,v,w,a,b,c,rfl,_⟩:=h;rfl) ?B;obtain ⟨u,v,w,a,b,c,rfl,⟨pa,rfl,ha⟩,⟨pb,rfl,hb⟩,⟨pc,rfl,hc⟩,na,nb,nc,q⟩:=h;have nd:=sc.nd;refine' ?C
 case term=>refine' Zd ?g1 ?g2;(case g1=>refine' Zx (i:=3) nd rfl ?l ?g3;case g3=>refine' Zn Zp ?g4 ?g5;(case g4=>refine' Zn Yq (Zt Zq (pv 1) Ze (?j)) (Zt Zq (pv 0) Ze (?j)));case g5=>refine' Zn Yq (Zt Zq (pv 2) Ze (?j)) (Zt Zq (pv 0) Ze (?j)));case g2=>refine' Zh ?g6;case g6=>refine' Zo ?g7;case g7=>refine' Zn Yq (pv 3) ?g8;case g8=>refine' Zn Zp ?g9 ?ga;(case g9=>refine' Zn Yq (Zt Zq (pv 2) Ze (?j)) (Zt Zq (pv 0) Ze (?j)));case ga=>refine' Zn Yq (Zt Zq (pv 1) Ze (?j)) (Zt Zq (pv 0) Ze (?j))
 obtain ⟨⟨a1,a2⟩,a3,a4⟩:=na;obtain ⟨⟨b1,b2⟩,b3,b4⟩:=nb;obtain ⟨⟨c1,c2⟩,c3,c4⟩:=nc;refine ⟨_,rfl,pb,_,0,_,rfl,rfl,SqT.of hb,rfl,_,rfl,pa,_,0,_,rfl,rfl,SqT.of ha,rfl,_,_,rfl,rfl,_,rfl,pc,_,1,_,rfl,rfl,SqT.of hc,rfl,_,rfl,pa,_,1,_,rfl,rfl,SqT.of ha,rfl,_,_,rfl,rfl,_,_,rfl,rfl,mul3 (?d) (?d),?_⟩;refine ⟨_,rfl,_,rfl,pc,_,0,_,rfl,rfl,SqT.of hc,rfl,_,rfl,pa,_,0,_,rfl,rfl,SqT.of ha,rfl,_,_,rfl,rfl,_,rfl,pb,_,1,_,rfl,rfl,SqT.of hb,rfl,_,rfl,pa,_,1,_,rfl,rfl,SqT.of ha,rfl,_,_,rfl,rfl,_,_,rfl,rfl,mul3 (?d) (?d),_,_,rfl,rfl,?_⟩;exact q
abbrev Zd4:Stmt:=top 31
theorem Zlj (F:Fun K "turn_of" "turn_of" Zd4 f fd) (Ci_:a6_ P w K mg base):FnOk P w K mg base CX0 2 f fd ["corners","piece"] Zha:=by
 have sc:FnScope ["corners","piece"] ["corners","piece"] (Zf Zd4):=fsc (?i);refine F.ok sc (fun vs H Q E h=>by obtain ⟨u,v,cs,p,rfl,_⟩:=h;rfl) ?B;obtain ⟨u,v,cs,p,rfl,⟨a,us,rfl,ha,al⟩,⟨b,rfl,hb⟩,hl,bd,nr,q⟩:=h;refine' ?C
 case term=>refine' Zh ?g1;case g1=>refine' Zo ?g2;case g2=>refine' Zj Ci_ hr ?e rfl ?g3;case g3=>refine' Za ?g4 ?g5 rfl;(case g4=>refine' Zt Zq (pv 0) (Zt Zq (pv 1) Ze (?j)) (?j));case g5=>refine' Za ?g6 ?g7 rfl;(case g6=>refine' Zt Zq (pv 0) (Zt Zq (pv 1) Ze (?j)) (?j));case g7=>refine' Za ?g8 Zb rfl;case g8=>refine' Zt Zq (pv 0) (Zt Zq (pv 1) Ze (?j)) (?j)
 obtain ⟨i,j,k,rfl⟩:=len3 hl;have bi:=bd i ?f;have bj:=bd j ?f;have bk:=bd k ?f;obtain ⟨x,ex,rx⟩:=Zln al bi.1 bi.2;obtain ⟨y,ey,ry⟩:=Zln al bj.1 bj.2;obtain ⟨z,ez,rz⟩:=Zln al bk.1 bk.2;refine ⟨_,rfl,_,rfl,b,_,0,_,rfl,rfl,SqT.of hb,rfl,a,us,i,x,rfl,rfl,SqT.of ha,ex,?_⟩;refine ⟨_,rfl,_,rfl,b,_,1,_,rfl,rfl,SqT.of hb,rfl,a,us,j,y,rfl,rfl,SqT.of ha,ey,?_⟩;refine ⟨_,rfl,_,rfl,b,_,2,_,rfl,rfl,SqT.of hb,rfl,a,us,k,z,rfl,rfl,SqT.of ha,ez,?_⟩;exact ⟨x,y,z,_,_,_,rfl,rx,ry,rz,nr _ (Yx bi.1 bi.2),nr _ (Yx bj.1 bj.2),nr _ (Yx bk.1 bk.2),q⟩
abbrev Zbh:Stmt:=top 32
theorem Zi7 (F:Fun K "is_piece" "is_piece" Zbh f fd) (Cg_:a7_ P w K mg base) (Ce_:a3_ P w K mg base) (Cc_:a4_ P w K mg base) (Cp_:a8_ P w K mg base):FnOk P w K mg base CX0 3 f fd ["corners","thing"] Zfi:=by
 have sc:FnScope ["corners","thing"] ["corners","thing"] (Zf Zbh):=fsc (?i);refine F.ok sc (fun vs H Q E h=>by obtain ⟨u,v,cs,p,rfl,_⟩:=h;rfl) ?B;obtain ⟨u,v,cs,p,rfl,⟨a,us,rfl,ha,al⟩,⟨b,rfl,hb⟩,ok,nr,q⟩:=h;refine' ?C
 case term=>refine' Zd ?g1 (Zh (Zo (Zc2 (Zj Cg_ hr ?e rfl ?M) (Zbz (Zac Zvb (Zj Cp_ hr ?e rfl (Za (pv 0) ?M rfl)) Ze (Y0 _))))));case g1=>refine' Xv ?g2 (Zh (Zo Za6)) Z9;case g2=>refine' PW.pt ?g3;case g3=>refine' Zlu (Yz (Z2 (Zj Cc_ hr ?e rfl (Za (pv 1) (Za Ze ?J rfl) rfl)) (fun _=>rfl))) ?g4;case g4=>refine' Ze5 ?g5;case g5=>refine' Yz ?g6;case g6=>refine' Z2 (Zl (Yo rfl) rfl T.b_all Za0 (Za (Y4 (N:=["part","corners"]) (fr:=[none,some 0]) rfl (Z3 (XN:=["corners","thing"]) (Scope.names (Zf Zbh)) rfl rfl rfl (fun _ h=>Zy h) (?i) rfl) (Yp (pv 1)) ?O ?K (fun _ _ _ _=>Zj Ce_ hr ?e rfl (Za (pv 0) (Za Ze (Za (Zn Yq (Zl (Zgs K rfl) rfl T.b_len Yr ?M) Ze) Zb rfl) rfl) rfl))) Zb rfl)) (fun _=>rfl)
 have hl:=ok.len;have hl2:=al.1;refine ⟨_,rfl,b,_,3,3,rfl,hb,by simp [hl],by simp [hl],true,rfl,iteF ?_⟩;refine ⟨_,rfl,b,rfl,⟨_,SqT.of hb⟩,fun D nD=>?_⟩;refine lc_T (k:=.t) (vs:=p.map V.int) RB hRB (List.replicate 3 true) (by simp [hl]) (by simp [hl]) nD hb (fun i w H2 C hw s2 c=>?_) (fun H2 us' s2 e2 a2=>?_)
 · rw [n4_] at hw;obtain ⟨x,ex,rfl⟩:=n12_.mp hw;obtain ⟨b1,b2⟩:=ok.bd x (n6_ ex);refine ⟨_,rfl,_,rfl,a,us,rfl,.inr (SqT.of (s2 _ _ ha)),_,_,rfl,rfl,x,0,_,rfl,b1,by rw [hl2];exact b2,c _ _ true (Same.refl _) (repT ?_) rfl⟩
   have:=Y7 ex
   omega
 · rw [a2.bls] at e2;refine ⟨D,List.replicate 3 true,rfl,SqL.of e2,true,by rw [allT];rfl,iteF ?_⟩;refine ⟨_,rfl,b,p,rfl,s2 _ _ hb,?d,fun i x y ex ey=>?_,fun H3 s3=>⟨true,rfl,iteT ?_⟩⟩
   · have r:=ok.rise;obtain ⟨i0,i1,i2,rfl⟩:=len3 hl
     match i,ex,ey with
     | 0,ex,ey=>simp at ex ey;subst ex;subst ey;exact r.1
     | 1,ex,ey=>simp at ex ey;subst ex;subst ey;exact r.2
     | 2,ex,ey=>simp at ey
     | (n+3),ex,ey=>simp at ex
   · have s4:=s2.trans s3;refine ⟨_,rfl,_,rfl,_,_,cs,p,rfl,⟨a,us,rfl,s4 _ _ ha,al.imp fun v x r=>r.tk s4.tk⟩,⟨b,rfl,s4 _ _ hb⟩,hl,ok.bd,nr,rfl,?_⟩;have e:decide (V.int (dOf cs p)=V.int 0)=false:=n29_ fun z=>ok.d (V.int.inj z);rw [e];exact q _ s4
abbrev Xz:Stmt:=top 33
theorem Zfr (F:Fun K "are_pieces" "are_pieces" Xz f fd) (Caa_:a9_ P w K mg base) (Cau_:a10_ P w K mg base) (Cc_:a4_ P w K mg base):FnOk P w K mg base CX0 4 f fd ["corners","thing"] Zhk:=by
 have sc:FnScope ["corners","thing"] ["corners","thing"] (Zf Xz):=fsc (?i);refine F.ok sc (fun vs H Q E h=>by obtain ⟨u,v,cs,ps,rfl,_⟩:=h;rfl) ?B;obtain ⟨u,v,cs,ps,rfl,hc,⟨b,ws,rfl,hb,bl⟩,p1,p40,pc,rise,nr,q⟩:=h;refine' ?C
 case term=>refine' Zd ?g1 (Zh (Zo (Zj Caa_ hr ?e rfl ?M)));case g1=>refine' Xv ?g2 (Zh (Zo Za6)) Z9;case g2=>refine' PW.pt ?g3;case g3=>refine' Zlu (Yz (Z2 (Zj Cc_ hr ?e rfl (Za (pv 1) (Za Ze (Za (Zag T.n_MOST_PIECES rfl) Zb rfl) rfl) rfl)) (fun _=>rfl))) ?g4;case g4=>refine' Ze5 ?g5;case g5=>refine' Yz ?g6;case g6=>refine' Z2 (Zl (Yo rfl) rfl T.b_all Za0 (Za (Y4 (N:=["part","corners"]) (fr:=[none,some 0]) rfl (Z3 (XN:=["corners","thing"]) (Scope.names (Zf Xz)) rfl rfl rfl (fun _ h=>Zy h) (?i) rfl) (Yp (pv 1)) ?O ?K (fun _ _ _ _=>Zj Cau_ hr ?e rfl (Za (pv 1) ?L rfl))) Zb rfl)) (fun _=>rfl)
 have hl:=bl.1;refine ⟨_,rfl,b,_,1,40,rfl,hb,?d,?d,true,rfl,iteF ?_⟩;refine ⟨_,rfl,b,rfl,⟨_,SqT.of hb⟩,fun D nD=>?_⟩;refine lc_T (k:=.t) (vs:=ws) RB hRB (List.replicate ws.length true) ?f (?d) nD hb (fun i w H2 C hw s2 c=>?_) (fun H2 us' s2 e2 a2=>?_)
 · obtain ⟨p,ep,rp⟩:=bl.get hw;exact ⟨_,rfl,_,rfl,_,_,cs,p,rfl,hc.tk s2.tk,rp.tk s2.tk,pc p (n6_ ep),nr,fun H5 s5=>c _ _ true s5 (repT (Y7 hw)) rfl⟩
 · rw [a2.bls] at e2;refine ⟨D,List.replicate ws.length true,rfl,SqL.of e2,true,by rw [allT];rfl,iteF ?_⟩;refine ⟨_,rfl,b,ws,ps,rfl,s2 _ _ hb,bl.imp fun v x r=>r.tk s2.tk,?d,fun i x y ex ey=>?_,fun H3 s3=>q _ (s2.trans s3)⟩
   have:=rise i (Y7 ey)
   rw [n5_,n5_,ex,ey] at this;exact this
abbrev Za4:Stmt:=top 34
theorem Zgr (F:Fun K "are_thicks" "are_thicks" Za4 f fd) (Ce_:a3_ P w K mg base) (Cc_:a4_ P w K mg base):FnOk P w K mg base CX0 3 f fd ["pieces","thing"] Zh0:=by
 have sc:FnScope ["pieces","thing"] ["pieces","thing"] (Zf Za4):=fsc (?i);refine F.ok sc (fun vs H Q E h=>by obtain ⟨u,v,ps,ts,rfl,_⟩:=h;rfl) ?B;obtain ⟨u,v,ps,ts,rfl,⟨a,us,rfl,ha,al⟩,⟨b,rfl,hb⟩,hl,p40,t9,q⟩:=h;refine' ?C
 case term=>refine' Zd (Xv (Yz (Z2 (Zj Cc_ hr ?e rfl (Za (pv 1) (Za (Zl Zr rfl T.b_len Yr ?L) (Za (Zl Zr rfl T.b_len Yr ?L) Zb rfl) rfl) rfl)) (fun _=>rfl))) (Zh (Zo Za6)) Z9) (Zh (Zo (Zl (Yo rfl) rfl T.b_all Za0 (Za (Y4 (N:=["part"]) (fr:=[none]) rfl (Yc ?e rfl ?e rfl rfl) (Yp (pv 1)) ?O ?K (fun _ _ _ _=>Zj Ce_ hr ?e rfl (Za (pv 0) (Za Ze (Za (Zag T.n_THICKEST rfl) Zb rfl) rfl) rfl))) Zb rfl))))
 have hl2:=al.1;have hl3:((ts.map V.int).length:Int)=us.length:=by simp;omega
 refine ⟨_,rfl,_,rfl,a,us,rfl,.inr (SqT.of ha),_,rfl,a,us,rfl,.inr (SqT.of ha),b,_,_,_,rfl,hb,by rw [hl3];exact Int.le_refl _,by rw [hl3];exact Int.le_refl _,true,rfl,iteF ?_⟩;refine ⟨_,rfl,b,rfl,⟨_,SqT.of hb⟩,fun D nD=>?_⟩;refine lc_T (k:=.t) (vs:=ts.map V.int) RB hRB (List.replicate ts.length true) ?f (by simp;omega) nD hb (fun i w H2 C hw s2 c=>?_) (fun H2 us' s2 e2 a2=>?_)
 · rw [n4_] at hw;obtain ⟨x,ex,rfl⟩:=n12_.mp hw;obtain ⟨b1,b2⟩:=t9 x (n6_ ex);exact ⟨_,rfl,x,1,9,rfl,b1,b2,c _ _ true (Same.refl _) (repT (Y7 ex)) rfl⟩
 · rw [a2.bls] at e2;refine ⟨D,List.replicate ts.length true,rfl,SqL.of e2,?_⟩;rw [allT];exact q _ s2
abbrev Zce:Stmt:=top 35
theorem Zji (F:Fun K "is_stuff" "is_stuff" Zce f fd) (Ce_:a3_ P w K mg base) (Cc_:a4_ P w K mg base):FnOk P w K mg base CX0 3 f fd ["thing"] Zk3:=by
 have sc:FnScope ["thing"] ["thing"] (Zf Zce):=fsc (?i);refine F.ok sc (fun vs H Q E h=>by obtain ⟨v,l,m,rfl,_⟩:=h;rfl) ?B;obtain ⟨v,l,m,rfl,⟨b,rfl,hb⟩,l9,m9,q⟩:=h;refine' ?C
 case term=>refine' Zd (Xv (Yz (Z2 (Zj Cc_ hr ?e rfl (Za (pv 0) (Za Ze ?J rfl) rfl)) (fun _=>rfl))) (Zh (Zo Za6)) Z9) ?g1;case g1=>refine' Zh ?g2;case g2=>refine' Zo ?g3;case g3=>refine' Zc2 (Zj Ce_ hr ?e rfl (Za (Zt Zq (pv 0) Ze (?j)) (Za Ze (Za (Zag T.n_MOST_STUFF rfl) Zb rfl) rfl) rfl)) (Zbz (Zj Ce_ hr ?e rfl (Za (Zt Zq (pv 0) Ze (?j)) (Za Ze (Za (Zag T.n_MOST_STUFF rfl) Zb rfl) rfl) rfl)))
 refine ⟨_,rfl,b,_,2,2,rfl,hb,by simp,by simp,true,rfl,iteF ?_⟩;refine ⟨_,rfl,b,_,0,_,rfl,rfl,SqT.of hb,rfl,l,0,9,rfl,l9.1,l9.2,true,rfl,iteT ?_⟩;exact ⟨_,rfl,b,_,1,_,rfl,rfl,SqT.of hb,rfl,m,1,9,rfl,m9.1,m9.2,q⟩
abbrev Zbe:Stmt:=top 36
theorem Zjs (F:Fun K "triangle" "triangle" Zbe f fd) (Ci_:a6_ P w K mg base):FnOk P w K mg base CX0 2 f fd ["corners","piece"] Zq6:=by
 have sc:FnScope ["corners","piece","first","second","third"] ["corners","piece"] (Zf Zbe):=fsc (?i);refine F.ok sc (fun vs H Q E h=>by obtain ⟨u,v,cs,p,rfl,_⟩:=h;rfl) ?B;obtain ⟨u,v,cs,p,rfl,⟨a,us,rfl,ha,al⟩,⟨b,rfl,hb⟩,hl,bd,nr,q⟩:=h;have nd:=sc.nd;refine' ?C
 case term=>refine' Zd (Ym (Y4 (N:=["number","corners"]) (fr:=[none,some 0]) rfl (Z3 (XN:=["corners","piece","first","second","third"]) (Scope.names (Zf Zbe)) rfl rfl rfl (fun _ h=>Zy h) (?i) rfl) (Yp (pv 1)) ?O ?K (fun _ _ _ _=>Zt (Zao K rfl) (pv 1) (pv 0) (?j))) (Zhn (n:=3) rfl (Zg (Zi (i:=2) nd rfl ?l) (Zg (Zi (i:=3) nd rfl ?l) (Zg (Zi (i:=4) nd rfl ?l) Zs))))) (Zd (Xv (Y6 Znq (Zj Ci_ hr ?e rfl (Za (pv 2) (Za (pv 3) (Za (pv 4) Zb rfl) rfl) rfl)) Ze (Y0 _)) (Zh (Zo (Zv (Za (pv 2) (Za (pv 4) (Za (pv 3) Zb rfl) rfl) rfl)))) Z9) (Zh (Zo (Zv (Za (pv 2) (Za (pv 3) (Za (pv 4) Zb rfl) rfl) rfl)))))
 refine ⟨_,rfl,b,rfl,⟨_,SqT.of hb⟩,fun D nD=>?_⟩;refine lc_T (k:=.t) (vs:=p.map V.int) IsP hRP (p.map (cAt cs)) ?f (by simp [hl]) nD hb (fun i w H2 C hw s2 c=>?_) (fun H2 us' s2 e2 a2=>?_)
 · rw [n4_] at hw;obtain ⟨x,ex,rfl⟩:=n12_.mp hw;obtain ⟨b1,b2⟩:=bd x (n6_ ex);obtain ⟨v,ev,rv⟩:=Zln al b1 b2;exact ⟨_,rfl,_,rfl,a,us,x,v,rfl,rfl,SqT.of (s2 _ _ ha),ev,c _ _ _ (Same.refl _) (by rw [n4_,ex];rfl) (rv.tk s2.tk)⟩
 · obtain ⟨x,y,z,rfl,rx,ry,rz⟩:=cs3 (al.imp fun v x r=>r.tk s2.tk) hl bd a2;have nx:=nr (cAt cs (p.getD 0 0)) (by obtain ⟨i,j,k,rfl⟩:=len3 hl;exact Yx (bd i ?f).1 (bd i ?f).2);have ny:=nr (cAt cs (p.getD 1 0)) (by obtain ⟨i,j,k,rfl⟩:=len3 hl;exact Yx (bd j ?f).1 (bd j ?f).2);have nz:=nr (cAt cs (p.getD 2 0)) (by obtain ⟨i,j,k,rfl⟩:=len3 hl;exact Yx (bd k ?f).1 (bd k ?f).2);refine ⟨D,_,rfl,SqL.of e2,rfl,x,_,rfl,y,_,rfl,z,_,rfl,rfl,?_⟩;refine ⟨_,rfl,_,rfl,_,rfl,x,y,z,_,_,_,rfl,rx,ry,rz,nx,ny,nz,_,_,rfl,rfl,_,rfl,?_⟩;refine ite2 (fun h=>?_) (fun h=>?_)
   · refine ⟨_,rfl,_,rfl,_,rfl,z3_,fun r nr'=>?_⟩;have s3:Same H2 (upd H2 r (.tup [x,z,y])):=Same.new nr';refine q _ _ (s2.trans s3) ?_;unfold trOf tri;rw [if_pos (n48_ h)];exact ⟨r,x,z,y,rfl,Zc,rx.tk s3.tk,rz.tk s3.tk,ry.tk s3.tk⟩
   · refine ⟨_,rfl,_,rfl,_,rfl,z3_,fun r nr'=>?_⟩;have s3:Same H2 (upd H2 r (.tup [x,y,z])):=Same.new nr';refine q _ _ (s2.trans s3) ?_;unfold trOf tri;rw [if_neg fun z=>h (n44_ z)];exact ⟨r,x,y,z,rfl,Zc,rx.tk s3.tk,ry.tk s3.tk,rz.tk s3.tk⟩
abbrev Ziy:Stmt:=top 37
theorem Zpm (F:Fun K "edges" "edges" Ziy f fd):FnOk P w K mg base CX0 1 f fd ["points"] Zko:=by
 have sc:FnScope ["points"] ["points"] (Zf Ziy):=fsc (?i);refine F.ok sc (fun vs H Q E h=>by obtain ⟨v,t,rfl,_⟩:=h;rfl) ?B;obtain ⟨v,t,rfl,⟨a,x,y,z,rfl,ha,rx,ry,rz⟩,q⟩:=h;refine' ?C
 case term=>refine' Zh ?g1;case g1=>refine' Zo ?g2;case g2=>refine' Zv ?g3;case g3=>refine' Za ?g4 ?g5 rfl;(case g4=>refine' Zv ?g6;case g6=>refine' Za (Zt Zq (pv 0) Ze (?j)) (Za (Zt Zq (pv 0) Ze (?j)) Zb rfl) rfl);case g5=>refine' Za ?g7 ?g8 rfl;(case g7=>refine' Zv ?g9;case g9=>refine' Za (Zt Zq (pv 0) Ze (?j)) (Za (Zt Zq (pv 0) Ze (?j)) Zb rfl) rfl);case g8=>refine' Za ?ga Zb rfl;case ga=>refine' Zv ?gb;case gb=>refine' Za (Zt Zq (pv 0) Ze (?j)) (Za (Zt Zq (pv 0) Ze (?j)) Zb rfl) rfl
 refine ⟨_,rfl,a,_,0,x,rfl,rfl,SqT.of ha,rfl,_,rfl,a,_,1,y,rfl,rfl,SqT.of ha,rfl,z2_,fun p np=>?_⟩;have s1:Same H (upd H p (.tup [x,y])):=Same.new np;generalize hH1:upd H p (.tup [x,y])=H1 at s1 ⊢;have e1:H1 p=some (.tup [x,y]):=by rw [← hH1];exact Zc
 refine ⟨_,rfl,a,_,1,y,rfl,rfl,SqT.of (s1 _ _ ha),rfl,_,rfl,a,_,2,z,rfl,rfl,SqT.of (s1 _ _ ha),rfl,z2_,fun p2 np2=>?_⟩;have s2:Same H1 (upd H1 p2 (.tup [y,z])):=Same.new np2;generalize hH2:upd H1 p2 (.tup [y,z])=H2 at s2 ⊢;have e2:H2 p2=some (.tup [y,z]):=by rw [← hH2];exact Zc
 have s12:=s1.trans s2;refine ⟨_,rfl,a,_,2,z,rfl,rfl,SqT.of (s12 _ _ ha),rfl,_,rfl,a,_,0,x,rfl,rfl,SqT.of (s12 _ _ ha),rfl,z2_,fun p3 np3=>?_⟩;have s3:Same H2 (upd H2 p3 (.tup [z,x])):=Same.new np3;generalize hH3:upd H2 p3 (.tup [z,x])=H3 at s3 ⊢;have e3:H3 p3=some (.tup [z,x]):=by rw [← hH3];exact Zc
 refine ⟨z3_,fun p4 np4=>?_⟩;have s4:Same H3 (upd H3 p4 (.tup [.ref p,.ref p2,.ref p3])):=Same.new np4;have t4:=(s12.trans (s3.trans s4)).tk;refine q _ _ (s12.trans (s3.trans s4)) ⟨p4,_,rfl,Zc,.cons ⟨p,x,y,rfl,s4 _ _ (s3 _ _ (s2 _ _ e1)),rx.tk t4,ry.tk t4⟩ (.cons ⟨p2,y,z,rfl,s4 _ _ (s3 _ _ e2),ry.tk t4,rz.tk t4⟩ (.cons ⟨p3,z,x,rfl,s4 _ _ e3,rz.tk t4,rx.tk t4⟩ .nil))⟩
abbrev Zb3:Stmt:=top 38
theorem Zlq (F:Fun K "lies_in" "lies_in" Zb3 f fd) (Cw_:a11_ P w K mg base) (Ci_:a6_ P w K mg base):FnOk P w K mg base CX0 2 f fd ["point","points"] Zik:=by
 have sc:FnScope ["point","points"] ["point","points"] (Zf Zb3):=fsc (?i);refine F.ok sc (fun vs H Q E h=>by obtain ⟨u,v,p,t,rfl,_⟩:=h;rfl) ?B;obtain ⟨u,v,p,t,rfl,hp,ht,np,nt,q⟩:=h;refine' ?C
 case term=>refine' Zh (Zo (Zl (Yo rfl) rfl T.b_all Za0 (Za (Y4 (g:=?R) (N:=["one","other","point"]) (fr:=[none,none,some 0]) rfl (Z3 (XN:=["point","points"]) (Scope.names (Zf Zb3)) rfl rfl rfl (fun _ h=>Zy h) (?i) rfl) (Yp (Zj Cw_ hr ?e rfl ?M)) ?S ?K (fun _ _ _ _=>Zac Zwy (Zj Ci_ hr ?e rfl (Za (pv 0) (Za (pv 1) (Za (pv 2) Zb rfl) rfl) rfl)) Ze (Y0 _))) Zb rfl)))
 refine ⟨_,rfl,v,t,rfl,ht,fun H1 w s1 hw=>?_⟩;obtain ⟨a,vs,rfl,ha,al⟩:=hw;have hl:vs.length=3:=al.1;refine ⟨a,rfl,⟨_,SqT.of ha⟩,fun D nD=>?_⟩;refine Zl5 (k:=.t) (vs:=vs) RB hRB (t.edges.map fun e=>decide (0≤tn e.1 e.2 p)) (by simp [hl,Tri.edges]) (?d) nD ha (prs al) (fun i p' x y H2 C hw hp' s2 c=>?_) (fun H2 us' s2 e2 a2=>?_)
 · obtain ⟨e,ee,rx,ry⟩:=pr1 al hw hp';obtain ⟨n1,n2⟩:=Zhi nt (n6_ ee);exact ⟨_,rfl,_,rfl,_,rfl,x,y,u,e.1,e.2,p,rfl,rx.tk s2.tk,ry.tk s2.tk,hp.tk (s1.trans s2).tk,n1,n2,np,_,_,rfl,rfl,c _ _ _ (Same.refl _) (by rw [n4_,ee];rfl) rfl⟩
 · rw [a2.bls] at e2;exact ⟨D,_,rfl,SqL.of e2,q _ (s1.trans s2)⟩
abbrev Xx:Stmt:=top 39
theorem Zg4 (F:Fun K "parts_from" "parts_from" Xx f fd) (Cw_:a11_ P w K mg base) (Ci_:a6_ P w K mg base):FnOk P w K mg base CX0 2 f fd ["points","others"] Zcs:=by
 have sc:FnScope ["points","others","one","other"] ["points","others"] (Zf Xx):=fsc (?i);refine F.ok sc (fun vs H Q E h=>by obtain ⟨u,v,t,r,rfl,_⟩:=h;rfl) ?B;obtain ⟨u,v,t,r,rfl,ht,hr',nt,nr,q⟩:=h;have nd:=sc.nd;refine' ?C
 case term=>refine' Zd ?g1 (Zh (Zo Za6));case g1=>refine' Yu PassesOwn.never rfl (Yp (Zj Cw_ hr ?e rfl ?L)) (Z0 (n:=2) rfl (Zg (Zi (i:=2) nd rfl (Or.inr rfl)) (Zg (Zi (i:=3) nd rfl (Or.inr rfl)) Zs))) ?g2;case g2=>refine' Zh ?g3;case g3=>refine' Xv ?g4 (Zh (Zo Za6)) Z9;case g4=>refine' Z2 (Zl (Yo rfl) rfl T.b_all Za0 (Za (Y4 (N:=["point","one","other"]) (fr:=[none,some 2,some 3]) rfl (Z3 (XN:=["points","others","one","other"]) (Scope.names (Zf Xx)) rfl rfl rfl (fun _ h=>Zy h) (?i) rfl) (Yp (pv 1)) ?O ?K (fun _ _ _ _=>Zac Zoc (Zj Ci_ hr ?e rfl (Za (pv 1) (Za (pv 2) ?L rfl) rfl)) Ze (Y0 _))) Zb rfl)) (fun _=>rfl)
 refine ⟨_,rfl,u,t,rfl,ht,fun H1 w s1 hw=>?_⟩;obtain ⟨a,vs,rfl,ha,al⟩:=hw;have hl:vs.length=3:=al.1;have hel:t.edges.length=3:=rfl;refine ⟨a,rfl,⟨_,SqT.of ha⟩,?_⟩;refine Yk (n:=3) (fun i σ H2=>Same H1 H2∧(∃ x y,σ=[some u,some v,x,y])∧((t.edges.take i).any fun e=>Zdx e r)=false) ⟨Same.refl _,⟨_,_,rfl⟩,rfl⟩ (fun i σ H2 hi p=>⟨vs,vs[i]'(?d),SqT.of (p.1 _ _ ha),n1_ (?d)⟩) (fun σ H2 p=>⟨vs,SqT.of (p.1 _ _ ha),?d⟩) (fun i x σ H2 H3 hi y p=>?_) (fun σ H2 p=>?_)
 · obtain ⟨s2,⟨u1,u2,rfl⟩,no⟩:=p;obtain ⟨rfl,y2⟩:=y;have ex:=y2 vs (SqT.of (s2 _ _ ha));obtain ⟨p',x1,y1,rfl,hp'⟩:=prs al i x ex;obtain ⟨e,ee,rx,ry⟩:=pr1 al ex hp';obtain ⟨n1,n2⟩:=Zhi nt (n6_ ee);refine ⟨p',_,rfl,SqT.of (s2 _ _ hp'),rfl,x1,_,rfl,y1,_,rfl,rfl,?_⟩;obtain ⟨b,ws,rfl,hb,hl2,bl⟩:=Zu6 hr';have s02:=s1.trans s2;refine ⟨_,rfl,b,rfl,⟨_,SqT.of (s02 _ _ hb)⟩,fun D nD=>?_⟩;refine lc_T (k:=.t) (vs:=ws) RB hRB (r.pts.map fun q=>decide (tn e.1 e.2 q≤0)) (by simp [hl2,Tri.pts]) (?d) nD (s02 _ _ hb) (fun j w H4 C hw s4 c=>?_) (fun H4 us' s4 e4 a4=>?_)
   · obtain ⟨g,eg,rg⟩:=bl.get hw;have tk4:=(s2.trans s4).tk;exact ⟨_,rfl,_,rfl,_,rfl,x1,y1,w,e.1,e.2,g,rfl,rx.tk tk4,ry.tk tk4,rg.tk (s02.trans s4).tk,n1,n2,Zss nr (n6_ eg),_,_,rfl,rfl,c _ _ _ (Same.refl _) (by rw [n4_,eg];rfl) rfl⟩
   · rw [a4.bls] at e4;refine ⟨D,_,rfl,SqL.of e4,_,rfl,ite2 (fun h=>?_) (fun h=>?_)⟩
     · have:Xb t r=true:=List.any_eq_true.mpr ⟨e,n6_ ee,h⟩
       rw [this] at q;exact q _ (s02.trans s4)
     · refine ⟨s2.trans s4,⟨_,_,rfl⟩,?_⟩;have hi':i<t.edges.length:=?d
       rw [n60_,ee,List.any_append,no]
       have:Zdx e r=false:=Bool.eq_false_iff.mpr h
       simp [this]
 · obtain ⟨s2,⟨u1,u2,rfl⟩,no⟩:=p
   have:Xb t r=false:=no
   rw [this] at q;exact q _ (s1.trans s2)
abbrev Zbp:Stmt:=top 40
theorem Zhx (F:Fun K "are_apart" "are_apart" Zbp f fd) (Cq_:a12_ P w K mg base):FnOk P w K mg base CX0 3 f fd ["points","others"] Zk4:=by
 have sc:FnScope ["points","others"] ["points","others"] (Zf Zbp):=fsc (?i);refine F.ok sc (fun vs H Q E h=>by obtain ⟨u,v,t,r,rfl,_⟩:=h;rfl) ?B;obtain ⟨u,v,t,r,rfl,ht,hr',nt,nr,q⟩:=h;refine' ?C
 case term=>refine' Zh (Zo (Zwh (Zj Cq_ hr ?e rfl (Za (pv 0) ?M rfl)) (Zbz (Zj Cq_ hr ?e rfl (Za (pv 1) ?L rfl)))))
 refine ⟨_,rfl,_,rfl,u,v,t,r,rfl,ht,hr',nt,nr,fun H1 s1=>⟨_,rfl,ite2 (fun h=>?_) (fun h=>?_)⟩⟩
 · rw [show L2.apart t r=true by unfold L2.apart;rw [h];rfl] at q;exact q _ s1
 · rw [show L2.apart t r=Xb r t by unfold L2.apart;rw [show Xb t r=false by simpa using h];rfl] at q;exact ⟨_,rfl,_,rfl,v,u,r,t,rfl,hr'.tk s1.tk,ht.tk s1.tk,nr,nt,fun H2 s2=>q _ (s1.trans s2)⟩
abbrev Yl:Stmt:=top 41
theorem Zaq (F:Fun K "every_corner_is_used" "every_corner_is_used" Yl f fd):FnOk P w K mg base CX0 2 f fd ["corners","pieces"] Zmg:=by
 have sc:FnScope ["corners","pieces"] ["corners","pieces"] (Zf Yl):=fsc (?i);refine F.ok sc (fun vs H Q E h=>by obtain ⟨u,v,cs,ps,rfl,_⟩:=h;rfl) ?B;obtain ⟨u,v,cs,ps,rfl,⟨a,us,rfl,ha,al⟩,⟨b,ws,rfl,hb,bl⟩,h3,p40,cnt,c30,q⟩:=h;refine' ?C
 case term=>refine' Zh (Zo (Zac Znv (Zl Znl rfl T.b_len Yr (Za (Zv1 (N:=["piece","number"]) (fr:=[none,none]) rfl (Yc ?e rfl ?e rfl rfl) (Yp (pv 1)) ?O (fun _ _ _ _=>Zov K rfl (pv 0)) (fun _ _ _ _=>pgB 1) (fun _ _ _ _=>pv 1)) Zb rfl)) (Zl Zr rfl T.b_len Yr ?L) (Y0 _)))
 have hl:=al.1
 have fl:∀ l:List (?g),(∀ p∈l,p.length=3)→l.flatten.length=3*l.length:=by
  intro l
  induction l with
  | nil=>intro _;rfl
  | cons x l ih =>
    intro h;rw [List.flatten_cons,n30_,ih fun p hp=>h p (n17_ _ hp),h x n24_,n21_];omega
 refine ⟨_,rfl,b,rfl,⟨_,SqT.of hb⟩,fun D nD=>?_⟩;refine Zr9 hb bl (by rw [fl ps h3];omega) nD (fun S=>?_);have s1:Same H (upd H D (.set S (cntS ps.flatten))):=Same.new nD;refine ⟨D,S,_,rfl,Zc,_,rfl,a,us,rfl,.inr (SqT.of (s1 _ _ ha)),rfl,?_⟩;have e:V.int (cntS ps.flatten:Nat)=V.int us.length:=by rw [cnt,hl]
 exact qT e (q _ s1)
abbrev Z5:Stmt:=top 42
theorem Zbj (F:Fun K "no_strange_corner" "no_strange_corner" Z5 f fd) (Ca5_:a13_ P w K mg base):FnOk P w K mg base CX0 3 f fd ["corners","piece","points"] Ze2:=by
 have sc:FnScope ["corners","piece","points","strange"] ["corners","piece","points"] (Zf Z5):=fsc (?i);refine F.ok sc (fun vs H Q E h=>by obtain ⟨u,v,w,cs,p,t,rfl,_⟩:=h;rfl) ?B;obtain ⟨u,v,w,cs,p,t,rfl,⟨a,us,rfl,ha,al⟩,⟨b,rfl,hb⟩,ht,c30,nr,nt,no,q⟩:=h;have nd:=sc.nd;refine' ?C
 case term=>refine' Zd (Zco (g:=?R) (N:=["number","corner","piece"]) (fr:=[none,none,some 1]) rfl rfl (Zi (i:=3) nd rfl ?l) (Z3 (XN:=["corners","piece","points","strange"]) (Scope.names (Zf Z5)) rfl rfl rfl (fun _ h=>Zy h) (?i) rfl) (Zf1 .t rfl T.b_enumerate ?L) ?S (fun _ _ _ _=>Zg3 (Y6 (Zf2 K rfl) (pv 0) (pv 2) rfl)) (fun _ _ _ _=>pv 1)) (Zh (Zo (Zrs (Zl (Zmv rfl) rfl T.b_any Zup (Za (Y4 (N:=["corner","points"]) (fr:=[none,some 2]) rfl (Z3 (XN:=["corners","piece","points","strange"]) (Scope.names (Zf Z5)) rfl rfl rfl (fun _ h=>Zy h) (?i) rfl) (Yh (pv 3)) ?O ?K (fun _ _ _ _=>Zj Ca5_ hr ?e rfl (Za (pv 0) ?M rfl))) Zb rfl)))))
 have hl:=al.1;refine ⟨_,rfl,a,rfl,⟨_,SqT.of ha⟩,fun D nD=>?_⟩;refine lc_E (k:=.t) (vs:=us) IsP hRP (fun i=>if (i:Int)∈p then none else cs[i]?) (?d) nD ha (fun i x H2 C N hx s2 c n=>?_) (fun H2 us' s2 e2 a2=>?_)
 · obtain ⟨g,eg,rg⟩:=al.get hx;refine ⟨_,rfl,_,rfl,b,_,rfl,.inr (SqT.of (s2 _ _ hb)),rfl,by rw [List.all_map];exact n49_.mpr ?j,_,rfl,?_⟩;rw [Zg2]
   by_cases hm:(i:Int)∈p
   · rw [n44_ hm];exact iteF (n _ (Same.refl _) (by rw [if_pos hm]))
   · rw [n29_ hm];exact iteT ⟨_,rfl,c _ _ g (Same.refl _) (by rw [if_neg hm];exact eg) (rg.tk s2.tk)⟩
 · generalize hst:(List.range us.length).filterMap (fun i:Nat=>if (i:Int)∈p then none else cs[i]?)=st at a2
   have hst2:∀ g∈st,near g∧Zb4 g t=false:=by
    intro g hg;rw [← hst] at hg;obtain ⟨i,hi,e⟩:=List.mem_filterMap.mp hg;have hi:=n42_.mp hi;split at e
    · cases e
    · rename_i hm
      have:=no i (?d) hm
      rw [n5_,e] at this;exact ⟨nr g (n6_ e),this⟩
   have hl3:st.length≤us.length:=by
    rw [← hst]
    have:=List.length_filterMap_le (fun i:Nat=>if (i:Int)∈p then none else cs[i]?) (List.range us.length)
    rwa [n66_] at this
   have l2:=a2.1;refine ⟨_,rfl,D,rfl,⟨_,SqL.of e2⟩,fun E nE=>?_⟩;refine lc_T (k:=.l) (vs:=us') RB hRB (st.map fun g=>Zb4 g t) (by simp [l2]) (?d) nE e2 (fun j x H4 C hx s4 c=>?_) (fun H4 us'' s4 e4 a4=>?_)
   · obtain ⟨g,eg,rg⟩:=a2.get hx;exact ⟨_,rfl,_,rfl,x,w,g,t,rfl,rg.tk s4.tk,ht.tk (s2.trans s4).tk,(hst2 g (n6_ eg)).1,nt,fun H5 s5=>c _ _ _ s5 (by rw [n4_,eg];rfl) rfl⟩
   · rw [a4.bls] at e4;refine ⟨E,_,rfl,SqL.of e4,false,by rw [anyM fun g hg=>(hst2 g hg).2],?_⟩;exact q _ (s2.trans s4)
abbrev Yv:Stmt:=top 43
theorem Zdu (F:Fun K "fit_together" "fit_together" Yv f fd) (Cap_:a14_ P w K mg base) (Cn_:a15_ P w K mg base) (Cav_:a16_ P w K mg base):FnOk P w K mg base CX0 4 f fd ["corners","pieces"] Zqx:=by
 have sc:FnScope ["corners","pieces","triangles","at","piece","points"] ["corners","pieces"] (Zf Yv):=fsc (?i);refine F.ok sc (fun vs H Q E h=>by obtain ⟨u,v,cs,ps,rfl,_⟩:=h;rfl) ?B;obtain ⟨u,v,cs,ps,rfl,hc,⟨b,ws,rfl,hb,bl⟩,ok,q⟩:=h;have nd:=sc.nd;refine' ?C
 case term=>refine' Zd (Zco (N:=["piece","corners"]) (fr:=[none,some 0]) rfl rfl (Zi (i:=2) nd rfl ?l) (Z3 (XN:=["corners","pieces","triangles","at","piece","points"]) (Scope.names (Zf Yv)) rfl rfl rfl (fun _ h=>Zy h) (?i) rfl) (Yp (pv 1)) ?O ?K (fun _ _ _ _=>Zj Cav_ hr ?e rfl (Za (pv 1) ?L rfl))) ?g1;case g1=>refine' Zd ?g2 (Zh (Zo Za6));case g2=>refine' Yu PassesOwn.never rfl (Zlr .t .l rfl T.b_enumerate rfl T.b_zip (Za (pv 1) (Za (pv 2) Zb rfl) rfl)) (Z0 (n:=2) rfl (Zg (Zi (i:=3) nd rfl ?l) (Zg (Z0 (n:=2) rfl (Zg (Zi (i:=4) nd rfl ?l) (Zg (Zi (i:=5) nd rfl (Or.inr rfl)) Zs))) Zs))) ?g3;case g3=>refine' Zd (Xv (Yz (Z2 (Zj Cn_ hr ?e rfl (Za (pv 0) (Za (pv 4) (Za (pv 5) Zb rfl) rfl) rfl)) (fun _=>rfl))) (Zh (Zo Za6)) Z9) ?g4;case g4=>refine' Zh ?g5;case g5=>refine' Xv ?g6 (Zh (Zo Za6)) Z9;case g6=>refine' Yz ?g7;case g7=>refine' Z2 (Zl (Yo rfl) rfl T.b_all Za0 (Za (Y4 (N:=["others","points"]) (fr:=[none,some 5]) rfl (Z3 (XN:=["corners","pieces","triangles","at","piece","points"]) (Scope.names (Zf Yv)) rfl rfl rfl (fun _ h=>Zy h) (?i) rfl) (Yh (Zb0 Zi8 (pv 2) Zdi (Zd8 (pv 3)))) ?O ?K (fun _ _ _ _=>Zj Cap_ hr ?e rfl (Za (pv 1) ?L rfl))) Zb rfl)) (fun _=>rfl)
 have hl:=bl.1;have p40:=ok.p40;refine ⟨_,rfl,b,rfl,⟨_,SqT.of hb⟩,fun D nD=>?_⟩;refine lc_T (k:=.t) (vs:=ws) IsT hRT (ps.map (trOf cs)) (by simp [hl]) (?d) nD hb (fun i w H2 C hw s2 c=>?_) (fun H2 us' s2 e2 a2=>?_)
 · obtain ⟨p,ep,rp⟩:=bl.get hw;have pk:=ok.pc p (n6_ ep);exact ⟨_,rfl,_,rfl,u,w,cs,p,rfl,hc.tk s2.tk,rp.tk s2.tk,pk.len,pk.bd,ok.nr,fun H5 w5 s5 h5=>c _ _ _ s5 (by rw [n4_,ep];rfl) h5⟩
 · have l2:=a2.1;rw [n7_] at l2;have hb2:=s2 _ _ hb;refine ⟨_,rfl,_,rfl,b,D,rfl,⟨_,SqT.of hb2⟩,⟨_,SqL.of e2⟩,?_⟩;refine Yk (n:=ps.length) (fun i σ H3=>Same H2 H3∧∃ x y z,σ=[some u,some (.ref b),some (.ref D),x,y,z]) ⟨Same.refl _,_,_,_,rfl⟩ (fun i σ H3 hi p=>⟨ws,us',ws[i]'(?d),us'[i]'(?d),SqT.of (p.1 _ _ hb2),SqL.of (p.1 _ _ e2),n1_ (?d),n1_ (?d)⟩) (fun σ H3 p=>⟨ws,us',SqT.of (p.1 _ _ hb2),SqL.of (p.1 _ _ e2),?d⟩) (fun i x σ H3 H4 hi y p=>?_) (fun σ H3 p=>?_)
   · obtain ⟨s3,x1,x2,x3,rfl⟩:=p;obtain ⟨p1,p2,x,y,rfl,n1,n2,ne,rfl,y1,y2⟩:=y;have ex:=y1 ws (SqT.of (s3 _ _ hb2));have ey:=y2 us' (SqL.of (s3 _ _ e2));have sa:Same H3 (upd H3 p1 (.tup [x,y])):=Same.new n1;have sb:Same (upd H3 p1 (.tup [x,y])) (upd (upd H3 p1 (.tup [x,y])) p2 (.tup [.int i,.ref p1])):=Same.new (by rw [Zk ne.symm];exact n2);have e5:upd (upd H3 p1 (.tup [x,y])) p2 (.tup [.int i,.ref p1]) p1=some (.tup [x,y]):=sb _ _ Zc;have e6:upd (upd H3 p1 (.tup [x,y])) p2 (.tup [.int i,.ref p1]) p2=some (.tup [.int i,.ref p1]):=Zc;have s4:=s3.trans (sa.trans sb);generalize upd (upd H3 p1 (.tup [x,y])) p2 (.tup [.int i,.ref p1])=H4 at s4 e5 e6;obtain ⟨p,ep,rp⟩:=bl.get ex;obtain ⟨t,et,rt'⟩:=a2.get ey;rw [n4_,ep] at et;cases et
     have pk:=ok.pc p (n6_ ep);have tn':=Zib pk.bd pk.len ok.nr;have gp:ps.getD i []=p:=by rw [n5_,ep];rfl
     refine ⟨p2,_,rfl,SqT.of e6,rfl,_,_,rfl,_,_,rfl,⟨p1,_,rfl,SqT.of e5,rfl,x,_,rfl,y,_,rfl,rfl,rfl,?_⟩⟩;have s04:=s2.trans s4;refine ⟨_,rfl,_,rfl,_,rfl,u,x,y,cs,p,_,rfl,hc.tk s04.tk,rp.tk s04.tk,rt'.tk s4.tk,ok.c30,ok.nr,tn',ok.strange p (n6_ ep),fun H5 s5=>⟨true,rfl,iteF ?_⟩⟩;have s45:=s4.trans s5;refine ⟨_,rfl,_,rfl,_,rfl,D,us',rfl,SqL.of (s45 _ _ e2),fun r nr'=>?_⟩;have s6:Same H5 (upd H5 r (.lst (us'.take i))):=Same.new nr';rw [Zuf _ _ (?d)];have e7:upd H5 r (.lst (us'.take i)) r=some (.lst (us'.take i)):=Zc;generalize upd H5 r (.lst (us'.take i))=H6 at s6 e7 ⊢;refine ⟨r,rfl,⟨_,SqL.of e7⟩,fun E nE=>?_⟩;have s46:=s45.trans s6;refine lc_T (k:=.l) (vs:=us'.take i) RB hRB (List.replicate i true) (by simp;omega) (by simp;omega) nE e7 (fun j w H8 C hw s8 c=>?_) (fun H8 us'' s8 e8 a8=>?_)
     · have hj:j<i:=by
        have:=Y7 hw
        rw [n43_] at this;omega
       rw [List.getElem?_take_of_lt hj] at hw;obtain ⟨t2,et2,rt2⟩:=a2.get hw;rw [n4_] at et2;obtain ⟨p',ep',rfl⟩:=n12_.mp et2;have pk':=ok.pc p' (n6_ ep');have gp':ps.getD j []=p':=by rw [n5_,ep'];rfl
       have ap:=ok.apart j i hj hi;rw [gp,gp'] at ap;have s48:=s46.trans s8;refine ⟨_,rfl,_,rfl,y,w,_,_,rfl,rt'.tk s48.tk,rt2.tk s48.tk,tn',Zib pk'.bd pk'.len ok.nr,fun H9 s9=>c _ _ true s9 (repT hj) (congrArg V.bl ap)⟩
     · rw [a8.bls] at e8;refine ⟨E,_,rfl,SqL.of e8,true,by rw [allT];rfl,iteF ?_⟩;exact ⟨s46.trans s8,_,_,_,rfl⟩
   · obtain ⟨s3,x1,x2,x3,rfl⟩:=p;exact q _ (s2.trans s3)
abbrev Zcl:Stmt:=top 44
theorem Zi0 (F:Fun K "is_plate" "is_plate" Zcl f fd) (Cab_:a17_ P w K mg base) (Cah_:a18_ P w K mg base) (Cai_:a19_ P w K mg base) (Cl_:a20_ P w K mg base) (Cx_:a21_ P w K mg base) (Cc_:a4_ P w K mg base) (Caw_:a22_ P w K mg base):FnOk P w K mg base CX0 5 f fd ["thing"] Zev:=by
 have sc:FnScope ["thing","corners","pieces","thicks","stuff"] ["thing"] (Zf Zcl):=fsc (?i);refine F.ok sc (fun vs H Q E h=>by obtain ⟨v,P',rfl,_⟩:=h;rfl) ?B;obtain ⟨v,P',rfl,⟨a,c,p,t,st,rfl,ha,hc,hp,ht,hs⟩,ok,q⟩:=h;have nd:=sc.nd;refine' ?C
 case term=>refine' Zd (Xv (Yz (Z2 (Zj Cc_ hr ?e rfl (Za (pv 0) (Za Ze ?J rfl) rfl)) (fun _=>rfl))) (Zh (Zo Za6)) Z9) ?g1;case g1=>refine' Zd (Ym (pv 0) (Z0 (n:=4) rfl (Zg (Zi (i:=1) nd rfl ?l) (Zg (Zi (i:=2) nd rfl ?l) (Zg (Zi (i:=3) nd rfl ?l) (Zg (Zi (i:=4) nd rfl ?l) Zs)))))) ?g2;case g2=>refine' Zd ?g3 ?g4;(case g3=>refine' Xv ?g5 (Zh (Zo Za6)) Z9;case g5=>refine' PW.pt ?g6;case g6=>refine' Zlu (Yz (Z2 (Zj Cab_ hr ?e rfl ?M) (fun _=>rfl))) (Ze5 (Yz (Z2 (Zj Cah_ hr ?e rfl (Za (pv 1) (Za (pv 2) Zb rfl) rfl)) (fun _=>rfl)))));case g4=>refine' Zd ?g7 (Zh (Zo (Zc2 (Zj Cl_ hr ?e rfl (Za (pv 1) (Za (pv 2) Zb rfl) rfl)) (Zbz (Zj Cx_ hr ?e rfl (Za (pv 1) (Za (pv 2) Zb rfl) rfl))))));case g7=>refine' Xv ?g8 (Zh (Zo Za6)) Z9;case g8=>refine' PW.pt ?g9;case g9=>refine' Zlu (Yz (Z2 (Zj Cai_ hr ?e rfl (Za (pv 2) (Za (pv 3) Zb rfl) rfl)) (fun _=>rfl))) (Ze5 (Yz (Z2 (Zj Caw_ hr ?e rfl (Za (pv 4) Zb rfl)) (fun _=>rfl))))
 refine ⟨_,rfl,a,_,4,4,rfl,ha,by simp,by simp,true,rfl,iteF ?_⟩;refine ⟨_,rfl,a,_,rfl,SqT.of ha,rfl,c,_,rfl,p,_,rfl,t,_,rfl,st,_,rfl,rfl,?_⟩;refine ⟨_,rfl,c,P'.cs,rfl,hc,ok.c3,ok.c30,ok.nr,ok.nd,fun H1 s1=>⟨true,rfl,iteF ?_⟩⟩;refine ⟨_,rfl,_,rfl,c,p,P'.cs,P'.ps,rfl,hc.tk s1.tk,hp.tk s1.tk,ok.p1,ok.p40,ok.pc,ok.rise,ok.nr,fun H2 s2=>⟨true,rfl,iteF ?_⟩⟩;have s12:=s1.trans s2;refine ⟨_,rfl,_,rfl,p,t,P'.ps,P'.ts,rfl,hp.tk s12.tk,ht.tk s12.tk,ok.t1,ok.p40,ok.t9,fun H3 s3=>⟨true,rfl,iteF ?_⟩⟩;have s13:=s12.trans s3;refine ⟨_,rfl,st,P'.l,P'.m,rfl,hs.tk s13.tk,ok.l9,ok.m9,true,rfl,iteF ?_⟩;refine ⟨_,rfl,_,rfl,c,p,P'.cs,P'.ps,rfl,hc.tk s13.tk,hp.tk s13.tk,fun x hx=>(ok.pc x hx).len,ok.p40,ok.used,ok.c30,fun H4 s4=>⟨true,rfl,iteT ?_⟩⟩;have s14:=s13.trans s4;exact ⟨_,rfl,_,rfl,c,p,P'.cs,P'.ps,rfl,hc.tk s14.tk,hp.tk s14.tk,⟨ok.c30,ok.nr,ok.p40,ok.pc,ok.strange,ok.apart⟩,fun H5 s5=>q _ (s14.trans s5)⟩
abbrev Xq:Stmt:=top 45
theorem Zc6 (F:Fun K "look_at_plate" "look_at_plate" Xq f fd) (Cax_:a23_ P w K mg base):FnOk P w K mg base CX0 6 f fd ["plate"] Zcu:=by
 have sc:FnScope ["plate"] ["plate"] (Zf Xq):=fsc (?i);refine F.ok sc (fun vs H Q E h=>by obtain ⟨v,P',rfl,_⟩:=h;rfl) ?B;obtain ⟨v,P',rfl,hv,ok,q⟩:=h;refine' ?C
 case term=>refine' Zh (Xv (Yz (Z2 (Zj Cax_ hr ?e rfl ?L) (fun _=>rfl))) Zdl Z9)
 exact ⟨_,rfl,v,P',rfl,hv,ok,fun H1 s1=>⟨true,rfl,iteF (q _ s1)⟩⟩
abbrev Zcn:Stmt:=top 14
theorem Zi4 (F:Fun K "multiple" "multiple" Zcn f fd) (Co_:a1_ P w K mg base):FnOk P w K mg base CX0 3 f fd ["bottoms"] Zj1:=by
 have sc:FnScope ["bottoms","many","bottom"] ["bottoms"] (Zf Zcn):=fsc (?i);refine F.ok sc (fun vs H Q E h=>by obtain ⟨l,ds,k,rfl,_⟩:=h;rfl) ?B;obtain ⟨l,ds,k,rfl,hl,hd,h39,hk39,q⟩:=h;have nd:=sc.nd;refine' ?C
 case term=>refine' Zd (Zx (i:=1) nd rfl ?l Ze) (Zd (Yu PassesOwn.never rfl (Yh (pv 0)) (Zi (i:=2) nd rfl ?l) (Zh (Zx (i:=1) nd rfl ?l (Zn Zp (Zn Xh (pv 1) (Zj Co_ hr ?e rfl (Za (pv 1) (Za (pv 2) Zb rfl) rfl))) (pv 2))))) (Zh (Zo (pv 1))))
 refine ⟨_,rfl,l,rfl,⟨_,SqL.of hl⟩,?_⟩;refine Yk (n:=ds.length) (fun i σ H2=>H2=H∧∃ (m:Int) (x:Option V),σ=[some (.ref l),some (.int m),x]∧0<m∧(∀ x∈ds.take i,x∣m)∧m.natAbs<2^(k*i+1)) ⟨rfl,1,_,rfl,?t,by simp,by rw [Nat.mul_zero];decide⟩ (fun i σ H2 hi p=>⟨_,V.int ds[i],SqL.of (p.1 ▸ hl),by simp [hi]⟩) (fun σ H2 p=>⟨_,SqL.of (p.1 ▸ hl),by simp⟩) (fun i x σ H2 H3 hi y p=>?_) (fun σ H2 p=>?_)
 · obtain ⟨rfl,m,x',rfl,hm,dv,sz⟩:=p;obtain ⟨rfl,y2⟩:=y;have ex:=y2 _ (SqL.of hl);rw [n4_,n1_ hi] at ex;cases ex
   obtain ⟨b0,b64⟩:=hd ds[i] (n28_ hi);obtain ⟨l1,l2,l3,l4⟩:=Zqr hm b0;have hg:=FM.gcd_ne (t:=m) (b:=ds[i]) (?d);have gz:(Int.gcd m ds[i])<2^k:=n10_ (Nat.gcd_le_right _ (?d)) b64;have sz2:(m.fdiv (Int.gcd m ds[i]:Int)).natAbs<2^(k*i+1):=n10_ l4 sz;have ki:k*i≤3900:=n36_ (Nat.mul_le_mul_left k (Nat.le_of_lt hi)) h39;refine ⟨_,rfl,_,rfl,_,rfl,m,ds[i],rfl,up 4000 b64 (?d),_,_,rfl,rfl,⟨hg,up 8999 gz (?d)⟩,_,rfl,_,_,rfl,rfl,⟨up 1000000 sz2 (?d),up 1000000 b64 (?d)⟩,?_⟩;refine ⟨rfl,_,_,rfl,l1,fun x hx=>?_,?_⟩
   · rw [n69_ hi] at hx
     rcases n39_.mp hx with h|h
     · exact Int.dvd_trans (dv x h) l2
     · rw [n22_.mp h];exact l3
   · exact n9_ (FM.natAbs_mul_lt sz2 b64) (n23_ ?e (by rw [Nat.mul_add];omega))
 · obtain ⟨rfl,m,x',rfl,hm,dv,sz⟩:=p;rw [n37_ (n11_ _)] at dv;exact ⟨_,rfl,q m hm dv sz⟩
abbrev Zah:Stmt:=top 16
theorem Zij (F:Fun K "levelled" "levelled" Zah f fd) (Cay_:a24_ P w K mg base):FnOk P w K mg base CX0 4 f fd ["parts"] Znz:=by
 have sc:FnScope ["parts","many"] ["parts"] (Zf Zah):=fsc (?i);refine F.ok sc (fun vs H Q E h=>by obtain ⟨l,us,ps,k,rfl,_⟩:=h;rfl) ?B;obtain ⟨l,us,ps,k,rfl,hl,al,hB,h39,hk39,h1000,q⟩:=h;have nd:=sc.nd;refine' ?C
 case term=>refine' Zd (Zx (i:=1) nd rfl (Or.inr rfl) (Zj Cay_ hr ?e rfl (Za (Y4 (g:=?R) (N:=["top","bottom"]) (fr:=[none,none]) rfl (Yc ?e rfl ?e rfl rfl) (Yh (pv 0)) ?S ?K (fun _ _ _ _=>pv 1)) Zb rfl))) (Zh (Zo (Zv (Za (Y4 (g:=?R) (N:=["top","bottom","many"]) (fr:=[none,none,some 1]) rfl (Z3 (XN:=["parts","many"]) (Scope.names (Zf Zah)) rfl rfl rfl (fun _ h=>Zy h) (?i) rfl) (Yh (pv 0)) ?S ?K (fun _ _ _ _=>Zn Zp (pv 0) (Zn Xh (pv 2) (pv 1)))) ?M rfl))))
 have hl2:=al.1;refine ⟨_,rfl,l,rfl,⟨_,SqL.of hl⟩,fun D nD=>?_⟩;refine Zl5 (k:=.l) (vs:=us) RI hRI (ps.map fun x=>x.2) (by simp [hl2]) (?d) nD hl (Zqw al) (fun i p x y H2 C hw hp s2 c=>?_) (fun H2 us' s2 e2 a2=>?_)
 · obtain ⟨x',ex,rfl,rfl⟩:=Zvh al hw hp;exact ⟨_,rfl,c _ _ _ (Same.refl _) (by rw [n4_,ex];rfl) rfl⟩
 · rw [a2.ints] at e2;refine ⟨D,_,k,rfl,e2,fun x hx=>?_,by rw [n7_];exact h39,hk39,fun m hm dv sz=>?_⟩
   · obtain ⟨x',hx',rfl⟩:=n25_.mp hx;exact (hB x' hx').1
   · rw [n7_] at sz;have dv':∀ p∈ps,p.2∣m:=fun x hx=>dv _ (n25_.mpr ⟨x,hx,rfl⟩);refine ⟨_,rfl,l,rfl,⟨_,SqL.of (s2 _ _ hl)⟩,fun E nE=>?_⟩;have al2:Al (IsP H2) us ps:=al.imp fun v x r=>r.tk s2.tk;refine Zl5 (k:=.l) (vs:=us) RI hRI (ps.map (levP m)) (by simp [hl2]) (?d) nE (s2 _ _ hl) (Zqw al2) (fun i p x y H4 C hw hp s4 c=>?_) (fun H4 us'' s4 e4 a4=>?_)
     · obtain ⟨x',ex,rfl,rfl⟩:=Zvh al2 hw hp;obtain ⟨⟨b0,b1⟩,t1⟩:=hB x' (n6_ ex);have d1:=Xp b0 (dv' x' (n6_ ex)) sz;exact ⟨_,rfl,_,rfl,_,rfl,m,_,rfl,rfl,⟨?d,up 8999 b1 (?d)⟩,_,_,rfl,rfl,Xf (n:=4000) (up 4000 t1 (?d)) (up 4000 d1 (?d)),c _ _ _ (Same.refl _) (by rw [n4_,ex];rfl) rfl⟩
     · rw [a4.ints] at e4;refine ⟨_,rfl,z2_,fun p np=>?_⟩;have s5:Same H4 (upd H4 p (.tup [.ref E,.int m])):=Same.new np;exact q _ p E m (s2.trans (s4.trans s5)) Zc (s5 _ _ e4) hm dv' sz
abbrev Zcd:Stmt:=top 17
theorem Zqp (F:FunD K "mixed" "mixed" Zcd f fd) (Caq_:a25_ P w K mg base) (Ca6_:a26_ P w K mg base):FnOk P w K mg base CX0 5 f fd ["weights","parts","bottom"] Zf3:=by
 have sc:FnScope ["weights","parts","bottom","tops","many"] ["weights","parts","bottom"] (Zf Zcd):=fsc (?i);refine F.ok sc (fun vs H Q E h=>by obtain ⟨a,l,us,ps,b,rfl,_⟩:=h;rfl) ?B;obtain ⟨a,l,us,ps,b,rfl,ha,hl,al,hB,h40,hb0,hb1,q⟩:=h;have nd:=sc.nd;refine' ?C
 case term=>refine' Zd (Ym (Zj Caq_ hr ?e rfl ?M) (Z0 (n:=2) rfl (Zg (Zi (i:=3) nd rfl ?l) (Zg (Zi (i:=4) nd rfl ?l) Zs)))) (Zh (Zo (Zj Ca6_ hr ?e rfl (Za (Zl (Zhj rfl) rfl T.b_sum Zrj (Za (Y4 (g:=?R) (N:=["weight","top"]) (fr:=[none,none]) rfl (Yc ?e rfl ?e rfl rfl) (Zd0 .l .l rfl T.b_zip (Za (pv 0) (Za (pv 3) Zb rfl) rfl)) ?S ?K (fun _ _ _ _=>Zn Zp (pv 0) (pv 1))) Zb rfl)) (Za (Zn Zp (pv 4) (pv 2)) Zb rfl) rfl))))
 have hl2:=al.1;refine ⟨_,rfl,l,us,ps,71,rfl,hl,al,hB,?d,?t,?d,fun H1 r t m s1 hr1 ht1 mp dv sz=>?_⟩;refine ⟨r,_,rfl,SqT.of hr1,rfl,_,_,rfl,_,_,rfl,rfl,?_⟩;have mz:m.natAbs<2^2850:=up 2850 sz (?d);refine ⟨_,rfl,_,rfl,a,t,rfl,⟨_,SqL.of (s1 _ _ ha)⟩,⟨_,SqL.of ht1⟩,fun D nD=>?_⟩;refine lc_Z (k:=.l) (l:=.l) (vs:=List.replicate ps.length (.int 1)) (ws:=(ps.map (levP m)).map V.int) RI hRI (ps.map (levP m)) ?f (by simp;omega) nD (s1 _ _ ha) ht1 (fun i v w H2 C hv hw s2 c=>?_) (fun H2 us s2 e2 a2=>?_)
 · rw [n4_] at hw;obtain ⟨y,ey,rfl⟩:=n12_.mp hw;rw [List.getElem?_replicate] at hv;split at hv
   · cases hv
     have hy:y.natAbs<2^4000:=by
      obtain ⟨p,hp,rfl⟩:=n25_.mp (n6_ ey);exact up 4000 (Zsz (hB p hp).1.1 (dv p hp) mz (hB p hp).2)
     refine ⟨_,rfl,_,rfl,1,y,rfl,rfl,Xf (n:=4000) (Nat.one_lt_two_pow ?e) hy,?_⟩;show C (V.int (1*y)) H2
     rw [Int.one_mul];exact c _ _ _ (Same.refl _) ey rfl
   · cases hv
 · rw [a2.ints] at e2;refine ⟨D,_,rfl,SqL.of e2,_,rfl,_,rfl,_,_,rfl,rfl,Xf (n:=2850) mz (up 2850 hb1),_,_,rfl,Int.mul_ne_zero (?d) hb0,up 4000 (FM.natAbs_mul_lt mz hb1),fun p H3 s3 hp=>?_⟩;refine q _ _ (s1.trans (s2.trans s3)) ⟨p,rfl,?_⟩;rw [hp];have e:=Znp ps fun p hp=>⟨(hB p hp).1.1,dv p hp⟩
   have:Rat.divInt (ps.map (levP m)).sum (m*b)=rsum ps/b:=by
    rw [n77_,e,n32_];have h1:=Xs (show m≠0 by omega);have h2:=Xs hb0;generalize rsum ps=S at *
    grind
   rw [this]
abbrev Ztz:Stmt:=top 50
theorem Zum (F:Fun K "dot" "dot" Ztz f fd):FnOk P w K mg base CX0 1 f fd ["ones","others"] Zq0:=by
 have sc:FnScope ["ones","others"] ["ones","others"] (Zf Ztz):=fsc (?i);refine F.ok sc (fun vs H Q E h=>by obtain ⟨a,b,xs,ys,rfl,_⟩:=h;rfl) ?B;obtain ⟨a,b,xs,ys,rfl,ha,hb,h100,hx,hy,q⟩:=h;refine' ?C
 case term=>refine' Zh (Zo (Zl (Zhj rfl) rfl T.b_sum Zrj (Za (Y4 (g:=?R) (N:=["one","other"]) (fr:=[none,none]) rfl (Yc ?e rfl ?e rfl rfl) (Zd0 .l .l rfl T.b_zip (Za (pv 0) ?M rfl)) ?S ?K (fun _ _ _ _=>Zn Zp (pv 0) (pv 1))) Zb rfl)))
 refine ⟨_,rfl,_,rfl,a,b,rfl,⟨_,SqL.of ha⟩,⟨_,SqL.of hb⟩,fun D nD=>?_⟩;refine lc_Z (k:=.l) (l:=.l) (vs:=xs.map V.int) (ws:=ys.map V.int) RI hRI (List.zipWith (·*·) xs ys) ?f (by simp;omega) nD ha hb (fun i v w H2 C hv hw s2 c=>?_) (fun H2 us s2 e2 a2=>?_)
 · rw [n4_] at hv hw;obtain ⟨x,ex,rfl⟩:=n12_.mp hv;obtain ⟨y,ey,rfl⟩:=n12_.mp hw;exact ⟨_,rfl,_,rfl,x,y,rfl,rfl,Xf (hx x (n6_ ex)) (hy y (n6_ ey)),c _ _ _ (Same.refl _) (by rw [List.getElem?_zipWith,ex,ey]) rfl⟩
 · rw [a2.ints] at e2;exact ⟨D,_,rfl,SqL.of e2,q _ s2⟩
abbrev Zi1:Stmt:=top 51
theorem Zp1 (F:Fun K "added" "added" Zi1 f fd) (Ca9_:CalD P w K mg base "mixed" 5 ["weights","parts","bottom"] [.int 1] Zf3):FnOk P w K mg base CX0 6 f fd ["terms"] Zkc:=by
 have sc:FnScope ["terms"] ["terms"] (Zf Zi1):=fsc (?i);refine F.ok sc (fun vs H Q E h=>by obtain ⟨l,us,ps,rfl,_⟩:=h;rfl) ?B;obtain ⟨l,us,ps,rfl,hl,al,hB,h40,q⟩:=h;refine' ?C
 case term=>refine' Zh (Zo (Zsk Ca9_ hr ?e rfl (Za (Zn Zkq (Yg ?J) (Zl Zr rfl T.b_len Yr ?L)) ?L rfl)))
 have hl2:=al.1;refine ⟨z1_,fun y ny=>?_⟩;generalize gG:upd H y (.lst [.int 1])=H1;obtain ⟨s1,e1⟩:=gen_upd gG ny;refine ⟨_,rfl,l,us,rfl,.inl (SqL.of (s1 _ _ hl)),y,us.length,_,rfl,rfl,e1,?d,?d,by simp;rw [sizeLine_eq];omega,fun C nC=>?_⟩;rw [n61_,Zb2,hl2];generalize gG:upd H1 C (.lst (List.replicate ps.length (.int 1)))=H2;obtain ⟨s2,e2⟩:=gen_upd gG nC;have s12:=s1.trans s2;refine ⟨_,rfl,C,l,us,ps,1,rfl,e2,s12 _ _ hl,al.imp fun v x r=>r.tk s12.tk,hB,h40,?t,?t,fun H3 v s3 hv=>q _ _ (s12.trans s3) ?_⟩
 have:rsum ps/((1:Int):Rat)=rsum ps:=by
  have:((1:Int):Rat)=1:=rfl
  rw [this];grind
 rw [this] at hv;exact hv
abbrev Zdb:Stmt:=top 52
theorem Zon (F:Fun K "slopes" "slopes" Zdb f fd) (Cp_:a8_ P w K mg base):FnOk P w K mg base CX0 3 f fd ["plate","number"] Zhc:=by
 have sc:FnScope ["plate","number","corners","piece","first","second","third","nexts","bees","cees"] ["plate","number"] (Zf Zdb):=fsc (?i);refine F.ok sc (fun vs H Q E h=>by obtain ⟨v,P',n,rfl,_⟩:=h;rfl) ?B;obtain ⟨v,P',n,rfl,⟨a,c,p,t,st,rfl,ha,⟨a',us,rfl,ha',al⟩,⟨b',ws,rfl,hb',bl⟩,ht,hs⟩,ok,h0,h1,q⟩:=h;have nd:=sc.nd;refine' ?C
 case term=>refine' Zd ?g1 ?g2;(case g1=>refine' Ym ?g3 (Z0 (n:=2) rfl (Zg (Zi (i:=2) nd rfl (Or.inr rfl)) (Zg (Zi (i:=3) nd rfl ?l) Zs)));case g3=>refine' Zv ?g4;case g4=>refine' Za (Zt Zq (pv 0) Ze (?j)) ?g5 rfl;case g5=>refine' Za ?g6 Zb rfl;case g6=>refine' Zt Zq (Zt Zq (pv 0) Ze (?j)) (pv 1) (?j));case g2=>refine' Zd (Ym (Y4 (N:=["corner","corners"]) (fr:=[none,some 2]) rfl (Z3 (XN:=["plate","number","corners","piece","first","second","third","nexts","bees","cees"]) (Scope.names (Zf Zdb)) rfl rfl rfl (fun _ h=>Zy h) (?i) rfl) (Yp (pv 3)) ?O ?K (fun _ _ _ _=>Zt (Zao K rfl) (pv 1) (pv 0) (?j))) (Zhn (n:=3) rfl (Zg (Zi (i:=4) nd rfl ?l) (Zg (Zi (i:=5) nd rfl ?l) (Zg (Zi (i:=6) nd rfl ?l) Zs))))) ?g7;case g7=>refine' Zd (Zx (i:=7) nd rfl ?l (Yg (Za (Zv (Za (pv 5) (Za (pv 6) Zb rfl) rfl)) (Za (Zv (Za (pv 6) (Za (pv 4) Zb rfl) rfl)) (Za (Zv (Za (pv 4) (Za (pv 5) Zb rfl) rfl)) Zb rfl) rfl) rfl))) ?g8;case g8=>refine' Zd (Zco (g:=?R) (N:=["one","other"]) (fr:=[none,none]) rfl rfl (Zi (i:=8) nd rfl ?l) (Yc ?e rfl ?e rfl rfl) (Yh (pv 7)) ?S ?K (fun _ _ _ _=>Zn Yq (Zt (Zao K rfl) (pv 0) Ze (?j)) (Zt (Zao K rfl) (pv 1) Ze (?j)))) (Zd (Zco (g:=?R) (N:=["one","other"]) (fr:=[none,none]) rfl rfl (Zi (i:=9) nd rfl ?l) (Yc ?e rfl ?e rfl rfl) (Yh (pv 7)) ?S ?K (fun _ _ _ _=>Zn Yq (Zt (Zao K rfl) (pv 1) Ze (?j)) (Zt (Zao K rfl) (pv 0) Ze (?j)))) (Zh (Zo (Zv (Za (Zj Cp_ hr ?e rfl (Za (pv 2) (Za (pv 3) Zb rfl) rfl)) (Za (pv 8) (Za (pv 9) Zb rfl) rfl) rfl)))))
 have pk:=ok.pc _ (Xj h0 h1);obtain ⟨pv',ev,b,rfl,hb⟩:=Zqq bl h0 h1;have hl:=pk.len;have bd:=pk.bd;generalize hp:pcOf P' n=p at *;have nr:=ok.nr;generalize P'.cs=cs at *;refine ⟨_,rfl,a,_,0,_,rfl,rfl,SqT.of ha,rfl,_,rfl,a,_,1,_,rfl,rfl,SqT.of ha,rfl,_,rfl,b',ws,n,_,rfl,rfl,SqT.of hb',ev,z2_,fun r0 n0=>?_⟩;generalize gG:upd H r0 (.tup [.ref a',.ref b])=H0;obtain ⟨s0,e0⟩:=gen_upd gG n0;refine ⟨r0,_,rfl,SqT.of e0,rfl,_,_,rfl,_,_,rfl,rfl,?_⟩;have ha0:=s0 _ _ ha';have al0:Al (IsP H0) us cs:=al.imp fun v x r=>r.tk s0.tk;refine ⟨_,rfl,b,rfl,⟨_,SqT.of (s0 _ _ hb)⟩,fun D nD=>?_⟩;refine lc_T (k:=.t) (vs:=p.map V.int) IsP hRP (p.map (cAt cs)) ?f (by simp [hl]) nD (s0 _ _ hb) (fun i w H2 C hw s2 c=>?_) (fun H2 us' s2 e2 a2=>?_)
 · rw [n4_] at hw;obtain ⟨x,ex,rfl⟩:=n12_.mp hw;obtain ⟨b1,b2⟩:=bd x (n6_ ex);obtain ⟨v,ev,rv⟩:=Zln al0 b1 b2;exact ⟨_,rfl,_,rfl,a',us,x,v,rfl,rfl,SqT.of (s2 _ _ ha0),ev,c _ _ _ (Same.refl _) (by rw [n4_,ex];rfl) (rv.tk s2.tk)⟩
 · obtain ⟨x,y,z,rfl,rx,ry,rz⟩:=cs3 (al0.imp fun v x r=>r.tk s2.tk) hl bd a2;refine ⟨D,_,rfl,SqL.of e2,rfl,x,_,rfl,y,_,rfl,z,_,rfl,rfl,?_⟩;refine ⟨_,rfl,_,rfl,z2_,fun q1 n1=>?_⟩;generalize gG:upd H2 q1 (.tup [y,z])=H3;obtain ⟨s3,e3⟩:=gen_upd gG n1;refine ⟨_,rfl,_,rfl,z2_,fun q2 n2=>?_⟩;generalize gG:upd H3 q2 (.tup [z,x])=H4;obtain ⟨s4,e4⟩:=gen_upd gG n2;refine ⟨_,rfl,_,rfl,z2_,fun q3 n3=>?_⟩;generalize gG:upd H4 q3 (.tup [x,y])=H5;obtain ⟨s5,e5⟩:=gen_upd gG n3;refine ⟨z3_,fun N nN=>?_⟩;generalize gG:upd H5 N (.lst [.ref q1,.ref q2,.ref q3])=H6;obtain ⟨s6,e6⟩:=gen_upd gG nN;have t26:=(s3.trans (s4.trans (s5.trans s6))).tk;have rx6:=rx.tk t26;have ry6:=ry.tk t26;have rz6:=rz.tk t26;have s06:=s0.trans (s2.trans (s3.trans (s4.trans (s5.trans s6))));clear rx ry rz;change IsP H6 x (p0 cs p) at rx6;change IsP H6 y (p1 cs p) at ry6;change IsP H6 z (p2 cs p) at rz6;have alN:Al (IsE H6) [.ref q1,.ref q2,.ref q3] [(p1 cs p,p2 cs p),(p2 cs p,p0 cs p),(p0 cs p,p1 cs p)]:=.cons ⟨q1,y,z,rfl,s6 _ _ (s5 _ _ (s4 _ _ e3)),ry6,rz6⟩ (.cons ⟨q2,z,x,rfl,s6 _ _ (s5 _ _ e4),rz6,rx6⟩ (.cons ⟨q3,x,y,rfl,s6 _ _ e5,rx6,ry6⟩ .nil));refine ⟨_,rfl,N,rfl,⟨_,SqL.of e6⟩,fun E nE=>?_⟩;refine Zl5 (k:=.l) (vs:=[.ref q1,.ref q2,.ref q3]) RI hRI (Z7 cs p) rfl ?f nE e6 (prs alN) (fun i p' x' y' H7 C hw hp' s7 c=>?_) (fun H7 us7 s7 e7 a7=>?_)
   · obtain ⟨e,ee,⟨g1,rfl,hg1⟩,⟨g2,rfl,hg2⟩⟩:=pr1 alN hw hp';refine ⟨_,rfl,g1,_,1,_,rfl,rfl,SqT.of (s7 _ _ hg1),rfl,_,rfl,g2,_,1,_,rfl,rfl,SqT.of (s7 _ _ hg2),rfl,_,_,rfl,rfl,c _ _ (e.1.2-e.2.2) (Same.refl _) ?_ rfl⟩
     have:Z7 cs p=[(p1 cs p,p2 cs p),(p2 cs p,p0 cs p),(p0 cs p,p1 cs p)].map fun e=>e.1.2-e.2.2:=rfl
     rw [this,n4_,ee];rfl
   · rw [a7.ints] at e7;refine ⟨_,rfl,N,rfl,⟨_,SqL.of (s7 _ _ e6)⟩,fun G nG=>?_⟩;have alN7:Al (IsE H7) [.ref q1,.ref q2,.ref q3] [(p1 cs p,p2 cs p),(p2 cs p,p0 cs p),(p0 cs p,p1 cs p)]:=alN.imp fun v x r=>r.tk s7.tk;refine Zl5 (k:=.l) (vs:=[.ref q1,.ref q2,.ref q3]) RI hRI (Z6 cs p) rfl ?f nG (s7 _ _ e6) (prs alN7) (fun i p' x' y' H8 C hw hp' s8 c=>?_) (fun H8 us8 s8 e8 a8=>?_)
     · obtain ⟨e,ee,⟨g1,rfl,hg1⟩,⟨g2,rfl,hg2⟩⟩:=pr1 alN7 hw hp';refine ⟨_,rfl,g2,_,0,_,rfl,rfl,SqT.of (s8 _ _ hg2),rfl,_,rfl,g1,_,0,_,rfl,rfl,SqT.of (s8 _ _ hg1),rfl,_,_,rfl,rfl,c _ _ (e.2.1-e.1.1) (Same.refl _) ?_ rfl⟩
       have:Z6 cs p=[(p1 cs p,p2 cs p),(p2 cs p,p0 cs p),(p0 cs p,p1 cs p)].map fun e=>e.2.1-e.1.1:=rfl
       rw [this,n4_,ee];rfl
     · rw [a8.ints] at e8;have s08:=s06.trans (s7.trans s8);refine ⟨_,rfl,_,rfl,_,_,cs,p,rfl,⟨a',us,rfl,s08 _ _ ha',al.imp fun v x r=>r.tk s08.tk⟩,⟨b,rfl,s08 _ _ hb⟩,hl,bd,nr,?_⟩;refine ⟨_,rfl,_,rfl,z3_,fun R nR=>?_⟩;have s9:Same H8 (upd H8 R (.tup [.int (dOf cs p),.ref E,.ref G])):=Same.new nR;exact q _ R E G (s08.trans s9) Zc (s9 _ _ (s8 _ _ e7)) (s9 _ _ e8)
abbrev Za2:Stmt:=top 53
theorem Zgz (F:Fun K "piece_ways" "piece_ways" Za2 f fd):FnOk P w K mg base CX0 1 f fd ["plate","number"] Zkf:=by
 have sc:FnScope ["plate","number","piece"] ["plate","number"] (Zf Za2):=fsc (?i);refine F.ok sc (fun vs H Q E h=>by obtain ⟨v,P',n,rfl,_⟩:=h;rfl) ?B;obtain ⟨v,P',n,rfl,⟨a,c,p,t,st,rfl,ha,⟨a',us,rfl,ha',al⟩,⟨b',ws,rfl,hb',bl⟩,ht,hs⟩,ok,h0,h1,q⟩:=h;have nd:=sc.nd;refine' ?C
 case term=>refine' Zd ?g1 ?g2;(case g1=>refine' Zx (i:=2) nd rfl ?l ?g3;case g3=>refine' Zt Zq (Zt Zq (pv 0) Ze (?j)) (pv 1) (?j));case g2=>refine' Zh (Zo (Zn Zht (Y4 (N:=["corner"]) (fr:=[none]) rfl (Yc ?e rfl ?e rfl rfl) (Yp (pv 2)) ?O ?K (fun _ _ _ _=>Zn Zp Ze (pv 0))) (Y4 (N:=["corner"]) (fr:=[none]) rfl (Yc ?e rfl ?e rfl rfl) (Yp (pv 2)) ?O ?K (fun _ _ _ _=>Zn Yd (Zn Zp Ze (pv 0)) Ze))))
 have pk:=ok.pc _ (Xj h0 h1);have c30:=ok.c30;obtain ⟨pv',ev,b,rfl,hb⟩:=Zqq bl h0 h1;have hl:=pk.len;have bd:=pk.bd;generalize hp:pcOf P' n=p at *;refine ⟨_,rfl,a,_,1,_,rfl,rfl,SqT.of ha,rfl,_,rfl,b',ws,n,_,rfl,rfl,SqT.of hb',ev,?_⟩;refine ⟨_,rfl,b,rfl,⟨_,SqT.of hb⟩,fun D nD=>?_⟩;refine lc_T (k:=.t) (vs:=p.map V.int) RI hRI (p.map fun i=>2*i) ?f (by simp [hl]) nD hb (fun i w H2 C hw s2 c=>?_) (fun H2 us' s2 e2 a2=>?_)
 · rw [n4_] at hw;obtain ⟨x,ex,rfl⟩:=n12_.mp hw;obtain ⟨b1,b2⟩:=bd x (n6_ ex);exact ⟨_,rfl,_,_,rfl,rfl,mul3 ?e (?d),c _ _ _ (Same.refl _) (by rw [n4_,ex];rfl) rfl⟩
 · rw [a2.ints] at e2;refine ⟨_,rfl,b,rfl,⟨_,SqT.of (s2 _ _ hb)⟩,fun E nE=>?_⟩;refine lc_T (k:=.t) (vs:=p.map V.int) RI hRI (p.map fun i=>2*i+1) ?f (by simp [hl]) nE (s2 _ _ hb) (fun i w H4 C hw s4 c=>?_) (fun H4 us'' s4 e4 a4=>?_)
   · rw [n4_] at hw;obtain ⟨x,ex,rfl⟩:=n12_.mp hw;obtain ⟨b1,b2⟩:=bd x (n6_ ex);exact ⟨_,rfl,_,_,rfl,rfl,mul3 ?e (?d),_,_,rfl,rfl,c _ _ _ (Same.refl _) (by rw [n4_,ex];rfl) rfl⟩
   · rw [a4.ints] at e4;refine ⟨D,E,_,_,rfl,rfl,s4 _ _ e2,e4,by simp [hl];rw [sizeLine_eq];decide,fun r nr=>?_⟩;have s5:Same H4 (upd H4 r (.lst ((Z1 p).map V.int))):=Same.new nr;have e5:((p.map fun i=>2*i).map V.int)++((p.map fun i=>2*i+1).map V.int)=(Z1 p).map V.int:=by unfold Z1;rw [n51_]
     rw [e5];exact q _ r (s2.trans (s4.trans s5)) Zc
abbrev Zci:Stmt:=top 54
theorem Zjq (F:Fun K "strained" "strained" Zci f fd) (Caz_:a27_ P w K mg base):FnOk P w K mg base CX0 2 f fd ["bees","cees","six"] Zdj:=by
 have sc:FnScope ["bees","cees","six"] ["bees","cees","six"] (Zf Zci):=fsc (?i);refine F.ok sc (fun vs H Q E h=>by obtain ⟨a,b,c,bs,cs,six,rfl,_⟩:=h;rfl) ?B;obtain ⟨a,b,c,bs,cs,six,rfl,ha,hb,hc,lb,lc,l6,bb,bc,b6,q⟩:=h;refine' ?C
 case term=>refine' Zh (Zo (Yg (Za (Zj Caz_ hr ?e rfl (Za (pv 0) (Za (Zb0 Zi8 (pv 2) Zdi (Zd8 Ze)) Zb rfl) rfl)) (Za (Zj Caz_ hr ?e rfl (Za (pv 1) (Za (Zb0 Zi8 (pv 2) (Zd8 Ze) Zdi) Zb rfl) rfl)) (Za (Zj Caz_ hr ?e rfl (Za (Zn Zht (pv 1) (pv 0)) (Za (pv 2) Zb rfl) rfl)) Zb rfl) rfl) rfl)))
 refine ⟨_,rfl,_,rfl,_,rfl,c,_,rfl,SqL.of hc,fun p1 n1=>?_⟩
 have e1':cutV (six.map V.int) none (some 3)=(six.take 3).map V.int:=by
  have:=Zuf (six.map V.int) 3 (by simp [l6])
  rw [show ((3:Nat):Int)=3 from rfl] at this;rw [this,List.map_take]
 have e2':cutV (six.map V.int) (some 3) none=(six.drop 3).map V.int:=by
  have:=Ztt (six.map V.int) 3 (by simp [l6])
  rw [show ((3:Nat):Int)=3 from rfl] at this;rw [this,List.map_drop]
 rw [e1'];generalize gG:upd H p1 (.lst ((six.take 3).map V.int))=H1;obtain ⟨s1,f1⟩:=gen_upd gG n1;refine ⟨a,p1,bs,six.take 3,rfl,s1 _ _ ha,f1,?d,bb,fun x hx=>b6 x (List.mem_of_mem_take hx),fun H2 s2=>?_⟩;have s02:=s1.trans s2;refine ⟨_,rfl,_,rfl,_,rfl,c,_,rfl,SqL.of (s02 _ _ hc),fun p3 n3=>?_⟩;rw [e2'];generalize gG:upd H2 p3 (.lst ((six.drop 3).map V.int))=H3;obtain ⟨s3,f3⟩:=gen_upd gG n3;have s03:=s02.trans s3;refine ⟨b,p3,cs,six.drop 3,rfl,s03 _ _ hb,f3,?d,bc,fun x hx=>b6 x (List.mem_of_mem_drop hx),fun H4 s4=>?_⟩;have s04:=s03.trans s4;refine ⟨_,rfl,_,rfl,b,a,_,_,rfl,rfl,s04 _ _ hb,s04 _ _ ha,by simp [lb,lc];rw [sizeLine_eq];decide,fun p5 n5=>?_⟩;rw [← n51_];generalize gG:upd H4 p5 (.lst ((cs++bs).map V.int))=H5;obtain ⟨s5,f5⟩:=gen_upd gG n5;have s05:=s04.trans s5;refine ⟨_,rfl,p5,c,cs++bs,six,rfl,f5,s05 _ _ hc,by simp;omega,fun x hx=>(n39_.mp hx).elim (bc x) (bb x),b6,fun H6 s6=>?_⟩;refine ⟨z3_,fun r nr=>?_⟩;exact q _ r (s05.trans (s6.trans (Same.new nr))) Zc
abbrev Zck:Stmt:=top 55
theorem Zjw (F:Fun K "stressed" "stressed" Zck f fd):FnOk P w K mg base CX0 1 f fd ["stuff","three"] Zdt:=by
 have sc:FnScope ["stuff","three","l","m","e","f","g","both"] ["stuff","three"] (Zf Zck):=fsc (?i);refine F.ok sc (fun vs H Q E h=>by obtain ⟨a,b,l,m,e,f',g,rfl,_⟩:=h;rfl) ?B;obtain ⟨a,b,l,m,e,f',g,rfl,ha,hb,l9,m9,he,hf,hg,q⟩:=h;have nd:=sc.nd;refine' ?C
 case term=>refine' Zd (Ym (pv 0) (Z0 (n:=2) rfl (Zg (Zi (i:=2) nd rfl ?l) (Zg (Zi (i:=3) nd rfl ?l) Zs)))) (Zd (Ym (pv 1) (Zhn (n:=3) rfl (Zg (Zi (i:=4) nd rfl ?l) (Zg (Zi (i:=5) nd rfl ?l) (Zg (Zi (i:=6) nd rfl ?l) Zs))))) (Zd (Zx (i:=7) nd rfl ?l (Zn Zp (pv 2) (Zn Yd (pv 4) (pv 5)))) (Zh (Zo (Yg (Za (Zn Yd (pv 7) (Zn Zp (Zn Zp Ze (pv 3)) (pv 4))) (Za (Zn Yd (pv 7) (Zn Zp (Zn Zp Ze (pv 3)) (pv 5))) (Za (Zn Zp (pv 3) (pv 6)) Zb rfl) rfl) rfl))))))
 have bl:l.natAbs<2^5002:=n10_ (show l.natAbs≤9 by omega) ?e;have bm:m.natAbs<2^5002:=n10_ (show m.natAbs≤9 by omega) ?e;have bm2:(2*m).natAbs<2^5002:=n10_ (show (2*m).natAbs≤18 by omega) ?e;have b2:(2:Int).natAbs<2^5002:=?t
 have bef:(e+f').natAbs<2^5002:=by
  have h1:=up 5001 he;have h2:2^5001+2^5001=2^5002:=?t
  have h3:=up 5001 hf;omega
 refine ⟨_,rfl,a,_,rfl,SqT.of ha,rfl,_,_,rfl,_,_,rfl,rfl,?_⟩;refine ⟨_,rfl,b,_,rfl,SqL.of hb,rfl,_,_,rfl,_,_,rfl,_,_,rfl,rfl,?_⟩;refine ⟨_,rfl,_,rfl,_,rfl,_,_,rfl,rfl,_,_,rfl,rfl,Xf bl bef,?_⟩;refine ⟨_,rfl,_,rfl,_,_,rfl,rfl,Xf b2 bm,_,rfl,_,_,rfl,rfl,Xf bm2 (up 5002 he),_,_,rfl,rfl,?_⟩;refine ⟨_,rfl,_,rfl,_,_,rfl,rfl,Xf b2 bm,_,rfl,_,_,rfl,rfl,Xf bm2 (up 5002 hf),_,_,rfl,rfl,?_⟩;refine ⟨_,rfl,_,rfl,_,_,rfl,rfl,Xf bm (up 5002 hg),z3_,fun r nr=>?_⟩;exact q _ r (Same.new nr) Zc
abbrev Zb6:Stmt:=top 56
theorem Zmb (F:Fun K "pushed" "pushed" Zb6 f fd):FnOk P w K mg base CX0 1 f fd ["bees","cees","three"] Zh4:=by
 have sc:FnScope ["bees","cees","three","p","q","r","along"] ["bees","cees","three"] (Zf Zb6):=fsc (?i);refine F.ok sc (fun vs H Q E h=>by obtain ⟨a,b,c,bs,cs,th,rfl,_⟩:=h;rfl) ?B;obtain ⟨a,b,c,bs,cs,th,rfl,ha,hb,hc,l3,lb,lc,bb,bc,b3,q⟩:=h;have nd:=sc.nd;refine' ?C
 case term=>refine' Zd (Ym (pv 2) (Zhn (n:=3) rfl (Zg (Zi (i:=3) nd rfl (Or.inr rfl)) (Zg (Zi (i:=4) nd rfl (Or.inr rfl)) (Zg (Zi (i:=5) nd rfl (Or.inr rfl)) Zs))))) ?g1;case g1=>refine' Zd (Zco (g:=?R) (N:=["bee","cee","p","r"]) (fr:=[none,none,some 3,some 5]) rfl rfl (Zi (i:=6) nd rfl ?l) (Z3 (XN:=["bees","cees","three","p","q","r","along"]) (Scope.names (Zf Zb6)) rfl rfl rfl (fun _ h=>Zy h) (?i) rfl) (Zd0 .l .l rfl T.b_zip (Za (pv 0) ?M rfl)) ?S ?K (fun _ _ _ _=>Zn Yd (Zn Zp (pv 2) (pv 0)) (Zn Zp (pv 3) (pv 1)))) (Zh (Zo (Zn Zht (pv 6) (Y4 (g:=?R) (N:=["bee","cee","r","q"]) (fr:=[none,none,some 5,some 4]) rfl (Z3 (XN:=["bees","cees","three","p","q","r","along"]) (Scope.names (Zf Zb6)) rfl rfl rfl (fun _ h=>Zy h) (?i) rfl) (Zd0 .l .l rfl T.b_zip (Za (pv 0) ?M rfl)) ?S ?K (fun _ _ _ _=>Zn Yd (Zn Zp (pv 2) (pv 0)) (Zn Zp (pv 3) (pv 1)))))))
 match th,l3 with
 | [p,q',r],_ =>
   have bp:=b3 p ?f;have bq:=b3 q' ?f;have br:=b3 r ?f;refine ⟨_,rfl,c,_,rfl,SqL.of hc,rfl,_,_,rfl,_,_,rfl,_,_,rfl,rfl,?_⟩;refine ⟨_,rfl,_,rfl,a,b,rfl,⟨_,SqL.of ha⟩,⟨_,SqL.of hb⟩,fun D nD=>?_⟩;refine lc_Z (k:=.l) (l:=.l) (vs:=bs.map V.int) (ws:=cs.map V.int) RI hRI (List.zipWith (fun b c=>p*b+r*c) bs cs) ?f (by simp;omega) nD ha hb (fun i v w H2 C hv hw s2 c'=>?_) (fun H2 us s2 e2 a2=>?_)
   · rw [n4_] at hv hw;obtain ⟨x,ex,rfl⟩:=n12_.mp hv;obtain ⟨y,ey,rfl⟩:=n12_.mp hw;exact ⟨_,rfl,_,rfl,_,_,rfl,rfl,Xf bp (bb x (n6_ ex)),_,rfl,_,rfl,_,_,rfl,rfl,Xf br (bc y (n6_ ey)),_,_,rfl,rfl,c' _ _ _ (Same.refl _) (by rw [List.getElem?_zipWith,ex,ey]) rfl⟩
   · rw [a2.ints] at e2;refine ⟨_,rfl,_,rfl,_,rfl,a,b,rfl,⟨_,SqL.of (s2 _ _ ha)⟩,⟨_,SqL.of (s2 _ _ hb)⟩,fun E nE=>?_⟩;refine lc_Z (k:=.l) (l:=.l) (vs:=bs.map V.int) (ws:=cs.map V.int) RI hRI (List.zipWith (fun b c=>r*b+q'*c) bs cs) ?f (by simp;omega) nE (s2 _ _ ha) (s2 _ _ hb) (fun i v w H4 C hv hw s4 c'=>?_) (fun H4 us s4 e4 a4=>?_)
     · rw [n4_] at hv hw;obtain ⟨x,ex,rfl⟩:=n12_.mp hv;obtain ⟨y,ey,rfl⟩:=n12_.mp hw;exact ⟨_,rfl,_,rfl,_,_,rfl,rfl,Xf br (bb x (n6_ ex)),_,rfl,_,rfl,_,_,rfl,rfl,Xf bq (bc y (n6_ ey)),_,_,rfl,rfl,c' _ _ _ (Same.refl _) (by rw [List.getElem?_zipWith,ex,ey]) rfl⟩
     · rw [a4.ints] at e4;refine ⟨D,E,_,_,rfl,rfl,s4 _ _ e2,e4,by simp [lb,lc];rw [sizeLine_eq];decide,fun R nR=>?_⟩;rw [← n51_];exact q _ R (s2.trans (s4.trans (Same.new nR))) Zc
abbrev Zbn:Stmt:=top 47
theorem Zhb (F:Fun K "is_one_of" "is_one_of" Zbn f fd) (Cm_:a2_ P w K mg base):FnOk P w K mg base CX0 2 f fd ["known","thing"] Zj7:=by
 have sc:FnScope ["known","thing"] ["known","thing"] (Zf Zbn):=fsc (?i);refine F.ok sc (fun vs H Q E h=>by obtain ⟨l,ns,x,rfl,_⟩:=h;rfl) ?B;obtain ⟨l,ns,x,rfl,hl,hx,q⟩:=h;refine' ?C
 case term=>refine' Zh (Zo (Zc2 (Zj Cm_ hr ?e rfl ?M) (Zbz (Zac Zno (pv 1) (pv 0) rfl))))
 refine ⟨_,rfl,x,rfl,true,rfl,?_⟩;refine ⟨_,rfl,_,rfl,Zsh (SqL.of hl) ?_⟩;rw [n44_ hx];exact q
abbrev Xl:Stmt:=top 48
theorem Zeb (F:Fun K "are_some_of" "are_some_of" Xl f fd) (Cg_:a7_ P w K mg base) (Car_:a28_ P w K mg base):FnOk P w K mg base CX0 3 f fd ["known","thing"] Zey:=by
 have sc:FnScope ["known","thing"] ["known","thing"] (Zf Xl):=fsc (?i);refine F.ok sc (fun vs H Q E h=>by obtain ⟨l,a,n,ks,rfl,_⟩:=h;rfl) ?B;obtain ⟨l,a,n,ks,rfl,hl,ha,rise,lt,n40,q⟩:=h;refine' ?C
 case term=>refine' Zd ?g1 (Zh (Zo (Zj Cg_ hr ?e rfl ?M)));case g1=>refine' Xv ?g2 (Zh (Zo Za6)) Z9;case g2=>refine' PW.pt ?g3;case g3=>refine' Zlu (Yz (Z2 (Zl Zdc rfl T.b_isinstance Xk (Za (pv 1) (Za (Zg0 (v:=.ty "tuple") rfl T.b_tuple Z4 rfl) Zb rfl) rfl)) (fun _=>rfl))) ?g4;case g4=>refine' Ze5 ?g5;case g5=>refine' Yz ?g6;case g6=>refine' Z2 (Zl (Yo rfl) rfl T.b_all Za0 (Za (Y4 (N:=["part","known"]) (fr:=[none,some 0]) rfl (Z3 (XN:=["known","thing"]) (Scope.names (Zf Xl)) rfl rfl rfl (fun _ h=>Zy h) (?i) rfl) (Yp (pv 1)) ?O ?K (fun _ _ _ _=>Zj Car_ hr ?e rfl (Za (pv 1) ?L rfl))) Zb rfl)) (fun _=>rfl)
 have lk:ks.length≤40:=by
  have:=Xy (m:=0) rise fun k hk=>⟨n45_ _,lt k hk⟩
  omega
 refine ⟨_,rfl,_,_,_,_,rfl,TyOf.tup ha,rfl,true,rfl,iteF ?_⟩;refine ⟨_,rfl,a,rfl,⟨_,SqT.of ha⟩,fun D nD=>?_⟩;refine lc_T (k:=.t) (vs:=(nI ks).map V.int) RB hRB (List.replicate ks.length true) ?f (by simp;omega) nD ha (fun i w H2 C hw s2 c=>?_) (fun H2 us' s2 e2 a2=>?_)
 · rw [n4_] at hw;obtain ⟨x,ex,rfl⟩:=n12_.mp hw;rw [n4_] at ex;obtain ⟨k,ek,rfl⟩:=n12_.mp ex;have hk:=n6_ ek;exact ⟨_,rfl,_,rfl,l,_,_,rfl,s2 _ _ hl,n25_.mpr ⟨k,n42_.mpr (lt k hk),rfl⟩,c _ _ true (Same.refl _) (repT (Y7 ek)) rfl⟩
 · rw [a2.bls] at e2;refine ⟨D,List.replicate ks.length true,rfl,SqL.of e2,?_⟩;rw [allT];refine ⟨true,rfl,iteF ?_⟩;refine ⟨_,rfl,a,nI ks,rfl,s2 _ _ ha,by simp;omega,fun i x y e1 e2=>?_,fun H3 s3=>q _ (s2.trans s3)⟩;rw [n4_] at e1 e2;obtain ⟨k,ek,rfl⟩:=n12_.mp e1;obtain ⟨m,em,rfl⟩:=n12_.mp e2;obtain ⟨i1,f1⟩:=n18_.mp ek;obtain ⟨i2,f2⟩:=n18_.mp em
   have:=n90_.mp rise i (i+1) i1 i2 (n81_ i)
   omega
abbrev Za5:Stmt:=top 57
theorem Zgy (F:Fun K "own_pushes" "own_pushes" Za5 f fd) (Cj_:a29_ P w K mg base) (Ca7_:a30_ P w K mg base) (Ca8_:a31_ P w K mg base) (Ca0_:a32_ P w K mg base) (Ca1_:a33_ P w K mg base):FnOk P w K mg base CX0 6 f fd ["plate","number"] Zrc:=by
 have sc:FnScope ["plate","number","double","bees","cees","ways","found","at","other","six","three","way","push"] ["plate","number"] (Zf Za5):=fsc (?i);refine F.ok sc (fun vs H Q E h=>by obtain ⟨v,P',n,rfl,_⟩:=h;rfl) ?B;obtain ⟨v,P',n,rfl,hv,ok,hn,q⟩:=h;have nd:=sc.nd;refine' ?C
 case term=>refine' Zd (Ym (Zj Ca8_ hr ?e rfl (Za (pv 0) ?M rfl)) (Z0 (n:=3) rfl (Zg (Zi (i:=2) nd rfl ?l) (Zg (Zi (i:=3) nd rfl ?l) (Zg (Zi (i:=4) nd rfl ?l) Zs))))) ?g1;case g1=>refine' Zd (Zx (i:=5) nd rfl ?l (Zj Cj_ hr ?e rfl (Za (pv 0) ?M rfl))) ?g2;case g2=>refine' Zd (Zx (i:=6) nd rfl ?l (Yg Zb)) ?g3;case g3=>refine' Zd ?g4 (Zh (Zo (pv 6)));case g4=>refine' Yu PassesOwn.never rfl (Zf1 .l rfl T.b_enumerate (Za (pv 5) Zb rfl)) (Z0 (n:=2) rfl (Zg (Zi (i:=7) nd rfl ?l) (Zg (Zi (i:=8) nd rfl ?l) Zs))) ?g5;case g5=>refine' Zd (Zx (i:=9) nd rfl ?l (Zn Zkq (Yg ?J) Ze)) ?g6;case g6=>refine' Zd (Ym Ze (Zc1 (pv 9) (pv 7) Xw)) ?g7;case g7=>refine' Zd (Zx (i:=10) nd rfl ?l (Zj Ca1_ hr ?e rfl (Za (Zt Zq (pv 0) Ze (?j)) (Za (Zj Ca0_ hr ?e rfl (Za (pv 3) (Za (pv 4) (Za (pv 9) Zb rfl) rfl) rfl)) Zb rfl) rfl))) ?g8;case g8=>refine' Zh ?g9;case g9=>refine' Yu PassesOwn.never rfl (Zd0 .l .l rfl T.b_zip (Za (pv 5) (Za (Zj Ca7_ hr ?e rfl (Za (pv 3) (Za (pv 4) (Za (pv 10) Zb rfl) rfl) rfl)) Zb rfl) rfl)) (Z0 (n:=2) rfl (Zg (Zi (i:=11) nd rfl ?l) (Zg (Zi (i:=12) nd rfl ?l) Zs))) ?ga;case ga=>refine' Zh ?gb;case gb=>refine' Zai ?gc;case gc=>refine' Zen PySem.F.plainAttrs_list PySem.F.slot_list_append PySem.F.type_list_append Xa (pv 6) ?gd;case gd=>refine' Za ?ge Zb rfl;case ge=>refine' Zv ?gf;case gf=>refine' Za (pv 11) ?gg rfl;case gg=>refine' Za (pv 8) ?gh rfl;case gh=>refine' Za ?gi Zb rfl;case gi=>refine' Zv ?gj;case gj=>refine' Za ?gk (Za (Zn Zp Ze (Zl Za9 rfl T.b_abs Zfe (Za (pv 2) Zb rfl))) Zb rfl) rfl;case gk=>refine' Zn Zp ?gl (pv 12);case gl=>refine' Zt Zq (Zt Zq (pv 0) Ze (?j)) (pv 1) (?j)
 obtain ⟨pa,pc,pp',ptk,pst,rfl,hpa,hpc,hpp,⟨ta,rfl,hta⟩,⟨sa,rfl,hsa⟩⟩:=id hv;have pk:=pc3 ok hn;obtain ⟨bz,cz,_⟩:=Zi9 ok.nr pk.len pk.bd;generalize hvv:V.ref pa=v at *;have c6:(Z1 (pcOf P' n)).length=6:=by unfold Z1;rw [n30_,n7_,n7_,pk.len]
 refine ⟨_,rfl,_,rfl,v,P',n,rfl,hv,ok,?d,?d,fun H1 r1 bl cl s1 e1 e2 e3=>?_⟩;refine ⟨r1,_,rfl,SqT.of e1,rfl,_,_,rfl,_,_,rfl,_,_,rfl,rfl,?_⟩;refine ⟨_,rfl,_,rfl,v,P',n,rfl,hv.tk s1.tk,ok,?d,?d,fun H2 W s2 eW=>?_⟩;refine ⟨z0_,fun F nF=>?_⟩;generalize gG:upd H2 F (.lst [])=H3;obtain ⟨s3,eF⟩:=gen_upd gG nF;refine ⟨_,rfl,W,rfl,⟨_,SqL.of (s3 _ _ eW)⟩,?_⟩;have s13:Same H1 H3:=s2.trans s3;have s03:Same H H3:=s1.trans s13;refine Yk (n:=6) (fun i σ H4=>∃ y1 y2 y3 y4 y5 y6 us,σ=[some v,some (.int n),some (.int (dOf P'.cs (pcOf P' n))),some (.ref bl),some (.ref cl),some (.ref W),some (.ref F),y1,y2,y3,y4,y5,y6]∧Same H2 H4∧H4 F=some (.lst us)∧Al (IsOwn H4) us ((ownL P' n).take (6*i))) ⟨_,_,_,_,_,_,_,rfl,s3,eF,by rw [Nat.mul_zero,List.take_zero];exact Al.nil⟩ (fun i σ H4 hi p=>?_) (fun σ H4 p=>?_) (fun i x σ H4 H5 hi y p=>?_) (fun σ H4 p=>?_)
 · obtain ⟨y1,y2,y3,y4,y5,y6,us,rfl,s4,f4,a4⟩:=p;exact ⟨_,V.int (Z1 (pcOf P' n))[i],SqL.of (s4 _ _ eW),by rw [n4_,n1_ (?d)];rfl⟩
 · obtain ⟨y1,y2,y3,y4,y5,y6,us,rfl,s4,f4,a4⟩:=p;exact ⟨_,SqL.of (s4 _ _ eW),by rw [n7_,c6]⟩
 · obtain ⟨y1,y2,y3,y4,y5,y6,us,rfl,s4,f4,a4⟩:=p;obtain ⟨g,x',rfl,ng,rfl,yx⟩:=y;have ex:=yx _ (SqL.of (s4 _ _ eW));rw [n4_,n1_ (?d)] at ex;cases ex
   generalize gG:upd H4 g (.tup [.int i,.int (Z1 (pcOf P' n))[i]])=H5;obtain ⟨s5,e5⟩:=gen_upd gG ng;refine ⟨g,_,rfl,SqT.of e5,rfl,_,_,rfl,_,_,rfl,rfl,?_⟩;refine ⟨z1_,fun a na=>?_⟩;generalize gG:upd H5 a (.lst [.int 0])=H6;obtain ⟨s6,e6'⟩:=gen_upd gG na;refine ⟨a,6,[.int 0],rfl,rfl,e6',?t,?t,by show 6≤sizeLine;decide,fun S nS=>?_⟩;refine ⟨_,rfl,_,rfl,S,_,(i:Int),i,rfl,rfl,Zc,Ze8 (?d) (by show (i:Int)<(6:Nat);omega),?_⟩
   have s7:Same H6 (upd (upd H6 S (.lst (List.replicate (Int.toNat 6) [V.int 0]).flatten)) S (.lst ((List.replicate (Int.toNat 6) [V.int 0]).flatten.set i (.int 1)))):=fun b o e=>by
    have nb:b≠S:=fun z=>by rw [z,nS] at e;cases e
    rw [Zk nb,Zk nb];exact e
   have e7:(upd (upd H6 S (.lst (List.replicate (Int.toNat 6) [V.int 0]).flatten)) S (.lst ((List.replicate (Int.toNat 6) [V.int 0]).flatten.set i (.int 1)))) S=some (.lst ((e6 i).map V.int)):=by rw [← set6 hi];exact Zc
   generalize upd (upd H6 S (.lst (List.replicate (Int.toNat 6) [V.int 0]).flatten)) S (.lst ((List.replicate (Int.toNat 6) [V.int 0]).flatten.set i (.int 1)))=H7 at s7 e7 ⊢;have s47:Same H4 H7:=s5.trans (s6.trans s7);have s27:Same H2 H7:=s4.trans s47;have s17:Same H1 H7:=s2.trans s27;have s07:Same H H7:=s1.trans s17;have sz:=Zom (a:=i) (bs:=Z7 P'.cs (pcOf P' n)) (cs:=Z6 P'.cs (pcOf P' n)) rfl rfl bz cz hi;have tz:=Zra ok.l9 ok.m9 (s:=strI (Z7 P'.cs (pcOf P' n)) (Z6 P'.cs (pcOf P' n)) (e6 i)) rfl sz;have b5:∀ {x:Int} {k:Nat},x.natAbs≤k→k≤10000→x.natAbs<2^200:=fun h h'=>n10_ (n36_ h h') ?e;have b50:∀ {x:Int} {k:Nat},x.natAbs≤k→k≤10000→x.natAbs<2^5000:=fun h h'=>up 5000 (b5 h h') ?e
   have ez:∀ x∈e6 i,x.natAbs≤1:=fun x hx=>by
    obtain ⟨j,_,rfl⟩:=n25_.mp hx
    by_cases h:j=i<;>simp [h]
   refine ⟨_,hvv ▸ rfl,pa,_,3,_,rfl,rfl,SqT.of (s07 _ _ hpa),rfl,?_⟩;refine ⟨_,rfl,_,rfl,_,rfl,bl,cl,S,_,_,e6 i,rfl,s17 _ _ e2,s17 _ _ e3,e7,rfl,rfl,rfl,fun x hx=>b50 (bz x hx) ?e,fun x hx=>b50 (cz x hx) ?e,fun x hx=>b50 (ez x hx) ?e,fun H8 T s8 hT=>?_⟩;refine ⟨sa,T,P'.l,P'.m,_,_,_,rfl,s8 _ _ (s07 _ _ hsa),hT,ok.l9,ok.m9,b50 (sz _ (by simp [strI])) ?e,b50 (sz _ (by simp [strI])) ?e,b50 (sz _ (by simp [strI])) ?e,fun H9 Z s9 hZ=>?_⟩;have s29:Same H2 H9:=s27.trans (s8.trans s9);have s19:Same H1 H9:=s2.trans s29;have s09:Same H H9:=s1.trans s19;refine ⟨_,rfl,_,rfl,_,rfl,_,rfl,bl,cl,Z,_,_,stsI P'.l P'.m (strI (Z7 P'.cs (pcOf P' n)) (Z6 P'.cs (pcOf P' n)) (e6 i)),rfl,s19 _ _ e2,s19 _ _ e3,hZ,rfl,rfl,rfl,fun x hx=>b50 (bz x hx) ?e,fun x hx=>b50 (cz x hx) ?e,fun x hx=>b50 (tz x hx) ?e,fun HA L sA hL=>?_⟩;have s4A:Same H4 HA:=s47.trans (s8.trans (s9.trans sA));have fA:=s4A _ _ f4;have aA:Al (IsOwn HA) us ((ownL P' n).take (6*i)):=a4.imp fun v x r=>r.tk s4A.tk;have nW:W≠F:=fun z=>by rw [z,nF] at eW;cases eW
   have nL:L≠F:=fun z=>by
    rw [z,fA] at hL
    obtain ⟨x0,o6⟩:∃ x0,us[0]? = some (V.int x0):=by
     have:us=(opI P' n i).map V.int:=by injection hL with hL;injection hL
     rw [this];exact ⟨_,rfl⟩
    obtain ⟨_,_,a,_,e,_⟩:=aA.get o6;cases e
   refine ⟨W,L,rfl,⟨_,SqL.of (sA _ _ (s29 _ _ eW))⟩,⟨_,SqL.of hL⟩,?_⟩;have lo:(opI P' n i).length=6:=rfl;refine Yk (n:=6) (fun j σ HB=>∃ z1 z2 us',σ=[some v,some (.int n),some (.int (dOf P'.cs (pcOf P' n))),some (.ref bl),some (.ref cl),some (.ref W),some (.ref F),some (.int i),some (.int (Z1 (pcOf P' n))[i]),some (.ref S),some (.ref Z),z1,z2]∧Keep F HA HB∧HB F=some (.lst us')∧Al (IsOwn HB) us' ((ownL P' n).take (6*i+j))) ⟨_,_,_,rfl,fun _ _ _ e=>e,fA,aA⟩ (fun j σ HB hj p=>?_) (fun σ HB p=>?_) (fun j x σ HB HC hj y p=>?_) (fun σ HB p=>?_)
   · obtain ⟨z1,z2,us',rfl,kB,fB,aB⟩:=p;exact ⟨_,_,V.int (Z1 (pcOf P' n))[j],V.int (opI P' n i)[j],SqL.of (kB _ _ nW (sA _ _ (s29 _ _ eW))),SqL.of (kB _ _ nL hL),by rw [n4_,n1_ (?d)];rfl,by show ((opI P' n i).map V.int)[j]? = _;rw [n4_,n1_ (?d)];rfl⟩
   · obtain ⟨z1,z2,us',rfl,kB,fB,aB⟩:=p;exact ⟨_,_,SqL.of (kB _ _ nW (sA _ _ (s29 _ _ eW))),SqL.of (kB _ _ nL hL),.inl (by rw [n7_,c6];decide)⟩
   · obtain ⟨z1,z2,us',rfl,kB,fB,aB⟩:=p;obtain ⟨g2,x1,x2,rfl,ng2,rfl,yx2,yy2⟩:=y;have ex1:=yx2 _ (SqL.of (kB _ _ nW (sA _ _ (s29 _ _ eW))));have ex2:((opI P' n i).map V.int)[j]? = _:=yy2 _ (SqL.of (kB _ _ nL hL));rw [n4_,n1_ (?d)] at ex1;rw [n4_,n1_ (?d)] at ex2;cases ex1
     cases ex2
     generalize gG:upd HB g2 (.tup [.int (Z1 (pcOf P' n))[j],.int (opI P' n i)[j]])=HC;obtain ⟨sC,eC⟩:=gen_upd gG ng2;refine ⟨g2,_,rfl,SqT.of eC,rfl,_,_,rfl,_,_,rfl,rfl,?_⟩;have nF0:∀ {b o},H b=some o→b≠F:=fun e z=>by rw [z] at e;have:=s1.trans s2 _ _ e;rw [nF] at this;cases this
     have s0C:∀ {b o},H b=some o→HC b=some o:=fun e=>sC _ _ (kB _ _ (nF0 e) (sA _ _ (s09 _ _ e)))
     have tti:P'.ts[n]? = some (P'.ts.getD n 0):=by
      have:n<P'.ts.length:=by rw [ok.t1];omega
      rw [n5_,n1_ this];rfl
     obtain ⟨tl,tu⟩:=ok.t9 _ (n6_ tti);have att:atI (P'.ts.map V.int) (n:Int)=some (.int (P'.ts.getD n 0)):=Xg (by rw [n4_,tti];rfl);have pz:=Zoi bz cz rfl (fun x hx=>b5 (tz x hx) ?e) (opI P' n i)[j] (n28_ (show j<(opI P' n i).length by omega));have fC:=sC _ _ fB;refine ⟨_,rfl,.inl ⟨rfl,_,SqL.of fC⟩,_,rfl,_,rfl,_,hvv ▸ rfl,pa,_,2,_,rfl,rfl,SqT.of (s0C hpa),rfl,_,rfl,ta,_,(n:Int),_,rfl,rfl,SqT.of (s0C hta),att,_,rfl,_,_,rfl,rfl,Xf (n:=4000) (n10_ (show (P'.ts.getD n 0).natAbs≤9 by omega) (n9_ (show 9<2^4 by decide) (n23_ ?e ?e))) (up 4000 pz ?e),?_⟩;have dz:(dOf P'.cs (pcOf P' n)).natAbs≤80000:=(Zi9 ok.nr pk.len pk.bd).2.2;have ab:(if dOf P'.cs (pcOf P' n)<0 then -dOf P'.cs (pcOf P' n) else dOf P'.cs (pcOf P' n))=((dOf P'.cs (pcOf P' n)).natAbs:Int):=by split<;>omega
     refine ⟨_,rfl,_,rfl,_,_,rfl,rfl,Xf (n:=4000) (n9_ (show Int.natAbs 2<2^4 by decide) (n23_ ?e ?e)) ?_,z2_,fun p np=>⟨z3_,fun t nt=>?_⟩⟩
     · rw [ab];exact n9_ (show ((dOf P'.cs (pcOf P' n)).natAbs:Int).natAbs<2^20 by rw [Int.natAbs_natCast];exact n10_ dz ?e) (n23_ ?e ?e)
     rw [ab] at nt ⊢;have wj:(Z1 (pcOf P' n))[j]=wAt P' n j:=by unfold wAt;rw [n5_,n1_ (?d)];rfl
     have wi:(Z1 (pcOf P' n))[i]=wAt P' n i:=by unfold wAt;rw [n5_,n1_ (?d)];rfl
     have oj:(opI P' n i)[j]=(opI P' n i).getD j 0:=by rw [n5_,n1_ (?d)];rfl
     have sD:Same HC (upd HC p (.tup [.int (P'.ts.getD n 0*(opI P' n i)[j]),.int (2*((dOf P'.cs (pcOf P' n)).natAbs:Int))])):=Same.new np;have eD:upd HC p (.tup [.int (P'.ts.getD n 0*(opI P' n i)[j]),.int (2*((dOf P'.cs (pcOf P' n)).natAbs:Int))]) p=some (.tup [.int (P'.ts.getD n 0*(opI P' n i)[j]),.int (2*((dOf P'.cs (pcOf P' n)).natAbs:Int))]):=Zc;generalize upd HC p (.tup [.int (P'.ts.getD n 0*(opI P' n i)[j]),.int (2*((dOf P'.cs (pcOf P' n)).natAbs:Int))])=HD at sD eD nt ⊢;generalize gG:upd HD t (.tup [.int (Z1 (pcOf P' n))[j],.int (Z1 (pcOf P' n))[i],.ref p])=HE;obtain ⟨sE,eE⟩:=gen_upd gG nt;have fE:=sE _ _ (sD _ _ fC)
     have tF:Tk HE (upd HE F (.lst (us'++[.ref t]))):=fun b xs e=>by
      have nb:b≠F:=fun z=>by rw [z,fE] at e;cases e
      rw [Zk nb];exact e
     have sBE:Same HB HE:=sC.trans (sD.trans sE);have lB:us'.length≤36:=by rw [aB.1];exact n36_ (List.length_take_le' ..) (Nat.le_of_eq rfl)
     refine ⟨F,us',.ref t,rfl,rfl,fE,by rw [sizeLine_eq];omega,_,_,us'++[.ref t],rfl,fun b o ne e=>by rw [Zk ne];exact sBE _ _ (kB _ _ ne e),Zc,?_⟩;rw [show 6*i+(j+1)=(6*i+j)+1 from rfl,n60_,Zty hi hj];refine Al.snoc (aB.imp fun v x r=>(r.tk sBE.tk).tk tF) ⟨t,p,rfl,?_,?_⟩
     · rw [wj,wi] at eE;exact tF _ _ eE
     · rw [oj] at eD;exact tF _ _ (sE _ _ eD)
   · obtain ⟨z1,z2,us',rfl,kB,fB,aB⟩:=p;refine ⟨_,_,_,_,_,_,us',rfl,fun b o e=>kB _ _ (fun z=>by rw [z,nF] at e;cases e) (sA _ _ (s29 _ _ e)),fB,aB⟩
 · obtain ⟨y1,y2,y3,y4,y5,y6,us,rfl,s4,f4,a4⟩:=p;refine ⟨_,rfl,q _ F us (s1.trans (s2.trans s4)) f4 ?_⟩;rw [n37_ (show (ownL P' n).length≤6*6 from Nat.le_of_eq rfl)] at a4;exact a4
abbrev Za3:Stmt:=top 58
theorem Zgh (F:Fun K "push_table" "push_table" Za3 f fd) (Cy_:a34_ P w K mg base) (Caj_:a35_ P w K mg base):FnOk P w K mg base CX0 8 f fd ["plate","numbers"] Zhf:=by
 have sc:FnScope ["plate","numbers","terms","number","way","other","push"] ["plate","numbers"] (Zf Za3):=fsc (?i);refine F.ok sc (fun vs H Q E h=>by obtain ⟨v,P',a,ks,rfl,_⟩:=h;rfl) ?B;obtain ⟨v,P',a,ks,rfl,hv,ok,p4,ha,lot,q⟩:=h;have nd:=sc.nd;have hu:=Zo3 hr;have hu1:=Nat.lt_of_succ_lt hu;refine' ?C
 case term=>refine' Zd (Zx (i:=2) nd rfl ?l Zpa) ?g1;case g1=>refine' Zd (Yu PassesOwn.never rfl (Yp (pv 1)) (Zi (i:=3) nd rfl ?l) (Zh (Yu PassesOwn.never rfl (Yh (Zj Caj_ hr ?e rfl (Za (pv 0) (Za (pv 3) Zb rfl) rfl))) (Z0 (n:=3) rfl (Zg (Zi (i:=4) nd rfl ?l) (Zg (Zi (i:=5) nd rfl ?l) (Zg (Zi (i:=6) nd rfl ?l) Zs)))) (Zh (Zai (Zen PySem.F.plainAttrs_list PySem.F.slot_list_append PySem.F.type_list_append Xa (Zen PySem.F.plainAttrs_dict PySem.F.slot_dict_setdefault PySem.F.type_dict_setdefault (Zly hu) (pv 2) (Za (Zv (Za (pv 4) (Za (pv 5) Zb rfl) rfl)) (Za (Yg Zb) Zb rfl) rfl)) (Za (pv 6) Zb rfl))))))) ?g2;case g2=>refine' Zh ?g3;case g3=>refine' Zo (Zwc (g:=?R) (N:=["pair","row"]) (fr:=[none,none]) hu1 rfl (Yc ?e rfl ?e rfl rfl) (Zp7 (pv 2)) ?S (fun _ _ _ _=>pv 0) (fun _ _ _ _=>Zj Cy_ hr ?e rfl ?M))
 have lk:ks.length≤4:=by
  have:=Xy (m:=0) (n:=P'.ps.length) lot.rise fun k hk=>⟨n45_ _,lot.lt k hk⟩
  omega
 have alen:∀ i,i≤ks.length→(allL P' (ks.take i)).length=36*i:=fun i hi=>by
  have:∀ l:List Nat,(allL P' l).length=36*l.length:=fun l=>by
   induction l with
   | nil=>rfl
   | cons x l ih=>unfold allL at *;rw [List.flatMap_cons,n30_,ih,n21_,show (ownL P' x).length=36 from rfl];omega
  rw [this,n43_];omega
 intro D nD;generalize gG:upd H D (.dT [])=H1;obtain ⟨s1,e1⟩:=gen_upd gG nD;refine ⟨_,rfl,a,rfl,⟨_,SqT.of (s1 _ _ ha)⟩,?_⟩;refine Yk (n:=ks.length) (fun i σ H2=>∃ w3 w4 w5 w6 kas,σ=[some v,some (.ref a),some (.ref D),w3,w4,w5,w6]∧Same H H2∧PTab H H2 D kas (allL P' (ks.take i))) ⟨_,_,_,_,[],rfl,s1,⟨e1,.nil,.nil,by simp,nD,by simp [allL],n45_ _⟩⟩ (fun i σ H2 hi pp=>?_) (fun σ H2 pp=>?_) (fun i x σ H2 H3 hi y pp=>?_) (fun σ H2 pp=>?_)
 · obtain ⟨_,_,_,_,_,_,s2,_⟩:=pp;exact ⟨(nI ks).map V.int,((nI ks).map V.int)[i]'(by simpa using hi),SqT.of (s2 _ _ ha),n1_ _⟩
 · obtain ⟨_,_,_,_,_,_,s2,_⟩:=pp;exact ⟨_,SqT.of (s2 _ _ ha),by simp⟩
 · obtain ⟨w3,w4,w5,w6,kas,rfl,s2,pt⟩:=pp;obtain ⟨rfl,yx⟩:=y;have ex:=yx _ (SqT.of (s2 _ _ ha));rw [n4_,n4_,n1_ hi] at ex;cases ex
   refine ⟨_,rfl,_,rfl,v,P',ks[i],rfl,hv.tk s2.tk,ok,lot.lt _ (n28_ hi),fun H4 r us s4 e4 al=>⟨r,rfl,⟨_,SqL.of e4⟩,?_⟩⟩;have s04:=s2.trans s4;have pt4:=pt.more s4;have ul:us.length=36:=al.1;have nr:V.ref r∉kas.map (·.2)→True:=fun _=>trivial;refine Yk (n:=36) (fun j σ H5=>∃ w4 w5 w6 kas,σ=[some v,some (.ref a),some (.ref D),some (.int ks[i]),w4,w5,w6]∧Same H H5∧H5 r=some (.lst us)∧Al (IsOwn H5) us (ownL P' ks[i])∧PTab H H5 D kas (allL P' (ks.take i)++(ownL P' ks[i]).take j)) ⟨_,_,_,kas,rfl,s04,e4,al,by simpa using pt4⟩ (fun j σ H5 hj p=>?_) (fun σ H5 p=>?_) (fun j x σ H6 H5 hj y p=>?_) (fun σ H5 p=>?_)
   · obtain ⟨_,_,_,_,rfl,_,h,_⟩:=p;exact ⟨us,us[j]'(?d),SqL.of h,n1_ _⟩
   · obtain ⟨_,_,_,_,rfl,_,h,_⟩:=p;exact ⟨us,SqL.of h,?d⟩
   · obtain ⟨w4,w5,w6,kas,rfl,s5,h5,al5,pt5⟩:=p;obtain ⟨rfl,yx⟩:=y;have ex:=yx _ (SqL.of h5);obtain ⟨⟨⟨kw,ko⟩,pr⟩,ee,t,pa,rfl,ht,hpa⟩:=al5.get ex;refine ⟨t,_,rfl,SqT.of ht,rfl,_,_,rfl,_,_,rfl,_,_,rfl,rfl,?_⟩;refine ⟨_,rfl,.inr (.inr (.inl ⟨rfl,.inr ⟨_,pt5.dt⟩⟩)),_,rfl,_,rfl,z2_,fun b nb=>⟨z0_,fun L nL=>?_⟩⟩;have s6:Same H5 (upd H5 b (.tup [.int kw,.int ko])):=Same.new nb;have e6:upd H5 b (.tup [.int kw,.int ko]) b=some (.tup [.int kw,.int ko]):=Zc;generalize upd H5 b (.tup [.int kw,.int ko])=H6 at s6 e6 nL ⊢;have s7:Same H6 (upd H6 L (.lst [])):=Same.new nL;have e7:upd H6 L (.lst []) L=some (.lst []):=Zc
     have n7:V.ref L∉kas.map (·.2):=fun z=>by
      obtain ⟨p,hp,e⟩:=n25_.mp z;obtain ⟨a1,us1,e1,_,e2,_⟩:=(pt5.more s6).at_ p hp;rw [show p.2=V.ref L from e] at e1;cases e1
      rw [nL] at e2;cases e2
     have nr:L≠r:=fun z=>by rw [z,s6 _ _ h5] at nL;cases nL
     have fL:=Zt4 (s5.trans s6) nL;generalize upd H6 L (.lst [])=H7 at s7 e7 ⊢;have s57:=s6.trans s7;have s07:=s5.trans s57;have pt7:=pt5.more s57;have al7:=al5.imp fun v x r=>IsOwn.tk s57.tk r;have lk2:=alen (i+1) hi;have lk1:=alen i (Nat.le_of_lt hi);have kl:=pt7.len;rw [n30_,lk1,n43_] at kl;have tk2:(ownL P' ks[i]).take (j+1)=(ownL P' ks[i]).take j++[((kw,ko),pr)]:=by rw [n60_,ee];rfl
     refine ⟨D,b,kvE kas,ek (kw,ko),_,rfl,rfl,pt7.dt,s7 _ _ e6,by rw [n7_,sizeLine_eq];omega,fun u hu'=>?_,fun hn=>?_⟩
     · have mk:=(valE (kw,ko) kas).1 u hu';obtain ⟨a1,us1,e1,e2,e3,e4⟩:=pt7.at_ _ mk;cases e1
       have n1:a1≠r:=fun z=>by
        rw [z,s57 _ _ h5] at e3;cases e3
        exact Zte (?d) al7 e4
       have l1:=Zul (allL P' (ks.take i)++(ownL P' ks[i]).take j) (kw,ko);rw [n30_,lk1,n43_] at l1;refine ⟨.inl ⟨rfl,_,SqL.of e3⟩,_,rfl,a1,_,_,rfl,rfl,e3,by rw [show us1.length=(tbl (allL P' (ks.take i)++(ownL P' ks[i]).take j) (kw,ko)).length from e4.1,sizeLine_eq];omega,?_⟩;have pt8:=pt7.old (e:=((kw,ko),pr)) mk e3 ⟨pa,rfl,s57 _ _ hpa⟩;rw [n78_,← tk2] at pt8;have k8:Keep a1 H7 (upd H7 a1 (.lst (us1++[.ref pa]))):=fun b o ne e=>by rw [Zk ne];exact e
       refine ⟨_,_,_,kas,rfl,fun b o eb=>?_,by rw [Zk n1.symm];exact s57 _ _ h5,al7.imp fun v x r=>IsOwn.tk (fun b o eb=>?_) r,pt8⟩
       · rw [Zk (Zm eb e2)];exact s07 _ _ eb
       · rw [Zk fun z=>by rw [z,e3] at eb;cases eb];exact eb
     · have dD:L≠D:=fun z=>by have:=pt7.dt;rw [← z,e7] at this;cases this
       have rD:r≠D:=fun z=>by have:=pt5.dt;rw [← z,h5] at this;cases this
       have pt8:=pt7.new (e:=((kw,ko),pr)) hn n7 e7 fL ⟨pa,rfl,s57 _ _ hpa⟩;rw [n78_,← tk2] at pt8;refine ⟨.inl ⟨rfl,_,SqL.of (by rw [Zk dD];exact e7)⟩,_,rfl,L,_,_,rfl,rfl,(by rw [Zk dD];exact e7),by show 0<sizeLine;decide,?_⟩;refine ⟨_,_,_,_,rfl,fun b o eb=>?_,by rw [Zk nr.symm,Zk rD];exact s57 _ _ h5,al7.imp fun v x r=>IsOwn.tk (fun b o eb=>?_) r,pt8⟩
       · rw [Zk (Zm eb fL),Zk (Zm eb pt5.fr)];exact s07 _ _ eb
       · rw [Zk (fun z=>by rw [z,e7] at eb;cases eb),Zk (fun z=>by have:=pt7.dt;rw [← z,eb] at this;cases this)];exact eb
   · obtain ⟨w4,w5,w6,kas,rfl,s5,_,_,pt5⟩:=p;rw [n37_ (show (ownL P' ks[i]).length≤36 from n11_ _)] at pt5
     have:allL P' (ks.take (i+1))=allL P' (ks.take i)++ownL P' ks[i]:=by
      unfold allL;rw [n60_,n1_ hi,List.flatMap_append];simp
     exact ⟨_,_,_,_,kas,rfl,s5,by rw [this];exact pt5⟩
 · obtain ⟨w3,w4,w5,w6,kas,rfl,s2,pt⟩:=pp;rw [n89_] at pt;refine ⟨_,rfl,D,_,rfl,pt.dt,fun o R nR=>?_⟩;have sG:Same H (upd H2 D (.frz o (.dT (kvE kas)))):=fun b o eb=>by rw [Zk (Zm eb pt.fr)];exact s2 _ _ eb
   have eG:upd H2 D (.frz o (.dT (kvE kas))) D=some (.frz o (.dT (kvE kas))):=Zc
   have rG:∀ p∈kas,∃ a us,p.2=.ref a∧upd H2 D (.frz o (.dT (kvE kas))) a=some (.lst us)∧Al (IsP (upd H2 D (.frz o (.dT (kvE kas))))) us (tbl (allL P' ks) p.1):=fun p hp=>by
    obtain ⟨a1,us,e1,e2,e3,e4⟩:=pt.at_ p hp;refine ⟨a1,us,e1,by rw [Zk fun z=>by rw [z,pt.dt] at e3;cases e3];exact e3,e4.imp fun v x r=>r.tk fun b xs e=>?_⟩;rw [Zk fun z=>by rw [z,pt.dt] at e;cases e];exact e
   generalize upd H2 D (.frz o (.dT (kvE kas)))=G at sG eG rG nR ⊢;refine Ztc (n:=kas.length) (fun i σ H3=>∃ u0 u1 kqs,σ=[u0,u1]∧Same G H3∧H3 R=some (.dT (kvE kqs))∧kqs.map (·.1)=(kas.take i).map (·.1)∧∀ p∈kqs,IsQ H3 p.2 (fLot P' ks p.1)) ⟨_,_,[],rfl,Same.new nR,Zc,by simp,by simp⟩ (fun i σ H3 hi p=>?_) (fun σ H3 p=>?_) (fun i x σ H3 H4 hi y p=>?_) (fun σ H3 p=>?_)
   · obtain ⟨_,_,_,_,s3,_⟩:=p;exact ⟨_,s3 _ _ eG,by simpa using hi⟩
   · obtain ⟨_,_,_,_,s3,_⟩:=p;exact ⟨_,s3 _ _ eG,by simp⟩
   · obtain ⟨u0,u1,kqs,rfl,s3,e3,kk,hq⟩:=p;obtain ⟨g,b,k,y,rfl,ng,rfl,hb,yx⟩:=y;have ex:=yx _ (s3 _ _ eG);rw [n4_,n1_ hi] at ex;cases ex
     obtain ⟨a1,us,e1,e2,e4⟩:=rG _ (n28_ hi);generalize gG:upd H3 g (.tup [.ref b,kas[i].2])=H4;obtain ⟨s4,e5⟩:=gen_upd gG ng;have s34:=s3.trans s4;have al:=Zga ok kas[i].1 ks lot.lt;refine ⟨g,_,rfl,SqT.of e5,rfl,_,_,rfl,_,_,rfl,rfl,_,rfl,_,rfl,a1,us,_,by rw [e1],s34 _ _ e2,e4.imp fun v x r=>r.tk s34.tk,Zwi (Znh ok lot.lt _),?d,fun H5 v5 s5 hv5=>?_⟩
     have nk:kas[i].1∉kqs.map (·.1):=fun z=>by
      rw [kk,List.map_take] at z;obtain ⟨j,hj,ej⟩:=n52_ z;rw [n43_,n7_] at hj;rw [List.getElem_take,List.getElem_map] at ej
      have:=(List.getElem_inj pt.nk).mp (show (kas.map (·.1))[j]'(by simp;omega)=(kas.map (·.1))[i]'(by simpa using hi) by rw [List.getElem_map,List.getElem_map];exact ej)
      omega
     have ql:kqs.length=i:=by
      have:=congrArg List.length kk
      rw [n7_,n7_,n43_] at this;omega
     have al2:=alen ks.length (n11_ _);rw [n89_] at al2;have pl:=pt.len;refine ⟨kvE kqs,ek kas[i].1,b,s5 _ _ (s4 _ _ e3),rfl,s5 _ _ (s4 _ _ hb),by rw [n7_,ql,sizeLine_eq];omega,kas.length-(i+1),?d,?d,rfl,_,_,kqs++[(kas[i].1,v5)],rfl,fun b o eb=>?_,?_,?_,fun p hp=>?_⟩
     · rw [Zk (Zm eb nR)];exact s5 _ _ (s34 _ _ eb)
     · rw [putE nk];exact Zc
     · rw [n51_,kk,n60_,n1_ hi,n51_];rfl
     · have t8:Tk H5 (upd H5 R (.dT (putK (kvE kqs) (ek kas[i].1) v5))):=fun c xs ec=>by
        rw [Zk fun z=>by rw [z,s5 _ _ (s4 _ _ e3)] at ec;cases ec];exact ec
       rcases n39_.mp hp with h|h
       · exact ((hq p h).tk (s4.trans s5).tk).tk t8
       · rw [n22_.mp h];exact hv5.tk t8
   · obtain ⟨u0,u1,kqs,rfl,s3,e3,kk,hq⟩:=p;rw [n89_] at kk;refine q _ _ (sG.trans s3) ⟨_,e3,fun k=>⟨fun v hv=>⟨hq _ ((valE k kqs).1 v hv),Zm8 (Znh ok lot.lt k) (n36_ (Zga ok k ks lot.lt) lk)⟩,fun hn=>?_⟩⟩;have nk:=(valE k kqs).2 hn;rw [kk] at nk;unfold fLot tbl;rw [List.filter_eq_nil_iff.mpr fun x hx=>?_];rfl;intro c;exact nk (n48_ c ▸ pt.has x hx)
abbrev Zbc:Stmt:=top 60
theorem Zis (F:Fun K "together" "together" Zbc f fd) (Cy_:a34_ P w K mg base):FnOk P w K mg base CX0 7 f fd ["dicts","key"] Zdk:=by
 have sc:FnScope ["dicts","key"] ["dicts","key"] (Zf Zbc):=fsc (?i);refine F.ok sc (fun vs H Q E h=>by obtain ⟨dl,v,x,rfl,_⟩:=h;rfl) ?B;obtain ⟨dl,v,x,rfl,hd,q⟩:=h;have hu:=Zo3 hr;refine' ?C
 case term=>refine' Zh (Zo (Zj Cy_ hr ?e rfl (Za (Y4 (N:=["parts","key"]) (fr:=[none,some 1]) rfl (Z3 (XN:=["dicts","key"]) (Scope.names (Zf Zbc)) rfl rfl rfl (fun _ h=>Zy h) (?i) rfl) (Yh (pv 0)) ?O (fun _ _ _ _=>Zg3 (Zvs (Zut hu (pv 1) (pv 0)) rfl)) (fun _ _ _ _=>Zso hu (pv 0) (pv 1) (?j))) Zb rfl)))
 rcases hd with ⟨hl,rfl⟩|⟨T,f,b,k,hl,⟨kvs,eT,hT⟩,rfl,hb,rfl⟩
 · refine ⟨_,rfl,dl,rfl,⟨_,SqL.of hl⟩,fun D nD=>?_⟩;refine lc_F (k:=.l) (vs:=[]) IsQ hRQ (fun _=>none) ?f nD hl (fun i w H2 C N hw s2 c n=>?_) (fun H2 us s2 e2 a2=>?_)
   · simp at hw
   · exact ⟨D,us,[],rfl,e2,Zol a2,by simp,by simp,fun H3 r s3 hr=>q _ _ (s2.trans s3) hr⟩
 · refine ⟨_,rfl,dl,rfl,⟨_,SqL.of hl⟩,fun D nD=>?_⟩;refine lc_F (k:=.l) (vs:=[.ref T]) IsQ hRQ (fun _=>(valV kvs (ek k)).map fun _=>f k) ?f nD hl (fun i w H2 C N hw s2 c n=>?_) (fun H2 us s2 e2 a2=>?_)
   · have hi:i=0:=by have:=(n18_.mp hw).1;simpa using this
     subst hi;cases hw
     have g:DGet H2 T (.ref b) (valV kvs (ek k)):=DGet.tq (s2 _ _ eT) (s2 _ _ hb);refine ⟨_,rfl,_,rfl,T,_,rfl,g,?_⟩;have tk:=(hT k).1;cases e:valV kvs (ek k) with
     | none=>exact ⟨false,rfl,n _ (Same.refl _) (by rw [e];rfl)⟩
     | some y =>
       rw [e] at g;exact ⟨true,rfl,_,rfl,_,rfl,T,_,rfl,g,c _ _ (f k) (Same.refl _) (by rw [e];rfl) ((tk y e).1.tk s2.tk)⟩
   · cases e:valV kvs (ek k) with
     | none =>
       rw [e] at a2;have z:=(hT k).2 e;exact ⟨D,us,[],rfl,e2,Zol a2,by simp,by simp,fun H3 r s3 hr=>q _ _ (s2.trans s3) (by rw [z];exact hr)⟩
     | some y =>
       rw [e] at a2;obtain ⟨_,b1,b2⟩:=(hT k).1 y e;refine ⟨D,us,[prQ (f k)],rfl,e2,Zol a2,Zvo (qs:=[f k]) (by simpa using ⟨b1,b2⟩),by simp,fun H3 r s3 hr=>q _ _ (s2.trans s3) ?_⟩;rw [Zpn] at hr;exact hr
abbrev Xn:Stmt:=top 61
theorem Ziz (F:Fun K "frame_by" "frame_by" Xn f fd) (Ct_:a36_ P w K mg base):FnOk P w K mg base CX0 8 f fd ["ways","tables","rights"] Ze7:=by
 have sc:FnScope ["ways","tables","rights","rows"] ["ways","tables","rights"] (Zf Xn):=fsc (?i);refine F.ok sc (fun vs H Q E h=>by obtain ⟨wl,tl,rl,U,ns,g,rfl,_⟩:=h;rfl) ?B;obtain ⟨wl,tl,rl,U,ns,g,rfl,hw,ht,hri,hT,h30,q⟩:=h;have nd:=sc.nd;refine' ?C
 case term=>refine' Zd (Zco (N:=["way","ways","tables"]) (fr:=[none,some 0,some 1]) rfl rfl (Zi (i:=3) nd rfl ?l) (Z3 (XN:=["ways","tables","rights","rows"]) (Scope.names (Zf Xn)) rfl rfl rfl (fun _ h=>Zy h) (?i) rfl) (Yh (pv 0)) (fun _ _ _ _=>Zi (i:=0) (show List.Nodup (["way","ways","tables"]:List Str) by decide) rfl (Or.inr rfl) ?l) ?K (fun _ _ _ _=>Zz (X4 K rfl) rfl T.b_tuple Z4 (Za (Y4 (N:=["other","tables","way"]) (fr:=[none,some 2,some 0]) rfl (Z3 (XN:=["way","ways","tables"]) (relN _ (Scope.names (Zf Xn))) rfl rfl rfl (fun _ h=>Zdg (?i) h) (?i) rfl) (Zfv K rfl (pv 1)) ?O ?K (fun _ _ _ _=>Zj Ct_ hr ?e rfl (Za (pv 1) (Za (Zv (Za (pv 2) ?L rfl)) Zb rfl) rfl))) Zb rfl))) (Zh (Zo (Zv (Za (Zz Zw rfl T.b_tuple Z4 ?L) (Za (Zz Zw rfl T.b_tuple Z4 (Za (pv 3) Zb rfl)) (Za (Zz Zw rfl T.b_tuple Z4 (Za (Y4 (N:=["way","rights"]) (fr:=[none,some 2]) rfl (Z3 (XN:=["ways","tables","rights","rows"]) (Scope.names (Zf Xn)) rfl rfl rfl (fun _ h=>Zy h) (?i) rfl) (Yh (pv 0)) ?O ?K (fun _ _ _ _=>Zj Ct_ hr ?e rfl (Za (pv 1) ?L rfl))) Zb rfl)) Zb rfl) rfl) rfl))))
 have l30:(ns.map V.int).length≤1000:=by simp;omega
 refine ⟨_,rfl,wl,rfl,⟨_,SqL.of hw⟩,fun D nD=>?_⟩;refine lc_T (k:=.l) (vs:=ns.map V.int) IsQs hRQs (ns.map fun w=>ns.map fun o=>g (w,o)) ?f l30 nD hw (fun i w H2 C hi s2 c=>?_) (fun H2 us s2 e2 a2=>?_)
 · rw [n4_] at hi;obtain ⟨x,ex,rfl⟩:=n12_.mp hi;refine ⟨_,rfl,wl,rfl,⟨_,SqL.of (s2 _ _ hw)⟩,fun D2 nD2=>?_⟩;refine lc_T (k:=.l) (vs:=ns.map V.int) IsQ hRQ (ns.map fun o=>g (x,o)) ?f l30 nD2 (s2 _ _ hw) (fun j w H3 C' hj s3 c'=>?_) (fun H3 us s3 e3 a3=>?_)
   · rw [n4_] at hj;obtain ⟨y,ey,rfl⟩:=n12_.mp hj;refine ⟨_,rfl,_,rfl,_,rfl,z2_,fun b nb=>?_⟩;have s4:Same H3 (upd H3 b (.tup [.int x,.int y])):=Same.new nb;have s24:=s2.trans (s3.trans s4);exact ⟨tl,.ref b,_,rfl,.inr ⟨U,g,b,(x,y),s24 _ _ ht,hT.more s24,rfl,Zc,rfl⟩,fun H5 r s5 h5=>c' _ _ _ (s4.trans s5) (by rw [n4_,ey];rfl) h5⟩
   · refine ⟨D2,us,rfl,.inl ⟨SqL.of e3,fun r nr=>?_⟩⟩;have s5:Same H3 (upd H3 r (.tup us)):=Same.new nr;exact c _ _ _ (s3.trans s5) (by rw [n4_,ex];rfl) ⟨r,us,rfl,Zc,a3.imp fun v x r=>r.tk s5.tk⟩
 · refine ⟨_,rfl,wl,_,rfl,.inl ⟨SqL.of (s2 _ _ hw),fun W nW=>?_⟩⟩;generalize gG:upd H2 W (.tup (ns.map V.int))=H3;obtain ⟨s3,e3⟩:=gen_upd gG nW;refine ⟨_,rfl,D,_,rfl,.inl ⟨SqL.of (s3 _ _ e2),fun R nR=>?_⟩⟩;generalize gG:upd H3 R (.tup us)=H4;obtain ⟨s4,e4⟩:=gen_upd gG nR;have s04:=s2.trans (s3.trans s4);refine ⟨_,rfl,wl,rfl,⟨_,SqL.of (s04 _ _ hw)⟩,fun D3 nD3=>?_⟩;refine lc_T (k:=.l) (vs:=ns.map V.int) IsQ hRQ (ns.map fun _=>(0:Rat)) ?f l30 nD3 (s04 _ _ hw) (fun i w H5 C hi s5 c=>?_) (fun H5 us5 s5 e5 a5=>?_)
   · rw [n4_] at hi;obtain ⟨x,ex,rfl⟩:=n12_.mp hi;exact ⟨_,rfl,_,rfl,rl,.int x,0,rfl,.inl ⟨(s04.trans s5) _ _ hri,rfl⟩,fun H6 r s6 h6=>c _ _ _ s6 (by rw [n4_,ex];rfl) h6⟩
   · refine ⟨D3,us5,rfl,.inl ⟨SqL.of e5,fun Z nZ=>?_⟩⟩;generalize gG:upd H5 Z (.tup us5)=H6;obtain ⟨s6,e6⟩:=gen_upd gG nZ;refine ⟨z3_,fun F nF=>?_⟩;have s7:Same H6 (upd H6 F (.tup [.ref W,.ref R,.ref Z])):=Same.new nF;have s47:=s5.trans (s6.trans s7);have s37:=s4.trans s47;exact q _ _ (s2.trans (s3.trans s37)) ⟨F,_,_,_,rfl,Zc,⟨W,rfl,s37 _ _ e3⟩,⟨R,us,rfl,s47 _ _ e4,a2.imp fun v x r=>Yw (s3.trans s37).tk r⟩,⟨Z,us5,rfl,s7 _ _ e6,a5.imp fun v x r=>r.tk (s6.trans s7).tk⟩⟩
abbrev Zba:Stmt:=top 62
theorem Zjc (F:Fun K "frame_of" "frame_of" Zba f fd) (Cac_:a37_ P w K mg base) (Ca2_:a38_ P w K mg base) (Cu_:a39_ P w K mg base) (Cj_:a29_ P w K mg base) (Cak_:a40_ P w K mg base):FnOk P w K mg base CX0 9 f fd ["plate","lot"] Zbg:=by
 have sc:FnScope ["plate","lot","ways"] ["plate","lot"] (Zf Zba):=fsc (?i);refine F.ok sc (fun vs H Q E h=>by obtain ⟨v,P',a,ks,rfl,_⟩:=h;rfl) ?B;obtain ⟨v,P',a,ks,rfl,hv,ok,p4,ha,lot,q⟩:=h;have nd:=sc.nd;refine' ?C
 case term=>refine' Zd (Zai (Zj Cu_ hr ?e rfl ?L)) ?g1;case g1=>refine' Zd ?g2 ?g3;(case g2=>refine' Xv ?g4 Zdl Z9;case g4=>refine' Yz ?g5;case g5=>refine' Z2 (Zj Cac_ hr ?e rfl (Za (Zz (Zeq rfl) rfl T.b_list Zit (Za (Zot rfl T.b_range (Za (Zl Zr rfl T.b_len Yr (Za (Zt Zq (pv 0) Ze (?j)) Zb rfl)) Zb rfl)) Zb rfl)) ?M rfl)) (fun _=>rfl));case g3=>refine' Zd ?g6 (Zh (Zo (Zj Ca2_ hr ?e rfl (Za (pv 2) (Za (Yg (Za (Zj Cak_ hr ?e rfl (Za (pv 0) ?M rfl)) Zb rfl)) (Za (Yg Zb) Zb rfl) rfl) rfl))));case g6=>refine' Zx (i:=2) nd rfl ?l ?g7;case g7=>refine' Zl (Zct rfl) rfl T.b_sorted Zbx ?g8;case g8=>refine' Za (Zs9 (N:=["number","way","plate"]) (fr:=[none,none,some 0]) rfl (Z3 (XN:=["plate","lot","ways"]) (Scope.names (Zf Zba)) rfl rfl rfl (fun _ h=>Zy h) (?i) rfl) (Yp (pv 1)) ?O (fun _ _ _ _=>Zfv K rfl (Zj Cj_ hr ?e rfl (Za (pv 2) ?L rfl))) (fun _ _ _ _=>pgB 1) (fun _ _ _ _=>pv 1)) Zb rfl
 obtain ⟨pa,pc,pp',ptk,pst,rfl,hpa,hpc,⟨qa,qv,rfl,hqa,aq⟩,_⟩:=id hv;have qlen:=aq.1
 have lk:ks.length≤4:=by
  have:=Xy (m:=0) (n:=P'.ps.length) lot.rise fun k hk=>⟨n45_ _,lot.lt k hk⟩
  omega
 refine ⟨_,rfl,.ref pa,P',rfl,hv,ok,fun H1 s1=>?_⟩;refine ⟨_,rfl,pa,_,1,_,rfl,rfl,SqT.of (s1 _ _ hpa),rfl,qa,qv,rfl,.inr (SqT.of (s1 _ _ hqa)),_,rfl,fun R nR=>?_⟩;generalize gG:upd H1 R (.rng 0 qv.length)=H2;obtain ⟨s2,e2⟩:=gen_upd gG nR;refine ⟨R,qv.length,rfl,e2,?d,fun L nL=>?_⟩;have s3:Same H2 (upd H2 L (.lst ((List.range qv.length).map fun i:Nat=>V.int i))):=Same.new nL;have e3:upd H2 L (.lst ((List.range qv.length).map fun i:Nat=>V.int i)) L=some (.lst ((nI (List.range qv.length)).map V.int)):=by rw [Zc,List.map_map];rfl
 generalize upd H2 L (.lst ((List.range qv.length).map fun i:Nat=>V.int i))=H3 at s3 e3 ⊢;have s03:=s1.trans (s2.trans s3);refine ⟨_,rfl,L,a,qv.length,ks,rfl,e3,s03 _ _ ha,lot.rise,fun k hk=>by rw [qlen];exact lot.lt k hk,?d,fun H4 s4=>⟨true,rfl,iteF ?_⟩⟩;have s04:=s03.trans s4;refine ⟨_,rfl,a,rfl,⟨_,SqT.of (s04 _ _ ha)⟩,fun D nD=>?_⟩
 have wl:∀ k<P'.ps.length,(Z1 (pcOf P' k)).length=6:=fun k hk=>by
  match hp:pcOf P' k,(pc3 ok hk).len with
  | [i,j,l],_=>rfl
 refine ⟨fun i m σ G=>m=ks.length-i∧i≤ks.length∧(∃ u0 u1,σ=[u0,u1,some (.ref pa)])∧Same H4 G∧∃ ms:?g,G D=some (setI (Xc w) D ms)∧ms.Nodup∧ms.length≤6*i∧∀ x,x∈ms↔∃ k∈ks.take i,x∈Z1 (pcOf P' k),⟨_,rfl,n45_ _,⟨_,_,rfl⟩,Same.new nD,[],Zc,.nil,n11_ _,by simp⟩,fun i m σ2 H5 w5=>?_⟩;obtain ⟨rfl,hi,⟨u0,u1,rfl⟩,s5,ms,eD,nd5,l5,m5⟩:=w5
 by_cases h:i<ks.length
 · refine .inr ⟨⟨(nI ks).map V.int,V.int (ks[i]),SqT.of (s5 _ _ (s04 _ _ ha)),by rw [n4_,n4_,n1_ h];rfl⟩,fun x H6 y=>?_⟩;obtain ⟨rfl,yx⟩:=y;have ex:=yx _ (SqT.of (s5 _ _ (s04 _ _ ha)));rw [n4_,n4_,n1_ h] at ex;cases ex
   have s05:=s04.trans s5;have hk:=lot.lt _ (n28_ h);have w6:=wl _ hk;refine ⟨_,rfl,_,rfl,.ref pa,P',ks[i],rfl,hv.tk s05.tk,ok,Int.natCast_nonneg _,?d,fun H7 r s7 e7=>⟨r,rfl,⟨_,SqL.of e7⟩,?_⟩⟩;refine ⟨fun j m σ G=>m=6-j∧j≤6∧(∃ u,σ=[some (.int ks[i]),u,some (.ref pa)])∧Same H4 G∧G r=some (.lst ((Z1 (pcOf P' ks[i])).map V.int))∧∃ ms:?g,G D=some (setI (Xc w) D ms)∧ms.Nodup∧ms.length≤6*i+j∧∀ x,x∈ms↔(∃ k∈ks.take i,x∈Z1 (pcOf P' k))∨x∈(Z1 (pcOf P' ks[i])).take j,⟨_,rfl,n45_ _,⟨_,rfl⟩,s5.trans s7,e7,ms,s7 _ _ eD,nd5,l5,by simpa using m5⟩,fun j m σ6 H8 w8=>?_⟩;obtain ⟨rfl,hj,⟨u,rfl⟩,s8,e8,ms8,eD8,nd8,l8,m8⟩:=w8
   by_cases h6:j<6
   · refine .inr ⟨⟨_,V.int (Z1 (pcOf P' ks[i]))[j],SqL.of e8,by rw [n4_,n1_ (?d)];rfl⟩,fun y H9 yy=>?_⟩;obtain ⟨rfl,yx⟩:=yy;have ex:=yx _ (SqL.of e8);rw [n4_,n1_ (?d)] at ex;cases ex
     refine ⟨_,rfl,Xc w,_,ms8,rfl,eD8,?d,_,?_,rfl,?d,⟨_,rfl⟩,fun b o eb=>?_,?_,_,Zc,Zmp nd8,n36_ (Zkv _ _) (?d),fun x=>?_⟩
     · omega
     · rw [Zk (Zm eb nD)];exact s8 _ _ eb
     · rw [Zk fun z=>by rw [z,eD8] at e8;cases e8];exact e8
     · have tj:(Z1 (pcOf P' ks[i])).take (j+1)=(Z1 (pcOf P' ks[i])).take j++[(Z1 (pcOf P' ks[i]))[j]]:=by rw [n60_,n1_ (?d)];rfl
       rw [Zk5,m8,tj,n39_,n22_,or_assoc]
   · have:j=6:=?d
     subst this;refine .inl ⟨⟨_,SqL.of e8,by rw [n7_,w6];exact n11_ _⟩,_,?_,rfl,?d,⟨_,_,rfl⟩,s8,ms8,eD8,nd8,?d,fun x=>?_⟩
     · omega
     · have ti:ks.take (i+1)=ks.take i++[ks[i]]:=by rw [n60_,n1_ h];rfl
       rw [m8,n37_ (Nat.le_of_eq w6),ti];simp only [n39_,n22_,or_and_right,exists_or,exists_eq_left]
 · have:i=ks.length:=?d
   subst this;refine .inl ⟨⟨_,SqT.of (s5 _ _ (s04 _ _ ha)),by simp⟩,?_⟩;rw [n89_] at m5;refine ⟨D,ms,rfl,eD,?d,fun W ns nW pm le=>?_⟩;generalize gG:upd H5 W (.lst (ns.map V.int))=H6;obtain ⟨s6,e6⟩:=gen_upd gG nW;have s06:=s04.trans (s5.trans s6);refine ⟨_,rfl,_,rfl,_,rfl,.ref pa,P',a,ks,rfl,hv.tk s06.tk,ok,p4,s06 _ _ ha,lot,fun H7 T s7 hT=>⟨z1_,fun B nB=>⟨z0_,fun C nC=>?_⟩⟩⟩;have s8:Same H7 (upd H7 B (.lst [.ref T])):=Same.new nB;have e8:upd H7 B (.lst [.ref T]) B=some (.lst [.ref T]):=Zc;generalize upd H7 B (.lst [.ref T])=H8 at s8 e8 nC ⊢;generalize gG:upd H8 C (.lst [])=H9;obtain ⟨s9,e9⟩:=gen_upd gG nC;have s79:=s8.trans s9;have s69:=s7.trans s79;have len:=pm.length_eq;have nd:=pm.nodup_iff.mpr nd5;exact ⟨W,B,C,T,ns,_,rfl,s69 _ _ e6,s9 _ _ e8,e9,hT.more s79,?d,fun H10 r s10 hr=>q _ _ ns (s06.trans (s69.trans s10)) ⟨(le.and nd).imp fun {x y} h=>by have:=h.1;have:=h.2;omega,fun x=>pm.mem_iff.trans (m5 x),?d⟩ hr⟩
abbrev X6:Stmt:=top 64
theorem Zds (F:Fun K "_law_cell_at" "_law_cell_at" X6 f fd):FnOk P w K mg base CX0 1 f fd ["_law_script","_law_k"] (Zor K):=by
 have sc:FnScope ["_law_script","_law_k"] ["_law_script","_law_k"] (Zf X6):=fsc (?i);refine F.ok sc (fun vs H Q E h=>by obtain ⟨a,ns,k,rfl,_⟩:=h;rfl) ?B;obtain ⟨a,ns,k,rfl,hS,q⟩:=h;refine' ?C
 case term=>refine' Zd (Xv (Y6 Znq (pv 1) (Zl Zr rfl T.b_len Yr ?L) (Y0 _)) (Zh (Zo (Zt Yn (pv 0) (pv 1) (?j)))) Z9) (Zh (Zo Ze))
 refine ⟨_,rfl,_,rfl,a,_,rfl,.inl hS,_,_,rfl,rfl,_,rfl,?_⟩;refine ite2 (fun hlt=>?_) (fun _=>q 0)
 have hk:k<ns.length:=by
  have z:=n48_ hlt;rw [n7_] at z;omega
 exact ⟨_,rfl,_,rfl,a,_,_,_,rfl,rfl,hS,Xg (by rw [n4_,n1_ hk];rfl),q _⟩
abbrev Za7:Stmt:=top 65
theorem Zfs (F:Fun K "_law_state" "_law_state" Za7 f fd) (Cz_:a41_ P w K mg base):FnOk P w K mg base CX0 2 f fd ["_law_script","_law_k"] (Zk8 K):=by
 have sc:FnScope ["_law_script","_law_k","_law_cell"] ["_law_script","_law_k"] (Zf Za7):=fsc (?i);refine F.ok sc (fun vs H Q E h=>by obtain ⟨a,ns,k,rfl,_⟩:=h;rfl) ?B;obtain ⟨a,ns,k,rfl,hS,q⟩:=h;have nd:=sc.nd;refine' ?C
 case term=>refine' Zd (Zx (i:=2) nd rfl ?l (Zj Cz_ hr ?e rfl (Za (pv 0) ?M rfl))) (Zh (Zo (Yg (Za (Zl (Zhy rfl) rfl T.b_max Zrv (Za Ze (Za (Zn Yq (pv 2) (Zn Zus Ze Ze)) Zb rfl) rfl)) (Za (Zn Yd (Zn X5 (pv 2) Ze) Ze) ?J rfl) rfl))))
 refine ⟨_,rfl,_,rfl,a,ns,k,rfl,hS,fun c=>?_⟩;refine ⟨_,rfl,_,_,rfl,rfl,⟨?t,?t,?t⟩,_,_,rfl,rfl,_,_,rfl,?_⟩;refine ⟨_,rfl,_,_,rfl,rfl,(by show (2147483629:Int)≠0;decide),_,_,rfl,rfl,(z3_),fun p hp=>q p _ hp (Same.new hp) ⟨_,_,_,Zc,?_,?_⟩⟩
 · have:=n63_ c (b:=2147483629) ?e
   omega
 · have:=n92_ c (b:=2147483629) ?e
   omega
abbrev Zat:Stmt:=top 66
theorem Zec (F:Fun K "_law_choice" "_law_choice" Zat f fd):FnOk P w K mg base CX0 1 f fd ["_law_state_here","_law_many"] Zdp:=by
 have sc:FnScope ["_law_state_here","_law_many","_law_found","_law_mixed"] ["_law_state_here","_law_many"] (Zf Zat):=fsc (?i);refine F.ok sc (fun vs H Q E h=>by obtain ⟨l,m,rfl,_⟩:=h;rfl) ?B;obtain ⟨l,m,rfl,⟨s0,s1,s2,hl,h0,h1⟩,hm,hz,q⟩:=h;have nd:=sc.nd;refine' ?C
 case term=>refine' Zd ?g1 ?g2;(case g1=>refine' Xv (Y6 Zqf (Zt Yn (pv 0) Ze (?j)) Ze (Y0 _)) ?g3 Z9;case g3=>refine' Zd (Zx (i:=2) nd rfl ?l (Zn X5 (Zt Yn (pv 0) Ze (?j)) (pv 1))) (Zd (Ym (Zn Xh (Zt Yn (pv 0) Ze (?j)) (pv 1)) (Zc1 (pv 0) Ze Xw)) (Zh (Zo (pv 2)))));case g2=>refine' Zd (Ym (Zn Yd (Zt Yn (pv 0) Ze (?j)) Ze) (Zc1 (pv 0) Ze Xw)) ?g4;case g4=>refine' Zd ?g5 ?g6;(case g5=>refine' Ym ?g7 (Zc1 (pv 0) Ze Xw);case g7=>refine' Zn X5 ?g8 Ze;case g8=>refine' Zn Yd (Zn Yd (Zn Zp (Zt Yn (pv 0) Ze (?j)) Ze) Ze) (Zt Yn (pv 0) Ze (?j)));case g6=>refine' Zd ?g9 (Zd (Zx (i:=3) nd rfl ?l (Zn X5 (Zn Yd (Zn Zp (pv 3) (pv 3)) (Zn Zp Ze (pv 3))) Ze)) (Zh (Zo (Zn X5 (Zn Xh (pv 3) Ze) (pv 1)))));case g9=>refine' Zx (i:=3) nd rfl ?l ?ga;case ga=>refine' Zn X5 ?gb Ze;case gb=>refine' Zn Yd ?gc Ze;case gc=>refine' Zn Yd ?gd (Zn Zp Ze (Zt Yn (pv 0) Ze (?j)));case gd=>refine' Zn Zp (Zt Yn (pv 0) Ze (?j)) (Zt Yn (pv 0) Ze (?j))
 have hm0:m≠0:=?d
 refine ⟨_,rfl,l,_,0,_,rfl,rfl,SqL.of hl,rfl,_,_,rfl,rfl,_,rfl,?_⟩;refine ite2 (fun _=>?_) (fun _=>?_)
 · refine ⟨_,rfl,l,_,0,_,rfl,rfl,SqL.of hl,rfl,_,rfl,_,_,rfl,rfl,hm0,?_⟩;refine ⟨_,rfl,l,_,0,_,rfl,rfl,SqL.of hl,rfl,_,rfl,_,_,rfl,rfl,⟨hm0,hz⟩,?_⟩;refine ⟨_,rfl,l,_,0,0,rfl,rfl,hl,rfl,?_⟩;exact ⟨_,rfl,q _ _ (n63_ _ hm) (n92_ _ hm) Keep.upd ⟨_,_,_,Zc,h0,h1⟩⟩
 ·
  refine ⟨_,rfl,l,_,2,_,rfl,rfl,SqL.of hl,rfl,_,_,rfl,rfl,?_⟩;refine ⟨_,rfl,l,_,2,2,rfl,rfl,hl,rfl,?_⟩;refine ⟨_,rfl,l,_,1,_,rfl,rfl,SqL.of Zc,rfl,_,_,rfl,rfl,mulS (by rw [p64];omega) ?e,_,_,rfl,rfl,?_⟩;refine ⟨_,rfl,l,_,2,_,rfl,rfl,SqL.of Zc,rfl,_,_,rfl,rfl,_,_,rfl,rfl,(by show (2147483647:Int)≠0;decide),?_⟩;refine ⟨_,rfl,l,_,1,1,rfl,rfl,Zc,rfl,?_⟩;generalize hs:Int.fmod (s1*48271+29+(s2+1)) 2147483647=u;have u0:0≤u:=by rw [← hs];exact n63_ _ ?e
  have u1:u<2147483647:=by rw [← hs];exact n92_ _ ?e
  refine ⟨_,rfl,l,_,1,_,rfl,rfl,SqL.of Zc,rfl,_,rfl,l,_,1,_,rfl,rfl,SqL.of Zc,rfl,u,u,by rw [← hs],by rw [← hs],mulS (by rw [p64];omega) (by rw [p64];omega),?_⟩;refine ⟨_,rfl,l,_,1,_,rfl,rfl,SqL.of Zc,rfl,39373,u,rfl,by rw [← hs],mulS ?e (by rw [p64];omega),_,_,rfl,rfl,_,_,rfl,rfl,_,_,rfl,rfl,(by show (2147483629:Int)≠0;decide),?_⟩;generalize hv:Int.fmod (u*u+39373*u+7) 2147483629=v;have v0:0≤v:=by rw [← hv];exact n63_ _ ?e
  have v1:v<2147483629:=by rw [← hv];exact n92_ _ ?e
  refine ⟨_,rfl,_,rfl,v,v,by rw [← hv],by rw [← hv],mulS (by rw [p64];omega) (by rw [p64];omega),_,rfl,50021,v,rfl,by rw [← hv],mulS ?e (by rw [p64];omega),_,_,rfl,rfl,_,_,rfl,rfl,(by show (2147483587:Int)≠0;decide),?_⟩;refine ⟨_,rfl,_,_,rfl,rfl,⟨?t,X0 ?e⟩,_,rfl,_,_,rfl,rfl,hm0,?_⟩;exact q _ _ (n63_ _ hm) (n92_ _ hm) (Keep.upd.trans Keep.upd) ⟨_,u,_,by rw [← hs];exact Zc,u0,?d⟩
abbrev Za8:Stmt:=top 67
theorem Zgl (F:Fun K "_law_order" "_law_order" Za8 f fd) (Ca_:a42_ P w K mg base):FnOk P w K mg base CX0 2 f fd ["_law_state_here","_law_many"] Zkm:=by
 have sc:FnScope ["_law_state_here","_law_many","_law_left","_law_found"] ["_law_state_here","_law_many"] (Zf Za8):=fsc (?i);refine F.ok sc (fun vs H Q E h=>by obtain ⟨l,n,rfl,_⟩:=h;rfl) ?B;obtain ⟨l,n,rfl,hl,h60,q⟩:=h;have nd:=sc.nd;have hu:=Zo3 hr;have hu1:=Nat.lt_of_succ_lt hu;refine' ?C
 case term=>refine' Zd (Zcv rfl nd (i:=2) (j:=3) rfl rfl ?e rfl rfl (Za (Zz (Zeq rfl) rfl T.b_list Zit (Za (Zot rfl T.b_range ?M) Zb rfl)) (Za (Yg Zb) Zb rfl) rfl) rfl) (Zd (Zc9 PassesOwn.never (Y6 (Zvg hu1) (pv 2) (Yg Zb) (Y0 _)) (Zh (Zai (Zen PySem.F.plainAttrs_list PySem.F.slot_list_append PySem.F.type_list_append Xa (pv 3) (Za (Zen PySem.F.plainAttrs_list PySem.F.slot_list_pop PySem.F.type_list_pop Zpj (pv 2) (Za (Zj Ca_ hr ?e rfl (Za (pv 0) (Za (Zl Zr rfl T.b_len Yr (Za (pv 2) Zb rfl)) Zb rfl) rfl)) Zb rfl)) Zb rfl))))) (Zh (Zo (pv 3))))
 refine ⟨_,rfl,n,rfl,fun R nR=>?_⟩;refine ⟨R,n,rfl,Zc,?d,fun L nL=>?_⟩;have s1:Same H (upd H R (.rng 0 n)):=Same.new nR;generalize upd H R (.rng 0 n)=H1 at s1 nL ⊢
 have nL0:H L=none:=by
  cases e:H L with
  | none=>rfl
  | some o=>rw [s1 _ _ e] at nL;cases nL
 generalize gG:upd H1 L (.lst ((List.range n).map fun i:Nat=>V.int i))=H2;obtain ⟨s2,e2⟩:=gen_upd gG nL;refine ⟨z0_,fun F nF=>?_⟩;have s3:Same H2 (upd H2 F (.lst [])):=Same.new nF;have e3:upd H2 F (.lst []) F=some (.lst []):=Zc;have nLF:L≠F:=Zm e2 nF;generalize upd H2 F (.lst [])=H3 at s3 e3 ⊢;have s03:=s1.trans (s2.trans s3)
 have nF0:H F=none:=by
  cases e:H F with
  | none=>rfl
  | some o=>rw [s2 _ _ (s1 _ _ e)] at nF;cases nF
 have nLl:L≠l:=hl.neN nL0;have nFl:F≠l:=hl.neN nF0;refine ⟨_,_,rfl,?_⟩;refine Zda (fun σ H2=>σ=[some (.ref l),some (.int n),some (.ref L),some (.ref F)]∧Keep l H H2∧StAt H2 l∧∃ xs ys:?g,H2 L=some (.lst (xs.map V.int))∧H2 F=some (.lst (ys.map V.int))∧(ys++xs).Perm ((List.range n).map fun i:Nat=>(i:Int))) (fun σ H2=>match H2 L with|some (.lst xs)=>xs.length|_=>0) ⟨rfl,s03.keep,hl.same s03,(List.range n).map fun i:Nat=>(i:Int),[],?_,e3,.refl _⟩ ?_ ?_
 · rw [List.map_map];exact s3 _ _ e2
 · rintro σ H4 ⟨rfl,k4,l4,xs,ys,eL,eF,pm⟩
   refine ⟨_,rfl,z0_,fun E nE=>?_⟩;generalize gG:upd H4 E (.lst [])=H5;obtain ⟨s5,e5⟩:=gen_upd gG nE;refine ⟨L,E,_,rfl,rfl,SqL.of (s5 _ _ eL),SqL.of e5,_,rfl,?_⟩;cases xs with
   | nil =>
     refine iteF ?_;refine ⟨_,rfl,q H5 F ys (k4.trans s5.keep) (l4.same s5) nF0 (s5 _ _ eF) ?_⟩
     simpa using pm
   | cons x xs =>
     refine iteT ?_
     have len:ys.length+(x :: xs).length=n:=by
      have:=pm.length_eq
      simpa using this
     have l5:=l4.same s5;refine ⟨_,rfl,.inl ⟨rfl,_,SqL.of (s5 _ _ eF)⟩,_,rfl,.inl ⟨rfl,_,SqL.of (s5 _ _ eL)⟩,_,rfl,_,rfl,L,_,rfl,.inl (SqL.of (s5 _ _ eL)),l,_,rfl,l5,?_,?_,fun r H6 r0 r1 k6 l6=>?_⟩
     · simp
     · rw [n7_];refine X0 ?_;show _<18446744073709551616
       simp at len ⊢;omega
     · rw [n7_] at r1;have hr:r.toNat<(x :: xs).length:=?d
       have eL6:=k6 _ _ nLl (s5 _ _ eL);have eF6:=k6 _ _ nFl (s5 _ _ eF);refine ⟨L,_,r,r.toNat,.int ((x :: xs)[r.toNat]),rfl,rfl,eL6,?d,?_,seqI r0 (by rw [n7_];exact r1),by rw [n4_,n1_ hr];rfl,?_⟩
       · have:(n:Int)≤60:=?d
         have:((x :: xs).length:Int)≤n:=?d
         omega
       · refine ⟨F,_,_,rfl,rfl,by rw [Zk nLF.symm];exact eF6,?_,?_⟩
         · rw [n7_,sizeLine_eq];omega
         · have eL7:∀ o,upd (upd H6 L (.lst (((x :: xs).map V.int).eraseIdx r.toNat))) F o L=some (.lst (((x :: xs).map V.int).eraseIdx r.toNat)):=fun o=>by rw [Zk nLF,Zc]
           refine ⟨⟨rfl,?_,?_,(x :: xs).eraseIdx r.toNat,ys++[(x :: xs)[r.toNat]],?_,?_,?_⟩,?_⟩
           · intro b o nb e;rw [Zk (Zm e nF0),Zk (Zm e nL0)];exact k6 _ _ nb (s5 _ _ (k4 _ _ nb e))
           · obtain ⟨a,b,c,e,r⟩:=l6;exact ⟨a,b,c,by rw [Zk nFl.symm,Zk nLl.symm];exact e,r⟩
           · rw [eL7,Zia]
           · rw [Zc,n51_];rfl
           · refine List.Perm.trans ?_ pm;rw [n78_];refine List.Perm.append_left ys ?_;exact X9 _ _ hr
           · rw [eL7,eL];dsimp only;rw [List.length_eraseIdx_of_lt (by rw [n7_];exact hr)]
             simp
 · rintro σ H' Q1 Q2 hq ⟨v,e,z,f⟩
   refine ⟨v,e,z,fun p np=>?_⟩;obtain ⟨a,b,xs,e1,e2,h1,h2,k,t,q'⟩:=f p np;exact ⟨a,b,xs,e1,e2,h1,h2,k,t,hq _ _ q'⟩
abbrev Zcb:Stmt:=top 68
theorem Zi6 (F:Fun K "_law_low" "_law_low" Zcb f fd):FnOk P w K mg base CX0 1 f fd ["_law_top","_law_bottom"] Zru:=by
 have sc:FnScope ["_law_top","_law_bottom","_law_one","_law_other"] ["_law_top","_law_bottom"] (Zf Zcb):=fsc (?i);refine F.ok sc (fun vs H Q E h=>by obtain ⟨t,b,rfl,_⟩:=h;rfl) ?B;obtain ⟨t,b,rfl,hb,hz,q⟩:=h;have nd:=sc.nd;refine' ?C
 case term=>refine' Zd (Zcv rfl nd (i:=2) (j:=3) rfl rfl ?e rfl rfl (Za (Zl Za9 rfl T.b_abs Zfe ?L) (Za (Zl Za9 rfl T.b_abs Zfe ?M) Zb rfl) rfl) rfl) (Zd (Zc9 PassesOwn.never (Y6 Zqf (pv 3) Ze (Y0 _)) (Zh (Zcv rfl nd (i:=2) (j:=3) rfl rfl ?e rfl rfl (Za (pv 3) (Za (Zn X5 (pv 2) (pv 3)) Zb rfl) rfl) rfl))) (Zh (Zo (Zv (Za (Zki (Y6 Zqf (pv 1) Ze (Y0 _)) (Zn Xh (pv 0) (pv 2)) (Zn Yq Ze (Zn Xh (pv 0) (pv 2)))) (Za (Zn Xh (Zl Za9 rfl T.b_abs Zfe ?M) (pv 2)) Zb rfl) rfl)))))
 have hg:=FM.gcd_ne (t:=t) hb;have hgz:(Int.gcd t b)<2^8999:=n10_ (Nat.gcd_le_right _ (Int.natAbs_pos.mpr hb)) (Zrr hz);have ab:∀ x:Int,(if x<0 then -x else x)=(x.natAbs:Int):=fun x=>by split<;>omega
 refine ⟨_,rfl,t,rfl,_,rfl,b,rfl,_,_,rfl,?_⟩
 refine Zda (fun σ H'=>∃ x y:Int,σ=[some (.int t),some (.int b),some (.int x),some (.int y)]∧H'=H∧0≤x∧0≤y∧Int.gcd x y=Int.gcd t b) (fun σ _=>match σ with|[_,_,_,some (.int y)]=>y.natAbs|_=>0)
  ⟨_,_,rfl,rfl,by rw [ab];omega,by rw [ab];omega,by rw [ab,ab];simp [Int.gcd]⟩ ?_ ?_
 · rintro σ H' ⟨x,y,rfl,rfl,hx,hy,e⟩
   refine ⟨_,rfl,_,_,rfl,rfl,_,rfl,?_⟩;refine ite2 (fun hlt=>?_) (fun hlt=>?_)
   · have hy':0<y:=n48_ hlt;have hy0:y≠0:=?d
     refine ⟨_,rfl,_,rfl,_,rfl,x,y,rfl,rfl,hy0,_,_,rfl,⟨y,x.fmod y,rfl,rfl,hy,n63_ _ hy',by rw [FM.gcd_fmod hy0];exact e⟩,FM.fmod_abs_lt hy0⟩
   · have hy':¬ 0<y:=fun z=>hlt (n44_ z);have y0:y=0:=?d
     subst y0;have x0:x=(Int.gcd t b:Int):=by rw [← e,Int.gcd_zero_right];omega
     subst x0;refine ⟨_,rfl,_,_,rfl,rfl,_,rfl,?_⟩
     have fin:∀ n:Int,n=(if 0<b then t.fdiv (Int.gcd t b:Int) else 0-t.fdiv (Int.gcd t b:Int))→∀ p,H' p=none→Q (.ref p) (upd H' p (.tup [.int n,.int (Int.fdiv (if b<0 then -b else b) (Int.gcd t b:Int))])):=by
      rintro n rfl p hp
      rw [ab,FM.low_num hb,FM.low_den hb];exact q p _ (Same.new hp) Zc
     refine ite2 (fun hlt=>?_) (fun hlt=>?_)
     · have hb':0<b:=n48_ hlt;refine ⟨_,rfl,_,rfl,_,_,rfl,rfl,⟨hg,hgz⟩,_,rfl,b,rfl,_,rfl,_,_,rfl,rfl,⟨hg,hgz⟩,z2_,?_⟩;exact fin _ (by rw [if_pos hb'])
     · have hb':¬ 0<b:=fun z=>hlt (n44_ z);refine ⟨_,rfl,_,rfl,_,_,rfl,rfl,⟨hg,hgz⟩,_,_,rfl,rfl,_,rfl,b,rfl,_,rfl,_,_,rfl,rfl,⟨hg,hgz⟩,z2_,?_⟩;exact fin _ (by rw [if_neg hb'])
 · rintro σ H' Q1 Q2 hq ⟨v,e,i,j,e1,e2,k,e3,q'⟩
   exact ⟨v,e,i,j,e1,e2,k,e3,hq _ _ q'⟩
abbrev Zcf:Stmt:=top 69
theorem Ziv (F:Fun K "_law_add" "_law_add" Zcf f fd) (Cf_:a43_ P w K mg base):FnOk P w K mg base CX0 2 f fd ["_law_one","_law_other"] (Zqd (·+·)):=by
 have sc:FnScope ["_law_one","_law_other"] ["_law_one","_law_other"] (Zf Zcf):=fsc (?i);refine F.ok sc (fun vs H Q E h=>by obtain ⟨p,r,x,y,rfl,_⟩:=h;rfl) ?B;obtain ⟨p,r,x,y,rfl,h1,h2,hx,hy,q⟩:=h;refine' ?C
 case term=>refine' Zh ?g1;case g1=>refine' Zo ?g2;case g2=>refine' Zj Cf_ hr ?e rfl ?g3;case g3=>refine' Za ?g4 ?g5 rfl;(case g4=>refine' Zn Yd ?g6 ?g7;(case g6=>refine' Zn Zp (Zt Zq (pv 0) Ze (?j)) (Zt Zq (pv 1) Ze (?j)));case g7=>refine' Zn Zp (Zt Zq (pv 1) Ze (?j)) (Zt Zq (pv 0) Ze (?j)));case g5=>refine' Za ?g8 Zb rfl;case g8=>refine' Zn Zp (Zt Zq (pv 0) Ze (?j)) (Zt Zq (pv 1) Ze (?j))
 refine ⟨_,rfl,p,_,0,_,rfl,rfl,SqT.of h1,rfl,_,rfl,r,_,1,_,rfl,rfl,SqT.of h2,rfl,_,_,rfl,rfl,mND hx hy,_,rfl,r,_,0,_,rfl,rfl,SqT.of h2,rfl,_,rfl,p,_,1,_,rfl,rfl,SqT.of h1,rfl,_,_,rfl,rfl,mND hy hx,_,_,rfl,rfl,_,rfl,p,_,1,_,rfl,rfl,SqT.of h1,rfl,_,rfl,r,_,1,_,rfl,rfl,SqT.of h2,rfl,_,_,rfl,rfl,mDD hx hy,_,_,rfl,FM.mul_ne,Zvt hx hy,?_⟩;rw [FM.add_eq];exact q
abbrev Zcc:Stmt:=top 70
theorem Zjk (F:Fun K "_law_mul" "_law_mul" Zcc f fd) (Cf_:a43_ P w K mg base):FnOk P w K mg base CX0 2 f fd ["_law_one","_law_other"] (Zqd (·*·)):=by
 have sc:FnScope ["_law_one","_law_other"] ["_law_one","_law_other"] (Zf Zcc):=fsc (?i);refine F.ok sc (fun vs H Q E h=>by obtain ⟨p,r,x,y,rfl,_⟩:=h;rfl) ?B;obtain ⟨p,r,x,y,rfl,h1,h2,hx,hy,q⟩:=h;refine' ?C
 case term=>refine' Zh ?g1;case g1=>refine' Zo ?g2;case g2=>refine' Zj Cf_ hr ?e rfl ?g3;case g3=>refine' Za ?g4 ?g5 rfl;(case g4=>refine' Zn Zp (Zt Zq (pv 0) Ze (?j)) (Zt Zq (pv 1) Ze (?j)));case g5=>refine' Za ?g6 Zb rfl;case g6=>refine' Zn Zp (Zt Zq (pv 0) Ze (?j)) (Zt Zq (pv 1) Ze (?j))
 refine ⟨_,rfl,p,_,0,_,rfl,rfl,SqT.of h1,rfl,_,rfl,r,_,0,_,rfl,rfl,SqT.of h2,rfl,_,_,rfl,rfl,mNN hx hy,_,rfl,p,_,1,_,rfl,rfl,SqT.of h1,rfl,_,rfl,r,_,1,_,rfl,rfl,SqT.of h2,rfl,_,_,rfl,rfl,mDD hx hy,_,_,rfl,FM.mul_ne,Zvt hx hy,?_⟩;rw [FM.mul_eq];exact q
abbrev Za1:Stmt:=top 71
theorem Zgw (F:Fun K "_law_total" "_law_total" Za1 f fd) (Cd_:a44_ P w K mg base):FnOk P w K mg base CX0 3 f fd ["_law_some"] Zkp:=by
 have sc:FnScope ["_law_some","_law_found","_law_one"] ["_law_some"] (Zf Za1):=fsc (?i);refine F.ok sc (fun vs H Q E h=>by obtain ⟨a,us,qs,rfl,_⟩:=h;rfl) ?B;obtain ⟨a,us,qs,rfl,ha,al,hB,h12,q⟩:=h;have nd:=sc.nd;refine' ?C
 case term=>refine' Zd (Zx (i:=1) nd rfl ?l (Zv (Za Ze ?J rfl))) (Zd (Yu PassesOwn.never rfl (Yh (pv 0)) (Zi (i:=2) nd rfl ?l) (Zh (Zx (i:=1) nd rfl ?l (Zj Cd_ hr ?e rfl (Za (pv 1) (Za (pv 2) Zb rfl) rfl))))) (Zh (Zo (pv 1))))
 have hl:=al.1;refine ⟨z2_,fun z nz=>?_⟩;have s1:Same H (upd H z (.tup [.int 0,.int 1])):=Same.new nz;have e1:upd H z (.tup [.int 0,.int 1]) z=some (.tup (rt 0)):=Zc;generalize upd H z (.tup [.int 0,.int 1])=H1 at s1 e1 ⊢;refine ⟨_,rfl,a,rfl,⟨_,SqL.of (s1 _ _ ha)⟩,?_⟩;refine Yk (n:=qs.length) (fun i σ H2=>Same H H2∧∃ v x,σ=[some (.ref a),some v,x]∧IsQ H2 v (tot (qs.take i))) ⟨s1,_,_,rfl,z,rfl,e1⟩ (fun i σ H2 hi p=>⟨us,us[i]'(?d),SqL.of (p.1 _ _ ha),n1_ (?d)⟩) (fun σ H2 p=>⟨us,SqL.of (p.1 _ _ ha),?d⟩) (fun i x σ H2 H3 hi y p=>?_) (fun σ H2 p=>?_)
 · obtain ⟨s2,v,x',rfl,p,rfl,hp⟩:=p;obtain ⟨rfl,y2⟩:=y;obtain ⟨g,eg,r,rfl,hr'⟩:=al.get (y2 us (SqL.of (s2 _ _ ha)));have hg:=hB g (n6_ eg);have ht:FM.B ((150+1)*(qs.take i).length+1) (tot (qs.take i)):=Zpo _ fun x hx=>hB x (List.mem_of_mem_take hx);have hlen:(qs.take i).length≤12:=by rw [n43_];omega
   refine ⟨_,rfl,_,rfl,p,r,_,g,rfl,hp,s2 _ _ hr',ht.mono (?d),hg.mono ?e,fun w H4 s4 hw=>?_⟩;refine ⟨s2.trans s4,_,_,rfl,w,rfl,?_⟩;rw [hw]
   have:tot (qs.take (i+1))=tot (qs.take i)+g:=by
    unfold tot;rw [n60_,eg,List.foldl_append];rfl
   rw [this]
 · obtain ⟨s2,v,x',rfl,hv⟩:=p;rw [n37_ (n11_ _)] at hv;exact ⟨_,rfl,q _ _ s2 hv⟩
abbrev Zap:Stmt:=top 72
theorem Zel (F:Fun K "_law_shapes" "_law_shapes" Zap f fd):FnOk P w K mg base CX0 1 f fd [] Zhv:=by
 have sc:FnScope ["_law_one","_law_two","_law_hub","_law_hinge","_law_apart","_law_strip","_law_cross","_law_chain"] [] (Zf Zap):=fsc (?i);refine F.ok sc (fun vs H Q E h=>by obtain ⟨rfl,_⟩:=h;rfl) ?B;obtain ⟨rfl,q⟩:=h;have nd:=sc.nd;refine' ?C
 case term=>refine' Zd ?g1 ?g2;(case g1=>refine' @Zx _ _ (0) _ _ _ _ nd rfl ?l ?g3 (by rfl) ?V;case g3=>refine' @X2 _ _ (([(0,0),(2,0),(0,3)],[[0,1,2]])) rfl);case g2=>refine' Zd ?g4 ?g5;(case g4=>refine' @Zx _ _ (1) _ _ _ _ nd rfl ?l ?g6 (by rfl) ?V;case g6=>refine' @X2 _ _ (([(0,0),(3,0),(3,2),(0,2)],[[0,1,2],[0,2,3]])) rfl);case g5=>refine' Zd ?g7 ?g8;(case g7=>refine' @Zx _ _ (2) _ _ _ _ nd rfl ?l ?g9 (by rfl) ?V;case g9=>refine' @X2 _ _ (([(0,0),(6,0),(0,6),(2,1)],[[0,1,3],[0,2,3],[1,2,3]])) rfl);case g8=>refine' Zd ?ga ?gb;(case ga=>refine' @Zx _ _ (3) _ _ _ _ nd rfl ?l ?gc (by rfl) ?V;case gc=>refine' @X2 _ _ (([(0,0),(2,1),(2,-1),(-2,1),(-3,-1)],[[0,1,2],[0,3,4]])) rfl);case gb=>refine' Zd ?gd ?ge;(case gd=>refine' @Zx _ _ (4) _ _ _ _ nd rfl ?l ?gf (by rfl) ?V;case gf=>refine' @X2 _ _ (([(0,0),(2,0),(0,2),(4,0),(6,1),(4,3)],[[0,1,2],[3,4,5]])) rfl);case ge=>refine' Zd ?gg ?gh;(case gg=>refine' @Zx _ _ (5) _ _ _ _ nd rfl ?l ?gi (by rfl) ?V;case gi=>refine' @X2 _ _ (([(0,0),(0,2),(2,0),(3,2),(5,0)],[[0,1,2],[1,2,3],[2,3,4]])) rfl);case gh=>refine' Zd ?gj ?gk;(case gj=>refine' @Zx _ _ (6) _ _ _ _ nd rfl ?l ?gl (by rfl) ?V;case gl=>refine' @X2 _ _ (([(0,0),(2,0),(0,3),(-2,0),(0,-1)],[[0,1,2],[0,2,3],[0,3,4],[0,1,4]])) rfl);case gk=>refine' Zd ?gm ?gn;(case gm=>refine' @Zx _ _ (7) _ _ _ _ nd rfl ?l ?go (by rfl) ?V;case go=>refine' @X2 _ _ (([(0,0),(1,2),(2,0),(3,2),(4,0),(5,3)],[[0,1,2],[2,3,4],[3,4,5]])) rfl);case gn=>refine' Zh ?gp;case gp=>refine' Zo ?gq;case gq=>refine' Yg (Za (pv 0) (Za (pv 1) (Za (pv 3) (Za (pv 4) (Za (pv 2) (Za (pv 5) (Za (pv 7) (Za (pv 6) Zb rfl) rfl) rfl) rfl) rfl) rfl) rfl) rfl)
 intro H1 v_one s1 h_one;intro H2 v_two s2 h_two;intro H3 v_hub s3 h_hub;intro H4 v_hinge s4 h_hinge;intro H5 v_apart s5 h_apart;intro H6 v_strip s6 h_strip;intro H7 v_cross s7 h_cross;intro H8 v_chain s8 h_chain;replace h_one:=h_one.tk s2.tk;replace h_one:=h_one.tk s3.tk;replace h_one:=h_one.tk s4.tk;replace h_one:=h_one.tk s5.tk;replace h_one:=h_one.tk s6.tk;replace h_one:=h_one.tk s7.tk;replace h_one:=h_one.tk s8.tk;replace h_two:=h_two.tk s3.tk;replace h_two:=h_two.tk s4.tk;replace h_two:=h_two.tk s5.tk;replace h_two:=h_two.tk s6.tk;replace h_two:=h_two.tk s7.tk;replace h_two:=h_two.tk s8.tk;replace h_hub:=h_hub.tk s4.tk;replace h_hub:=h_hub.tk s5.tk;replace h_hub:=h_hub.tk s6.tk;replace h_hub:=h_hub.tk s7.tk;replace h_hub:=h_hub.tk s8.tk;replace h_hinge:=h_hinge.tk s5.tk;replace h_hinge:=h_hinge.tk s6.tk;replace h_hinge:=h_hinge.tk s7.tk;replace h_hinge:=h_hinge.tk s8.tk;replace h_apart:=h_apart.tk s6.tk;replace h_apart:=h_apart.tk s7.tk;replace h_apart:=h_apart.tk s8.tk;replace h_strip:=h_strip.tk s7.tk;replace h_strip:=h_strip.tk s8.tk;replace h_cross:=h_cross.tk s8.tk;refine ⟨_,rfl,_,rfl,_,rfl,_,rfl,_,rfl,_,rfl,_,rfl,_,rfl,by show 8≤sizeLine;decide,fun r nr=>?_⟩;have s9:Same H8 (upd H8 r (.lst [v_one,v_two,v_hinge,v_apart,v_hub,v_strip,v_chain,v_cross])):=Same.new nr;have s08:=(((((((s1.trans s2).trans s3).trans s4).trans s5).trans s6).trans s7).trans s8);refine q _ r _ (s08.trans s9) ?_ Zc ?_
 · cases e:H r with
   | none=>rfl
   | some o=>rw [s08 _ _ e] at nr;cases nr
 · exact (.cons (h_one.tk s9.tk) (.cons (h_two.tk s9.tk) (.cons (h_hinge.tk s9.tk) (.cons (h_apart.tk s9.tk) (.cons (h_hub.tk s9.tk) (.cons (h_strip.tk s9.tk) (.cons (h_chain.tk s9.tk) (.cons (h_cross.tk s9.tk) .nil))))))))
abbrev Y2:Stmt:=top 73
theorem Zgx (F:Fun K "_law_plate" "_law_plate" Y2 f fd) (Ca_:a42_ P w K mg base) (Cal_:a45_ P w K mg base) (Cad_:a46_ P w K mg base):FnOk P w K mg base CX0 3 f fd ["_law_state_here","_law_most"] Zk7:=by
 have sc:FnScope ["_law_state_here","_law_most","_law_points","_law_pieces","_law_a","_law_b","_law_c","_law_d","_law_s","_law_t","_law_order_here","_law_corners","_law_at","_law_x","_law_y","_law_rows","_law_thicks"] ["_law_state_here","_law_most"] (Zf Y2):=fsc (?i);refine F.ok sc (fun vs H Q E h=>by obtain ⟨l,rfl,_⟩:=h;rfl) ?B;obtain ⟨l,rfl,hl,q'⟩:=h;have nd:=sc.nd;refine' ?C
 case term=>refine' Zd ?g1 ?g2;(case g1=>refine' Ym ?g3 (Z0 (n:=2) rfl (Zg (Zi (i:=2) nd rfl ?l) (Zg (Zi (i:=3) nd rfl ?l) Zs)));case g3=>refine' Zt Yn (Zsl Cad_ hr ?e rfl) (Zj Ca_ hr ?e rfl (Za (pv 0) ?M rfl)) (?j));case g2=>refine' Zd (Zjd rfl nd (i:=4) (j:=5) (k:=6) rfl rfl rfl ?e ?e ?e rfl rfl rfl (Za (Zn Yd Ze (Zj Ca_ hr ?e rfl (Za (pv 0) ?J rfl))) (Za (Zn Yq (Zj Ca_ hr ?e rfl (Za (pv 0) ?J rfl)) Ze) (Za (Zn Yq (Zj Ca_ hr ?e rfl (Za (pv 0) ?J rfl)) Ze) Zb rfl) rfl) rfl) rfl) ?g4;case g4=>refine' Zd (Zjd rfl nd (i:=7) (j:=8) (k:=9) rfl rfl rfl ?e ?e ?e rfl rfl rfl (Za (Zn Yq (Zj Ca_ hr ?e rfl (Za (pv 0) ?J rfl)) Ze) (Za (Zn Yq (Zj Ca_ hr ?e rfl (Za (pv 0) ?J rfl)) Ze) (Za (Zn Yq (Zj Ca_ hr ?e rfl (Za (pv 0) ?J rfl)) Ze) Zb rfl) rfl) rfl) rfl) ?g5;case g5=>refine' Zd ?g6 ?g7;(case g6=>refine' Xv (Y6 Znv (Zn Zp (pv 4) (pv 7)) (Zn Zp (pv 5) (pv 6)) (Y0 _)) ?g8 Z9;case g8=>refine' Zh ?g9;case g9=>refine' Ym ?ga (Z0 (n:=4) rfl (Zg (Zi (i:=4) nd rfl ?l) (Zg (Zi (i:=5) nd rfl ?l) (Zg (Zi (i:=6) nd rfl ?l) (Zg (Zi (i:=7) nd rfl ?l) Zs)))));case ga=>refine' Zv ?gb;case gb=>refine' Za Ze (Za (pv 5) (Za Ze ?J rfl) rfl) rfl);case g7=>refine' Zd (Zx (i:=10) nd rfl (Or.inr rfl) (Zj Cal_ hr ?e rfl (Za (pv 0) (Za (Zl Zr rfl T.b_len Yr (Za (pv 2) Zb rfl)) Zb rfl) rfl))) ?gc;case gc=>refine' Zd (Zx (i:=11) nd rfl ?l (Zn Zkq (Yg (Za (Zv (Za Ze ?J rfl)) Zb rfl)) (Zl Zr rfl T.b_len Yr (Za (pv 2) Zb rfl)))) ?gd;case gd=>refine' Zd ?ge ?gf;(case ge=>refine' Yu PassesOwn.never rfl (Zf1 .t rfl T.b_enumerate (Za (pv 2) Zb rfl)) (Z0 (n:=2) rfl (Zg (Zi (i:=12) nd rfl ?l) (Zg (Z0 (n:=2) rfl (Zg (Zi (i:=13) nd rfl ?l) (Zg (Zi (i:=14) nd rfl ?l) Zs))) Zs))) ?gg;case gg=>refine' Zh ?gh;case gh=>refine' Ym (Zv (Za (Zn Yd (Zn Yd (Zn Zp (pv 4) (pv 13)) (Zn Zp (pv 5) (pv 14))) (pv 8)) (Za (Zn Yd (Zn Yd (Zn Zp (pv 6) (pv 13)) (Zn Zp (pv 7) (pv 14))) (pv 9)) Zb rfl) rfl)) ?gi;case gi=>refine' Zc1 (pv 11) ?gj Xw;case gj=>refine' Zt Yn (pv 10) (pv 12) (?j));case gf=>refine' Zd ?gk ?gl;(case gk=>refine' Zx (i:=15) nd rfl ?l ?gm;case gm=>refine' Zl Zie rfl T.b_sorted Zbx ?gn;case gn=>refine' Za ?go Zb rfl;case go=>refine' Y4 (N:=["_law_piece","_law_order_here"]) (fr:=[none,some 10]) rfl (Z3 (XN:=["_law_state_here","_law_most","_law_points","_law_pieces","_law_a","_law_b","_law_c","_law_d","_law_s","_law_t","_law_order_here","_law_corners","_law_at","_law_x","_law_y","_law_rows","_law_thicks"]) (Scope.names (Zf Y2)) rfl rfl rfl (fun _ h=>Zy h) (?i) rfl) (Yp (pv 3)) ?O ?K (fun _ _ _ _=>Zz (X4 K rfl) rfl T.b_tuple Z4 (Za (Zl (Zf0 K rfl) rfl T.b_sorted Zbx (Za (Y4 (N:=["_law_at","_law_order_here"]) (fr:=[none,some 1]) rfl (Z3 (XN:=["_law_piece","_law_order_here"]) (relN _ (Scope.names (Zf Y2))) rfl rfl rfl (fun _ h=>Zdg (?i) h) (?i) rfl) (Zov K rfl (pv 0)) ?O ?K (fun _ _ _ _=>Zt (Zkt K rfl) (pv 1) (pv 0) (?j))) Zb rfl)) Zb rfl)));case gl=>refine' Zd ?gp ?gq;(case gp=>refine' Zx (i:=16) nd rfl ?l ?gr;case gr=>refine' Zz Zw rfl T.b_tuple Z4 ?gs;case gs=>refine' Za ?gt Zb rfl;case gt=>refine' Y4 (N:=["_law_row","_law_state_here"]) (fr:=[none,some 0]) rfl (Z3 (XN:=["_law_state_here","_law_most","_law_points","_law_pieces","_law_a","_law_b","_law_c","_law_d","_law_s","_law_t","_law_order_here","_law_corners","_law_at","_law_x","_law_y","_law_rows","_law_thicks"]) (Scope.names (Zf Y2)) rfl rfl rfl (fun _ h=>Zy h) (?i) rfl) (Yh (pv 15)) ?O ?K (fun _ _ _ _=>Zn Yd Ze (Zj Ca_ hr ?e rfl (Za (pv 1) (Za (Zt (Zkt K rfl) (Yg (Za Ze ?J rfl)) (Zj Ca_ hr ?e rfl (Za (pv 1) ?J rfl)) (?j)) Zb rfl) rfl))));case gq=>refine' Zh ?gu;case gu=>refine' Zo ?gv;case gv=>refine' Zv ?gw;case gw=>refine' Za (Zz Zw rfl T.b_tuple Z4 (Za (pv 11) Zb rfl)) (Za (Zz Zw rfl T.b_tuple Z4 (Za (pv 15) Zb rfl)) (Za (pv 16) (Za (Zv (Za (Zj Ca_ hr ?e rfl (Za (pv 0) ?J rfl)) (Za (Zn Yd Ze (Zj Ca_ hr ?e rfl (Za (pv 0) ?J rfl))) Zb rfl) rfl)) Zb rfl) rfl) rfl) rfl
 refine ⟨rfl,fun H0 R us0 s0 nR eR al0=>?_⟩;have nRl:R≠l:=hl.neN nR;refine ⟨_,rfl,_,rfl,l,8,rfl,hl.same s0,?t,X0 ?e,fun r0 H1 r00 r01 k1 l1=>?_⟩;have al1:Al (IsSh H1) us0 Zdn:=al0.imp fun v x r=>r.tk (tkS k1 (hl.same s0));obtain ⟨u,sh,eu,hsh,msh⟩:=Zqk al1 r00 r01;have B:=Zl2 msh;obtain ⟨pts,pcs⟩:=sh;obtain ⟨a0,c,p,rfl,ha0,hc0,hp0⟩:=hsh;obtain ⟨c,cvs,rfl,hc7,cal⟩:=hc0;obtain ⟨p,pvs,rfl,hp7,pal⟩:=hp0;replace cal:Al (IsP H1) cvs pts:=cal;replace pal:Al (IsI H1) pvs pcs:=pal;replace B:Base pts pcs:=B;have n6:pts.length≤6:=B.n6;have clen:=cal.1;refine ⟨R,us0,_,_,rfl,rfl,SqL.of (k1 _ _ nRl eR),eu,?_⟩;refine ⟨a0,_,rfl,SqT.of ha0,rfl,_,_,rfl,_,_,rfl,rfl,?_⟩;refine ⟨_,rfl,l,3,rfl,l1,?t,X0 ?e,fun r1 H2 r10 r11 k2 l2=>⟨_,_,rfl,rfl,?_⟩⟩;refine ⟨_,rfl,l,5,rfl,l2,?t,X0 ?e,fun r2 H3 r20 r21 k3 l3=>⟨_,_,rfl,rfl,?_⟩⟩;refine ⟨_,rfl,l,5,rfl,l3,?t,X0 ?e,fun r3 H4 r30 r31 k4 l4=>⟨_,_,rfl,rfl,?_⟩⟩;refine ⟨_,_,_,rfl,?_⟩;refine ⟨_,rfl,l,7,rfl,l4,?t,X0 ?e,fun r4 H5 r40 r41 k5 l5=>⟨_,_,rfl,rfl,?_⟩⟩;refine ⟨_,rfl,l,41,rfl,l5,?t,X0 ?e,fun r5 H6 r50 r51 k6 l6=>⟨_,_,rfl,rfl,?_⟩⟩;refine ⟨_,rfl,l,9,rfl,l6,?t,X0 ?e,fun r6 H7 r60 r61 k7 l7=>⟨_,_,rfl,rfl,?_⟩⟩;refine ⟨_,_,_,rfl,?_⟩;have k17:=k2.trans (k3.trans (k4.trans (k5.trans (k6.trans k7))));have t7:Tk H1 H7:=tkS k17 l1;have kk:Keep l H H7:=s0.keep.trans (k1.trans k17);dsimp only;refine Zvq (R:=fun σ Hn=>∃ A:Aff,σ=[some (.ref l),some (.int 8),some (.ref c),some (.ref p),some (.int A.a),some (.int A.b),some (.int A.c),some (.int A.d),some (.int A.s),some (.int A.t),none,none,none,none,none,none,none]∧A.det≠0∧Small A∧Same H7 Hn) ?_ ?_ ?_ ?_ ?_
 · refine ⟨_,rfl,_,rfl,_,_,rfl,rfl,mul4 (?d) (?d),_,rfl,_,rfl,_,_,rfl,rfl,mul4 (?d) (?d),rfl,_,rfl,?_⟩;refine ite2 (fun hd=>?_) (fun hd=>?_)
   · refine ⟨_,rfl,z4_,fun Z nZ=>?_⟩;exact ⟨Z,_,rfl,SqT.of Zc,rfl,_,_,rfl,_,_,rfl,_,_,rfl,_,_,rfl,rfl,Aff.mk 1 (r2-2) 0 1 (r5-20) (r6-4),rfl,by show (1:Int)*1-(r2-2)*0≠0;omega,⟨by show (1:Int).natAbs≤3;decide,by show (r2-2).natAbs≤3;omega,by show (0:Int).natAbs≤3;decide,by show (1:Int).natAbs≤3;decide,by show (r5-20).natAbs≤30;omega,by show (r6-4).natAbs≤30;omega⟩,Same.new nZ⟩
   · refine ⟨Aff.mk (1+r1) (r2-2) (r3-2) (r4-3) (r5-20) (r6-4),rfl,fun z=>?_,⟨by show (1+r1).natAbs≤3;omega,by show (r2-2).natAbs≤3;omega,by show (r3-2).natAbs≤3;omega,by show (r4-3).natAbs≤3;omega,by show (r5-20).natAbs≤30;omega,by show (r6-4).natAbs≤30;omega⟩,Same.refl _⟩;refine hd (n44_ (congrArg V.int ?_));have z':(1+r1)*(r4-3)-(r2-2)*(r3-2)=0:=z;omega
 · rintro Q1 Q2 hq ⟨v1,e1,v2,e2,i1,j1,f1,f2,m1,v3,e3,v4,e4,i2,j2,f3,f4,m2,f5,k,f6,q6⟩
   exact ⟨v1,e1,v2,e2,i1,j1,f1,f2,m1,v3,e3,v4,e4,i2,j2,f3,f4,m2,f5,k,f6,hq _ _ q6⟩
 · rintro key H1' ⟨v1,e1,z1,f1⟩
   refine ⟨v1,e1,z1,fun Z nZ=>?_⟩;obtain ⟨b1,xs1,g1,g2,g3,x1,y1,g4,x2,y2,g5,x3,y3,g6,x4,y4,g7,g8,q8⟩:=f1 Z nZ;exact ⟨b1,xs1,g1,g2,g3,x1,y1,g4,x2,y2,g5,x3,y3,g6,x4,y4,g7,g8,key _ _ q8⟩
 · exact fun key H1' r=>key _ _ r
 rintro σ H7n ⟨A,rfl,hdet,W,s7n⟩
 replace t7:=t7.trans s7n.tk;replace kk:=kk.trans s7n.keep;replace l7:=l7.same s7n;clear k1 k2 k3 k4 k5 k6 k7 k17;have Wa:=W.a;have Wb:=W.b;have Wc:=W.c;have Wd:=W.d;obtain ⟨Aa,Ab,Ac,Ad,As,At⟩:=A;replace Wa:Aa.natAbs≤1000:=n36_ Wa ?e;replace Wb:Ab.natAbs≤1000:=n36_ Wb ?e;replace Wc:Ac.natAbs≤1000:=n36_ Wc ?e;replace Wd:Ad.natAbs≤1000:=n36_ Wd ?e;refine ⟨_,rfl,_,rfl,c,cvs,rfl,.inr (SqT.of (t7 _ _ hc7)),l,cvs.length,rfl,l7,?d,fun H8 O o k8 l8 nO eO pm=>?_⟩;rw [cal.1] at pm;have CO:=Zux pm;have t8:Tk H1 H8:=t7.trans (tkS k8 l7);refine ⟨z2_,fun z nz=>?_⟩;generalize gG:upd H8 z (.tup [.int 0,.int 0])=H9;obtain ⟨s9,e9⟩:=gen_upd gG nz;refine ⟨z1_,fun y ny=>?_⟩;generalize gG:upd H9 y (.lst [.ref z])=H10;obtain ⟨s10,e10⟩:=gen_upd gG ny;have t10:Tk H1 H10:=t8.trans (s9.trans s10).tk;refine ⟨_,rfl,c,cvs,rfl,.inr (SqT.of (t10 _ _ hc7)),y,cvs.length,_,rfl,rfl,e10,?d,?d,by simp;rw [sizeLine_eq];omega,fun C nC=>?_⟩;rw [n61_,Zb2];have s11:Same H10 (upd H10 C (.lst (List.replicate cvs.length (.ref z)))):=Same.new nC;have e11:upd H10 C (.lst (List.replicate cvs.length (.ref z))) C=some (.lst (List.replicate cvs.length (.ref z))):=Zc;have nCl:C≠l:=(l8.same (s9.trans s10)).neN nC;generalize upd H10 C (.lst (List.replicate cvs.length (.ref z)))=H11 at s11 e11 ⊢;have s811:=s9.trans (s10.trans s11);have t11:Tk H1 H11:=t8.trans s811.tk;have l11:=l8.same s811;have k11:Keep l H H11:=(kk.trans k8).trans s811.keep;have eO11:=s811 _ _ eO;have nOC:O≠C:=Zm (s9.trans s10 _ _ eO) nC
 have nC0:H C=none:=by
  cases e:H C with
  | none=>rfl
  | some ob =>
    have:=(kk.trans k8).trans (s9.trans s10).keep _ _ nCl e
    rw [this] at nC;cases nC
 refine ⟨_,rfl,c,rfl,⟨_,SqT.of (t11 _ _ hc7)⟩,?_⟩;refine Yk (n:=pts.length) (fun i σ H2=>Keep C H11 H2∧(∃ x1 x2 x3,σ=[some (.ref l),some (.int 8),some (.ref c),some (.ref p),some (.int Aa),some (.int Ab),some (.int Ac),some (.int Ad),some (.int As),some (.int At),some (.ref O),some (.ref C),x1,x2,x3,none,none])∧∃ us cs,H2 C=some (.lst us)∧Al (IsP H2) us cs∧cs.length=pts.length∧∀ j:Nat,j<i→cs[(o.getD j 0).toNat]? = some ((Aff.mk Aa Ab Ac Ad As At).at (pts.getD j (0,0)))) ⟨Keep.refl _ _,⟨_,_,_,rfl⟩,_,List.replicate cvs.length (0,0),e11,Zkb ⟨z,rfl,s11 _ _ (s10 _ _ e9)⟩ _,by simp [cal.1],fun j hj=>absurd hj (Nat.not_lt_zero _)⟩ (fun i σ H2 hi p=>?_) (fun σ H2 p=>?_) (fun i x σ H2 H3 hi y p=>?_) (fun σ H2 p=>?_)
 · have t2:Tk H11 H2:=Tk.of_keep p.1 e11;exact ⟨cvs,cvs[i]'(by rw [cal.1];exact hi),SqT.of (t2 _ _ (t11 _ _ hc7)),n1_ _⟩
 · have t2:Tk H11 H2:=Tk.of_keep p.1 e11;exact ⟨cvs,SqT.of (t2 _ _ (t11 _ _ hc7)),cal.1⟩
 · obtain ⟨k2,⟨x1,x2,x3,rfl⟩,us,cs,eC,alc,lc,hc⟩:=p;obtain ⟨g,x,rfl,ng,rfl,y1⟩:=y;have t2:Tk H11 H2:=Tk.of_keep k2 e11;have ex:=y1 cvs (SqT.of (t2 _ _ (t11 _ _ hc7)));obtain ⟨pt,ept,b,rfl,hb⟩:=cal.get ex;have hpt:=Zpz (B.bd pt (n6_ ept));generalize gG:upd H2 g (.tup [.int i,.ref b])=H3;obtain ⟨sg,eg⟩:=gen_upd gG ng;have hb3:=sg _ _ (t2 _ _ (t11 _ _ hb));refine ⟨g,_,rfl,SqT.of eg,rfl,_,_,rfl,_,_,rfl,⟨b,_,rfl,SqT.of hb3,rfl,_,_,rfl,_,_,rfl,rfl,rfl,?_⟩⟩;refine ⟨_,rfl,_,rfl,_,_,rfl,rfl,mul4 Wa hpt.1,_,rfl,_,rfl,_,_,rfl,rfl,mul4 Wb hpt.2,_,_,rfl,rfl,_,rfl,_,_,rfl,rfl,?_⟩;refine ⟨_,rfl,_,rfl,_,_,rfl,rfl,mul4 Wc hpt.1,_,rfl,_,rfl,_,_,rfl,rfl,mul4 Wd hpt.2,_,_,rfl,rfl,_,rfl,_,_,rfl,rfl,?_⟩;refine ⟨z2_,fun w nw=>?_⟩;generalize hH4:upd H3 w _=H4;have sw:Same H3 H4:=by (rw [← hH4];exact Same.new nw)
   have ew0:=(congrFun hH4 w).symm;rw [Zc] at ew0;have ew:H4 w=some (.tup [.int (Aa*pt.1+Ab*pt.2+As),.int (Ac*pt.1+Ad*pt.2+At)]):=ew0;clear ew0 hH4;have s24:=sg.trans sw;have eO4:H4 O=some (.lst (o.map V.int)):=s24 _ _ (k2 _ _ nOC eO11);have bo:=CO.bd i hi;have eC4:=s24 _ _ eC;refine ⟨_,rfl,_,rfl,_,rfl,O,_,(i:Int),_,rfl,rfl,SqL.of eO4,o_at CO (Int.natCast_nonneg i) (Int.ofNat_lt.mpr hi),?_⟩;have ulen:us.length=pts.length:=by rw [alc.1,lc]
   refine ⟨C,us,_,(o.getD i 0).toNat,rfl,rfl,eC4,Ze8 bo.1 (by rw [ulen];exact bo.2),?_⟩;have tC:Tk H4 (upd H4 C (.lst (us.set (o.getD i 0).toNat (.ref w)))):=Tk.upd_lst eC4;refine ⟨fun b' o' nb e=>?_,⟨_,_,_,rfl⟩,_,cs.set (o.getD i 0).toNat ((Aff.mk Aa Ab Ac Ad As At).at pt),Zc,?_,by simp [lc],fun j hj=>?_⟩
   · rw [Zk nb];exact s24 _ _ (k2 _ _ nb e)
   · exact Zp4 (alc.imp fun v x r=>r.tk (s24.tk.trans tC)) _ ⟨w,rfl,tC _ _ ew⟩
   · rw [List.getElem?_set]
     by_cases hji:j=i
     · subst hji;rw [if_pos rfl,if_pos (by rw [lc];omega),n5_ (l:=pts),ept];rfl
     · rw [if_neg (fun z=>hji (CO.inj j i (?d) hi (by have b2:=CO.bd j (?d);omega)))];exact hc j (?d)
 · obtain ⟨k2,⟨x1,x2,x3,rfl⟩,us,cs,eC,alc,lc,hc⟩:=p;have t2:Tk H11 H2:=Tk.of_keep k2 e11;have t12:=t11.trans t2;have eO2:=k2 _ _ nOC eO11
   have l2:StAt H2 l:=by
    obtain ⟨a',b',c',e,r⟩:=l11;exact ⟨a',b',c',k2 _ _ nCl.symm e,r⟩
   have k02:Keep l H H2:=fun b' o' nb e=>k2 _ _ (Zm e nC0) (k11 _ _ nb e);have hp2:=t12 _ _ hp7;refine ⟨_,rfl,p,rfl,⟨_,SqT.of hp2⟩,fun D nD=>?_⟩;refine lc_T (k:=.t) (vs:=pvs) (fun H v pc=>∃ r,IsI H v r∧(r.Perm (pc.map (oAt o))∧r.Pairwise (·≤·))) (fun H1 H2 v x t r=>let ⟨r',i,j⟩:=r;⟨r',i.tk t,j⟩) pcs (by rw [pal.1]) (by rw [pal.1];have:=B.p4;omega) nD hp2 (fun i w H4 C' hw s4 c'=>?_) (fun H4 vs s4 e4 a4=>?_)
   · obtain ⟨pc,epc,b,rfl,hb⟩:=pal.get hw;have hb4:=s4 _ _ (t12 _ _ hb);obtain ⟨i1,j1,k1,rfl,bi,bj,bk,_⟩:=Zrg (B.pc _ (n6_ epc));refine ⟨_,rfl,b,rfl,⟨_,SqT.of hb4⟩,fun E nE=>?_⟩;refine lc_T (k:=.t) (vs:=[i1,j1,k1].map V.int) RI hRI ([i1,j1,k1].map (oAt o)) ?f ?f nE hb4 (fun n x H6 C6 hx s6 c6=>?_) (fun H6 us6 s6 e6 a6=>?_)
     · rw [n4_] at hx;obtain ⟨y,ey,rfl⟩:=n12_.mp hx
       have by':0≤y∧y<(pts.length:Int):=by
        have:=n6_ ey
        simp only [n13_,n15_,or_false] at this
        rcases this with rfl|rfl|rfl<;>assumption
       exact ⟨_,rfl,_,rfl,O,_,y,_,rfl,rfl,SqL.of (s6 _ _ (s4 _ _ eO2)),o_at CO by'.1 by'.2,c6 _ _ _ (Same.refl _) (by rw [n4_,ey];rfl) rfl⟩
     · rw [a6.ints] at e6;refine ⟨E,_,rfl,SqL.of e6,by simp,fun L ns' nL pm' so'=>?_⟩;have s7:Same H6 (upd H6 L (.lst (ns'.map V.int))):=Same.new nL;have e7:upd H6 L (.lst (ns'.map V.int)) L=some (.lst (ns'.map V.int)):=Zc;generalize upd H6 L (.lst (ns'.map V.int))=H7' at s7 e7 ⊢;refine ⟨L,_,rfl,.inl ⟨SqL.of e7,fun T' nT=>?_⟩⟩;exact c' _ _ [i1,j1,k1] (s6.trans (s7.trans (Same.new nT))) epc ⟨ns',⟨T',rfl,Zc⟩,pm',so'⟩
   · obtain ⟨kl,klen,kal,kT⟩:=Zmr a4;have DR:∀ q:List Nat,q.Perm (List.range pcs.length)→Drawn pts pcs (Aff.mk Aa Ab Ac Ad As At) o cs kl q:=fun q hq=>.of B hdet W CO lc hc klen (fun i hi=>kT i hi) hq;have D0:=DR _ (List.Perm.refl _);have p4:=B.p4;refine ⟨D,vs,kl,3,rfl,SqL.of e4,kal.1,fun i v hv=>?_,D0.knd,by rw [klen];exact p4,fun k hk=>?_,?t,fun L q nL qp rise=>?_⟩
     · obtain ⟨k,ek,b,rfl,hb⟩:=kal.get hv;exact ⟨b,k,rfl,ek,SqT.of hb⟩
     · obtain ⟨n,hn,rfl⟩:=n52_ hk;rw [klen] at hn;obtain ⟨_,_,_,x,y,z,_,e,_⟩:=D0.piece hn
       have:kl[n]=[x,y,z]:=by rw [← e,n5_,n1_ (by rw [klen];exact hn)];rfl
       rw [this];rfl
     · rw [klen] at qp;have D1:=DR q qp;have s5:Same H4 (upd H4 L (.lst (q.map fun i=>vs.getD i .non))):=Same.new nL;have e5:upd H4 L (.lst (q.map fun i=>vs.getD i .non)) L=some (.lst (q.map fun i=>vs.getD i .non)):=Zc;have nLl:L≠l:=(l2.same s4).neN nL;generalize upd H4 L (.lst (q.map fun i=>vs.getD i .non))=H5 at s5 e5 ⊢;have s25:=s4.trans s5;have l5:=l2.same s25;have k05:=k02.trans s25.keep;have qlen:q.length=pcs.length:=by rw [qp.length_eq,n66_]
       refine ⟨_,rfl,L,rfl,⟨_,SqL.of e5⟩,fun E nE=>?_⟩;refine Ztm (n:=pcs.length) (l:=l) (fun H v (x:Int)=>v=.int x∧1≤x∧x≤9) (fun _ _ _ _ _ r=>r) (?d) (fun σ=>∃ u,σ=[u,some (.ref l)]) ⟨_,rfl⟩ nE l5 (fun i H6 k6 hi=>⟨_,_,SqL.of (k6 _ _ nLl e5),n1_ (by simp [qlen];exact hi)⟩) (fun H6 k6=>⟨_,SqL.of (k6 _ _ nLl e5),by simp [qlen]⟩) (fun i x σ2 H6 H7' C' hi k6 l6 y o' c'=>?_) (fun H6 ts ys k6 l6 e6 hy a6=>?_)
       · obtain ⟨u,rfl⟩:=o';obtain ⟨rfl,y2⟩:=y;refine ⟨_,rfl,z2_,fun W' nW=>?_⟩;have s8':Same H7' (upd H7' W' (.lst [.int 9,.int 2])):=Same.new nW;have e8':upd H7' W' (.lst [.int 9,.int 2]) W'=some (.lst [.int 9,.int 2]):=Zc;have nWl:W'≠l:=l6.neN nW;generalize upd H7' W' (.lst [.int 9,.int 2])=H8' at s8' e8' ⊢;refine ⟨_,rfl,l,2,rfl,l6.same s8',?t,X0 ?e,fun r9 H9' r90 r91 k9 l9=>?_⟩;have hr9:r9=0∨r9=1:=?d
         have fin:∀ m:Int,0<m→m≤9→Zdp [.ref l,.int m] H9' (fun v H=>rI0 (fun i j=>V.int (i+j)) (V.int 1) v H (C' [some x,some (.ref l)])) E0:=fun m m0 m9=>⟨l,m,rfl,l9,m0,X0 (by show _<18446744073709551616;omega),fun r10 H10' ra rb k10 l10=>⟨_,_,rfl,rfl,c' _ _ _ _ ⟨_,rfl⟩ (s8'.keep.trans (k9.trans k10)) l10 ⟨rfl,?d,?d⟩⟩⟩
         rcases hr9 with rfl|rfl
         · exact ⟨W',_,_,_,rfl,rfl,SqL.of (k9 _ _ nWl e8'),rfl,fin 9 ?e ?e⟩
         · exact ⟨W',_,_,_,rfl,rfl,SqL.of (k9 _ _ nWl e8'),rfl,fin 2 ?e ?e⟩
       · have ets:ts=ys.map V.int:=by
          refine (Al.ints (ns:=ys) ?_);exact a6.imp fun v x r=>r.1
         refine ⟨E,ts,rfl,.inl ⟨SqL.of e6,fun T' nT=>?_⟩⟩;have s7:Same H6 (upd H6 T' (.tup ts)):=Same.new nT;have e7:upd H6 T' (.tup ts) T'=some (.tup (ys.map V.int)):=by rw [Zc,ets]
         generalize upd H6 T' (.tup ts)=H7' at s7 e7 ⊢;have t57:Tk H5 H7':=(tkS k6 l5).trans s7.tk;have t27:Tk H2 H7':=s25.tk.trans t57;have k07:=k05.trans (k6.trans s7.keep);have l7':=l6.same s7;have nDl:C≠l:=nCl;have eC7:H7' C=some (.lst us):=s7 _ _ (k6 _ _ nCl (s25 _ _ eC));have eL7:H7' L=some (.lst (q.map fun i=>vs.getD i .non)):=s7 _ _ (k6 _ _ nLl e5);refine ⟨_,rfl,C,us,rfl,.inl ⟨SqL.of eC7,fun T1 n1=>?_⟩⟩;generalize gG:upd H7' T1 (.tup us)=G1;obtain ⟨u1,f1⟩:=gen_upd gG n1;refine ⟨_,rfl,L,_,rfl,.inl ⟨SqL.of (u1 _ _ eL7),fun T2 n2=>?_⟩⟩;generalize gG:upd G1 T2 (.tup (q.map fun i=>vs.getD i .non))=G2;obtain ⟨u2,f2⟩:=gen_upd gG n2;have u02:=u1.trans u2;refine ⟨_,rfl,_,rfl,l,10,rfl,l7'.same u02,?t,X0 ?e,fun rl G3 rl0 rl1 k3' l3'=>?_⟩;refine ⟨_,rfl,l,9,rfl,l3',?t,X0 ?e,fun rm G4 rm0 rm1 k4' l4'=>⟨_,_,rfl,rfl,z2_,fun T4 n4=>?_⟩⟩;generalize gG:upd G4 T4 (.tup [.int rl,.int (1+rm)])=G5;obtain ⟨u5,f5⟩:=gen_upd gG n4;refine ⟨z4_,fun T5 n5=>?_⟩;have u6:Same G5 (upd G5 T5 (.tup [.ref T1,.ref T2,.ref T',.ref T4])):=Same.new n5;have w24:Tk G2 G4:=(tkS k3' (l7'.same u02)).trans (tkS k4' l3');have w26:Tk G2 (upd G5 T5 (.tup [.ref T1,.ref T2,.ref T',.ref T4])):=w24.trans (u5.trans u6).tk;have w76:=u02.tk.trans w26;refine q' _ _ ⟨cs,?Q,ys,rl,1+rm⟩ (k07.trans (u02.keep.trans (k3'.trans (k4'.trans (u5.trans u6).keep)))) (l4'.same (u5.trans u6)) ⟨T5,_,_,_,_,rfl,Zc,⟨T1,us,rfl,w26 _ _ (u2 _ _ f1),alc.imp fun v x r=>r.tk (t27.trans w76)⟩,⟨T2,_,rfl,w26 _ _ f2,?_⟩,⟨T',rfl,w76 _ _ e7⟩,⟨T4,rfl,u6 _ _ f5⟩⟩ (D1.ok rise (by rw [hy]) (fun t ht=>?_) ⟨rl0,?d⟩ ⟨?d,?d⟩) (show (?Q).length≤4 by rw [n7_,qlen];exact p4)
         · refine (Zwj kal (q:=q) fun i hi=>?_).imp fun v x r=>r.tk (s5.tk.trans (t57.trans w76));rw [klen];exact n42_.mp (qp.mem_iff.mp hi)
         · obtain ⟨i,hi,e⟩:=n52_ ht;obtain ⟨v,_,r⟩:=a6.got (show ys[i]? = some t by rw [n1_ hi,e]);exact r.2
abbrev Xi:Stmt:=top 74
theorem Zek (F:Fun K "_law_slopes" "_law_slopes" Xi f fd) (Cf_:a43_ P w K mg base):FnOk P w K mg base CX0 2 f fd ["_law_plate_here","_law_piece"] Zfo:=by
 have sc:FnScope ["_law_plate_here","_law_piece","_law_points","_law_xa","_law_ya","_law_xb","_law_yb","_law_xc","_law_yc","_law_d","_law_found","_law_at","_law_xj","_law_yj","_law_xk","_law_yk"] ["_law_plate_here","_law_piece"] (Zf Xi):=fsc (?i);refine F.ok sc (fun vs H Q E h=>by obtain ⟨v,P',n,rfl,_⟩:=h;rfl) ?B;obtain ⟨v,P',n,rfl,⟨a,c,p',t,st,rfl,ha,⟨a',us,rfl,ha',al⟩,⟨b',ws,rfl,hb',bl⟩,ht,hs⟩,ok,h0,h1,q⟩:=h;have nd:=sc.nd;refine' ?C
 case term=>refine' Zd (Zco (N:=["_law_at","_law_plate_here"]) (fr:=[none,some 0]) rfl rfl (Zi (i:=2) nd rfl ?l) (Z3 (XN:=["_law_plate_here","_law_piece","_law_points","_law_xa","_law_ya","_law_xb","_law_yb","_law_xc","_law_yc","_law_d","_law_found","_law_at","_law_xj","_law_yj","_law_xk","_law_yk"]) (Scope.names (Zf Xi)) rfl rfl rfl (fun _ h=>Zy h) (?i) rfl) (Yp (Zt Zq (Zt Zq (pv 0) Ze (?j)) (pv 1) (?j))) ?O ?K (fun _ _ _ _=>Zt (Zao K rfl) (Zt (Zao K rfl) (pv 1) Ze (?j)) (pv 0) (?j))) ?g1;case g1=>refine' Zd (Ym (pv 2) (Zhn (n:=3) rfl (Zg (Z0 (n:=2) rfl (Zg (Zi (i:=3) nd rfl ?l) (Zg (Zi (i:=4) nd rfl ?l) Zs))) (Zg (Z0 (n:=2) rfl (Zg (Zi (i:=5) nd rfl ?l) (Zg (Zi (i:=6) nd rfl ?l) Zs))) (Zg (Z0 (n:=2) rfl (Zg (Zi (i:=7) nd rfl ?l) (Zg (Zi (i:=8) nd rfl ?l) Zs))) Zs))))) ?g2;case g2=>refine' Zd (Zx (i:=9) nd rfl ?l (Zn Yq (Zn Zp (Zn Yq (pv 5) (pv 3)) (Zn Yq (pv 8) (pv 4))) (Zn Zp (Zn Yq (pv 7) (pv 3)) (Zn Yq (pv 6) (pv 4))))) ?g3;case g3=>refine' Zd (Zx (i:=10) nd rfl ?l (Yg Zb)) ?g4;case g4=>refine' Zd ?g5 (Zh (Zo (Zv (Za (pv 9) (Za (pv 10) Zb rfl) rfl))));case g5=>refine' Yu PassesOwn.never rfl (Xu rfl T.b_range ?J) (Zi (i:=11) nd rfl ?l) ?g6;case g6=>refine' Zd ?g7 ?g8;(case g7=>refine' Ym ?g9 (Z0 (n:=2) rfl (Zg (Z0 (n:=2) rfl (Zg (Zi (i:=12) nd rfl ?l) (Zg (Zi (i:=13) nd rfl ?l) Zs))) (Zg (Z0 (n:=2) rfl (Zg (Zi (i:=14) nd rfl ?l) (Zg (Zi (i:=15) nd rfl ?l) Zs))) Zs)));case g9=>refine' Zv ?ga;case ga=>refine' Za (Zt Yn (pv 2) (Zn X5 (Zn Yd (pv 11) Ze) Ze) (?j)) (Za (Zt Yn (pv 2) (Zn X5 (Zn Yd (pv 11) Ze) Ze) (?j)) Zb rfl) rfl);case g8=>refine' Zh ?gb;case gb=>refine' Zai ?gc;case gc=>refine' Zen PySem.F.plainAttrs_list PySem.F.slot_list_append PySem.F.type_list_append Xa (pv 10) ?gd;case gd=>refine' Za ?ge Zb rfl;case ge=>refine' Zv ?gf;case gf=>refine' Za ?gg (Za (Zj Cf_ hr ?e rfl (Za (Zn Yq (pv 13) (pv 15)) (Za (pv 9) Zb rfl) rfl)) (Za (Zj Cf_ hr ?e rfl (Za (Zn Yq (pv 14) (pv 12)) (Za (pv 9) Zb rfl) rfl)) Zb rfl) rfl) rfl;case gg=>refine' Zt Zq ?gh (pv 11) (?j);case gh=>refine' Zt Zq (Zt Zq (pv 0) Ze (?j)) (pv 1) (?j)
 have pk:=ok.pc _ (Xj h0 h1);obtain ⟨c1,c2,c3⟩:=Zi9 ok.nr pk.len pk.bd;obtain ⟨pv',ev,b,rfl,hb⟩:=Zqq bl h0 h1;have hl:=pk.len;have bd:=pk.bd;generalize hp:pcOf P' n=p at *;have nr:=ok.nr;generalize P'.cs=cs at *;refine ⟨_,rfl,a,_,1,_,rfl,rfl,SqT.of ha,rfl,_,rfl,b',ws,n,_,rfl,rfl,SqT.of hb',ev,b,rfl,⟨_,SqT.of hb⟩,fun D nD=>?_⟩;refine lc_T (k:=.t) (vs:=p.map V.int) IsP hRP (p.map (cAt cs)) ?f (by simp [hl]) nD hb (fun i w H2 C hw s2 c=>?_) (fun H2 us' s2 eD a2=>?_)
 · rw [n4_] at hw;obtain ⟨x,ex,rfl⟩:=n12_.mp hw;obtain ⟨b1,b2⟩:=bd x (n6_ ex);obtain ⟨v,ev',rv⟩:=Zln al b1 b2;exact ⟨_,rfl,a,_,0,_,rfl,rfl,SqT.of (s2 _ _ ha),rfl,_,rfl,a',us,x,v,rfl,rfl,SqT.of (s2 _ _ ha'),ev',c _ _ _ (Same.refl _) (by rw [n4_,ex];rfl) (rv.tk s2.tk)⟩
 · obtain ⟨x,y,z,rfl,⟨pa,rfl,hx⟩,⟨pb,rfl,hy⟩,⟨pc,rfl,hz⟩⟩:=cs3 (al.imp fun v x r=>r.tk s2.tk) hl bd a2;obtain ⟨⟨x1,x2⟩,x3,x4⟩:=nr (cAt cs (p.getD 0 0)) (by obtain ⟨i,j,k,rfl⟩:=len3 hl;exact Yx (bd i ?f).1 (bd i ?f).2);obtain ⟨⟨y1,y2⟩,y3,y4⟩:=nr (cAt cs (p.getD 1 0)) (by obtain ⟨i,j,k,rfl⟩:=len3 hl;exact Yx (bd j ?f).1 (bd j ?f).2);obtain ⟨⟨z1,z2⟩,z3,z4⟩:=nr (cAt cs (p.getD 2 0)) (by obtain ⟨i,j,k,rfl⟩:=len3 hl;exact Yx (bd k ?f).1 (bd k ?f).2)
   have atp:∀ i:Nat,i<3→atI (p.map V.int) ((0:Int)+(i:Int))=some (.int (p.getD i 0)):=fun i hi=>by
    rw [Int.zero_add];refine Xg ?_;rw [n4_,n1_ (?d),n5_,n1_ (?d)];rfl
   refine ⟨_,rfl,D,_,rfl,SqL.of eD,rfl,_,_,rfl,pa,_,rfl,SqT.of hx,rfl,_,_,rfl,_,_,rfl,rfl,_,_,rfl,pb,_,rfl,SqT.of hy,rfl,_,_,rfl,_,_,rfl,rfl,_,_,rfl,pc,_,rfl,SqT.of hz,rfl,_,_,rfl,_,_,rfl,rfl,rfl,?_⟩;refine ⟨_,rfl,_,rfl,_,_,rfl,rfl,_,rfl,_,rfl,_,_,rfl,rfl,_,_,rfl,rfl,mul3 (?d) (?d),_,rfl,_,rfl,_,_,rfl,rfl,_,rfl,_,rfl,_,_,rfl,rfl,_,_,rfl,rfl,mul3 (?d) (?d),_,_,rfl,rfl,?_⟩;refine ⟨z0_,fun F nF=>?_⟩;have s3:Same H2 (upd H2 F (.lst [])):=Same.new nF;have eF:upd H2 F (.lst []) F=some (.lst []):=Zc;have nDF:D≠F:=Zm eD nF;generalize upd H2 F (.lst [])=HF at s3 eF ⊢;have sF:=s2.trans s3;replace eD:=s3 _ _ eD;replace hx:=s3 _ _ hx;replace hy:=s3 _ _ hy;replace hz:=s3 _ _ hz
   have nF0:H F=none:=by
    cases e:H F with
    | none=>rfl
    | some o=>rw [s2 _ _ e] at nF;cases nF
   refine ⟨3,rfl,?t,?t,?_⟩;refine Yk (n:=3) (fun i σ H2=>Keep F HF H2∧(∃ g1 g2 g3 g4 g5,σ=[some (.ref a),some (.int n),some (.ref D),some (.int (cAt cs (p.getD 0 0)).1),some (.int (cAt cs (p.getD 0 0)).2),some (.int (cAt cs (p.getD 1 0)).1),some (.int (cAt cs (p.getD 1 0)).2),some (.int (cAt cs (p.getD 2 0)).1),some (.int (cAt cs (p.getD 2 0)).2),some (.int (dOf cs p)),some (.ref F),g1,g2,g3,g4,g5])∧∃ fs,H2 F=some (.lst fs)∧Al (Zmc H2) fs ((slQ cs p).take i)) ⟨Keep.refl _ _,⟨_,_,_,_,_,rfl⟩,[],eF,.nil⟩ (fun i σ H2 hi p=>hi) (fun σ H2 p=>n11_ _) (fun i x σ H2 H3 hi y p=>?_) (fun σ H2 p=>?_)
   · obtain ⟨k2,⟨g1,g2,g3,g4,g5,rfl⟩,fs,eF2,alF⟩:=p;obtain ⟨rfl,rfl⟩:=y;have hi3:i=0∨i=1∨i=2:=?d
     rcases hi3 with rfl|rfl|rfl
     · refine ⟨_,rfl,_,rfl,_,_,rfl,rfl,_,_,rfl,rfl,(by show (3:Int)≠0;decide),D,_,_,_,rfl,rfl,SqL.of (k2 _ _ nDF eD),rfl,?_⟩;refine ⟨_,rfl,_,rfl,_,_,rfl,rfl,_,_,rfl,rfl,(by show (3:Int)≠0;decide),D,_,_,_,rfl,rfl,SqL.of (k2 _ _ nDF eD),rfl,z2_,fun Z nZ=>?_⟩;generalize gG:upd H3 Z (.tup [.ref pb,.ref pc])=H4;obtain ⟨sZ,eZ⟩:=gen_upd gG nZ;have kt:Tk HF H4:=(Tk.of_keep k2 eF).trans sZ.tk;refine ⟨Z,_,rfl,SqT.of eZ,rfl,_,_,rfl,pb,_,rfl,SqT.of (kt _ _ hy),rfl,_,_,rfl,_,_,rfl,rfl,_,_,rfl,pc,_,rfl,SqT.of (kt _ _ hz),rfl,_,_,rfl,_,_,rfl,rfl,rfl,?_⟩;have eF4:=sZ _ _ eF2;have nZF:Z≠F:=fun z=>by rw [z] at nZ;rw [nZ] at eF2;cases eF2
       refine ⟨_,rfl,.inl ⟨rfl,_,SqL.of eF4⟩,_,rfl,a,_,1,_,rfl,rfl,SqT.of (kt _ _ (sF _ _ ha)),rfl,_,rfl,b',ws,n,_,rfl,rfl,SqT.of (kt _ _ (sF _ _ hb')),ev,_,rfl,b,_,_,_,rfl,rfl,SqT.of (kt _ _ (sF _ _ hb)),(atp 0 ?e),?_⟩;refine ⟨_,rfl,_,rfl,_,_,rfl,rfl,_,rfl,_,_,rfl,pk.d,n10_ c3 ?e,fun u1 H5 s5 hu1'=>?_⟩;refine ⟨_,rfl,_,rfl,_,_,rfl,rfl,_,rfl,_,_,rfl,pk.d,n10_ c3 ?e,fun u2 H6 s6 hu2'=>?_⟩;refine ⟨z3_,fun W nW=>?_⟩;generalize hH7:upd H6 W _=H7;have s7:Same H6 H7:=by (rw [← hH7];exact Same.new nW)
       have e7:=(congrFun hH7 W).symm;rw [Zc] at e7;clear hH7;have s47:=s5.trans (s6.trans s7);refine ⟨F,_,_,rfl,rfl,s47 _ _ eF4,by rw [alF.1,sizeLine_eq];exact n10_ (List.length_take_le _ _) ?e,?_⟩;have tF:Tk H7 (upd H7 F (.lst (fs++[.ref W]))):=Tk.upd_lst (s47 _ _ eF4);have t37:Tk H3 H7:=sZ.tk.trans s47.tk;refine ⟨fun b1 o1 nb e=>?_,⟨_,_,_,_,_,rfl⟩,_,Zc,?_⟩
       · rw [Zk nb];exact s47 _ _ (sZ _ _ (k2 _ _ nb e))
       · exact (alF.imp fun v x r=>Zbt (t37.trans tF) r).snoc ⟨W,_,_,rfl,tF _ _ e7,⟨u1,rfl,tF _ _ ((s6.trans s7) _ _ hu1')⟩,⟨u2,rfl,tF _ _ (s7 _ _ hu2')⟩⟩
     · refine ⟨_,rfl,_,rfl,_,_,rfl,rfl,_,_,rfl,rfl,(by show (3:Int)≠0;decide),D,_,_,_,rfl,rfl,SqL.of (k2 _ _ nDF eD),rfl,?_⟩;refine ⟨_,rfl,_,rfl,_,_,rfl,rfl,_,_,rfl,rfl,(by show (3:Int)≠0;decide),D,_,_,_,rfl,rfl,SqL.of (k2 _ _ nDF eD),rfl,z2_,fun Z nZ=>?_⟩;generalize gG:upd H3 Z (.tup [.ref pc,.ref pa])=H4;obtain ⟨sZ,eZ⟩:=gen_upd gG nZ;have kt:Tk HF H4:=(Tk.of_keep k2 eF).trans sZ.tk;refine ⟨Z,_,rfl,SqT.of eZ,rfl,_,_,rfl,pc,_,rfl,SqT.of (kt _ _ hz),rfl,_,_,rfl,_,_,rfl,rfl,_,_,rfl,pa,_,rfl,SqT.of (kt _ _ hx),rfl,_,_,rfl,_,_,rfl,rfl,rfl,?_⟩;have eF4:=sZ _ _ eF2;have nZF:Z≠F:=fun z=>by rw [z] at nZ;rw [nZ] at eF2;cases eF2
       refine ⟨_,rfl,.inl ⟨rfl,_,SqL.of eF4⟩,_,rfl,a,_,1,_,rfl,rfl,SqT.of (kt _ _ (sF _ _ ha)),rfl,_,rfl,b',ws,n,_,rfl,rfl,SqT.of (kt _ _ (sF _ _ hb')),ev,_,rfl,b,_,_,_,rfl,rfl,SqT.of (kt _ _ (sF _ _ hb)),(atp 1 ?e),?_⟩;refine ⟨_,rfl,_,rfl,_,_,rfl,rfl,_,rfl,_,_,rfl,pk.d,n10_ c3 ?e,fun u1 H5 s5 hu1'=>?_⟩;refine ⟨_,rfl,_,rfl,_,_,rfl,rfl,_,rfl,_,_,rfl,pk.d,n10_ c3 ?e,fun u2 H6 s6 hu2'=>?_⟩;refine ⟨z3_,fun W nW=>?_⟩;generalize hH7:upd H6 W _=H7;have s7:Same H6 H7:=by (rw [← hH7];exact Same.new nW)
       have e7:=(congrFun hH7 W).symm;rw [Zc] at e7;clear hH7;have s47:=s5.trans (s6.trans s7);refine ⟨F,_,_,rfl,rfl,s47 _ _ eF4,by rw [alF.1,sizeLine_eq];exact n10_ (List.length_take_le _ _) ?e,?_⟩;have tF:Tk H7 (upd H7 F (.lst (fs++[.ref W]))):=Tk.upd_lst (s47 _ _ eF4);have t37:Tk H3 H7:=sZ.tk.trans s47.tk;refine ⟨fun b1 o1 nb e=>?_,⟨_,_,_,_,_,rfl⟩,_,Zc,?_⟩
       · rw [Zk nb];exact s47 _ _ (sZ _ _ (k2 _ _ nb e))
       · exact (alF.imp fun v x r=>Zbt (t37.trans tF) r).snoc ⟨W,_,_,rfl,tF _ _ e7,⟨u1,rfl,tF _ _ ((s6.trans s7) _ _ hu1')⟩,⟨u2,rfl,tF _ _ (s7 _ _ hu2')⟩⟩
     · refine ⟨_,rfl,_,rfl,_,_,rfl,rfl,_,_,rfl,rfl,(by show (3:Int)≠0;decide),D,_,_,_,rfl,rfl,SqL.of (k2 _ _ nDF eD),rfl,?_⟩;refine ⟨_,rfl,_,rfl,_,_,rfl,rfl,_,_,rfl,rfl,(by show (3:Int)≠0;decide),D,_,_,_,rfl,rfl,SqL.of (k2 _ _ nDF eD),rfl,z2_,fun Z nZ=>?_⟩;generalize gG:upd H3 Z (.tup [.ref pa,.ref pb])=H4;obtain ⟨sZ,eZ⟩:=gen_upd gG nZ;have kt:Tk HF H4:=(Tk.of_keep k2 eF).trans sZ.tk;refine ⟨Z,_,rfl,SqT.of eZ,rfl,_,_,rfl,pa,_,rfl,SqT.of (kt _ _ hx),rfl,_,_,rfl,_,_,rfl,rfl,_,_,rfl,pb,_,rfl,SqT.of (kt _ _ hy),rfl,_,_,rfl,_,_,rfl,rfl,rfl,?_⟩;have eF4:=sZ _ _ eF2;have nZF:Z≠F:=fun z=>by rw [z] at nZ;rw [nZ] at eF2;cases eF2
       refine ⟨_,rfl,.inl ⟨rfl,_,SqL.of eF4⟩,_,rfl,a,_,1,_,rfl,rfl,SqT.of (kt _ _ (sF _ _ ha)),rfl,_,rfl,b',ws,n,_,rfl,rfl,SqT.of (kt _ _ (sF _ _ hb')),ev,_,rfl,b,_,_,_,rfl,rfl,SqT.of (kt _ _ (sF _ _ hb)),(atp 2 ?e),?_⟩;refine ⟨_,rfl,_,rfl,_,_,rfl,rfl,_,rfl,_,_,rfl,pk.d,n10_ c3 ?e,fun u1 H5 s5 hu1'=>?_⟩;refine ⟨_,rfl,_,rfl,_,_,rfl,rfl,_,rfl,_,_,rfl,pk.d,n10_ c3 ?e,fun u2 H6 s6 hu2'=>?_⟩;refine ⟨z3_,fun W nW=>?_⟩;generalize hH7:upd H6 W _=H7;have s7:Same H6 H7:=by (rw [← hH7];exact Same.new nW)
       have e7:=(congrFun hH7 W).symm;rw [Zc] at e7;clear hH7;have s47:=s5.trans (s6.trans s7);refine ⟨F,_,_,rfl,rfl,s47 _ _ eF4,by rw [alF.1,sizeLine_eq];exact n10_ (List.length_take_le _ _) ?e,?_⟩;have tF:Tk H7 (upd H7 F (.lst (fs++[.ref W]))):=Tk.upd_lst (s47 _ _ eF4);have t37:Tk H3 H7:=sZ.tk.trans s47.tk;refine ⟨fun b1 o1 nb e=>?_,⟨_,_,_,_,_,rfl⟩,_,Zc,?_⟩
       · rw [Zk nb];exact s47 _ _ (sZ _ _ (k2 _ _ nb e))
       · exact (alF.imp fun v x r=>Zbt (t37.trans tF) r).snoc ⟨W,_,_,rfl,tF _ _ e7,⟨u1,rfl,tF _ _ ((s6.trans s7) _ _ hu1')⟩,⟨u2,rfl,tF _ _ (s7 _ _ hu2')⟩⟩
   · obtain ⟨k2,⟨g1,g2,g3,g4,g5,rfl⟩,fs,eF2,alF⟩:=p;have s02:Same H H2:=fun b1 o1 e=>k2 _ _ (Zm e nF0) (sF _ _ e);refine ⟨_,rfl,_,rfl,z2_,fun R nR=>?_⟩;have s4:Same H2 (upd H2 R (.tup [.int (dOf cs p),.ref F])):=Same.new nR;exact q _ R F fs (s02.trans s4) Zc nF0 (s4 _ _ eF2) (alF.imp fun v x r=>Zbt s4.tk r)
abbrev Zam:Stmt:=top 75
theorem Zem (F:Fun K "_law_strain" "_law_strain" Zam f fd) (Cb_:a47_ P w K mg base) (Ch_:a48_ P w K mg base) (Ck_:a49_ P w K mg base):FnOk P w K mg base CX0 4 f fd ["_law_plate_here","_law_motions","_law_piece"] Zew:=by
 have sc:FnScope ["_law_plate_here","_law_motions","_law_piece","_law_e","_law_f","_law_g","_law_corner","_law_b","_law_c","_law_u","_law_v"] ["_law_plate_here","_law_motions","_law_piece"] (Zf Zam):=fsc (?i);refine F.ok sc (fun vs H Q E h=>by obtain ⟨v,w,P',n,ms,rfl,_⟩:=h;rfl) ?B;obtain ⟨v,w,P',n,ms,rfl,hv,ok,h0,h1,⟨am,ums,rfl,ham,alm⟩,hm,hB,q⟩:=h;have nd:=sc.nd;refine' ?C
 case term=>refine' Zd (Zjd rfl nd (i:=3) (j:=4) (k:=5) rfl rfl rfl ?e ?e ?e rfl rfl rfl (Za (Yg Zb) (Za (Yg Zb) (Za (Yg Zb) Zb rfl) rfl) rfl) rfl) ?g1;case g1=>refine' Zd ?g2 (Zh (Zo (Zv (Za (Zj Ck_ hr ?e rfl (Za (pv 3) Zb rfl)) (Za (Zj Ck_ hr ?e rfl (Za (pv 4) Zb rfl)) (Za (Zj Ck_ hr ?e rfl (Za (pv 5) Zb rfl)) Zb rfl) rfl) rfl))));case g2=>refine' Yu PassesOwn.never rfl (Yh (Zt Zq (Zj Ch_ hr ?e rfl (Za (pv 0) (Za (pv 2) Zb rfl) rfl)) Ze (?j))) (Z0 (n:=3) rfl (Zg (Zi (i:=6) nd rfl ?l) (Zg (Zi (i:=7) nd rfl ?l) (Zg (Zi (i:=8) nd rfl ?l) Zs)))) ?g3;case g3=>refine' Zd ?g4 (Zd (Zai (Zen PySem.F.plainAttrs_list PySem.F.slot_list_append PySem.F.type_list_append Xa (pv 3) (Za (Zj Cb_ hr ?e rfl (Za (pv 7) (Za (pv 9) Zb rfl) rfl)) Zb rfl))) (Zd (Zai (Zen PySem.F.plainAttrs_list PySem.F.slot_list_append PySem.F.type_list_append Xa (pv 4) (Za (Zj Cb_ hr ?e rfl (Za (pv 8) (Za (pv 10) Zb rfl) rfl)) Zb rfl))) (Zh (Zx (i:=5) nd rfl ?l (Zn Zht (pv 5) (Yg (Za (Zj Cb_ hr ?e rfl (Za (pv 8) (Za (pv 9) Zb rfl) rfl)) (Za (Zj Cb_ hr ?e rfl (Za (pv 7) (Za (pv 10) Zb rfl) rfl)) Zb rfl) rfl)))))));case g4=>refine' Zcv (i:=9) (j:=10) rfl nd rfl rfl ?e rfl rfl ?g5 rfl;case g5=>refine' Za (Zt Zq (pv 1) (Zn Zp Ze (pv 6)) (?j)) (Za (Zt Zq (pv 1) (Zn Yd (Zn Zp Ze (pv 6)) Ze) (?j)) Zb rfl) rfl
 have pk:=ok.pc _ (Xj h0 h1);have sb:=sl_B ok h0 h1;have c30:=ok.c30;refine ⟨z0_,fun E nE=>?_⟩;generalize gG:upd H E (.lst [])=H1;obtain ⟨s1,e1⟩:=gen_upd gG nE;refine ⟨z0_,fun F nF=>?_⟩;have s2:Same H1 (upd H1 F (.lst [])):=Same.new nF;have e2:upd H1 F (.lst []) F=some (.lst []):=Zc;have nEF:E≠F:=Zm e1 nF
 have nF0:H F=none:=by
  cases e:H F with
  | none=>rfl
  | some o=>rw [s1 _ _ e] at nF;cases nF
 generalize upd H1 F (.lst [])=H2 at s2 e2 ⊢;refine ⟨z0_,fun G nG=>?_⟩;have s3:Same H2 (upd H2 G (.lst [])):=Same.new nG;have e3:upd H2 G (.lst []) G=some (.lst []):=Zc;have nGE:G≠E:=fun z=>by rw [z,s2 _ _ e1] at nG;cases nG
 have nGF:G≠F:=fun z=>by rw [z,e2] at nG;cases nG
 generalize upd H2 G (.lst [])=H3 at s3 e3 ⊢;have s03:=s1.trans (s2.trans s3);refine ⟨_,_,_,rfl,?_⟩;refine ⟨_,rfl,_,rfl,v,P',n,rfl,hv.tk s03.tk,ok,h0,h1,fun H4 r f' us s4 hr4 nf4 hf4 al4=>?_⟩;have nfE:f'≠E:=fun z=>by rw [z,s3 _ _ (s2 _ _ e1)] at nf4;cases nf4
 have nfF:f'≠F:=fun z=>by rw [z,s3 _ _ e2] at nf4;cases nf4
 refine ⟨r,_,1,_,rfl,rfl,SqT.of hr4,rfl,f',rfl,⟨_,SqL.of hf4⟩,?_⟩;generalize hrs:slQ P'.cs (pcOf P' n)=rs at *;have ulen:=al4.1;have rlen:rs.length=3:=by rw [← hrs];rfl
 refine Yk (n:=rs.length) (fun i σ H5=>(∀ b o,b≠E→b≠F→H4 b=some o→H5 b=some o)∧Tk H4 H5∧∃ g1 g2 g3 g4 g5,∃ G':Addr,σ=[some v,some (.ref am),some (.int n),some (.ref E),some (.ref F),some (.ref G'),g1,g2,g3,g4,g5]∧G'≠E∧G'≠F∧∃ es fs gs,H5 E=some (.lst es)∧H5 F=some (.lst fs)∧H5 G'=some (.lst gs)∧Al (IsQ H5) es (eL ms (rs.take i))∧Al (IsQ H5) fs (fL ms (rs.take i))∧Al (IsQ H5) gs (gL ms (rs.take i)))
  ⟨fun b o _ _ e=>e,Tk.refl,_,_,_,_,_,G,rfl,nGE,nGF,[],[],[],s4 _ _ (s3 _ _ (s2 _ _ e1)),s4 _ _ (s3 _ _ e2),s4 _ _ e3,.nil,.nil,.nil⟩ (fun i σ H5 hi p=>⟨us,us[i]'(?d),SqL.of (p.1 _ _ nfE nfF hf4),n1_ (?d)⟩) (fun σ H5 p=>⟨us,SqL.of (p.1 _ _ nfE nfF hf4),?d⟩) (fun i x σ H5 H5' hi y p=>?_) (fun σ H5 p=>?_)
 · obtain ⟨k5,t5,g1,g2,g3,g4,g5,G',rfl,nGE',nGF',es,fs,gs,hE,hF,hG,aE,aF,aG⟩:=p;obtain ⟨rfl,y2⟩:=y;obtain ⟨rw',er,rr⟩:=al4.get (y2 us (SqL.of (k5 _ _ nfE nfF hf4)));obtain ⟨⟨bd0',bd1'⟩,bB,bC⟩:=sb rw' (n6_ er);obtain ⟨cn,qb,qc⟩:=rw';obtain ⟨ra,x1,x2,rfl,hra,⟨pb,rfl,hpb⟩,⟨pc,rfl,hpc⟩⟩:=rr;dsimp only at bd0' bd1' bB bC hra hpb hpc;refine ⟨ra,_,rfl,SqT.of (t5 _ _ hra),rfl,_,_,rfl,_,_,rfl,_,_,rfl,rfl,?_⟩;have t05:Tk H H5':=(s03.trans s4).tk.trans t5;obtain ⟨u,eu,pu,rfl,hpu⟩:=Zu3 alm (i:=2*cn) (?d) (?d);obtain ⟨w,ew,pw,rfl,hpw⟩:=Zu3 alm (i:=2*cn+1) (?d) (?d);have um:FM.B 60 (mAt ms (2*cn)):=Zmx hB ?e _;have wm:FM.B 60 (mAt ms (2*cn+1)):=Zmx hB ?e _;change H pu=some (.tup (rt (mAt ms (2*cn)))) at hpu;change H pw=some (.tup (rt (mAt ms (2*cn+1)))) at hpw;refine ⟨_,rfl,_,rfl,_,_,rfl,rfl,mul3 ?e (?d),am,ums,_,_,rfl,rfl,SqT.of (t05 _ _ ham),eu,?_⟩;refine ⟨_,rfl,_,rfl,_,_,rfl,rfl,mul3 ?e (?d),_,_,rfl,rfl,am,ums,_,_,rfl,rfl,SqT.of (t05 _ _ ham),ew,_,_,rfl,?_⟩;have hpb5:=t5 _ _ hpb;have hpc5:=t5 _ _ hpc;have hpu5:=t05 _ _ hpu;have hpw5:=t05 _ _ hpw;have tk1:rs.take (i+1)=rs.take i++[(cn,qb,qc)]:=by rw [n60_,er];rfl
   have ilen:(rs.take i).length≤3:=by rw [n43_];omega
   refine ⟨_,rfl,.inl ⟨rfl,_,SqL.of hE⟩,_,rfl,_,rfl,pb,pu,_,_,rfl,hpb5,hpu5,bB.mono ?e,um.mono ?e,fun z1 H6 s6 hz1=>?_⟩;refine ⟨E,_,_,rfl,rfl,s6 _ _ hE,by rw [aE.1,sizeLine_eq];simp [eL];omega,?_⟩;have tE:Tk H6 (upd H6 E (.lst (es++[.ref z1]))):=Tk.upd_lst (s6 _ _ hE);have oE:∀ b o,b≠E→H6 b=some o→upd H6 E (.lst (es++[.ref z1])) b=some o:=fun b o nb e=>by rw [Zk nb];exact e
   have eE7:upd H6 E (.lst (es++[.ref z1])) E=some (.lst (es++[.ref z1])):=Zc;generalize upd H6 E (.lst (es++[.ref z1]))=H7 at tE oE eE7 ⊢;have t57:=s6.tk.trans tE;have hF7:=oE _ _ nEF.symm (s6 _ _ hF);have hG7:=oE _ _ nGE' (s6 _ _ hG);refine ⟨_,rfl,.inl ⟨rfl,_,SqL.of hF7⟩,_,rfl,_,rfl,pc,pw,_,_,rfl,t57 _ _ hpc5,t57 _ _ hpw5,bC.mono ?e,wm.mono ?e,fun z2 H8 s8 hz2=>?_⟩;refine ⟨F,_,_,rfl,rfl,s8 _ _ hF7,by rw [aF.1,sizeLine_eq];simp [fL];omega,?_⟩;have tF:Tk H8 (upd H8 F (.lst (fs++[.ref z2]))):=Tk.upd_lst (s8 _ _ hF7);have oF:∀ b o,b≠F→H8 b=some o→upd H8 F (.lst (fs++[.ref z2])) b=some o:=fun b o nb e=>by rw [Zk nb];exact e
   have eF9:upd H8 F (.lst (fs++[.ref z2])) F=some (.lst (fs++[.ref z2])):=Zc;generalize upd H8 F (.lst (fs++[.ref z2]))=H9 at tF oF eF9 ⊢;have t79:=s8.tk.trans tF;have t59:=t57.trans t79;have eE9:=oF _ _ nEF (s8 _ _ eE7);have hG9:=oF _ _ nGF' (s8 _ _ hG7);refine ⟨_,rfl,_,rfl,_,rfl,pc,pu,_,_,rfl,t59 _ _ hpc5,t59 _ _ hpu5,bC.mono ?e,um.mono ?e,fun z3 H10 s10 hz3=>?_⟩;have t510:=t59.trans s10.tk;refine ⟨_,rfl,_,rfl,pb,pw,_,_,rfl,t510 _ _ hpb5,t510 _ _ hpw5,bB.mono ?e,wm.mono ?e,fun z4 H11 s11 hz4=>?_⟩;refine ⟨z2_,fun L nL=>?_⟩;generalize gG:upd H11 L (.lst [.ref z3,.ref z4])=H12;obtain ⟨s12,e12⟩:=gen_upd gG nL;have s912:=s10.trans (s11.trans s12);refine ⟨G',L,gs,_,rfl,rfl,s912 _ _ hG9,e12,by rw [aG.1,Zq3,sizeLine_eq];show 2*(rs.take i).length+2≤_;omega,fun G2 nG2=>?_⟩;have s13:Same H12 (upd H12 G2 (.lst (gs++[.ref z3,.ref z4]))):=Same.new nG2;have e13:upd H12 G2 (.lst (gs++[.ref z3,.ref z4])) G2=some (.lst (gs++[.ref z3,.ref z4])):=Zc;have eE12:=s912 _ _ eE9;have eF12:=s912 _ _ eF9;have n1:G2≠E:=fun z=>by rw [z,eE12] at nG2;cases nG2
   have n2:G2≠F:=fun z=>by rw [z,eF12] at nG2;cases nG2
   generalize upd H12 G2 (.lst (gs++[.ref z3,.ref z4]))=H13 at s13 e13 ⊢;have s913:=s912.trans s13;have t913:=s913.tk;have t513:=t59.trans t913;have t713:=t79.trans t913;refine ⟨fun b o nb1 nb2 e=>s913 _ _ (oF _ _ nb2 (s8 _ _ (oE _ _ nb1 (s6 _ _ (k5 _ _ nb1 nb2 e))))),t5.trans t513,_,_,_,_,_,G2,rfl,n1,n2,_,_,_,s13 _ _ eE12,s13 _ _ eF12,e13,?_,?_,?_⟩
   · rw [tk1];unfold eL;rw [n51_];exact (aE.imp fun v x r=>r.tk t513).snoc ⟨z1,rfl,t713 _ _ (tE _ _ hz1)⟩
   · rw [tk1];unfold fL;rw [n51_];exact (aF.imp fun v x r=>r.tk t513).snoc ⟨z2,rfl,t913 _ _ (tF _ _ hz2)⟩
   · rw [tk1];unfold gL;rw [List.flatMap_append];refine Al.app (aG.imp fun v x r=>r.tk t513) ?_;exact .cons ⟨z3,rfl,(s11.trans (s12.trans s13)) _ _ hz3⟩ (.cons ⟨z4,rfl,(s12.trans s13) _ _ hz4⟩ .nil)
 · obtain ⟨k5,t5,g1,g2,g3,g4,g5,G',rfl,nGE',nGF',es,fs,gs,hE,hF,hG,aE,aF,aG⟩:=p;rw [n37_ (n11_ _)] at aE aF aG;have hmB:=fun w=>Zmx hB ?e w;have s05:Same H H5:=fun b o e=>k5 _ _ (Zm e nE) (Zm e nF0) (s4 _ _ (s03 _ _ e));refine ⟨_,rfl,E,es,_,rfl,hE,aE,fun x hx=>?_,by simp [eL,rlen],fun H6 v1 s6 i1=>?_⟩
   · obtain ⟨r',hr',rfl⟩:=n25_.mp hx;exact (FM.B_mul (sb r' hr').2.1 (hmB _)).mono ?e
   refine ⟨_,rfl,F,fs,_,rfl,s6 _ _ hF,aF.imp fun v x r=>r.tk s6.tk,fun x hx=>?_,by simp [fL,rlen],fun H7 v2 s7 i2=>?_⟩
   · obtain ⟨r',hr',rfl⟩:=n25_.mp hx;exact (FM.B_mul (sb r' hr').2.2 (hmB _)).mono ?e
   have s57:=s6.trans s7;refine ⟨_,rfl,G',gs,_,rfl,s57 _ _ hG,aG.imp fun v x r=>r.tk s57.tk,fun x hx=>?_,by rw [← aG.1,aG.1,← hrs];simp [gL,slQ],fun H8 v3 s8 i3=>?_⟩
   · obtain ⟨r',hr',hx⟩:=List.mem_flatMap.mp hx;simp only [n13_,n15_,or_false] at hx
     rcases hx with rfl|rfl
     · exact (FM.B_mul (sb r' hr').2.2 (hmB _)).mono ?e
     · exact (FM.B_mul (sb r' hr').2.1 (hmB _)).mono ?e
   refine ⟨z3_,fun R nR=>?_⟩;have s9:Same H8 (upd H8 R (.tup [v1,v2,v3])):=Same.new nR;refine q _ _ (s05.trans (s57.trans (s8.trans s9))) ⟨R,_,rfl,Zc,?_⟩;rw [← Zks pk.len pk.d,hrs];exact .cons (i1.tk (s7.trans (s8.trans s9)).tk) (.cons (i2.tk (s8.trans s9).tk) (.cons (i3.tk s9.tk) .nil))
abbrev Zal:Stmt:=top 76
theorem Zee (F:Fun K "_law_stress" "_law_stress" Zal f fd) (Cd_:a44_ P w K mg base) (Cb_:a47_ P w K mg base):FnOk P w K mg base CX0 3 f fd ["_law_plate_here","_law_own"] Ze0:=by
 have sc:FnScope ["_law_plate_here","_law_own","_law_l","_law_m","_law_both","_law_p","_law_q"] ["_law_plate_here","_law_own"] (Zf Zal):=fsc (?i);refine F.ok sc (fun vs H Q E h=>by obtain ⟨v,w,P',s3,rfl,_⟩:=h;rfl) ?B;obtain ⟨v,w,P',s3,rfl,⟨a,c,p,t,st,rfl,ha,hc,hp,ht,⟨sa,rfl,hsa⟩⟩,ok,⟨w,ws,rfl,hw,alw⟩,h3,hB,q⟩:=h;have nd:=sc.nd;refine' ?C
 case term=>refine' Zd (Ym (Zt Zq (pv 0) Ze (?j)) (Z0 (n:=2) rfl (Zg (Zi (i:=2) nd rfl ?l) (Zg (Zi (i:=3) nd rfl ?l) Zs)))) ?g1;case g1=>refine' Zd ?g2 ?g3;(case g2=>refine' Zx (i:=4) nd rfl ?l ?g4;case g4=>refine' Zj Cb_ hr ?e rfl ?g5;case g5=>refine' Za (Zv (Za (pv 2) ?J rfl)) ?g6 rfl;case g6=>refine' Za ?g7 Zb rfl;case g7=>refine' Zj Cd_ hr ?e rfl ?g8;case g8=>refine' Za (Zt Zq (pv 1) Ze (?j)) (Za (Zt Zq (pv 1) Ze (?j)) Zb rfl) rfl);case g3=>refine' Zd ?g9 (Zh (Zo (Zv (Za (Zj Cd_ hr ?e rfl (Za (pv 4) (Za (pv 5) Zb rfl) rfl)) (Za (Zj Cd_ hr ?e rfl (Za (pv 4) (Za (pv 6) Zb rfl) rfl)) (Za (Zj Cb_ hr ?e rfl (Za (Zv (Za (pv 3) ?J rfl)) (Za (Zt Zq (pv 1) Ze (?j)) Zb rfl) rfl)) Zb rfl) rfl) rfl))));case g9=>refine' Zcv (i:=5) (j:=6) rfl nd rfl rfl ?e rfl rfl ?ga rfl;case ga=>refine' Za (Zj Cb_ hr ?e rfl (Za (Zv (Za (Zn Zp Ze (pv 3)) ?J rfl)) (Za (Zt Zq (pv 1) Ze (?j)) Zb rfl) rfl)) (Za (Zj Cb_ hr ?e rfl (Za (Zv (Za (Zn Zp Ze (pv 3)) ?J rfl)) (Za (Zt Zq (pv 1) Ze (?j)) Zb rfl) rfl)) Zb rfl) rfl
 obtain ⟨l0,l9⟩:=ok.l9;obtain ⟨m1,m9⟩:=ok.m9;generalize P'.l=l at *;generalize P'.m=m at *
 match s3,h3 with
 | [e,f',g],_ =>
   have lw:=alw.1
   match ws,lw with
   | [v0,v1,v2],_ =>
     obtain ⟨p0,rfl,h0⟩:=alw.2 0 v0 e rfl rfl;obtain ⟨p1,rfl,h1⟩:=alw.2 1 v1 f' rfl rfl;obtain ⟨p2,rfl,h2⟩:=alw.2 2 v2 g rfl rfl;have be:=hB e ?f;have bf:=hB f' ?f;have bg:=hB g ?f;refine ⟨_,rfl,a,_,3,_,rfl,rfl,SqT.of ha,rfl,sa,_,rfl,SqT.of hsa,rfl,_,_,rfl,_,_,rfl,rfl,?_⟩;refine ⟨_,rfl,z2_,fun z1 n1=>?_⟩;have s1:Same H (upd H z1 (.tup [.int l,.int 1])):=Same.new n1;have e1:upd H z1 (.tup [.int l,.int 1]) z1=some (.tup (rt (l:Rat))):=by rw [Zc,Zkl]
     generalize upd H z1 (.tup [.int l,.int 1])=H1 at s1 e1 ⊢;refine ⟨_,rfl,w,_,0,_,rfl,rfl,SqT.of (s1 _ _ hw),rfl,_,rfl,w,_,1,_,rfl,rfl,SqT.of (s1 _ _ hw),rfl,p0,p1,e,f',rfl,s1 _ _ h0,s1 _ _ h1,be.mono ?e,bf.mono ?e,fun z2 H2 s2 hz2=>?_⟩;have s02:=s1.trans s2;have B2:=FM.B_add be bf;refine ⟨z1,z2,_,_,rfl,s2 _ _ e1,hz2,(Zjb (l:=l) (?d)).mono ?e,B2.mono ?e,fun z3 H3 s3 hz3=>?_⟩;have s03:=s02.trans s3;have B3:=FM.B_mul (Zjb (l:=l) (?d)) B2;have b2m:(2*m).natAbs≤18:=?d
     refine ⟨_,rfl,_,_,rfl,rfl,mul3 ?e (?d),z2_,fun z4 n4=>?_⟩;generalize hH4:upd H3 z4 _=H4;have s4:Same H3 H4:=by (rw [← hH4];exact Same.new n4)
     have e4':=(congrFun hH4 z4).symm;rw [Zc] at e4';have e4:H4 z4=some (.tup (rt ((2*m:Int):Rat))):=by rw [Zkl];exact e4'
     clear e4' hH4;have s04:=s03.trans s4;refine ⟨_,rfl,w,_,0,_,rfl,rfl,SqT.of (s04 _ _ hw),rfl,z4,p0,_,e,rfl,e4,s04 _ _ h0,(Zjb b2m).mono ?e,be.mono ?e,fun z5 H5 s5 hz5=>?_⟩;have s05:=s04.trans s5;have B5:=FM.B_mul (Zjb b2m) be;refine ⟨_,rfl,_,_,rfl,rfl,mul3 ?e (?d),z2_,fun z6 n6=>?_⟩;generalize hH6:upd H5 z6 _=H6;have s6:Same H5 H6:=by (rw [← hH6];exact Same.new n6)
     have e6':=(congrFun hH6 z6).symm;rw [Zc] at e6';have e6:H6 z6=some (.tup (rt ((2*m:Int):Rat))):=by rw [Zkl];exact e6'
     clear e6' hH6;have s06:=s05.trans s6;refine ⟨_,rfl,w,_,1,_,rfl,rfl,SqT.of (s06 _ _ hw),rfl,z6,p1,_,f',rfl,e6,s06 _ _ h1,(Zjb b2m).mono ?e,bf.mono ?e,fun z7 H7 s7 hz7=>?_⟩;have s07:=s06.trans s7;have B7:=FM.B_mul (Zjb b2m) bf;refine ⟨_,_,rfl,?_⟩;have s37:=s4.trans (s5.trans (s6.trans s7));have s57:=s6.trans s7;refine ⟨_,rfl,_,rfl,z3,z5,_,_,rfl,s37 _ _ hz3,s57 _ _ hz5,B3.mono ?e,B5.mono ?e,fun z8 H8 s8 hz8=>?_⟩;have s38:=s37.trans s8;refine ⟨_,rfl,_,rfl,z3,z7,_,_,rfl,s38 _ _ hz3,s8 _ _ hz7,B3.mono ?e,B7.mono ?e,fun z9 H9 s9 hz9=>?_⟩;have s09:=s07.trans (s8.trans s9);refine ⟨_,rfl,z2_,fun z10 n10=>?_⟩;have s10:Same H9 (upd H9 z10 (.tup [.int m,.int 1])):=Same.new n10;have e10:upd H9 z10 (.tup [.int m,.int 1]) z10=some (.tup (rt (m:Rat))):=by rw [Zc,Zkl]
     generalize upd H9 z10 (.tup [.int m,.int 1])=H10 at s10 e10 ⊢;have s010:=s09.trans s10;refine ⟨_,rfl,w,_,2,_,rfl,rfl,SqT.of (s010 _ _ hw),rfl,z10,p2,_,g,rfl,e10,s010 _ _ h2,(Zjb (l:=m) (?d)).mono ?e,bg.mono ?e,fun z11 H11 s11 hz11=>?_⟩;refine ⟨z3_,fun R nR=>?_⟩;have s12:Same H11 (upd H11 R (.tup [.ref z8,.ref z9,.ref z11])):=Same.new nR;have s912:=s10.trans (s11.trans s12);refine q _ _ (s09.trans s912) ⟨R,_,rfl,Zc,?_⟩;have e2:((2*m:Int):Rat)=(2:Rat)*(m:Rat):=by rw [n32_];rfl
     rw [e2] at hz8 hz9;exact .cons ⟨z8,rfl,(s9.trans s912) _ _ hz8⟩ (.cons ⟨z9,rfl,s912 _ _ hz9⟩ (.cons ⟨z11,rfl,s12 _ _ hz11⟩ .nil))
abbrev Xo:Stmt:=top 77
theorem Zc4 (F:Fun K "_law_stresses" "_law_stresses" Xo f fd) (Cae_:a50_ P w K mg base) (Caf_:a51_ P w K mg base):FnOk P w K mg base CX0 5 f fd ["_law_plate_here","_law_motions"] Zc3:=by
 have sc:FnScope ["_law_plate_here","_law_motions","_law_found","_law_piece"] ["_law_plate_here","_law_motions"] (Zf Xo):=fsc (?i);refine F.ok sc (fun vs H Q E h=>by obtain ⟨v,w,P',ms,rfl,_⟩:=h;rfl) ?B;obtain ⟨v,w,P',ms,rfl,hv,ok,hw,hm,hB,q⟩:=h;have nd:=sc.nd;refine' ?C
 case term=>refine' Zd (Zx (i:=2) nd rfl ?l (Yg Zb)) (Zd (Yu PassesOwn.never rfl (Xu rfl T.b_range (Za (Zl Zr rfl T.b_len Yr (Za (Zt Zq (pv 0) Ze (?j)) Zb rfl)) Zb rfl)) (Zi (i:=3) nd rfl ?l) (Zh (Zai (Zen PySem.F.plainAttrs_list PySem.F.slot_list_append PySem.F.type_list_append Xa (pv 2) (Za (Zj Caf_ hr ?e rfl (Za (pv 0) (Za (Zj Cae_ hr ?e rfl (Za (pv 0) (Za (pv 1) (Za (pv 3) Zb rfl) rfl) rfl)) Zb rfl) rfl)) Zb rfl))))) (Zh (Zo (Zz Zw rfl T.b_tuple Z4 (Za (pv 2) Zb rfl)))))
 have hv0:=hv;obtain ⟨a,c,p,t,st,rfl,ha,hc,⟨b',ws,rfl,hb',bl⟩,ht,hs⟩:=hv0;have hl:=bl.1;have p40:=ok.p40;refine ⟨z0_,fun F nF=>?_⟩;generalize gG:upd H F (.lst [])=H1;obtain ⟨s1,e1⟩:=gen_upd gG nF;refine ⟨_,rfl,a,_,1,_,rfl,rfl,SqT.of (s1 _ _ ha),rfl,b',ws,rfl,.inr (SqT.of (s1 _ _ hb')),ws.length,rfl,?d,?d,?_⟩;refine Yk (n:=ws.length) (fun i σ H2=>Keep F H1 H2∧(∃ x,σ=[some (.ref a),some w,some (.ref F),x])∧∃ us,H2 F=some (.lst us)∧Al (IsQs H2) us ((Zgq P' ms).take i)) ⟨Keep.refl _ _,⟨_,rfl⟩,[],e1,.nil⟩ (fun i σ H2 hi p=>hi) (fun σ H2 p=>n11_ _) (fun i x σ H2 H3 hi y p=>?_) (fun σ H2 p=>?_)
 · obtain ⟨k2,⟨x',rfl⟩,us,eF,alF⟩:=p;obtain ⟨rfl,rfl⟩:=y;have t2:Tk H H3:=s1.tk.trans (Tk.of_keep k2 e1);have nlo:(0:Int)≤0+(i:Int):=?d
   have nhi:(0:Int)+(i:Int)<P'.ps.length:=?d
   refine ⟨_,rfl,.inl ⟨rfl,_,SqL.of eF⟩,_,rfl,_,rfl,_,rfl,_,rfl,.ref a,w,P',0+i,ms,rfl,hv.tk t2,ok,nlo,nhi,Yw t2 hw,hm,hB,fun H4 r4 s4 h4=>?_⟩;refine ⟨.ref a,r4,P',_,rfl,hv.tk (t2.trans s4.tk),ok,h4,rfl,Zwz ok nlo nhi hB,fun H5 r5 s5 h5=>?_⟩;have s45:=s4.trans s5;refine ⟨F,us,_,rfl,rfl,s45 _ _ eF,by rw [alF.1,sizeLine_eq,n43_];omega,?_⟩;have tF:Tk H5 (upd H5 F (.lst (us++[r5]))):=Tk.upd_lst (s45 _ _ eF);refine ⟨fun b o nb e=>by rw [Zk nb];exact s45 _ _ (k2 _ _ nb e),⟨_,rfl⟩,_,Zc,?_⟩
   have:(Zgq P' ms).take (i+1)=(Zgq P' ms).take i++[stsQ P'.l P'.m (strQ P' (0+i) ms)]:=by
    rw [n60_];unfold Zgq;rw [n4_,n85_ (?d),Int.zero_add];rfl
   rw [this];exact (alF.imp fun v x r=>Yw (s45.tk.trans tF) r).snoc (Yw tF h5)
 · obtain ⟨k2,⟨x',rfl⟩,us,eF,alF⟩:=p;rw [n37_ (by unfold Zgq;simp [hl])] at alF;have s02:Same H H2:=fun b o e=>k2 _ _ (Zm e nF) (s1 _ _ e);refine ⟨_,rfl,F,us,rfl,.inl ⟨SqL.of eF,fun r nr=>?_⟩⟩;have s3:Same H2 (upd H2 r (.tup us)):=Same.new nr;exact q _ _ (s02.trans s3) ⟨r,us,rfl,Zc,alF.imp fun v x r=>Yw s3.tk r⟩
abbrev Zad:Stmt:=top 78
theorem Zei (F:Fun K "_law_pushes" "_law_pushes" Zad f fd) (Cd_:a44_ P w K mg base) (Cf_:a43_ P w K mg base) (Cb_:a47_ P w K mg base) (Ch_:a48_ P w K mg base):FnOk P w K mg base CX0 4 f fd ["_law_plate_here","_law_some"] Ze6:=by
 have sc:FnScope ["_law_plate_here","_law_some","_law_found","_law_piece","_law_p","_law_q","_law_r","_law_d","_law_rows","_law_by","_law_corner","_law_b","_law_c","_law_along","_law_across"] ["_law_plate_here","_law_some"] (Zf Zad):=fsc (?i);refine F.ok sc (fun vs H Q E h=>by obtain ⟨v,w,P',ss,rfl,_⟩:=h;rfl) ?B;obtain ⟨v,w,P',ss,rfl,hv,ok,p4,⟨gv,us,rfl,hg,al⟩,sok,q⟩:=h;have nd:=sc.nd;refine' ?C
 case term=>refine' Zd (Zx (i:=2) nd rfl ?l (Zn Zkq (Yg (Za (Zv (Za Ze ?J rfl)) Zb rfl)) (Zn Zp Ze (Zl Zr rfl T.b_len Yr (Za (Zt Zq (pv 0) Ze (?j)) Zb rfl))))) ?g1;case g1=>refine' Zd ?g2 (Zh (Zo (Zz Zw rfl T.b_tuple Z4 (Za (pv 2) Zb rfl))));case g2=>refine' Yu PassesOwn.never rfl (Zf1 .t rfl T.b_enumerate ?M) (Z0 (n:=2) rfl (Zg (Zi (i:=3) nd rfl ?l) (Zg (Z0 (n:=3) rfl (Zg (Zi (i:=4) nd rfl ?l) (Zg (Zi (i:=5) nd rfl ?l) (Zg (Zi (i:=6) nd rfl ?l) Zs)))) Zs))) ?g3;case g3=>refine' Zd (Ym (Zj Ch_ hr ?e rfl (Za (pv 0) (Za (pv 3) Zb rfl) rfl)) (Z0 (n:=2) rfl (Zg (Zi (i:=7) nd rfl ?l) (Zg (Zi (i:=8) nd rfl ?l) Zs)))) ?g4;case g4=>refine' Zd ?g5 ?g6;(case g5=>refine' Zx (i:=9) nd rfl ?l ?g7;case g7=>refine' Zj Cf_ hr ?e rfl ?g8;case g8=>refine' Za ?g9 ?J rfl;case g9=>refine' Zn Zp ?ga (Zl Za9 rfl T.b_abs Zfe (Za (pv 7) Zb rfl));case ga=>refine' Zt Zq (Zt Zq (pv 0) Ze (?j)) (pv 3) (?j));case g6=>refine' Zh ?gb;case gb=>refine' Yu PassesOwn.never rfl (Yh (pv 8)) (Z0 (n:=3) rfl (Zg (Zi (i:=10) nd rfl ?l) (Zg (Zi (i:=11) nd rfl ?l) (Zg (Zi (i:=12) nd rfl ?l) Zs)))) ?gc;case gc=>refine' Zd (Zx (i:=13) nd rfl ?l (Zj Cd_ hr ?e rfl (Za (Zj Cb_ hr ?e rfl (Za (pv 4) (Za (pv 11) Zb rfl) rfl)) (Za (Zj Cb_ hr ?e rfl (Za (pv 6) (Za (pv 12) Zb rfl) rfl)) Zb rfl) rfl))) ?gd;case gd=>refine' Zd (Zx (i:=14) nd rfl ?l (Zj Cd_ hr ?e rfl (Za (Zj Cb_ hr ?e rfl (Za (pv 6) (Za (pv 11) Zb rfl) rfl)) (Za (Zj Cb_ hr ?e rfl (Za (pv 5) (Za (pv 12) Zb rfl) rfl)) Zb rfl) rfl))) ?ge;case ge=>refine' Zd (Ym (Zj Cd_ hr ?e rfl (Za (Zt Yn (pv 2) (Zn Zp Ze (pv 10)) (?j)) (Za (Zj Cb_ hr ?e rfl (Za (pv 9) (Za (pv 13) Zb rfl) rfl)) Zb rfl) rfl)) (Zc1 (pv 2) (Zn Zp Ze (pv 10)) Xw)) (Zh (Ym (Zj Cd_ hr ?e rfl (Za (Zt Yn (pv 2) (Zn Yd (Zn Zp Ze (pv 10)) Ze) (?j)) (Za (Zj Cb_ hr ?e rfl (Za (pv 9) (Za (pv 14) Zb rfl) rfl)) Zb rfl) rfl)) (Zc1 (pv 2) (Zn Yd (Zn Zp Ze (pv 10)) Ze) Xw)))
 have hv0:=hv;obtain ⟨pa,pc,pp',ptk,pst,rfl,hpa,⟨ca,cvs,rfl,hca,cal⟩,hpp,⟨ta,rfl,hta⟩,hps⟩:=hv0;have c30:=ok.c30;have hl2:=al.1;have cl2:=cal.1;have sl:=sok.len;refine ⟨z2_,fun z nz=>?_⟩;have s1:Same H (upd H z (.tup [.int 0,.int 1])):=Same.new nz;have e1:upd H z (.tup [.int 0,.int 1]) z=some (.tup (rt 0)):=Zc;generalize upd H z (.tup [.int 0,.int 1])=H1 at s1 e1 ⊢;refine ⟨z1_,fun y ny=>?_⟩;generalize gG:upd H1 y (.lst [.ref z])=H2;obtain ⟨s2,e2⟩:=gen_upd gG ny;have s02:=s1.trans s2;refine ⟨_,rfl,pa,_,0,_,rfl,rfl,SqT.of (s02 _ _ hpa),rfl,ca,cvs,rfl,.inr (SqT.of (s02 _ _ hca)),_,_,rfl,rfl,mul3 ?e (?d),y,_,_,rfl,rfl,e2,?d,?d,by rw [sizeLine_eq];simp;omega,fun F nF=>?_⟩;have hN:(2*(cvs.length:Int)).toNat=2*P'.cs.length:=?d
 rw [hN,Zb2];generalize gG:upd H2 F (.lst (List.replicate (2*P'.cs.length) (.ref z)))=H3;obtain ⟨s3,e3⟩:=gen_upd gG nF;have s03:=s02.trans s3
 have nF0:H F=none:=by
  cases e:H F with
  | none=>rfl
  | some o=>rw [s02 _ _ e] at nF;cases nF
 refine ⟨_,rfl,gv,rfl,⟨_,SqT.of (s03 _ _ hg)⟩,?_⟩;refine Yk (n:=ss.length) (fun i σ H4=>Keep F H3 H4∧(∃ y1 y2 y3 y4 y5 y6 y7 y8 y9 y10 y11 y12,σ=[some (.ref pa),some (.ref gv),some (.ref F),y1,y2,y3,y4,y5,y6,y7,y8,y9,y10,y11,y12])∧∃ fs vals,H4 F=some (.lst fs)∧Al (IsQ H4) fs vals∧vals.length=2*P'.cs.length∧(∀ (k:Nat) (x:Rat),vals[k]? = some x→x=Fn P' ss i k)∧∀ x∈vals,FM.B (1+128*(3*i)) x) ⟨Keep.refl _ _,⟨_,_,_,_,_,_,_,_,_,_,_,_,rfl⟩,_,List.replicate (2*P'.cs.length) 0,e3,Zkb ⟨z,rfl,s3 _ _ (s2 _ _ e1)⟩ _,by simp,fun k x e=>?_,fun x hx=>?_⟩ (fun i σ H4 hi p=>⟨us,us[i]'(?d),SqT.of (Tk.of_keep p.1 e3 _ _ (s03 _ _ hg)),n1_ _⟩) (fun σ H4 p=>⟨us,SqT.of (Tk.of_keep p.1 e3 _ _ (s03 _ _ hg)),hl2⟩) (fun i x σ H4 H5 hi y p=>?_) (fun σ H4 p=>?_)
 · rw [List.getElem?_replicate] at e;split at e
   · cases e;rfl
   · cases e
 · rw [(List.mem_replicate.mp hx).2];exact bd0
 · obtain ⟨k4,⟨y1,y2,y3,y4,y5,y6,y7,y8,y9,y10,y11,y12,rfl⟩,fs,vals,eF,alF,lF,vF,bF⟩:=p;obtain ⟨g,x,rfl,ng,rfl,yx⟩:=y;have t4:Tk H3 H4:=Tk.of_keep k4 e3;obtain ⟨s,es,th,us3,rfl,hth3,al3⟩:=al.get (yx us (SqT.of (t4 _ _ (s03 _ _ hg))));have sm:=n6_ es;have gs:ss.getD i []=s:=by rw [n5_,es];rfl
   have s3l:=sok.three s sm;obtain ⟨DD,hD,hDD⟩:=sok.bd s sm;have n0:(0:Int)≤(i:Int):=?d
   have n1:(i:Int)<P'.ps.length:=?d
   have pk:=ok.pc _ (Xj n0 n1);obtain ⟨c1,c2,c3⟩:=Zi9 ok.nr pk.len pk.bd
   match s,s3l with
   | [sp,sq,sr],_ =>
   match us3,al3.1 with
   | [v0,v1,v2],_ =>
   obtain ⟨ap,rfl,hp0⟩:=al3.2 0 v0 sp rfl rfl;obtain ⟨aq,rfl,hq0⟩:=al3.2 1 v1 sq rfl rfl;obtain ⟨ar,rfl,hr0⟩:=al3.2 2 v2 sr rfl rfl;have bp:=hDD sp ?f;have bq:=hDD sq ?f;have br:=hDD sr ?f;generalize gG:upd H4 g (.tup [.int i,.ref th])=H5;obtain ⟨s5,e5⟩:=gen_upd gG ng;have t05:Tk H H5:=s03.tk.trans (t4.trans s5.tk);refine ⟨g,_,rfl,SqT.of e5,rfl,_,_,rfl,_,_,rfl,⟨th,_,rfl,SqT.of (t05 _ _ hth3),rfl,_,_,rfl,_,_,rfl,_,_,rfl,rfl,rfl,?_⟩⟩;refine ⟨_,rfl,_,rfl,.ref pa,P',(i:Int),rfl,hv.tk t05,ok,n0,n1,fun H6 r6 f6 us6 s6 hr6 nf6 hf6 al6=>?_⟩;refine ⟨r6,_,rfl,SqT.of hr6,rfl,_,_,rfl,_,_,rfl,rfl,?_⟩;have s46:=s5.trans s6;have t06:=t05.trans s6.tk;have nf:f6≠F:=fun z=>by rw [z,s5 _ _ eF] at nf6;cases nf6
   have tti:P'.ts[i]? = some (P'.ts.getD i 0):=by
    have:i<P'.ts.length:=by rw [ok.t1];omega
    rw [n5_,n1_ this];rfl
   obtain ⟨tl,tu⟩:=ok.t9 _ (n6_ tti);have att:atI (P'.ts.map V.int) (i:Int)=some (.int (P'.ts.getD i 0)):=Xg (by rw [n4_,tti];rfl);generalize hdd:dOf P'.cs (pcOf P' i)=dd at *;have ad:(if dd<0 then -dd else dd).natAbs≤80000:=by split<;>omega
   have tz:(P'.ts.getD i 0).natAbs≤9:=?d
   refine ⟨_,rfl,pa,_,2,_,rfl,rfl,SqT.of (t06 _ _ hpa),rfl,_,rfl,ta,_,(i:Int),_,rfl,rfl,SqT.of (t06 _ _ hta),att,_,rfl,dd,rfl,_,_,rfl,rfl,Xf (n:=20) (n10_ tz ?e) (n10_ ad ?e),_,_,rfl,?t,?t,fun bz H7 s7 hbz=>?_⟩;generalize hby:Rat.divInt (P'.ts.getD i 0*(if dd<0 then -dd else dd)) 2=by' at *
   have byB:FM.B 21 by':=by
    rw [← hby];refine FM.B_divInt ?e (n10_ (n36_ (Nat.le_of_eq (n56_ _ _)) (n57_ tz ad)) ?e) ?e
   have s47:=s46.trans s7;have t07:=t06.trans s7.tk;refine ⟨_,rfl,f6,rfl,⟨_,SqL.of (s7 _ _ hf6)⟩,?_⟩;have hf7:=s7 _ _ hf6;have al7:Al (Zmc H7) us6 (slQ P'.cs (pcOf P' i)):=al6.imp fun v x r=>Zbt s7.tk r;have eF7:=s47 _ _ eF;have sb:=sl_B ok n0 n1;refine Yk (n:=3) (fun c σ H8=>Keep F H7 H8∧(∃ z1 z2 z3 z4 z5,σ=[some (.ref pa),some (.ref gv),some (.ref F),some (.int i),some (.ref ap),some (.ref aq),some (.ref ar),some (.int dd),some (.ref f6),some (.ref bz),z1,z2,z3,z4,z5])∧∃ fs vals,H8 F=some (.lst fs)∧Al (IsQ H8) fs vals∧vals.length=2*P'.cs.length∧(∀ (k:Nat) (x:Rat),vals[k]? = some x→x=Fn P' ss i k+pt' ((ctrL P' i [sp,sq,sr]).take (2*c)) k)∧∀ x∈vals,FM.B (1+128*(3*i+c)) x) ⟨Keep.refl _ _,⟨_,_,_,_,_,rfl⟩,fs,vals,eF7,alF.imp fun v x r=>r.tk s47.tk,lF,fun k x e=>?_,bF⟩ (fun c σ H8 hc p=>⟨us6,us6[c]'(by rw [al6.1];exact hc),SqL.of (p.1 _ _ nf hf7),n1_ _⟩) (fun σ H8 p=>⟨us6,SqL.of (p.1 _ _ nf hf7),by rw [al6.1];exact n11_ _⟩) (fun c x σ H8 H9 hc y p=>?_) (fun σ H8 p=>?_)
   · rw [vF k x e];show _=_+(0:Rat);rw [Rat.add_zero]
   · obtain ⟨k8,⟨z1,z2,z3,z4,z5,rfl⟩,fs8,vals8,eF8,alF8,lF8,vF8,bF8⟩:=p;obtain ⟨rfl,yx8⟩:=y;obtain ⟨row,er,rr⟩:=al7.get (yx8 us6 (SqL.of (k8 _ _ nf hf7)));obtain ⟨⟨w0,w1⟩,bB,bC⟩:=sb row (n6_ er)
     have rowEq:∃ b' c',row=(pnt P' i c,Rat.divInt b' dd,Rat.divInt c' dd)∧b'.natAbs≤200∧c'.natAbs≤200∧xP P' i [sp,sq,sr] c=(thk P' i:Rat)*(sp*(b':Int)+sr*(c':Int))/2∧yP P' i [sp,sq,sr] c=(thk P' i:Rat)*(sr*(b':Int)+sq*(c':Int))/2:=by
      have hc3:c=0∨c=1∨c=2:=?d
      rw [← hdd]
      rcases hc3 with rfl|rfl|rfl
      · cases er;exact ⟨_,_,rfl,c1 _ (by simp [Z7]),c2 _ (by simp [Z6]),rfl,rfl⟩
      · cases er;exact ⟨_,_,rfl,c1 _ (by simp [Z7]),c2 _ (by simp [Z6]),rfl,rfl⟩
      · cases er;exact ⟨_,_,rfl,c1 _ (by simp [Z7]),c2 _ (by simp [Z6]),rfl,rfl⟩
     obtain ⟨b1,c1',rfl,hb1,hc1,ex,ey⟩:=rowEq;dsimp only at w0 w1 bB bC;obtain ⟨ra,x1,x2,rfl,hra,⟨pb,rfl,hpb⟩,⟨pcc,rfl,hpcc⟩⟩:=rr;dsimp only at hra hpb hpcc;have t8:Tk H7 H9:=Tk.of_keep k8 eF7;have t09:=t07.trans t8;refine ⟨ra,_,rfl,SqT.of (t8 _ _ hra),rfl,_,_,rfl,_,_,rfl,_,_,rfl,rfl,?_⟩;have hp9:=t09 _ _ hp0;have hq9:=t09 _ _ hq0;have hr9:=t09 _ _ hr0;have hpb9:=t8 _ _ hpb;have hpc9:=t8 _ _ hpcc;refine ⟨_,rfl,_,rfl,ap,pb,_,_,rfl,hp9,hpb9,bp.1.mono ?e,bB.mono ?e,fun a1 G1 u1 hA1=>?_⟩;refine ⟨_,rfl,_,rfl,ar,pcc,_,_,rfl,u1 _ _ hr9,u1 _ _ hpc9,br.1.mono ?e,bC.mono ?e,fun a2 G2 u2 hA2=>?_⟩;have B1:=FM.B_mul bp.1 bB;have B2:=FM.B_mul br.1 bC;refine ⟨a1,a2,_,_,rfl,u2 _ _ hA1,hA2,B1.mono ?e,B2.mono ?e,fun a3 G3 u3 hA3=>?_⟩;have B3:=FM.B_add B1 B2;have u13:=u1.trans (u2.trans u3);refine ⟨_,rfl,_,rfl,ar,pb,_,_,rfl,u13 _ _ hr9,u13 _ _ hpb9,br.1.mono ?e,bB.mono ?e,fun a4 G4 u4 hA4=>?_⟩;have u14:=u13.trans u4;refine ⟨_,rfl,_,rfl,aq,pcc,_,_,rfl,u14 _ _ hq9,u14 _ _ hpc9,bq.1.mono ?e,bC.mono ?e,fun a5 G5 u5 hA5=>?_⟩;have B4:=FM.B_mul br.1 bB;have B5:=FM.B_mul bq.1 bC;refine ⟨a4,a5,_,_,rfl,u5 _ _ hA4,hA5,B4.mono ?e,B5.mono ?e,fun a6 G6 u6 hA6=>?_⟩;have B6:=FM.B_add B4 B5;have u16:=u14.trans (u5.trans u6);have u36:=u4.trans (u5.trans u6);obtain ⟨cn,hcn⟩:∃ cn:Nat,pnt P' i c=cn:=⟨(pnt P' i c).toNat,?d⟩;rw [hcn] at w0 w1 ⊢;have hk1:2*cn<vals8.length:=?d
     have hk2:2*cn+1<vals8.length:=?d
     have bnd:1+128*(3*i+c)≤1500:=?d
     have eF6:=u16 _ _ eF8;have al66:Al (IsQ G6) fs8 vals8:=alF8.imp fun v x r=>r.tk u16.tk;obtain ⟨f1,ef1,af1,rfl,haf1⟩:=al66.got (n1_ hk1);refine ⟨_,rfl,_,rfl,_,_,rfl,rfl,mul3 ?e (?d),F,fs8,((2*cn:Nat):Int),_,rfl,by rw [Int.natCast_mul];rfl,SqL.of eF6,Xg ef1,?_⟩;refine ⟨_,rfl,_,rfl,bz,a3,_,_,rfl,(t8.trans u16.tk) _ _ hbz,u36 _ _ hA3,byB.mono ?e,B3.mono ?e,fun a7 G7 u7 hA7=>?_⟩
     have X1:by'*(sp*Rat.divInt b1 dd+sr*Rat.divInt c1' dd)=xP P' i [sp,sq,sr] c:=by
      rw [← hby,Zu2 (hdd ▸ pk.d),ex];unfold thk;rw [hdd]
     have Y1:by'*(sr*Rat.divInt b1 dd+sq*Rat.divInt c1' dd)=yP P' i [sp,sq,sr] c:=by
      rw [← hby,Zu2 (hdd ▸ pk.d),ey];unfold thk;rw [hdd]
     replace hA7:G7 a7=some (.tup (rt (by'*(sp*Rat.divInt b1 dd+sr*Rat.divInt c1' dd)))):=hA7;rw [X1] at hA7;have BX:FM.B 127 (xP P' i [sp,sq,sr] c):=by rw [ex];exact x_B ok (?d) hc hD bp br _ _ hb1 hc1
     have BY:FM.B 127 (yP P' i [sp,sq,sr] c):=by rw [ey];exact x_B ok (?d) hc hD br bq _ _ hb1 hc1
     have Bf1:=bF8 _ (n28_ hk1);refine ⟨af1,a7,_,_,rfl,u7 _ _ haf1,hA7,Bf1.mono (?d),BX.mono ?e,fun a8 G8 u8 hA8=>?_⟩;have u68:=u7.trans u8;refine ⟨_,rfl,_,rfl,_,_,rfl,rfl,mul3 ?e (?d),F,fs8,((2*cn:Nat):Int),2*cn,rfl,by rw [Int.natCast_mul];rfl,u68 _ _ eF6,Ze8 (?d) (by rw [alF8.1];omega),?_⟩;have tA:Tk G8 (upd G8 F (.lst (fs8.set (2*cn) (.ref a8)))):=Tk.upd_lst (u68 _ _ eF6);have oA:Keep F G8 (upd G8 F (.lst (fs8.set (2*cn) (.ref a8)))):=Keep.upd;have eA:upd G8 F (.lst (fs8.set (2*cn) (.ref a8))) F=some (.lst (fs8.set (2*cn) (.ref a8))):=Zc;generalize upd G8 F (.lst (fs8.set (2*cn) (.ref a8)))=G9 at tA oA eA ⊢;have alA:Al (IsQ G9) (fs8.set (2*cn) (.ref a8)) (vals8.set (2*cn) (vals8[2*cn]+xP P' i [sp,sq,sr] c)):=Zp4 (al66.imp fun v x r=>r.tk (u68.tk.trans tA)) _ ⟨a8,rfl,tA _ _ hA8⟩
     have ek2:(vals8.set (2*cn) (vals8[2*cn]+xP P' i [sp,sq,sr] c))[2*cn+1]? = some vals8[2*cn+1]:=by
      rw [List.getElem?_set,if_neg (?d),n1_ hk2]
     obtain ⟨f2,ef2,af2,rfl,haf2⟩:=alA.got ek2;refine ⟨_,rfl,_,rfl,_,_,rfl,rfl,mul3 ?e (?d),_,_,rfl,rfl,F,_,((2*cn+1:Nat):Int),_,rfl,by rw [Int.natCast_add,Int.natCast_mul];rfl,SqL.of eA,Xg ef2,?_⟩;have t69:=u68.tk.trans tA;refine ⟨_,rfl,_,rfl,bz,a6,_,_,rfl,t69 _ _ ((t8.trans u16.tk) _ _ hbz),t69 _ _ hA6,byB.mono ?e,B6.mono ?e,fun a9 G10 u10 hA9=>?_⟩;replace hA9:G10 a9=some (.tup (rt (by'*(sr*Rat.divInt b1 dd+sq*Rat.divInt c1' dd)))):=hA9;rw [Y1] at hA9;have Bf2:=bF8 _ (n28_ hk2);refine ⟨af2,a9,_,_,rfl,u10 _ _ haf2,hA9,Bf2.mono (?d),BY.mono ?e,fun a10 G11 u11 hA10=>?_⟩;have u911:=u10.trans u11;refine ⟨_,rfl,_,rfl,_,_,rfl,rfl,mul3 ?e (?d),_,_,rfl,rfl,F,_,((2*cn+1:Nat):Int),2*cn+1,rfl,by rw [Int.natCast_add,Int.natCast_mul];rfl,u911 _ _ eA,Ze8 (?d) (by rw [List.length_set,alF8.1];omega),?_⟩;have tB:Tk G11 (upd G11 F (.lst ((fs8.set (2*cn) (.ref a8)).set (2*cn+1) (.ref a10)))):=Tk.upd_lst (u911 _ _ eA);refine ⟨fun b o nb e=>?_,⟨_,_,_,_,_,rfl⟩,_,(vals8.set (2*cn) (vals8[2*cn]+xP P' i [sp,sq,sr] c)).set (2*cn+1) (vals8[2*cn+1]+yP P' i [sp,sq,sr] c),Zc,Zp4 (alA.imp fun v x r=>r.tk (u911.tk.trans tB)) _ ⟨a10,rfl,tB _ _ hA10⟩,by simp [lF8],fun k x e=>?_,fun x hx=>?_⟩
     · rw [Zk nb];exact u911 _ _ (oA _ _ nb (u68 _ _ (u16 _ _ (k8 _ _ nb e))))
     · have etk:(ctrL P' i [sp,sq,sr]).take (2*(c+1))=((ctrL P' i [sp,sq,sr]).take (2*c)++[(2*(cn:Int),xP P' i [sp,sq,sr] c)])++[(2*(cn:Int)+1,yP P' i [sp,sq,sr] c)]:=by
        have hc3:c=0∨c=1∨c=2:=?d
        rw [← hcn]
        rcases hc3 with rfl|rfl|rfl<;>rfl
       rw [etk,Zoa,Zoa];rw [List.getElem?_set,List.getElem?_set] at e
       by_cases h2:k=2*cn+1
       · subst h2;rw [if_pos rfl,if_pos (by simp;omega)] at e;cases e
         rw [vF8 _ _ (n1_ hk2)];have z1:¬ (2*(cn:Int)=((2*cn+1:Nat):Int)):=?d
         have z2:2*(cn:Int)+1=((2*cn+1:Nat):Int):=?d
         rw [if_neg z1,if_pos z2,Rat.add_zero,Rat.add_assoc]
       · rw [if_neg (fun z=>h2 z.symm)] at e
         by_cases h1:k=2*cn
         · subst h1;rw [if_pos rfl,if_pos (?d)] at e;cases e
           rw [vF8 _ _ (n1_ hk1)];have z1:2*(cn:Int)=((2*cn:Nat):Int):=?d
           have z2:¬ (2*(cn:Int)+1=((2*cn:Nat):Int)):=?d
           rw [if_pos z1,if_neg z2,Rat.add_zero,Rat.add_assoc]
         · rw [if_neg (fun z=>h1 z.symm)] at e;rw [vF8 _ _ e];have z1:¬ (2*(cn:Int)=(k:Int)):=?d
           have z2:¬ (2*(cn:Int)+1=(k:Int)):=?d
           rw [if_neg z1,if_neg z2,Rat.add_zero,Rat.add_zero]
     · have key:∀ x∈vals8,FM.B (1+128*(3*i+(c+1))) x:=fun x hx=>(bF8 x hx).mono (?d)
       rcases List.mem_or_eq_of_mem_set hx with h|h
       · rcases List.mem_or_eq_of_mem_set h with h|h
         · exact key x h
         · rw [h];exact (FM.B_add Bf1 BX).mono (?d)
       · rw [h];exact (FM.B_add Bf2 BY).mono (?d)
   · obtain ⟨k8,⟨z1,z2,z3,z4,z5,rfl⟩,fs8,vals8,eF8,alF8,lF8,vF8,bF8⟩:=p;refine ⟨fun b o nb e=>k8 _ _ nb (s47 _ _ (k4 _ _ nb e)),⟨_,_,_,_,_,_,_,_,_,_,_,_,rfl⟩,fs8,vals8,eF8,alF8,lF8,fun k x e=>?_,fun x hx=>(bF8 x hx).mono (?d)⟩;rw [vF8 k x e];show _=Fn P' ss i k+pt' (ctr P' i (ss.getD i [])) k
     rw [gs,← Zt2];rfl
 · obtain ⟨k4,⟨y1,y2,y3,y4,y5,y6,y7,y8,y9,y10,y11,y12,rfl⟩,fs,vals,eF,alF,lF,vF,bF⟩:=p;have s04:Same H H4:=fun b o e=>k4 _ _ (Zm e nF0) (s03 _ _ e)
   have ev:vals=Zlo P' ss:=by
    refine List.ext_getElem? fun k=>?_;unfold Zlo;rw [n4_]
    by_cases hk:k<2*P'.cs.length
    · rw [n85_ hk,n1_ (?d),vF k _ (n1_ (?d))];rfl
    · rw [n88_ (?d),n88_ (by simp;omega)];rfl
   refine ⟨_,rfl,F,fs,rfl,.inl ⟨SqL.of eF,fun r nr=>?_⟩⟩;have s5:Same H4 (upd H4 r (.tup fs)):=Same.new nr;rw [ev] at alF bF;exact q _ _ (s04.trans s5) ⟨r,fs,rfl,Zc,alF.imp fun v x r=>r.tk s5.tk⟩ fun x hx=>(bF x hx).mono (?d)
abbrev Zbr:Stmt:=top 80
theorem Zh7 (F:Fun K "_law_same" "_law_same" Zbr f fd):FnOk P w K mg base CX0 1 f fd ["_law_found","_law_due"] Zkk:=by
 have sc:FnScope ["_law_found","_law_due"] ["_law_found","_law_due"] (Zf Zbr):=fsc (?i);refine F.ok sc (fun vs H Q E h=>by obtain ⟨N,k,v,u,d,rfl,_⟩:=h;rfl) ?B;obtain ⟨N,k,v,u,d,rfl,h1,h2,hk,hd,hz,q⟩:=h;refine' ?C
 case term=>refine' Zh (Zo (Zac Znv (Zl (Zbd hr) rfl T.b_repr Zgf ?L) (Zl (Zbd hr) rfl T.b_repr Zgf ?M) (Y0 _)))
 refine ⟨_,rfl,N,k,v,d,rfl,h1,hk,hd,hz,_,rfl,N,k,u,d,rfl,h2,hk,hd,hz,rfl,?_⟩;rw [n44_ rfl];exact q
abbrev Zae:Stmt:=top 79
theorem Zic (F:Fun K "_law_unit" "_law_unit" Zae f fd):FnOk P w K mg base CX0 2 f fd ["_law_many","_law_way"] Zmn:=by
 have sc:FnScope ["_law_many","_law_way"] ["_law_many","_law_way"] (Zf Zae):=fsc (?i);refine F.ok sc (fun vs H Q E h=>by obtain ⟨N,o,rfl,_⟩:=h;rfl) ?B;obtain ⟨N,o,rfl,hN,q⟩:=h;refine' ?C
 case term=>refine' Zh (Zo (Zz Zw rfl T.b_tuple Z4 (Za (Y4 (N:=["_law_at","_law_way"]) (fr:=[none,some 1]) rfl (Z3 (XN:=["_law_many","_law_way"]) (Scope.names (Zf Zae)) rfl rfl rfl (fun _ h=>Zy h) (?i) rfl) (Xu rfl T.b_range ?L) ?O ?K (fun _ _ _ _=>Zki (Y6 Znv (pv 0) (pv 1) (Y0 _)) (Zv (Za Ze ?J rfl)) (Zv (Za Ze ?J rfl)))) Zb rfl)))
 refine ⟨_,rfl,N,rfl,?d,?d,fun D nD=>?_⟩;refine lc_R (n:=N) IsQ hRQ (uQ N o) (by unfold uQ;simp) hN nD (fun i H2 C hi s2 c=>?_) (fun H2 us s2 e2 a2=>?_)
 · refine ⟨_,rfl,_,rfl,rfl,_,rfl,?_⟩;have ei:(uQ N o)[i]? = some (if i=o then 1 else 0):=by unfold uQ;rw [n4_,n85_ hi];rfl
   refine ite2 (fun h=>?_) (fun h=>?_)
   · refine ⟨z2_,fun p np=>?_⟩;have z:i=o:=by have:=n48_ h;injection this with this;omega
     exact c _ _ 1 (Same.new np) (by rw [ei,if_pos z]) ⟨p,rfl,Zc⟩
   · refine ⟨z2_,fun p np=>?_⟩;have z:¬ i=o:=fun z=>h (n44_ (by rw [z,Int.zero_add]));exact c _ _ 0 (Same.new np) (by rw [ei,if_neg z]) ⟨p,rfl,Zc⟩
 · refine ⟨D,us,rfl,.inl ⟨SqL.of e2,fun r nr=>?_⟩⟩;have s5:Same H2 (upd H2 r (.tup us)):=Same.new nr;exact q _ _ (s2.trans s5) ⟨r,us,rfl,Zc,a2.imp fun v x r=>r.tk s5.tk⟩
abbrev Zbb:Stmt:=top 81
theorem Zi5 (F:Fun K "_law_lot" "_law_lot" Zbb f fd) (Ca_:a42_ P w K mg base):FnOk P w K mg base CX0 4 f fd ["_law_state_here","_law_sheet"] Zqy:=by
 have sc:FnScope ["_law_state_here","_law_sheet","_law_many"] ["_law_state_here","_law_sheet"] (Zf Zbb):=fsc (?i);refine F.ok sc (fun vs H Q E h=>by obtain ⟨l,v,P',rfl,_⟩:=h;rfl) ?B;obtain ⟨l,v,P',rfl,hl,hv,ok,q⟩:=h;have nd:=sc.nd;refine' ?C
 case term=>refine' Zd (Zx (i:=2) nd rfl ?l (Zl Zr rfl T.b_len Yr (Za (Zt Zq (pv 1) Ze (?j)) Zb rfl))) (Zh (Zo (Zz Zw rfl T.b_tuple Z4 (Za (Y4 (N:=["_law_piece","_law_state_here"]) (fr:=[none,some 0]) rfl (Z3 (XN:=["_law_state_here","_law_sheet","_law_many"]) (Scope.names (Zf Zbb)) rfl rfl rfl (fun _ h=>Zy h) (?i) rfl) (Xu rfl T.b_range (Za (pv 2) Zb rfl)) ?O (fun _ _ _ _=>Zg3 (Y6 Znq (Zj Ca_ hr ?e rfl (Za (pv 1) ?J rfl)) (Zn Yd Ze (Zj Ca_ hr ?e rfl (Za (pv 1) ?J rfl))) (Y0 _))) (fun _ _ _ _=>pv 0)) Zb rfl))))
 obtain ⟨pa,pc,pp',ptk,pst,rfl,hpa,hpc,⟨qa,qv,rfl,hqa,aq⟩,_⟩:=id hv;have qlen:=aq.1;have p40:=ok.p40;refine ⟨_,rfl,pa,_,1,_,rfl,rfl,SqT.of hpa,rfl,qa,qv,rfl,.inr (SqT.of hqa),?_⟩;refine ⟨_,rfl,qv.length,rfl,?d,?d,fun D nD=>?_⟩;have neD:D≠l:=hl.neN nD;refine Zh5 (n:=qv.length) (fun i σ H2=>Keep l H H2∧StAt H2 l∧(∃ u,σ=[u,some (.ref l)])∧∃ ks:List Nat,H2 D=some (.lst ((nI ks).map V.int))∧ks.Pairwise (·<·)∧∀ k∈ks,k<i) ⟨Keep.new nD,hl.new nD,⟨_,rfl⟩,[],Zc,.nil,by simp⟩ (fun i σ H2 hi p=>hi) (fun σ H2 p=>n11_ _) (fun i x σ2 H2 H3 hi y p=>?_) (fun σ2 H2 p=>?_)
 · obtain ⟨k2,l2,⟨u,rfl⟩,ks,e2,r2,m2⟩:=p;obtain ⟨rfl,rfl⟩:=y;have lks:=Xy (m:=0) r2 fun k hk=>⟨n45_ _,m2 k hk⟩;refine ⟨_,rfl,l,5,rfl,l2,?t,?t,fun r1 H4 _ _ k4 l4=>?_⟩;refine ⟨_,rfl,l,5,rfl,l4,?t,?t,fun r3 H5 _ _ k5 l5=>?_⟩;refine ⟨_,_,rfl,rfl,_,_,rfl,rfl,_,rfl,?_⟩;have e5:=k5 _ _ neD (k4 _ _ neD e2);have k25:=k2.trans (k4.trans k5);refine ite2 (fun _=>?_) (fun _=>?_)
   · refine ⟨_,rfl,_,e5,by rw [n7_,n7_,sizeLine_eq];omega,_,?_,?d,rfl,fun b o ne e=>?_,?_,⟨_,rfl⟩,ks++[i],?_,?_,?_⟩
     · omega
     · rw [Zk fun z=>by rw [z,nD] at e;cases e];exact k25 _ _ ne e
     · obtain ⟨a,b,c,e,r⟩:=l5;exact ⟨a,b,c,by rw [Zk (Ne.symm neD)];exact e,r⟩
     · rw [Zc];simp [nI]
     · exact List.pairwise_append.mpr ⟨r2,List.pairwise_singleton ..,fun a ha b hb=>by rw [n22_.mp hb];exact m2 a ha⟩
     · intro k hk
       rcases n39_.mp hk with h|h
       · exact n54_ (m2 k h)
       · rw [n22_.mp h];exact n81_ i
   · exact ⟨_,?d,?d,rfl,k25,l5,⟨_,rfl⟩,ks,e5,r2,fun k hk=>n54_ (m2 k hk)⟩
 · obtain ⟨k2,l2,⟨u,rfl⟩,ks,e2,r2,m2⟩:=p;refine ⟨D,_,rfl,.inl ⟨SqL.of e2,fun r nr=>?_⟩⟩;exact q _ _ ks (k2.trans (Keep.new nr)) (l2.new nr) Zc ⟨r2,by rw [← qlen];exact m2⟩
abbrev Yj:Stmt:=top 82
theorem Zcg (F:Fun K "_law_lot_frame" "_law_lot_frame" Yj f fd) (Cag_:a52_ P w K mg base) (Cv_:a53_ P w K mg base) (Cas_:a54_ P w K mg base):FnOk P w K mg base CX0 7 f fd ["_law_sheet","_law_lot_here"] Zbg:=by
 have sc:FnScope ["_law_sheet","_law_lot_here","_law_ways","_law_nought","_law_piece","_law_corner","_law_columns","_law_way","_law_some","_law_rows"] ["_law_sheet","_law_lot_here"] (Zf Yj):=fsc (?i);refine F.ok sc (fun vs H Q E h=>by obtain ⟨v,P',a,ks,rfl,_⟩:=h;rfl) ?B;obtain ⟨v,P',a,ks,rfl,hv,ok,p4,ha,lot,q⟩:=h;have nd:=sc.nd;have hu:=Zo3 hr;refine' ?C
 case term=>refine' Zd ?g1 ?g2;(case g1=>refine' @Zcv _ _ (2) (3) _ _ _ _ _ _ _ _ _ _ _ rfl nd rfl rfl ?e rfl rfl ?g3 rfl (by rfl);case g3=>refine' Za ?g4 (Za (Zv (Za (Zv (Za Ze ?J rfl)) (Za (Zv (Za Ze ?J rfl)) (Za (Zv (Za Ze ?J rfl)) Zb rfl) rfl) rfl)) Zb rfl) rfl;case g4=>refine' Yg Zb);case g2=>refine' Zd ?g5 ?g6;(case g5=>refine' Yu PassesOwn.never rfl (Yp (pv 1)) (Zi (i:=4) nd rfl ?l) ?g7 (by intro _ ;rfl);case g7=>refine' Zh ?g8;case g8=>refine' Yu PassesOwn.never rfl ?g9 (Zi (i:=5) nd rfl ?l) ?ga (by intro _ ;rfl);(case g9=>refine' Yp ?gb;case gb=>refine' Zt Zq ?gc (pv 4) (?j);case gc=>refine' Zt Zq (pv 0) Ze (?j));case ga=>refine' Zh ?gd;case gd=>refine' @Zx _ _ (2) _ _ _ _ nd rfl ?l ?ge (by rfl) ?V;case ge=>refine' Zn Zht (pv 2) ?gf;case gf=>refine' Yg (Za (Zn Zp Ze (pv 5)) (Za (Zn Yd (Zn Zp Ze (pv 5)) Ze) Zb rfl) rfl));case g6=>refine' Zd ?gg ?gh;(case gg=>refine' Ym ?gi ?gj (by rfl) (by rfl) (by rfl);(case gi=>refine' Zv ?gk;case gk=>refine' Za (Zl (Zct rfl) rfl T.b_sorted Zbx (Za (Zz (Zm4 rfl) rfl T.b_set Zq8 (Za (pv 2) Zb rfl)) Zb rfl)) ?gl rfl;case gl=>refine' Za ?gm Zb rfl;case gm=>refine' Yg Zb);case gj=>refine' @Z0 _ _ _ _ _ (2) rfl (Zg (Zi (i:=2) nd rfl ?l) (Zg (Zi (i:=6) nd rfl (Or.inr rfl)) Zs)) (by rfl) (by rfl));case gh=>refine' Zd ?gn ?go;(case gn=>refine' Yu PassesOwn.never rfl (Yh (pv 2)) (Zi (i:=7) nd rfl ?l) ?gp (by intro _ ;rfl);case gp=>refine' Zd ?gq ?gr;(case gq=>refine' @Zx _ _ (8) _ _ _ _ nd rfl ?l ?gs (by rfl) ?V;case gs=>refine' Zz Zhe rfl T.b_list Zit ?gt ?e ?e (by rfl) (by rfl);case gt=>refine' Za ?gu Zb rfl;case gu=>refine' Zj Cv_ hr ?e rfl ?gv ?e (by rfl) (by rfl);case gv=>refine' Za (pv 0) ?gw rfl;case gw=>refine' Za ?gx Zb rfl;case gx=>refine' Zj Cas_ hr ?e rfl ?gy ?e (by rfl) (by rfl);case gy=>refine' Za ?gz (Za (pv 7) Zb rfl) rfl;case gz=>refine' Zn Zp Ze ?g10;case g10=>refine' Zl Zr rfl T.b_len Yr ?g11 ?e ?e (by rfl) (by rfl);case g11=>refine' Za ?g12 Zb rfl;case g12=>refine' Zt Zq (pv 0) Ze (?j));case gr=>refine' Zd ?g13 ?g14;(case g13=>refine' Yu PassesOwn.never rfl ?g15 (Zi (i:=4) nd rfl ?l) ?g16 (by intro _ ;rfl);(case g15=>refine' Xu rfl T.b_range (Za (Zl Zr rfl T.b_len Yr (Za (pv 8) Zb rfl)) Zb rfl) (by rfl));case g16=>refine' Zh ?g17;case g17=>refine' Xv (Y6 Zcx (pv 4) (pv 1) rfl) ?g18 Z9;case g18=>refine' Zh ?g19;case g19=>refine' Ym (pv 3) ?g1a (by rfl) (by rfl) (by rfl);case g1a=>refine' Zc1 (pv 8) (pv 4) Xw (by intro _ ;rfl));case g14=>refine' Zh ?g1b;case g1b=>refine' Zai ?g1c (by rfl);case g1c=>refine' Zen PySem.F.plainAttrs_list PySem.F.slot_list_append PySem.F.type_list_append Xa (pv 6) (Za (Zj Cag_ hr ?e rfl (Za (pv 0) (Za (Zz Zw rfl T.b_tuple Z4 (Za (pv 8) Zb rfl)) Zb rfl) rfl)) Zb rfl) (by rfl) (by rfl) (by rfl) (by rfl) (by rfl));case go=>refine' Zd ?g1d (Zh (Zo (Zv (Za (Zz Zw rfl T.b_tuple Z4 (Za (pv 2) Zb rfl)) (Za (Zz Zw rfl T.b_tuple Z4 (Za (pv 9) Zb rfl)) (Za (Zn Zrz (Zv (Za (Zv (Za Ze ?J rfl)) Zb rfl)) (Zl Zr rfl T.b_len Yr (Za (pv 2) Zb rfl))) Zb rfl) rfl) rfl))));case g1d=>refine' @Zco _ _ _ _ _ _ _ _ _ _ (["_law_way","_law_columns"]) ([none,some 6]) _ _ _ _ _ _ rfl rfl (Zi (i:=9) nd rfl ?l) (Z3 (XN:=["_law_sheet","_law_lot_here","_law_ways","_law_nought","_law_piece","_law_corner","_law_columns","_law_way","_law_some","_law_rows"]) (Scope.names (Zf Yj)) rfl rfl rfl (fun _ h=>Zy h) (?i) rfl) (Yh (pv 2)) (fun _ _ _ _=>Zi (i:=0) (show List.Nodup (["_law_way","_law_columns"]:List Str) by decide) rfl (Or.inr rfl) ?l) ?K (fun _ _ _ _=>Zz (X4 K rfl) rfl T.b_tuple Z4 (Za (Y4 (N:=["_law_column","_law_way"]) (fr:=[none,some 0]) rfl (Z3 (XN:=["_law_way","_law_columns"]) (relN _ (Scope.names (Zf Yj))) rfl rfl rfl (fun _ h=>Zdg (?i) h) (?i) rfl) (Zfv K rfl (pv 1)) ?O ?K (fun _ _ _ _=>Zt (Zao K rfl) (pv 0) (pv 1) (?j))) Zb rfl)) (by intro _ ;rfl)
 obtain ⟨pa,pc,pp',ptk,pst,rfl,hpa,⟨ca,cv,rfl,hca,cal⟩,⟨qa,qv,rfl,hqa,aq⟩,_⟩:=id hv;have clen:=cal.1;have qlen:=aq.1;have c30:=ok.c30
 have lk:ks.length≤4:=by
  have:=Xy (m:=0) (n:=P'.ps.length) lot.rise fun k hk=>⟨n45_ _,lot.lt k hk⟩
  omega
 refine ⟨z0_,fun W nW=>?_⟩;have s1:Same H (upd H W (.lst [])):=Same.new nW;have e1:upd H W (.lst []) W=some (.lst (([]:?g).map V.int)):=Zc;generalize upd H W (.lst [])=H1 at s1 e1 ⊢;refine ⟨z2_,fun z1 n1=>?_⟩;have s2:Same H1 (upd H1 z1 (.tup [.int 0,.int 1])):=Same.new n1;have e2:upd H1 z1 (.tup [.int 0,.int 1]) z1=some (.tup (rt 0)):=Zc;generalize upd H1 z1 (.tup [.int 0,.int 1])=H2 at s2 e2 ⊢;refine ⟨z2_,fun z2 n2=>?_⟩;have s3:Same H2 (upd H2 z2 (.tup [.int 0,.int 1])):=Same.new n2;have e3:upd H2 z2 (.tup [.int 0,.int 1]) z2=some (.tup (rt 0)):=Zc;generalize upd H2 z2 (.tup [.int 0,.int 1])=H3 at s3 e3 ⊢;refine ⟨z2_,fun z3 n3=>?_⟩;have s4:Same H3 (upd H3 z3 (.tup [.int 0,.int 1])):=Same.new n3;have e4:upd H3 z3 (.tup [.int 0,.int 1]) z3=some (.tup (rt 0)):=Zc;generalize upd H3 z3 (.tup [.int 0,.int 1])=H4 at s4 e4 ⊢;refine ⟨z3_,fun z nz=>?_⟩;generalize gG:upd H4 z (.tup [.ref z1,.ref z2,.ref z3])=H5;obtain ⟨s5,e5⟩:=gen_upd gG nz;have hz:IsQs H5 (.ref z) [0,0,0]:=⟨z,_,rfl,e5,((Al.nil.snoc (R:=IsQ H5) ⟨z1,rfl,s5 _ _ (s4 _ _ (s3 _ _ e2))⟩).snoc ⟨z2,rfl,s5 _ _ (s4 _ _ e3)⟩).snoc ⟨z3,rfl,s5 _ _ e4⟩⟩;have s15:Same H1 H5:=s2.trans (s3.trans (s4.trans s5));have s05:=s1.trans s15;refine ⟨_,_,rfl,?_⟩;refine ⟨_,rfl,a,rfl,⟨_,SqT.of (s05 _ _ ha)⟩,?_⟩;refine Yk (n:=ks.length) (fun i σ G=>∃ W fl y5 y6 y7 y8 y9 y10,σ=[some (.ref pa),some (.ref a),some (.ref W),some (.ref z),y5,y6,y7,y8,y9,y10]∧Same H5 G∧G W=some (.lst (fl.map V.int))∧fl.length=6*i∧∀ x,x∈fl↔∃ k∈ks.take i,x∈Z1 (pcOf P' (k:Nat))) ⟨W,[],_,_,_,_,_,_,rfl,Same.refl _,s15 _ _ e1,rfl,by simp⟩ (fun i σ G hi p=>?_) (fun σ G p=>?_) (fun i x σ G G' hi y p=>?_) (fun σ G p=>?_)
 · obtain ⟨W',fl,y5,y6,y7,y8,y9,y10,rfl,sG,_⟩:=p;exact ⟨(nI ks).map V.int,((nI ks).map V.int)[i]'(by simpa using hi),SqT.of (sG _ _ (s05 _ _ ha)),n1_ _⟩
 · obtain ⟨W',fl,y5,y6,y7,y8,y9,y10,rfl,sG,_⟩:=p;exact ⟨_,SqT.of (sG _ _ (s05 _ _ ha)),by simp⟩
 · obtain ⟨W',fl,y5,y6,y7,y8,y9,y10,rfl,sG,eW,lf,mf⟩:=p;obtain ⟨rfl,yx⟩:=y;have ex:=yx _ (SqT.of (sG _ _ (s05 _ _ ha)));rw [n4_,n4_,n1_ hi] at ex;cases ex
   have hk:=lot.lt _ (n28_ hi);have pk:=pc3 ok hk;obtain ⟨pv',ev,b,rfl,hb⟩:=Zqq aq (n:=(ks[i]:Nat)) (?d) (?d);have s0G:=s05.trans sG;have lp:=pk.len;refine ⟨_,rfl,pa,_,1,_,rfl,rfl,SqT.of (s0G _ _ hpa),rfl,_,rfl,qa,qv,(ks[i]:Nat),_,rfl,rfl,SqT.of (s0G _ _ hqa),ev,b,rfl,⟨_,SqT.of (s0G _ _ hb)⟩,?_⟩;refine Yk (n:=3) (fun j σ U=>∃ W fl y6,σ=[some (.ref pa),some (.ref a),some (.ref W),some (.ref z),some (.int (ks[i]:Nat)),y6,y7,y8,y9,y10]∧Same H5 U∧U W=some (.lst (fl.map V.int))∧fl.length=6*i+2*j∧∀ x,x∈fl↔(∃ k∈ks.take i,x∈Z1 (pcOf P' (k:Nat)))∨∃ c∈(pcOf P' (ks[i]:Nat)).take j,x=2*c∨x=2*c+1) ⟨W',fl,_,rfl,sG,eW,lf,by simpa using mf⟩ (fun j σ U hj p=>?_) (fun σ U p=>?_) (fun j x σ U U' hj y p=>?_) (fun σ U p=>?_)
   · obtain ⟨W2,fl2,y6',rfl,sK,_⟩:=p;exact ⟨_,_,SqT.of (sK _ _ (s05 _ _ hb)),n1_ (by rw [n7_];omega)⟩
   · obtain ⟨W2,fl2,y6',rfl,sK,_⟩:=p;exact ⟨_,SqT.of (sK _ _ (s05 _ _ hb)),by rw [n7_];omega⟩
   · obtain ⟨W2,fl2,y6',rfl,sK,eW2,lf2,mf2⟩:=p;obtain ⟨rfl,yx⟩:=y;have hj':j<(pcOf P' (ks[i]:Nat)).length:=?d
     have ex:=yx _ (SqT.of (sK _ _ (s05 _ _ hb)));rw [n4_,n1_ hj'] at ex;cases ex
     have bc:=pk.bd _ (n28_ hj');refine ⟨_,rfl,_,rfl,_,_,rfl,rfl,mul3 ?e (?d),_,rfl,_,_,rfl,rfl,mul3 ?e (?d),_,_,rfl,rfl,z2_,fun L nL=>?_⟩;generalize gG:upd U' L (.lst [.int (2*(pcOf P' (ks[i]:Nat))[j]),.int (2*(pcOf P' (ks[i]:Nat))[j]+1)])=U1;obtain ⟨s6,e6⟩:=gen_upd gG nL;refine ⟨W2,L,_,_,rfl,rfl,s6 _ _ eW2,e6,by rw [n7_,sizeLine_eq];show _+2≤_;omega,fun p np=>?_⟩;refine ⟨p,fl2++[2*(pcOf P' (ks[i]:Nat))[j],2*(pcOf P' (ks[i]:Nat))[j]+1],_,rfl,sK.trans (s6.trans (Same.new np)),by rw [Zc,n51_];rfl,by rw [n30_,lf2];show _+2=_;omega,fun x=>?_⟩;have tj:(pcOf P' (ks[i]:Nat)).take (j+1)=(pcOf P' (ks[i]:Nat)).take j++[(pcOf P' (ks[i]:Nat))[j]]:=by rw [n60_,n1_ hj'];rfl
     rw [n39_,mf2,tj];simp only [n39_,n13_,n15_,or_false,or_and_right,exists_or,exists_eq_left,or_assoc]
   · obtain ⟨W2,fl2,y6',rfl,sK,eW2,lf2,mf2⟩:=p;refine ⟨W2,fl2,_,_,_,_,_,_,rfl,sK,eW2,?d,fun x=>?_⟩;have ti:ks.take (i+1)=ks.take i++[ks[i]]:=by rw [n60_,n1_ hi];rfl
     rw [mf2,n37_ (Nat.le_of_eq lp),ti,← Zde];simp only [n39_,n22_,or_and_right,exists_or,exists_eq_left]
 · obtain ⟨W',fl,y5,y6,y7,y8,y9,y10,rfl,sG,eW,lf,mf⟩:=p;rw [n89_] at mf;refine ⟨_,rfl,W',fl,rfl,SqL.of eW,?d,fun D H6 s6 e6=>?_⟩;have lm:=Zkr fl;refine ⟨D,metI fl,rfl,e6,?d,fun N ns nN pm le=>?_⟩;generalize gG:upd H6 N (.lst (ns.map V.int))=H7;obtain ⟨s7,e7⟩:=gen_upd gG nN;have len:=pm.length_eq;have wL:WaysL P' ks ns:=⟨(le.and (pm.nodup_iff.mpr (Zsq fl))).imp fun {x y} h=>by have:=h.1;have:=h.2;omega,fun x=>pm.mem_iff.trans (Zp2.trans (mf x)),?d⟩
   have nb:∀ x∈ns,0≤x∧x<((2*P'.cs.length:Nat):Int):=fun x hx=>by
    obtain ⟨k,hk,m⟩:=(wL.mem x).mp hx;exact (Zch ok (lot.lt k hk)).2.2 x m
   refine ⟨z0_,fun F nF=>?_⟩;have s8:Same H7 (upd H7 F (.lst [])):=Same.new nF;have e8:upd H7 F (.lst []) F=some (.lst []):=Zc;have nNF:N≠F:=Zm e7 nF;generalize upd H7 F (.lst [])=H8 at s8 e8 ⊢;refine ⟨z2_,fun p9 np9=>?_⟩;generalize gG:upd H8 p9 (.tup [.ref N,.ref F])=H9;obtain ⟨s9,e9⟩:=gen_upd gG np9;have s57:=sG.trans (s6.trans s7);have s07:=s05.trans s57;have s79:=s8.trans s9;have s08:=s07.trans s79;have s58:=s57.trans s79;replace e7:=s79 _ _ e7;replace e8:=s9 _ _ e8;have nF0:∀ {b o},H b=some o→b≠F:=fun e=>Zm (s07 _ _ e) nF;have nF5:∀ {b o},H5 b=some o→b≠F:=fun e=>Zm (s57 _ _ e) nF;refine ⟨p9,_,rfl,SqT.of e9,rfl,_,_,rfl,_,_,rfl,rfl,?_⟩;refine ⟨_,rfl,N,rfl,⟨_,SqL.of e7⟩,?_⟩;refine Yk (n:=ns.length) (fun i σ G=>∃ y5 y6 y8 y9 y10 us,σ=[some (.ref pa),some (.ref a),some (.ref N),some (.ref z),y5,y6,some (.ref F),y8,y9,y10]∧Keep F H9 G∧G F=some (.lst us)∧Al (fun v (x:Int)=>IsQs G v (Zlo P' (mskS P' ks x.toNat))) us (ns.take i)) ⟨_,_,_,_,_,[],rfl,Keep.refl _ _,e8,.nil⟩ (fun i σ G hi p=>?_) (fun σ G p=>?_) (fun i x σ G G' hi y p=>?_) (fun σ G p=>?_)
   · obtain ⟨_,_,_,_,_,us,rfl,kG,_⟩:=p;exact ⟨_,_,SqL.of (kG _ _ nNF e7),n1_ (by rw [n7_];exact hi)⟩
   · obtain ⟨_,_,_,_,_,us,rfl,kG,_⟩:=p;exact ⟨_,SqL.of (kG _ _ nNF e7),by rw [n7_];omega⟩
   · obtain ⟨y5,y6,y8,y9,y10,us,rfl,kG,eF,aF⟩:=p;obtain ⟨rfl,yx⟩:=y;have ex:=yx _ (SqL.of (kG _ _ nNF e7));rw [n4_,n1_ hi] at ex;cases ex
     have b0:=nb _ (n28_ hi);obtain ⟨o,ho⟩:∃ o:Nat,ns[i]=o:=⟨ns[i].toNat,?d⟩;have s0G:Same H G':=fun b o e=>kG _ _ (nF0 e) (s08 _ _ e);have tzG:Tk H5 G':=fun b o e=>kG _ _ (nF5 e) (s58 _ _ e);refine ⟨_,rfl,_,rfl,pa,_,0,_,rfl,rfl,SqT.of (s0G _ _ hpa),rfl,ca,cv,rfl,.inr (SqT.of (s0G _ _ hca)),_,_,rfl,rfl,mul3 ?e (?d),_,rfl,2*P'.cs.length,o,by rw [clen,ho];rfl,?d,fun U1 r1 q1 h1=>?_⟩;refine ⟨.ref pa,r1,P',uQ (2*P'.cs.length) o,rfl,hv.tk (s0G.trans q1).tk,ok,h1,by unfold uQ;simp,fun q hq=>(uQ_B q hq).1,fun U2 r2 q2 h2=>?_⟩;obtain ⟨g,gs,rfl,eg,ag⟩:=h2;refine ⟨g,gs,rfl,.inr (SqT.of eg),fun M nM=>?_⟩;generalize gG:upd U2 M (.lst gs)=U3;obtain ⟨q3,e3⟩:=gen_upd gG nM;have q12:=q1.trans q2;have q13:=q12.trans q3;have nMo:∀ {b o},G' b=some o→b≠M:=fun e=>Zm (q12 _ _ e) nM;have lg:gs.length=P'.ps.length:=by rw [ag.1];unfold Zgq;simp
     refine ⟨_,rfl,M,_,rfl,.inl (SqL.of e3),gs.length,rfl,?d,?d,?_⟩;refine Zdr (fun m σ U=>∃ y5 y9 hs,σ=[some (.ref pa),some (.ref a),some (.ref N),some (.ref z),y5,y6,some (.ref F),some (.int ns[i]),some (.ref M),y9]∧Keep M U3 U∧U M=some (.lst hs)∧Al (IsQs U) hs (mixS P' ks (uQ (2*P'.cs.length) o) m)) ⟨_,_,_,rfl,Keep.refl _ _,e3,by rw [Zva];exact ag.imp fun v x r=>Yw q3.tk r⟩ (fun m σ U hm p=>?_) (fun σ U p=>?_)
     · obtain ⟨y5',y9',hs,rfl,kK,eK,aK⟩:=p;have sGK:Same G' U:=fun b o e=>kK _ _ (nMo e) (q13 _ _ e);have s0K:=s0G.trans sGK;refine ⟨_,rfl,_,rfl,Zlm (SqT.of (s0K _ _ ha)) ?_⟩
       have dm:decide ((0+(m:Int))∈nI ks)=decide (m∈ks):=by
        rw [Int.zero_add];exact decide_eq_decide.mpr ⟨fun h=>by obtain ⟨k,hk,e⟩:=n25_.mp h;rw [← Int.ofNat.inj e];exact hk,fun h=>n84_ h⟩
       rw [dm]
       by_cases hm':m∈ks
       · rw [n44_ hm'];exact ⟨false,rfl,iteF ⟨_,_,hs,rfl,kK,eK,by rw [Zsp hm'];exact aK⟩⟩
       · rw [n29_ hm'];have lh:hs.length=P'.ps.length:=by rw [aK.1];unfold mixS;simp
         refine ⟨true,rfl,iteT ?_⟩;refine ⟨_,rfl,_,rfl,_,rfl,M,_,(0+(m:Int)),m,rfl,rfl,eK,by rw [Int.zero_add];exact Ze8 (?d) (?d),?_⟩;have tM:Tk U (upd U M (.lst (hs.set m (.ref z)))):=Tk.upd_lst eK;refine ⟨_,_,_,rfl,fun b o ne e=>by rw [Zk ne];exact kK _ _ ne e,Zc,?_⟩;rw [Zqh hm'];exact Zp4 (aK.imp fun v x r=>Yw tM r) m (Yw ((tzG.trans sGK.tk).trans tM) hz)
     · obtain ⟨y5',y9',hs,rfl,kK,eK,aK⟩:=p;have sGK:Same G' U:=fun b o e=>kK _ _ (nMo e) (q13 _ _ e);have s0K:=s0G.trans sGK;rw [lg,n61_,Zve] at aK;have eF':=sGK _ _ eF;refine ⟨_,rfl,.inl ⟨rfl,_,SqL.of eF'⟩,_,rfl,_,rfl,M,hs,rfl,.inl ⟨SqL.of eK,fun T nT=>?_⟩⟩;generalize gG:upd U T (.tup hs)=U5;obtain ⟨q5,e5⟩:=gen_upd gG nT;refine ⟨.ref pa,.ref T,P',mskS P' ks o,rfl,hv.tk (s0K.trans q5).tk,ok,p4,⟨T,hs,rfl,e5,aK.imp fun v x r=>Yw q5.tk r⟩,Zre ok,fun U6 r6 q6 h6 _=>?_⟩;have sG6:=sGK.trans (q5.trans q6);have eF6:=sG6 _ _ eF;have tF:Tk U6 (upd U6 F (.lst (us++[r6]))):=Tk.upd_lst eF6;have lu:us.length≤30:=by rw [aF.1,n43_];omega
       refine ⟨F,us,r6,rfl,rfl,eF6,by rw [sizeLine_eq];omega,_,_,_,_,_,us++[r6],rfl,fun b o ne e=>by rw [Zk ne];exact sG6 _ _ (kG _ _ ne e),Zc,?_⟩;rw [show ns.take (i+1)=ns.take i++[ns[i]] by rw [n60_,n1_ hi];rfl];exact (aF.imp fun v x r=>Yw (sG6.tk.trans tF) r).snoc (by rw [ho];exact Yw tF h6)
   · obtain ⟨y5,y6,y8,y9,y10,us,rfl,kG,eF,aF⟩:=p;rw [n89_] at aF;have s0G:Same H G:=fun b o e=>kG _ _ (nF0 e) (s08 _ _ e);have eN:=kG _ _ nNF e7;have l30:(ns.map V.int).length≤1000:=by rw [n7_];omega
     have lu:=aF.1;refine ⟨_,rfl,N,rfl,⟨_,SqL.of eN⟩,fun D2 nD2=>?_⟩;refine lc_T (k:=.l) (vs:=ns.map V.int) IsQs hRQs (ns.map fun w=>ns.map fun o=>fLot P' ks (w,o)) ?f l30 nD2 eN (fun i v2 U2 C hi q2 c=>?_) (fun U2 us2 q2 e2 a2=>?_)
     · rw [n4_] at hi;obtain ⟨x,ex,rfl⟩:=n12_.mp hi;refine ⟨_,rfl,F,rfl,⟨_,SqL.of (q2 _ _ eF)⟩,fun D3 nD3=>?_⟩;refine lc_T (k:=.l) (vs:=us) IsQ hRQ (ns.map fun o=>fLot P' ks (x,o)) (by rw [n7_,lu]) (?d) nD3 (q2 _ _ eF) (fun j v3 U3 C' hj q3 c'=>?_) (fun U3 us3 q3 e3 a3=>?_)
       · obtain ⟨y,ey,col,cs,rfl,ec,ac⟩:=aF.get hj;obtain ⟨x0,x1⟩:=nb x (n6_ ex);obtain ⟨y0,y1⟩:=nb y (n6_ ey);obtain ⟨wn,rfl⟩:∃ n:Nat,x=n:=⟨x.toNat,?d⟩;obtain ⟨on,rfl⟩:∃ n:Nat,y=n:=⟨y.toNat,?d⟩
         obtain ⟨u,eu,hu⟩:=ac.got (i:=wn) (x:=fLot P' ks ((wn:Nat),(on:Nat))) (by
          unfold Zlo fLot;rw [n4_,n85_ (?d),Zp8 ok lot,(Zre ok).len];rfl)
         exact ⟨_,rfl,_,rfl,col,cs,(wn:Nat),u,rfl,rfl,SqT.of (q3 _ _ (q2 _ _ ec)),Xg eu,c' _ _ _ (Same.refl _) (by rw [n4_,ey];rfl) (hu.tk (q2.trans q3).tk)⟩
       · refine ⟨D3,us3,rfl,.inl ⟨SqL.of e3,fun r nr=>?_⟩⟩;have q5:Same U3 (upd U3 r (.tup us3)):=Same.new nr;exact c _ _ _ (q3.trans q5) (by rw [n4_,ex];rfl) ⟨r,us3,rfl,Zc,a3.imp fun v x r=>r.tk q5.tk⟩
     · refine ⟨_,rfl,N,_,rfl,.inl ⟨SqL.of (q2 _ _ eN),fun X nX=>?_⟩⟩;generalize gG:upd U2 X (.tup (ns.map V.int))=U3;obtain ⟨q3,e3⟩:=gen_upd gG nX;refine ⟨_,rfl,D2,_,rfl,.inl ⟨SqL.of (q3 _ _ e2),fun R nR=>?_⟩⟩;generalize gG:upd U3 R (.tup us2)=U4;obtain ⟨q4,e4⟩:=gen_upd gG nR;refine ⟨z2_,fun p np=>?_⟩;have q5:Same U4 (upd U4 p (.tup [.int 0,.int 1])):=Same.new np;have e5:upd U4 p (.tup [.int 0,.int 1]) p=some (.tup (rt 0)):=Zc;generalize upd U4 p (.tup [.int 0,.int 1])=U5 at q5 e5 ⊢;refine ⟨z1_,fun t nt=>?_⟩;generalize gG:upd U5 t (.tup [.ref p])=U6;obtain ⟨q6,e6⟩:=gen_upd gG nt;have q26:=q3.trans (q4.trans (q5.trans q6))
       have two:ns.length≠1:=fun z=>by
        obtain ⟨x,rfl⟩:=List.length_eq_one_iff.mp z;obtain ⟨k,hk,m⟩:=(wL.mem x).mp n24_;obtain ⟨c,hc,_⟩:=Zde.mp m;have m1:=n22_.mp ((wL.mem (2*c)).mpr ⟨k,hk,Zde.mpr ⟨c,hc,.inl rfl⟩⟩);have m2:=n22_.mp ((wL.mem (2*c+1)).mpr ⟨k,hk,Zde.mpr ⟨c,hc,.inr rfl⟩⟩);omega
       have ln:(ns.map V.int).length=ns.length:=n7_ ..;refine ⟨_,rfl,N,_,rfl,.inl (SqL.of (q26 _ _ (q2 _ _ eN))),t,_,[.ref p],rfl,rfl,e6,?d,?d,List.cons_ne_nil _ _,by simp,fun Z U7 q7 e7'=>?_⟩;refine ⟨z3_,fun T nT=>?_⟩;have q8:Same U7 (upd U7 T (.tup [.ref X,.ref R,.ref Z])):=Same.new nT;have q68:=q7.trans q8;have q48:=q5.trans (q6.trans q68)
       have hZ:IsQs U7 (.ref Z) (ns.map fun _=>0):=⟨Z,_,rfl,e7',by
        rw [Zb2,ln,List.map_const',n61_];exact Zkb ⟨p,rfl,q7 _ _ (q6 _ _ e5)⟩ _⟩
       exact q _ _ ns (s0G.trans (q2.trans (q3.trans (q4.trans q48)))) wL ⟨T,_,_,_,rfl,Zc,⟨X,rfl,q48 _ _ (q4 _ _ e3)⟩,⟨R,us2,rfl,q48 _ _ e4,a2.imp fun v x r=>Yw (q3.trans (q4.trans q48)).tk r⟩,Yw q8.tk hZ⟩
abbrev Zf5:Stmt:=top 83
theorem Zvn (F:Fun K "law" "law" Zf5 f fd) (Ca_:a42_ P w K mg base) (Ca3_:a55_ P w K mg base) (Cr_:a56_ P w K mg base) (Cam_:a57_ P w K mg base) (Cat_:a58_ P w K mg base) (Can_:a59_ P w K mg base) (Ca4_:a60_ P w K mg base):FnOk P w K mg base CX0 10 f fd ["_law_script"] (Zke K):=by
 have sc:FnScope ["_law_script","_law_nth","_law_state_here","_law_sheet","_law_many","_law_lot_here","_law_kept","_law_due","_law_turn"] ["_law_script"] (Zf Zf5):=fsc (?i);refine F.ok sc (fun vs H Q E h=>by obtain ⟨a,ns,rfl,_⟩:=h;rfl) ?B;obtain ⟨a,ns,rfl,hS,hlen,q⟩:=h;have nd:=sc.nd;refine' ?C
 case term=>refine' Zd ?g1 (Zh (Zo Za6));case g1=>refine' Yu PassesOwn.never rfl (Xu rfl T.b_range (Za (Zl (Zhy rfl) rfl T.b_max Zrv (Za Ze (Za (Zl (Zhs rfl) rfl T.b_min Zrt (Za (Zl Zr rfl T.b_len Yr ?L) ?J rfl)) Zb rfl) rfl)) Zb rfl)) (Zi (i:=1) nd rfl ?l) ?g2;case g2=>refine' Zd (Zx (i:=2) nd rfl ?l (Zj Can_ hr ?e rfl (Za (pv 0) ?M rfl))) ?g3;case g3=>refine' Zd (Zx (i:=3) nd rfl ?l (Zj Cam_ hr ?e rfl (Za (pv 2) ?J rfl))) ?g4;case g4=>refine' Zd ?g5 ?g6;(case g5=>refine' Zx (i:=4) nd rfl ?l ?g7;case g7=>refine' Zl Zr rfl T.b_len Yr ?g8;case g8=>refine' Za ?g9 Zb rfl;case g9=>refine' Zt Zq (pv 3) Ze (?j));case g6=>refine' Zh ?ga;case ga=>refine' Yu PassesOwn.never rfl ?gb (Zi (i:=5) nd rfl ?l) ?gc;(case gb=>refine' Yh ?gd;case gd=>refine' Yg ?ge;case ge=>refine' Za (Zv Zb) (Za (Zz (Zm9 rfl) rfl T.b_tuple Z4 (Za (Zot rfl T.b_range (Za (pv 4) Zb rfl)) Zb rfl)) (Za (Zv (Za (Zj Ca_ hr ?e rfl (Za (pv 2) (Za (pv 4) Zb rfl) rfl)) Zb rfl)) (Za (Zj Ca3_ hr ?e rfl (Za (pv 2) (Za (pv 3) Zb rfl) rfl)) Zb rfl) rfl) rfl) rfl);case gc=>refine' Zd (Zcv rfl nd (i:=6) (j:=7) rfl rfl ?e rfl rfl (Za (Zl (Zbd hr) rfl T.b_repr Zgf (Za (Zv (Za (pv 3) (Za (pv 5) Zb rfl) rfl)) Zb rfl)) (Za (Zj Cr_ hr ?e rfl (Za (pv 3) (Za (pv 5) Zb rfl) rfl)) Zb rfl) rfl) rfl) ?gf;case gf=>refine' Zd ?gg (Zh (Xv (Y6 Zvb (Zl (Zbd hr) rfl T.b_repr Zgf (Za (Zv (Za (pv 3) (Za (pv 5) Zb rfl) rfl)) Zb rfl)) (pv 6) (Y0 _)) (Zh (Zo Za6)) Z9));case gg=>refine' Yu PassesOwn.never rfl (Xu rfl T.b_range ?J) (Zi (i:=8) nd rfl ?l) ?gh;case gh=>refine' Zh ?gi;case gi=>refine' Xv ?gj (Zh (Zo Za6)) Z9;case gj=>refine' Yz ?gk;case gk=>refine' Z2 (Zj Cat_ hr ?e rfl (Za (Zj Ca4_ hr ?e rfl (Za (pv 3) (Za (pv 5) Zb rfl) rfl)) (Za (pv 7) Zb rfl) rfl)) (fun _=>rfl)
 refine ⟨_,rfl,a,_,rfl,.inl hS,_,_,rfl,_,_,rfl,_,rfl,?_,?_,?_⟩
 · split<;>(try split)<;>omega
 · rw [n7_];split<;>(try split)<;>omega
 refine Zdr (fun i σ H2=>∃ v0 v1 v2 v3 v4 v5 v6 v7:Option V,σ=[some (.ref a),v0,v1,v2,v3,v4,v5,v6,v7]∧Same H H2) ⟨_,_,_,_,_,_,_,_,rfl,Same.refl H⟩ ?_ ?_
 rotate_left
 · rintro σ H2 ⟨v0,v1,v2,v3,v4,v5,v6,v7,rfl,s2⟩
   exact q H2
 · rintro i σ H2 _ ⟨v0,v1,v2,v3,v4,v5,v6,v7,rfl,s2⟩
   refine ⟨_,rfl,_,rfl,a,ns,i,by rw [Int.zero_add],s2.seq hS,fun l H3 nl s3 st3=>?_⟩;refine ⟨_,rfl,l,rfl,st3,fun H5 pv P' k5 st5 hP ok p4=>?_⟩;have hP0:=hP;obtain ⟨pa,pc,pp,pt,ps,rfl,hpa,⟨ca,cv,rfl,hca,cal⟩,⟨qa,qv,rfl,hqa,qal⟩,_,_⟩:=hP0;have qlen:=qal.1;have p1:=ok.p1;refine ⟨_,rfl,pa,_,1,_,rfl,rfl,SqT.of hpa,rfl,qa,qv,rfl,.inr (SqT.of hqa),?_⟩;have st5':=st5;refine ⟨z0_,fun b0 n0=>?_⟩;have s6:Same H5 (upd H5 b0 (.tup [])):=Same.new n0;have e6:upd H5 b0 (.tup []) b0=some (.tup ((nI []).map V.int)):=Zc;generalize upd H5 b0 (.tup [])=H6 at s6 e6 ⊢;refine ⟨_,rfl,qv.length,rfl,fun R nR=>?_⟩;generalize gG:upd H6 R (.rng 0 qv.length)=H7;obtain ⟨s7,e7⟩:=gen_upd gG nR;refine ⟨R,qv.length,rfl,e7,?d,fun b1 n1=>?_⟩;have s8:Same H7 (upd H7 b1 (.tup ((List.range qv.length).map fun i:Nat=>V.int i))):=Same.new n1;have e8:upd H7 b1 (.tup ((List.range qv.length).map fun i:Nat=>V.int i)) b1=some (.tup ((nI (List.range qv.length)).map V.int)):=by rw [Zc,List.map_map];rfl
   generalize upd H7 b1 (.tup ((List.range qv.length).map fun i:Nat=>V.int i))=H8 at s8 e8 ⊢;have s68:=s7.trans s8;have s58:=s6.trans s68;refine ⟨_,rfl,_,rfl,l,qv.length,rfl,st5.same s58,?d,X0 (?d),fun r H9 r0 r1 k9 st9=>?_⟩;refine ⟨z1_,fun b2 n2=>?_⟩;generalize gG:upd H9 b2 (.tup [.int r])=H10;obtain ⟨s10,e10⟩:=gen_upd gG n2;have t9:Tk H8 H9:=tkS k9 (st5.same s58);have t510:Tk H5 H10:=(s58.tk.trans t9).trans s10.tk;refine ⟨_,rfl,_,rfl,l,.ref pa,P',rfl,st9.same s10,hP.tk t510,ok,fun H11 b3 ks3 k11 st11 e11 lot3=>?_⟩;have t11:Tk H10 H11:=tkS k11 (st9.same s10);refine ⟨z4_,fun L nL=>?_⟩;generalize gG:upd H11 L (.lst [.ref b0,.ref b1,.ref b2,.ref b3])=H12;obtain ⟨s12,e12⟩:=gen_upd gG nL;have t512:Tk H5 H12:=(t510.trans t11).trans s12.tk;have k512:Keep l H5 H12:=s58.keep.trans (k9.trans (s10.keep.trans (k11.trans s12.keep)));obtain ⟨rn,rfl⟩:∃ n:Nat,r=n:=⟨r.toNat,?d⟩
   have al:Al (IsLt P' H12) [.ref b0,.ref b1,.ref b2,.ref b3] [[],List.range qv.length,[rn],ks3] :=
    (((Al.nil.snoc (R:=IsLt P' H12) ⟨b0,rfl,(((s68.tk.trans t9).trans s10.tk).trans (t11.trans s12.tk)) _ _ e6,.nil,by simp⟩).snoc ⟨b1,rfl,((t9.trans s10.tk).trans (t11.trans s12.tk)) _ _ e8,List.pairwise_lt_range,fun k hk=>by rw [← qlen];exact n42_.mp hk⟩).snoc ⟨b2,rfl,(t11.trans s12.tk) _ _ (show H10 b2=some (.tup ((nI [rn]).map V.int)) from e10),List.pairwise_singleton ..,fun k hk=>by rw [n22_.mp hk,← qlen];omega⟩).snoc ⟨b3,rfl,s12 _ _ e11,lot3⟩
   have st12:=st11.same s12;replace hP:=hP.tk t512;refine ⟨L,rfl,⟨_,SqL.of e12⟩,?_⟩;refine Yk (n:=4) (fun j σ G=>∃ v5 v6 v7 v8:Option V,σ=[some (.ref a),some (.int (0+i)),some (.ref l),some (.ref pa),some (.int qv.length),v5,v6,v7,v8]∧Same H12 G) ⟨_,_,_,_,rfl,Same.refl _⟩ (fun j σ G hj p=>?_) (fun σ G p=>?_) (fun j x σ G G' hj y p=>?_) (fun σ G p=>?_)
   · obtain ⟨_,_,_,_,_,sG⟩:=p;exact ⟨_,[V.ref b0,.ref b1,.ref b2,.ref b3][j]'hj,SqL.of (sG _ _ e12),n1_ hj⟩
   · obtain ⟨_,_,_,_,_,sG⟩:=p;exact ⟨_,SqL.of (sG _ _ e12),n11_ _⟩
   · obtain ⟨v5,v6,v7,v8,rfl,sG⟩:=p;obtain ⟨rfl,yx⟩:=y;obtain ⟨ks,_,lo,rfl,elo,lot⟩:=al.get (yx _ (SqL.of (sG _ _ e12)));have hPG:=hP.tk sG.tk;have eG:=sG _ _ elo;refine ⟨_,rfl,_,rfl,z2_,fun R1 nR1=>?_⟩;generalize gG:upd G' R1 (.tup [.ref pa,.ref lo])=U1;obtain ⟨q1,f1⟩:=gen_upd gG nR1;refine ⟨NF,60,.ref R1,_,rfl,Zua f1 (hPG.tk q1.tk) ok (q1 _ _ eG) lot,?t,n36_ (Zj8 _ _) ?e,n36_ (Zug ok lot) ?e,?_⟩;refine ⟨_,rfl,_,rfl,.ref pa,P',lo,ks,rfl,hPG.tk q1.tk,ok,p4,q1 _ _ eG,lot,fun U2 v2 ns2 q2 w2 h2=>?_⟩;refine ⟨_,_,rfl,?_⟩;refine ⟨_,rfl,?t,?t,?_⟩;have q12:=q1.trans q2;refine Zdr (fun m σ U=>∃ v8:Option V,σ=[some (.ref a),some (.int (0+i)),some (.ref l),some (.ref pa),some (.int qv.length),some (.ref lo),some (.str (dPlL P' ks).shown),some v2,v8]∧Same U2 U) ⟨_,rfl,Same.refl _⟩ (fun m σ U hm p=>?_) (fun σ U p=>?_)
     · obtain ⟨v8',rfl,q3⟩:=p;have q13:=q12.trans q3;refine ⟨_,rfl,_,rfl,.ref pa,P',lo,ks,rfl,hPG.tk q13.tk,ok,p4,q13 _ _ eG,lot,fun U4 v4 ns4 q4 w4 h4=>?_⟩;obtain rfl:=Zl3 w4 w2;have h2':=h2;obtain ⟨a2,b2',c2,d2,rfl,g2,hi2,hs2,hz2⟩:=h2';have q34:=q3.trans q4;exact ⟨_,rfl,NF,1000,v4,_,dFr ns4 (fLot P' ks),rfl,dtFr h4 (Zro ok lot w4) (Zq2 ok p4 lot),dtFr ⟨a2,b2',c2,d2,rfl,q34 _ _ g2,hi2.tk q34.tk,Zqt q34.tk hs2,Yw q34.tk hz2⟩ (Zro ok lot w4) (Zq2 ok p4 lot),?t,n36_ (Zta _ _) ?e,nzFr _ w4.le,true,rfl,iteF ⟨_,rfl,q3.trans q4⟩⟩
     · obtain ⟨v8',rfl,q3⟩:=p;have q13:=q12.trans q3;refine ⟨_,rfl,_,rfl,z2_,fun R2 nR2=>?_⟩;generalize gG:upd U R2 (.tup [.ref pa,.ref lo])=U5;obtain ⟨q5,f5⟩:=gen_upd gG nR2;have q15:=q13.trans q5;refine ⟨NF,60,.ref R2,_,rfl,Zua f5 (hPG.tk q15.tk) ok (q15 _ _ eG) lot,?t,n36_ (Zj8 _ _) ?e,n36_ (Zug ok lot) ?e,_,rfl,rfl,_,rfl,?_⟩;rw [n44_ rfl];refine iteF ?_;exact ⟨_,_,_,_,rfl,sG.trans q15⟩
   · obtain ⟨v5,v6,v7,v8,rfl,sG⟩:=p;exact ⟨_,_,_,_,_,_,_,_,rfl,fun b o e=>(k5.trans (k512.trans sG.keep)) _ _ (Zm (s2 _ _ e) nl) (s3 _ _ (s2 _ _ e))⟩
end
structure Lk (K:PySem.W.Frag) (b:Str) (st:Stmt) (f:Addr):Prop where
 fn:∃ fd,Fun K b b st f fd
 a:PySem.W.nsIn K mainGlobals b=some (some (.ref f))
 k:PySem.W.keepIn K (.ref f)=true
theorem Zwl {K:PySem.W.Frag} {b:Str} {st:Stmt} {f:Addr} {od an:Option Addr} {sl:Array (?D)} {oc kV dc pm cd ct:Value} (a:PySem.W.nsIn K mainGlobals b=some (some (.ref f))) (l:K.lookup f=some ⟨oc,od,.func (PySem.W.fnOf b b (Y8 st) (Ys st) (Zf st) .none kV dc pm an cd ct),sl⟩) (c:PySem.W.codeIn K cd b=true) (k:PySem.W.keepIn K (.ref f)=true):Lk K b st f:=⟨⟨_,Zrf (st:=st) l c k⟩,a,k⟩
theorem Lk.cal {P:Program} {w:World} {K:PySem.W.Frag} {h:Heap} {mg:Str→?D} {base:Heap} {b:Str} {st:Stmt} {f:Addr} {k:Nat} {ps:List Str} {sp:Sp} (L:Lk K b st f) (X:K.In h) (G:h.Ns mainGlobals mg) (ok:∀ {fd},Fun K b b st f fd→FnOk P w K mg base CX0 k f fd ps sp) (hb:∀ (kV doc pm:Value) (an:Option Addr) (cdv ct:Value) (us:?q),us.length=ps.length→bindArgs (PySem.W.fnOf b b (Y8 st) (Ys st) (Zf st) .none kV doc pm an cdv ct) ⟨us,[]⟩=pure (ps.zip us)):Cal P w K mg base b k ps sp :=
 let ⟨_,F⟩:=L.fn
 ⟨f,_,ok F,n93_ X G L.a,L.k,F.binds (ps:=ps) hb⟩
theorem lnS {n:Nat} {P:?q→Prop} (h:∀ x us,us.length=n→P (x :: us)):∀ us:?q,us.length=n+1→P us:=fun us e=>by
 cases us with
 | nil=>cases e
 | cons x t=>exact h x t (Nat.succ.inj e)
theorem ln0 {P:?q→Prop} (h:P []):∀ us:?q,us.length=0→P us:=fun us e=>by
 cases us with
 | nil=>exact h
 | cons x t=>cases e
theorem ln1 {P:?q→Prop} (h:∀ x0,P [x0]):∀ us:?q,us.length=1→P us:=lnS fun x0=>ln0 (P:=fun us=>P (x0 :: us)) (h x0)
theorem ln2 {P:?q→Prop} (h:∀ x0 x1,P [x0,x1]):∀ us:?q,us.length=2→P us:=lnS fun x0=>ln1 (P:=fun us=>P (x0 :: us)) (h x0)
theorem ln3 {P:?q→Prop} (h:∀ x0 x1 x2,P [x0,x1,x2]):∀ us:?q,us.length=3→P us:=lnS fun x0=>ln2 (P:=fun us=>P (x0 :: us)) (h x0)
theorem Zu4 {l:PySem.W.OpenLaw} {w:World} {K:PySem.W.Frag} {h:Heap} {mg:Str→?D} {fa:Addr} (X:K.In h) (G:h.Ns mainGlobals mg) (hfa:mg "law" = some (.ref fa))
 {f_0:Addr} (h_0:Lk K "plain_divisor" Xr f_0)
 {f_1:Addr} (h_1:Lk K "divisor" Zd2 f_1)
 {f_2:Addr} (h_2:Lk K "is_whole" Zcm f_2)
 {f_3:Addr} (h_3:Lk K "reduced" Zd7 f_3)
 {f_4:Addr} (h_4:Lk K "is_between" Zaz f_4)
 {f_5:Addr} (h_5:Lk K "is_row" Zgo f_5)
 {f_6:Addr} (h_6:Lk K "are_rising" Zak f_6)
 {f_7:Addr} (h_7:Lk K "is_corner" Zbl f_7)
 {f_8:Addr} (h_8:Lk K "are_corners" Zas f_8)
 {f_9:Addr} (h_9:Lk K "turn" Znw f_9)
 {f_10:Addr} (h_10:Lk K "turn_of" Zd4 f_10)
 {f_11:Addr} (h_11:Lk K "is_piece" Zbh f_11)
 {f_12:Addr} (h_12:Lk K "are_pieces" Xz f_12)
 {f_13:Addr} (h_13:Lk K "are_thicks" Za4 f_13)
 {f_14:Addr} (h_14:Lk K "is_stuff" Zce f_14)
 {f_15:Addr} (h_15:Lk K "triangle" Zbe f_15)
 {f_16:Addr} (h_16:Lk K "edges" Ziy f_16)
 {f_17:Addr} (h_17:Lk K "lies_in" Zb3 f_17)
 {f_18:Addr} (h_18:Lk K "parts_from" Xx f_18)
 {f_19:Addr} (h_19:Lk K "are_apart" Zbp f_19)
 {f_20:Addr} (h_20:Lk K "every_corner_is_used" Yl f_20)
 {f_21:Addr} (h_21:Lk K "no_strange_corner" Z5 f_21)
 {f_22:Addr} (h_22:Lk K "fit_together" Yv f_22)
 {f_23:Addr} (h_23:Lk K "is_plate" Zcl f_23)
 {f_24:Addr} (h_24:Lk K "look_at_plate" Xq f_24)
 {f_25:Addr} (h_25:Lk K "multiple" Zcn f_25)
 {f_26:Addr} (h_26:Lk K "levelled" Zah f_26)
 {f_27:Addr} {od_27 an_27:Option Addr} {sl_27:Array (?D)} {oc_27 kV_27 dc_27 pm_27 cd_27 ct_27:Value}
 {dT_27:Addr} {dt_27:Tok} {dn_27:Nat} {oo_27:Option Addr} {os_27:Array (?D)} {occ_27:Value}
 (a_27:PySem.W.nsIn K mainGlobals "mixed" = some (some (.ref f_27)))
 (l_27:K.lookup f_27=some ⟨oc_27,od_27,.func (PySem.W.fnOf "mixed" "mixed" (Y8 Zcd) (Ys Zcd) (Zf Zcd) (.ref dT_27) kV_27 dc_27 pm_27 an_27 cd_27 ct_27),sl_27⟩)
 (c_27:PySem.W.codeIn K cd_27 "mixed" = true) (k_27:PySem.W.keepIn K (.ref f_27)=true)
 (t_27:K.lookup dT_27=some ⟨occ_27,oo_27,.seq #[.int 1 dt_27] dn_27,os_27⟩)
 {f_28:Addr} (h_28:Lk K "dot" Ztz f_28)
 {f_29:Addr} (h_29:Lk K "added" Zi1 f_29)
 {f_30:Addr} (h_30:Lk K "slopes" Zdb f_30)
 {f_31:Addr} (h_31:Lk K "piece_ways" Za2 f_31)
 {f_32:Addr} (h_32:Lk K "strained" Zci f_32)
 {f_33:Addr} (h_33:Lk K "stressed" Zck f_33)
 {f_34:Addr} (h_34:Lk K "pushed" Zb6 f_34)
 {f_35:Addr} (h_35:Lk K "is_one_of" Zbn f_35)
 {f_36:Addr} (h_36:Lk K "are_some_of" Xl f_36)
 {f_37:Addr} (h_37:Lk K "own_pushes" Za5 f_37)
 {f_38:Addr} (h_38:Lk K "push_table" Za3 f_38)
 {f_39:Addr} (h_39:Lk K "together" Zbc f_39)
 {f_40:Addr} (h_40:Lk K "frame_by" Xn f_40)
 {f_41:Addr} (h_41:Lk K "frame_of" Zba f_41)
 {f_42:Addr} (h_42:Lk K "_law_cell_at" X6 f_42)
 {f_43:Addr} (h_43:Lk K "_law_state" Za7 f_43)
 {f_44:Addr} (h_44:Lk K "_law_choice" Zat f_44)
 {f_45:Addr} (h_45:Lk K "_law_order" Za8 f_45)
 {f_46:Addr} (h_46:Lk K "_law_low" Zcb f_46)
 {f_47:Addr} (h_47:Lk K "_law_add" Zcf f_47)
 {f_48:Addr} (h_48:Lk K "_law_mul" Zcc f_48)
 {f_49:Addr} (h_49:Lk K "_law_total" Za1 f_49)
 {f_50:Addr} (h_50:Lk K "_law_shapes" Zap f_50)
 {f_51:Addr} (h_51:Lk K "_law_plate" Y2 f_51)
 {f_52:Addr} (h_52:Lk K "_law_slopes" Xi f_52)
 {f_53:Addr} (h_53:Lk K "_law_strain" Zam f_53)
 {f_54:Addr} (h_54:Lk K "_law_stress" Zal f_54)
 {f_55:Addr} (h_55:Lk K "_law_stresses" Xo f_55)
 {f_56:Addr} (h_56:Lk K "_law_pushes" Zad f_56)
 {f_57:Addr} (h_57:Lk K "_law_same" Zbr f_57)
 {f_58:Addr} (h_58:Lk K "_law_unit" Zae f_58)
 {f_59:Addr} (h_59:Lk K "_law_lot" Zbb f_59)
 {f_60:Addr} (h_60:Lk K "_law_lot_frame" Yj f_60)
 {f_law:Addr} {od_law an_law:Option Addr} {sl_law:Array (?D)} {oc_law kV_law dc_law pm_law cd_law ct_law:Value}
 (a_law:PySem.W.nsIn K mainGlobals "law" = some (some (.ref f_law)))
 (l_law:K.lookup f_law=some ⟨oc_law,od_law,.func (PySem.W.fnOf "law" "law" (Y8 Zf5) (Ys Zf5) (Zf Zf5) .none kV_law dc_law pm_law an_law cd_law ct_law),sl_law⟩)
 (c_law:PySem.W.codeIn K cd_law "law" = true) (k_law:PySem.W.keepIn K (.ref f_law)=true)
 (z_abs:PySem.W.nsIn K mainGlobals "abs" = some none)
 (z_all:PySem.W.nsIn K mainGlobals "all" = some none)
 (z_any:PySem.W.nsIn K mainGlobals "any" = some none)
 (z_bool:PySem.W.nsIn K mainGlobals "bool" = some none)
 (z_enumerate:PySem.W.nsIn K mainGlobals "enumerate" = some none)
 (z_int:PySem.W.nsIn K mainGlobals "int" = some none)
 (z_isinstance:PySem.W.nsIn K mainGlobals "isinstance" = some none)
 (z_len:PySem.W.nsIn K mainGlobals "len" = some none)
 (z_list:PySem.W.nsIn K mainGlobals "list" = some none)
 (z_max:PySem.W.nsIn K mainGlobals "max" = some none)
 (z_min:PySem.W.nsIn K mainGlobals "min" = some none)
 (z_range:PySem.W.nsIn K mainGlobals "range" = some none)
 (z_repr:PySem.W.nsIn K mainGlobals "repr" = some none)
 (z_set:PySem.W.nsIn K mainGlobals "set" = some none)
 (z_sorted:PySem.W.nsIn K mainGlobals "sorted" = some none)
 (z_sum:PySem.W.nsIn K mainGlobals "sum" = some none)
 (z_tuple:PySem.W.nsIn K mainGlobals "tuple" = some none)
 (z_zip:PySem.W.nsIn K mainGlobals "zip" = some none)
 {tn_FARTHEST:Tok} (n_FARTHEST:PySem.W.nsIn K mainGlobals "FARTHEST" = some (some (.int 100 tn_FARTHEST)))
 {tn_FEWEST_CORNERS:Tok} (n_FEWEST_CORNERS:PySem.W.nsIn K mainGlobals "FEWEST_CORNERS" = some (some (.int 3 tn_FEWEST_CORNERS)))
 {tn_GREAT_BITS:Tok} (n_GREAT_BITS:PySem.W.nsIn K mainGlobals "GREAT_BITS" = some (some (.int 4000 tn_GREAT_BITS)))
 {tn_MOST_CORNERS:Tok} (n_MOST_CORNERS:PySem.W.nsIn K mainGlobals "MOST_CORNERS" = some (some (.int 30 tn_MOST_CORNERS)))
 {tn_MOST_PIECES:Tok} (n_MOST_PIECES:PySem.W.nsIn K mainGlobals "MOST_PIECES" = some (some (.int 40 tn_MOST_PIECES)))
 {tn_MOST_STUFF:Tok} (n_MOST_STUFF:PySem.W.nsIn K mainGlobals "MOST_STUFF" = some (some (.int 9 tn_MOST_STUFF)))
 {tn_THICKEST:Tok} (n_THICKEST:PySem.W.nsIn K mainGlobals "THICKEST" = some (some (.int 9 tn_THICKEST)))
 : ∃ fd:FuncData,(∀ (s:Shared) (v:Value),BindsTo s fd ⟨[v],[]⟩ [("_law_script",v)])∧∀ base:Heap,K.In base→base.Ns mainGlobals mg→FnOk l.prog w K mg base CX0 10 fa fd ["_law_script"] (Zke K):=by
 have e:=hfa.symm.trans (n93_ X G a_law);cases e
 have T:Bt mg:=⟨n41_ X G z_abs,n41_ X G z_all,n41_ X G z_any,n41_ X G z_bool,n41_ X G z_enumerate,n41_ X G z_int,n41_ X G z_isinstance,n41_ X G z_len,n41_ X G z_list,n41_ X G z_max,n41_ X G z_min,n41_ X G z_range,n41_ X G z_repr,n41_ X G z_set,n41_ X G z_sorted,n41_ X G z_sum,n41_ X G z_tuple,n41_ X G z_zip,⟨_,n93_ X G n_FARTHEST⟩,⟨_,n93_ X G n_FEWEST_CORNERS⟩,⟨_,n93_ X G n_GREAT_BITS⟩,⟨_,n93_ X G n_MOST_CORNERS⟩,⟨_,n93_ X G n_MOST_PIECES⟩,⟨_,n93_ X G n_MOST_STUFF⟩,⟨_,n93_ X G n_THICKEST⟩⟩;have F_27:=Zr2 (st:=Zcd) l_27 c_27 k_27;have F_law:=Zrf (st:=Zf5) l_law c_law k_law;refine ⟨PySem.W.fnOf "law" "law" (Y8 Zf5) (Ys Zf5) (Zf Zf5) .none kV_law dc_law pm_law an_law cd_law ct_law,fun s v=>.of_eq rfl,fun base _ _=>?_⟩;have C_0:a0_ l.prog w K mg base:=h_0.cal X G (fun F=>Zc5 T F) fun _ _ _ _ _ _=>ln2 ?j;have C_1:a1_ l.prog w K mg base:=h_1.cal X G (fun F=>Zlh T F C_0) fun _ _ _ _ _ _=>ln2 ?j;have C_2:a2_ l.prog w K mg base:=h_2.cal X G (fun F=>Zjn T F) fun _ _ _ _ _ _=>ln1 fun _=>rfl;have C_3:a26_ l.prog w K mg base:=h_3.cal X G (fun F=>Zlv T F C_1) fun _ _ _ _ _ _=>ln2 ?j;have C_4:a3_ l.prog w K mg base:=h_4.cal X G (fun F=>Zft T F C_2) fun _ _ _ _ _ _=>ln3 fun _ _ _=>rfl;have C_5:a4_ l.prog w K mg base:=h_5.cal X G (fun F=>Zme T F) fun _ _ _ _ _ _=>ln3 fun _ _ _=>rfl;have C_x6:a7_ l.prog w K mg base:=h_6.cal X G (fun F=>Zeo T F) fun _ _ _ _ _ _=>ln1 fun _=>rfl;have C_x7:a9_ l.prog w K mg base:=h_6.cal X G (fun F=>Zej T F) fun _ _ _ _ _ _=>ln1 fun _=>rfl;have C_7:a5_ l.prog w K mg base:=h_7.cal X G (fun F=>Zid T F C_4 C_5) fun _ _ _ _ _ _=>ln1 fun _=>rfl;have C_8:a17_ l.prog w K mg base:=h_8.cal X G (fun F=>Zeh T F C_7 C_5) fun _ _ _ _ _ _=>ln1 fun _=>rfl;have C_9:a6_ l.prog w K mg base:=h_9.cal X G (fun F=>Zsa T F) fun _ _ _ _ _ _=>ln3 fun _ _ _=>rfl;have C_10:a8_ l.prog w K mg base:=h_10.cal X G (fun F=>Zlj T F C_9) fun _ _ _ _ _ _=>ln2 ?j;have C_11:a10_ l.prog w K mg base:=h_11.cal X G (fun F=>Zi7 T F C_x6 C_4 C_5 C_10) fun _ _ _ _ _ _=>ln2 ?j
 have C_12:a18_ l.prog w K mg base:=h_12.cal X G (fun F=>Zfr T F C_x7 C_11 C_5) fun _ _ _ _ _ _=>ln2 ?j;have C_13:a19_ l.prog w K mg base:=h_13.cal X G (fun F=>Zgr T F C_4 C_5) fun _ _ _ _ _ _=>ln2 ?j;have C_14:a22_ l.prog w K mg base:=h_14.cal X G (fun F=>Zji T F C_4 C_5) fun _ _ _ _ _ _=>ln1 fun _=>rfl;have C_15:a16_ l.prog w K mg base:=h_15.cal X G (fun F=>Zjs T F C_9) fun _ _ _ _ _ _=>ln2 ?j;have C_16:a11_ l.prog w K mg base:=h_16.cal X G (fun F=>Zpm T F) fun _ _ _ _ _ _=>ln1 fun _=>rfl;have C_17:a13_ l.prog w K mg base:=h_17.cal X G (fun F=>Zlq T F C_16 C_9) fun _ _ _ _ _ _=>ln2 ?j;have C_18:a12_ l.prog w K mg base:=h_18.cal X G (fun F=>Zg4 T F C_16 C_9) fun _ _ _ _ _ _=>ln2 ?j;have C_19:a14_ l.prog w K mg base:=h_19.cal X G (fun F=>Zhx T F C_18) fun _ _ _ _ _ _=>ln2 ?j;have C_20:a20_ l.prog w K mg base:=h_20.cal X G (fun F=>Zaq T F) fun _ _ _ _ _ _=>ln2 ?j;have C_21:a15_ l.prog w K mg base:=h_21.cal X G (fun F=>Zbj T F C_17) fun _ _ _ _ _ _=>ln3 fun _ _ _=>rfl;have C_22:a21_ l.prog w K mg base:=h_22.cal X G (fun F=>Zdu T F C_19 C_21 C_15) fun _ _ _ _ _ _=>ln2 ?j;have C_23:a23_ l.prog w K mg base:=h_23.cal X G (fun F=>Zi0 T F C_8 C_12 C_13 C_20 C_22 C_5 C_14) fun _ _ _ _ _ _=>ln1 fun _=>rfl;have C_24:a39_ l.prog w K mg base:=h_24.cal X G (fun F=>Zc6 T F C_23) fun _ _ _ _ _ _=>ln1 fun _=>rfl;have C_25:a24_ l.prog w K mg base:=h_25.cal X G (fun F=>Zi4 T F C_1) fun _ _ _ _ _ _=>ln1 fun _=>rfl;have C_x27:a25_ l.prog w K mg base:=h_26.cal X G (fun F=>Zij T F C_25) fun _ _ _ _ _ _=>ln1 fun _=>rfl
 have D_27:CalD l.prog w K mg base "mixed" 5 ["weights","parts","bottom"] [.int 1] Zf3:=⟨f_27,_,[.int 1 dt_27],Zqp T F_27 C_x27 C_3,n93_ X G a_27,k_27,fun s us KX hl=>(by
  have h1:us.length=2:=by simpa using hl
  match us,h1 with
  | [u0,u1],_=>exact BindsTo.of_defaults (T:=dT_27) (items:=#[.int 1 dt_27]) rfl (KX _ _ t_27) rfl rfl rfl),.cons ⟨_,rfl⟩ .nil⟩
 have C_28:a27_ l.prog w K mg base:=h_28.cal X G (fun F=>Zum T F) fun _ _ _ _ _ _=>ln2 ?j;have C_29:a34_ l.prog w K mg base:=h_29.cal X G (fun F=>Zp1 T F D_27) fun _ _ _ _ _ _=>ln1 fun _=>rfl;have C_30:a31_ l.prog w K mg base:=h_30.cal X G (fun F=>Zon T F C_10) fun _ _ _ _ _ _=>ln2 ?j;have C_31:a29_ l.prog w K mg base:=h_31.cal X G (fun F=>Zgz T F) fun _ _ _ _ _ _=>ln2 ?j;have C_32:a32_ l.prog w K mg base:=h_32.cal X G (fun F=>Zjq T F C_28) fun _ _ _ _ _ _=>ln3 fun _ _ _=>rfl;have C_33:a33_ l.prog w K mg base:=h_33.cal X G (fun F=>Zjw T F) fun _ _ _ _ _ _=>ln2 ?j;have C_34:a30_ l.prog w K mg base:=h_34.cal X G (fun F=>Zmb T F) fun _ _ _ _ _ _=>ln3 fun _ _ _=>rfl;have C_35:a28_ l.prog w K mg base:=h_35.cal X G (fun F=>Zhb T F C_2) fun _ _ _ _ _ _=>ln2 ?j;have C_36:a37_ l.prog w K mg base:=h_36.cal X G (fun F=>Zeb T F C_x6 C_35) fun _ _ _ _ _ _=>ln2 ?j;have C_37:a35_ l.prog w K mg base:=h_37.cal X G (fun F=>Zgy T F C_31 C_34 C_30 C_32 C_33) fun _ _ _ _ _ _=>ln2 ?j;have C_38:a40_ l.prog w K mg base:=h_38.cal X G (fun F=>Zgh T F C_29 C_37) fun _ _ _ _ _ _=>ln2 ?j;have C_39:a36_ l.prog w K mg base:=h_39.cal X G (fun F=>Zis T F C_29) fun _ _ _ _ _ _=>ln2 ?j;have C_40:a38_ l.prog w K mg base:=h_40.cal X G (fun F=>Ziz T F C_39) fun _ _ _ _ _ _=>ln3 fun _ _ _=>rfl;have C_41:a60_ l.prog w K mg base:=h_41.cal X G (fun F=>Zjc T F C_36 C_40 C_24 C_31 C_38) fun _ _ _ _ _ _=>ln2 ?j;have C_42:a41_ l.prog w K mg base:=h_42.cal X G (fun F=>Zds T F) fun _ _ _ _ _ _=>ln2 ?j;have C_43:a59_ l.prog w K mg base:=h_43.cal X G (fun F=>Zfs T F C_42) fun _ _ _ _ _ _=>ln2 ?j;have C_44:a42_ l.prog w K mg base:=h_44.cal X G (fun F=>Zec T F) fun _ _ _ _ _ _=>ln2 ?j;have C_45:a45_ l.prog w K mg base:=h_45.cal X G (fun F=>Zgl T F C_44) fun _ _ _ _ _ _=>ln2 ?j;have C_46:a43_ l.prog w K mg base:=h_46.cal X G (fun F=>Zi6 T F) fun _ _ _ _ _ _=>ln2 ?j;have C_47:a44_ l.prog w K mg base:=h_47.cal X G (fun F=>Ziv T F C_46) fun _ _ _ _ _ _=>ln2 ?j
 have C_48:a47_ l.prog w K mg base:=h_48.cal X G (fun F=>Zjk T F C_46) fun _ _ _ _ _ _=>ln2 ?j;have C_49:a49_ l.prog w K mg base:=h_49.cal X G (fun F=>Zgw T F C_47) fun _ _ _ _ _ _=>ln1 fun _=>rfl;have C_50:a46_ l.prog w K mg base:=h_50.cal X G (fun F=>Zel T F) fun _ _ _ _ _ _=>ln0 rfl;have C_51:a57_ l.prog w K mg base:=h_51.cal X G (fun F=>Zgx T F C_44 C_45 C_50) fun _ _ _ _ _ _=>ln2 ?j;have C_52:a48_ l.prog w K mg base:=h_52.cal X G (fun F=>Zek T F C_46) fun _ _ _ _ _ _=>ln2 ?j;have C_53:a50_ l.prog w K mg base:=h_53.cal X G (fun F=>Zem T F C_48 C_52 C_49) fun _ _ _ _ _ _=>ln3 fun _ _ _=>rfl;have C_54:a51_ l.prog w K mg base:=h_54.cal X G (fun F=>Zee T F C_47 C_48) fun _ _ _ _ _ _=>ln2 ?j;have C_55:a53_ l.prog w K mg base:=h_55.cal X G (fun F=>Zc4 T F C_53 C_54) fun _ _ _ _ _ _=>ln2 ?j;have C_56:a52_ l.prog w K mg base:=h_56.cal X G (fun F=>Zei T F C_47 C_46 C_48 C_52) fun _ _ _ _ _ _=>ln2 ?j;have C_57:a58_ l.prog w K mg base:=h_57.cal X G (fun F=>Zh7 T F) fun _ _ _ _ _ _=>ln2 ?j;have C_58:a54_ l.prog w K mg base:=h_58.cal X G (fun F=>Zic T F) fun _ _ _ _ _ _=>ln2 ?j;have C_59:a55_ l.prog w K mg base:=h_59.cal X G (fun F=>Zi5 T F C_44) fun _ _ _ _ _ _=>ln2 ?j;have C_60:a56_ l.prog w K mg base:=h_60.cal X G (fun F=>Zcg T F C_56 C_55 C_58) fun _ _ _ _ _ _=>ln2 ?j;exact Zvn T F_law C_44 C_59 C_60 C_51 C_57 C_43 C_41
theorem walk {l:PySem.W.OpenLaw} {q:Program} {loose:List Str} {XP:(Str→?D)→Heap→Prop} {YP:World→Heap→Prop} {d:DefRec} {K:Params→PySem.W.Frag} (hn:l.most=some 63) (hdf:d.params.defaults=[])
 (hY:∀ (w:World) (h:Heap),YP w h→(K w.params).In h)
 (F:∀ (w:World) (mg:Str→?D) (fa:Addr) (h:Heap),(K w.params).In h→h.Ns mainGlobals mg→mg d.name=some (.ref fa) →
   ∃ fd:FuncData,(∀ (s:Shared) (u:Value),BindsTo s fd ⟨[u],[]⟩ [("_law_script",u)])∧∀ base:Heap,(K w.params).In base→base.Ns mainGlobals mg→FnOk l.prog w (K w.params) mg base CX0 10 fa fd ["_law_script"] (Zke (K w.params))) (him:importsNone q=true:=by decide +kernel) :
 PySem.W.WalkO q loose XP YP l.row.toRowW d [] (fun f vs=>PySem.call f vs) :=
 L2.Zsm (n:=63) (k:=10) (x := "_law_script") (CX:=fun _=>CX0) (sp:=fun w=>Zke (K w.params)) hn ?e hdf ⟨rfl,?t,?t,rfl⟩ hY F (fun _ _ a ns hl _ hS=>⟨a,ns,rfl,hS,hl,fun _=>rfl⟩) (fun _ _ _ _ _ z=>z) him
end My

namespace My
open PySem PySem.W PyProof.Rows L2
set_option maxRecDepth 1000000
set_option maxHeartbeats 0
def gE (P:Params) (n:Str) (t:Tok) (v:Value):DictEntry:=⟨PySem.PyData.keyHash P n,.str n t,v⟩
def gR (P:Params) (n:Str) (t:Tok) (a:Addr):DictEntry:=gE P n t (.ref a)
def fO (n:Str) (i:Nat) (m:Str) (mt:Tok) (c:Addr) (dv:Value):Obj:={ cls:=.type "function",data:=.func (PySem.W.fnOf n n (Y8 (top i)) (Ys (top i)) (Zf (top i)) dv .none .none (.str m mt) none (.ref c) .none) }
def cO (n:Str) (a:Tok) (l k:Int) (r s:Addr) (u v:Value) (t:Nat):Obj:={ cls:=.type "code",data:=.fields (Array.mk [.str n a,.str n (a+1),.str "/claim/cut.py" (a+2),.int l 0,.int k 0,.int 0 0,.int 0 0,.int 3 0,.ref r,.bool true,.int 181 0,.ref (r+1),.none,u,v,.ref s,.int t 0,.int l 0,.str "/claim/cut.py" (t+1)]) }
def dR (n:Str) (i:Nat) (m:Str) (mt a:Tok) (l k:Int) (r:Addr) (t:Nat):Frag:=[(r+6,fO n i m mt (r+5) .none),(r+5,cO n a l k r (r+4) (.ref (r+2)) (.ref (r+3)) t)]
def dN (n:Str) (i:Nat) (m:Str) (mt a:Tok) (l k:Int) (r:Addr) (t:Nat):Frag:=[(r+4,fO n i m mt (r+3) .none),(r+3,cO n a l k r (r+2) .none .none t)]
def Zu8 (s:Stmt):Pos:=match s with|.FunctionDef _ _ _ _ _ _ _ _ _ p=>p|_=>⟨0,0,0,0⟩
def m0:Str := "platerest.divisors"
def m1:Str := "platerest.quotients"
def m2:Str := "platerest.plates"
def m3:Str := "platerest.strains"
def m4:Str := "platerest.ways"
def m5:Str := "platerest.frames"
def m6:Str := "law_platerest_k50_frames_of_lots"
noncomputable def kK (P:Params):Frag:=(3,{ cls:=.type "dict",data:=(.dict #[gE P "__name__" 165 (.str "law_platerest_k50_frames_of_lots" 631),
gE P "__doc__" 166 (.none),
gE P "__package__" 167 (.none),
gE P "__loader__" 168 (.builtin "__main__.__loader__#opaque"),
gE P "__spec__" 169 (.none),
gR P "__annotations__" 170 6,
gR P "__builtins__" 171 4,
gE P "__file__" 173 (.str "/claim/cut.py" 172),
gE P "__cached__" 174 (.none),
gR P "PlateError" 206 24,
gR P "NoPlate" 222 37,
gR P "NoLot" 238 49,
gE P "GREAT_BITS" 242 (.int 4000 241),
gE P "FEW_BITS" 244 (.int 200 243),
gR P "plain_divisor" 252 58,
gR P "few_steps" 267 65,
gR P "mixed_by" 282 72,
gR P "shrinking" 302 79,
gR P "divisor" 311 86,
gR P "is_whole" 320 93,
gR P "multiple" 329 100,
gR P "reduced" 338 107,
gR P "levelled" 344 112,
gR P "mixed" 351 118,
gE P "FEWEST_CORNERS" 355 (.int 3 354),
gE P "MOST_CORNERS" 357 (.int 30 356),
gE P "FARTHEST" 359 (.int 100 358),
gE P "MOST_PIECES" 361 (.int 40 360),
gE P "THICKEST" 363 (.int 9 362),
gE P "MOST_STUFF" 365 (.int 9 364),
gR P "is_between" 374 125,
gR P "is_row" 383 132,
gR P "are_rising" 389 137,
gR P "is_corner" 395 142,
gR P "are_corners" 401 147,
gR P "turn" 411 154,
gR P "turn_of" 419 161,
gR P "is_piece" 425 166,
gR P "are_pieces" 431 171,
gR P "are_thicks" 437 176,
gR P "is_stuff" 444 183,
gR P "triangle" 450 188,
gR P "edges" 457 195,
gR P "lies_in" 463 200,
gR P "parts_from" 469 205,
gR P "are_apart" 477 212,
gR P "every_corner_is_used" 483 217,
gR P "no_strange_corner" 489 222,
gR P "fit_together" 495 227,
gR P "is_plate" 506 234,
gR P "look_at_plate" 513 241,
gR P "is_one_of" 523 248,
gR P "are_some_of" 529 253,
gR P "dot" 537 258,
gR P "added" 544 265,
gR P "slopes" 550 270,
gR P "piece_ways" 556 275,
gR P "strained" 565 282,
gR P "stressed" 579 289,
gR P "pushed" 585 294,
gR P "own_pushes" 604 301,
gR P "push_table" 610 306,
gR P "together" 618 311,
gR P "frame_by" 624 316,
gR P "frame_of" 630 321,
gR P "_law_cell_at" 640 328,
gR P "_law_state" 649 335,
gR P "_law_choice" 659 342,
gR P "_law_order" 669 349,
gR P "_law_low" 679 356,
gR P "_law_add" 687 363,
gR P "_law_mul" 695 370,
gR P "_law_total" 704 377,
gR P "_law_shapes" 718 384,
gR P "_law_plate" 724 389,
gR P "_law_slopes" 730 394,
gR P "_law_strain" 747 401,
gR P "_law_stress" 760 408,
gR P "_law_stresses" 770 415,
gR P "_law_pushes" 791 422,
gR P "_law_unit" 797 427,
gR P "_law_same" 805 434,
gR P "_law_lot" 811 439,
gR P "_law_lot_frame" 817 444,
gR P "law" 832 451] 85) }) :: (dR "plain_divisor" 7 m0 239 245 11 2 52 250 ++
dR "divisor" 11 m0 239 303 42 2 80 309 ++
dR "is_whole" 13 m1 312 314 49 1 87 318 ++
dR "reduced" 15 m1 312 330 56 2 101 336 ++
dR "is_between" 25 m2 352 366 74 3 119 372 ++
dR "is_row" 26 m2 352 375 76 3 126 381 ++
dN "are_rising" 27 m2 352 384 78 1 133 387 ++
dN "is_corner" 28 m2 352 390 80 1 138 393 ++
dN "are_corners" 29 m2 352 396 82 1 143 399 ++
dR "turn" 30 m2 352 402 86 3 148 409 ++
dR "turn_of" 31 m2 352 412 89 2 155 417 ++
dN "is_piece" 32 m2 352 420 91 2 162 423 ++
dN "are_pieces" 33 m2 352 426 95 2 167 429 ++
dN "are_thicks" 34 m2 352 432 99 2 172 435 ++
dR "is_stuff" 35 m2 352 438 103 1 177 442 ++
dN "triangle" 36 m2 352 445 107 2 184 448 ++
dR "edges" 37 m2 352 451 112 1 189 455 ++
dN "lies_in" 38 m2 352 458 114 2 196 461 ++
dN "parts_from" 39 m2 352 464 116 2 201 467 ++
dR "are_apart" 40 m2 352 470 121 2 206 475 ++
dN "every_corner_is_used" 41 m2 352 478 123 2 213 481 ++
dN "no_strange_corner" 42 m2 352 484 125 3 218 487 ++
dN "fit_together" 43 m2 352 490 128 2 223 493 ++
dR "is_plate" 44 m2 352 496 136 1 228 504 ++
dR "look_at_plate" 45 m2 352 507 145 1 235 511 ++
dR "multiple" 14 m1 312 321 51 1 94 327 ++
dN "levelled" 16 m1 312 339 61 1 108 342 ++
[(118,fO "mixed" 17 m1 312 117 (.ref 113)),(117,cO "mixed" 346 64 3 114 116 (.none) (.none) 349),(113,{ cls:=?G,data:=.seq #[.int 1 345] 0 })] ++
dN "dot" 50 m3 530 532 156 2 254 535 ++
dR "added" 51 m3 530 538 158 1 259 542 ++
dN "slopes" 52 m3 530 545 160 2 266 548 ++
dN "piece_ways" 53 m3 530 551 167 2 271 554 ++
dR "strained" 54 m3 530 557 170 3 276 563 ++
dR "stressed" 55 m3 530 566 172 2 283 577 ++
dN "pushed" 56 m3 530 580 177 3 290 583 ++
dR "is_one_of" 47 m4 514 516 149 2 242 521 ++
dN "are_some_of" 48 m4 514 524 151 2 249 527 ++
dR "own_pushes" 57 m3 530 586 181 2 295 602 ++
dN "push_table" 58 m3 530 605 192 2 302 608 ++
dN "together" 60 m5 611 613 199 2 307 616 ++
dN "frame_by" 61 m5 611 619 201 3 312 622 ++
dN "frame_of" 62 m5 611 625 204 2 317 628 ++
dR "_law_cell_at" 64 m6 631 633 211 2 322 638 ++
dR "_law_state" 65 m6 631 641 215 2 329 647 ++
dR "_law_choice" 66 m6 631 650 218 2 336 657 ++
dR "_law_order" 67 m6 631 660 228 2 343 667 ++
dR "_law_low" 68 m6 631 670 233 2 350 677 ++
dR "_law_add" 69 m6 631 680 238 2 357 685 ++
dR "_law_mul" 70 m6 631 688 240 2 364 693 ++
dR "_law_total" 71 m6 631 696 242 1 371 702 ++
dR "_law_shapes" 72 m6 631 705 247 0 378 716 ++
dN "_law_plate" 73 m6 631 719 257 2 385 722 ++
dN "_law_slopes" 74 m6 631 725 270 2 390 728 ++
dR "_law_strain" 75 m6 631 731 279 3 395 745 ++
dR "_law_stress" 76 m6 631 748 287 2 402 758 ++
dR "_law_stresses" 77 m6 631 761 292 2 409 768 ++
dR "_law_pushes" 78 m6 631 771 297 2 416 789 ++
dR "_law_same" 80 m6 631 798 310 2 428 803 ++
dN "_law_unit" 79 m6 631 792 308 2 423 795 ++
dN "_law_lot" 81 m6 631 806 312 2 435 809 ++
dN "_law_lot_frame" 82 m6 631 812 315 2 440 815 ++
dR "law" 83 m6 631 818 329 1 445 830)
def kA:List Addr:=[3,58,57,86,85,93,92,107,106,125,124,132,131,137,136,142,141,147,146,154,153,161,160,166,165,171,170,176,175,183,182,188,187,195,194,200,199,205,204,212,211,217,216,222,221,227,226,234,233,241,240,100,99,112,111,118,117,113,258,257,265,264,270,269,275,274,282,281,289,288,294,293,248,247,253,252,301,300,306,305,311,310,316,315,321,320,328,327,335,334,342,341,349,348,356,355,363,362,370,369,377,376,384,383,389,388,394,393,401,400,408,407,415,414,422,421,434,433,427,426,439,438,444,443,451,450]
theorem kAs:∀ P,kA=(kK P).map (·.1):=fun _=>?o
theorem h3:∀ w os,(topK pw 5516 w os).map (fun s=>kA.map s.abs.heap.get?)=some ((kK w.params).map fun p=>some p.2):=fun w os=>by
  unfold topK topStub;rw [PySem.W.Fast.te4652649595001227023,PySem.W.Fast.te14364793385576792824,PySem.W.Fast.te17154629097778926822,PySem.W.Fast.te12822647523644345616]
  kernel_rfl
theorem left:LeftO pw qq ll (fun s=>xlAt qq [] s&&recOk (RowW.records (OpenRow.toRowW rr)) s) (Hook.obs (kHook kK kA kAs)) (Hook.val (kHook kK kA kAs)) 5516 :=
  Zju (T0:=bootT) (life:={}) (?o) (?o) (fun s=>?o) Zp9 Znd (Zif (R:=topK pw 5516) h1 h2 h3)
theorem lk4 {P:Params} {b:Str} {i:Nat} {f:Addr} (c:Addr) (m:Str) (mt:Tok) (h:((kK P).lookup f,PySem.W.nsIn (kK P) mainGlobals b,PySem.W.codeIn (kK P) (.ref c) b,PySem.W.keepIn (kK P) (.ref f))=(some (fO b i m mt c .none),some (some (.ref f)),true,true)):Lk (kK P) b (top i) f:=Zwl (Prod.mk.inj (Prod.mk.inj h).2).1 (Prod.mk.inj h).1 (Prod.mk.inj (Prod.mk.inj (Prod.mk.inj h).2).2).1 (Prod.mk.inj (Prod.mk.inj (Prod.mk.inj h).2).2).2
theorem Zo7 (P:Params):(kK P).lookup 118=some (fO "mixed" 17 m1 312 117 (.ref 113)):=?o
theorem Zpr (P:Params):PySem.W.nsIn (kK P) mainGlobals "mixed" = some (some (.ref 118)):=?o
theorem Zp3 (P:Params):PySem.W.codeIn (kK P) (.ref 117) "mixed" = true:=?o
theorem Zpw (P:Params):PySem.W.keepIn (kK P) (.ref 118)=true:=?o
theorem Zqc (P:Params):(kK P).lookup 113=some ⟨?G,none,.seq #[.int 1 345] 0,#[]⟩:=?o
theorem Zvj (P:Params):(kK P).lookup 451=some (fO "law" 83 m6 631 450 .none):=?o
theorem Zu9 (P:Params):PySem.W.nsIn (kK P) mainGlobals "law" = some (some (.ref 451)):=?o
theorem Zv5 (P:Params):PySem.W.codeIn (kK P) (.ref 450) "law" = true:=?o
theorem Zvx (P:Params):PySem.W.keepIn (kK P) (.ref 451)=true:=?o
def dL:DefRec:=⟨"law",Y8 (top 83),Ys (top 83),Zf (top 83),Zu8 (top 83)⟩
theorem hdL:defOf qq (OpenRow.toRowW rr).name=some (dL,[]):=?o
theorem hpL:(OpenRow.toRowW rr).prog.theDef (OpenRow.toRowW rr).name=some (dL.params,dL.body,dL.scope):=?o
theorem hkL:kwWritten? dL.params.kwonlyargs dL.params.kw_defaults=some []:=?o
theorem okL:(chainsOk qq&&opensWell (OpenRow.toRowW rr).prog&&(frees (OpenRow.toRowW rr)&&(OpenRow.toRowW rr).within.isEmpty))=true:=?o
theorem dfL:dL.params.defaults=[]:=?o
theorem wkL:WalkO qq ll (XL qq []) (Hook.says (kHook kK kA kAs)) (OpenRow.toRowW rr) dL [] (fun f vs=>PySem.call f vs):=by
  refine My.walk (l:=PySem.Challenge.rw_platerest_k50_frames_of_lots) rfl dfL (fun w h Y=>PySem.W.kIn_of Y) ?F;intro w mg fa h KX G hmg;exact Zu4 KX G hmg (lk4 (f:=58) 57 m0 239 (?o)) (lk4 (f:=86) 85 m0 239 (?o)) (lk4 (f:=93) 92 m1 312 (?o)) (lk4 (f:=107) 106 m1 312 (?o)) (lk4 (f:=125) 124 m2 352 (?o)) (lk4 (f:=132) 131 m2 352 (?o)) (lk4 (f:=137) 136 m2 352 (?o)) (lk4 (f:=142) 141 m2 352 (?o)) (lk4 (f:=147) 146 m2 352 (?o)) (lk4 (f:=154) 153 m2 352 (?o)) (lk4 (f:=161) 160 m2 352 (?o)) (lk4 (f:=166) 165 m2 352 (?o)) (lk4 (f:=171) 170 m2 352 (?o)) (lk4 (f:=176) 175 m2 352 (?o)) (lk4 (f:=183) 182 m2 352 (?o)) (lk4 (f:=188) 187 m2 352 (?o)) (lk4 (f:=195) 194 m2 352 (?o)) (lk4 (f:=200) 199 m2 352 (?o)) (lk4 (f:=205) 204 m2 352 (?o)) (lk4 (f:=212) 211 m2 352 (?o)) (lk4 (f:=217) 216 m2 352 (?o)) (lk4 (f:=222) 221 m2 352 (?o)) (lk4 (f:=227) 226 m2 352 (?o)) (lk4 (f:=234) 233 m2 352 (?o)) (lk4 (f:=241) 240 m2 352 (?o)) (lk4 (f:=100) 99 m1 312 (?o)) (lk4 (f:=112) 111 m1 312 (?o)) (Zpr _) (Zo7 _) (Zp3 _) (Zpw _) (Zqc _) (lk4 (f:=258) 257 m3 530 (?o)) (lk4 (f:=265) 264 m3 530 (?o)) (lk4 (f:=270) 269 m3 530 (?o)) (lk4 (f:=275) 274 m3 530 (?o)) (lk4 (f:=282) 281 m3 530 (?o)) (lk4 (f:=289) 288 m3 530 (?o)) (lk4 (f:=294) 293 m3 530 (?o)) (lk4 (f:=248) 247 m4 514 (?o)) (lk4 (f:=253) 252 m4 514 (?o)) (lk4 (f:=301) 300 m3 530 (?o)) (lk4 (f:=306) 305 m3 530 (?o)) (lk4 (f:=311) 310 m5 611 (?o)) (lk4 (f:=316) 315 m5 611 (?o)) (lk4 (f:=321) 320 m5 611 (?o)) (lk4 (f:=328) 327 m6 631 (?o)) (lk4 (f:=335) 334 m6 631 (?o)) (lk4 (f:=342) 341 m6 631 (?o)) (lk4 (f:=349) 348 m6 631 (?o)) (lk4 (f:=356) 355 m6 631 (?o)) (lk4 (f:=363) 362 m6 631 (?o)) (lk4 (f:=370) 369 m6 631 (?o)) (lk4 (f:=377) 376 m6 631 (?o)) (lk4 (f:=384) 383 m6 631 (?o)) (lk4 (f:=389) 388 m6 631 (?o)) (lk4 (f:=394) 393 m6 631 (?o)) (lk4 (f:=401) 400 m6 631 (?o)) (lk4 (f:=408) 407 m6 631 (?o)) (lk4 (f:=415) 414 m6 631 (?o)) (lk4 (f:=422) 421 m6 631 (?o)) (lk4 (f:=434) 433 m6 631 (?o)) (lk4 (f:=427) 426 m6 631 (?o)) (lk4 (f:=439) 438 m6 631 (?o)) (lk4 (f:=444) 443 m6 631 (?o)) (Zu9 _) (Zvj _) (Zv5 _) (Zvx _) (?o) (?o) (?o) (?o) (?o) (?o) (?o) (?o) (?o) (?o) (?o) (?o) (?o) (?o) (?o) (?o) (?o) (?o) (tn_FARTHEST:=358) (?o) (tn_FEWEST_CORNERS:=354) (?o) (tn_GREAT_BITS:=241) (?o) (tn_MOST_CORNERS:=356) (?o) (tn_MOST_PIECES:=360) (?o) (tn_MOST_STUFF:=364) (?o) (tn_THICKEST:=362) (?o)
end My
open PySem PySem.W PyProof.Rows
set_option maxRecDepth 1000000 in
set_option maxHeartbeats 0 in
theorem PySem.Challenge.cw_platerest_k50_frames_of_lots_holds : PySem.Challenge.rw_platerest_k50_frames_of_lots.Holds := by
  refine holds_law My.ws fun said=>?_;refine holds_open (q:=My.qq) (loose:=My.ll) (Xt:=fun s=>xlAt My.qq [] s&&recOk (RowW.records (OpenRow.toRowW My.rr)) s) (XP:=XL My.qq []) (Yf:=Hook.obs (kHook My.kK My.kA My.kAs)) (Ya:=Hook.val (kHook My.kK My.kA My.kAs)) (YP:=Hook.says (kHook My.kK My.kA My.kAs)) My.left (Hook.of (kHook My.kK My.kA My.kAs)) (Hook.keeps (kHook My.kK My.kA My.kAs)) (fun s e=>xl_of s (Bool.and_eq_true_iff.mp e).1) XL.keeps My.hdL My.hpL My.hkL (fun s e=>recFacts_of (Bool.and_eq_true_iff.mp e).2) rfl said My.okL ⟨rfl,rfl,rfl,rfl,rfl,?i⟩ ?hw My.wkL
  case hw=>w_witness2
