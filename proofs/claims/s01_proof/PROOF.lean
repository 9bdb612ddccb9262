import PyProof.Rows.All
import Wide.All
import OpenK.AllK
import Wide.FinOn
import PyProof.EqAt
import PyProof.EqKinds
import PyProof.TupleCall
import KE.BitLaws
import Open.SpecLaws
import KE.OsHead
import KE.OsGo
import KE.KDictList
import OpenK.KTop
import PySem.Challenge.RW_pointbook_s01_answers
open And renaming intro→auJ
open Array renaming length_toList→ars,getElem?_toList→asO,toList→auz,toList_inj→auW
open Bool renaming and_eq_true→apv,false_ne_true→apI,false_eq_true→aqb,eq_iff_iff→aqe,noConfusion→aqB,eq_false_iff→aqL,or_eq_true→aqU,or_eq_false_iff→arC,not_eq_true'→arX,and_assoc→ar3,true_and→ase,and_eq_true_iff→asZ,false_and→at6,or_false→avr
open Char renaming toNat→ass
open Classical renaming not_not→auR
open Eq renaming trans→aul
open Except renaming ok→asP
open False renaming elim→aqW
open ForInStep renaming yield→asX
open Iff renaming rfl→asu
open Int renaming toNat_natCast→aqE,natCast_add→asm,toNat→asS,natCast_mul→avd
open Lean renaming TSyntax→as5,MacroM→ath,mkIdent→avW
open List renaming length_append→apr,mem_of_getElem?→aps,length_map→apt,getElem?_eq_some_iff→apu,mem_append→apx,mem_cons_of_mem→apy,length_cons→apz,mem_cons→apA,map_append→apB,mem_cons_self→apD,map_cons→apG,getElem?_map→apH,map_map→apJ,append_nil→apK,getElem?_eq_getElem→apO,mem_range→apP,size_toArray→apQ,getElem?_of_mem→apR,mem_map→apW,mem_singleton→ap2,mem_append_right→ap3,range→ap4,length_singleton→ap5,lookup_cons→ap6,length_modify→aqg,getElem?_append_right→aqh,map_congr_left→aqk,getElem?_append_left→aql,length_take→aqm,all_eq_true→aqn,filterMap_append→aqp,mem_append_left→aqr,any_eq_true→aqs,mem_filterMap→aqu,cons_append→aqx,append_assoc→aqF,pairwise_iff_getElem→aqH,getElem?_eq_none→aqJ,flatMap_cons→aqK,length_eq_zero_iff→aqN,nodup_cons→aqP,flatMap_append→aqR,getLast?_cons_cons→aqV,length_drop→aqX,all_cons→aqZ,length_pos_iff→aq1,take_length→aq2,take_succ→aq6,pairwise_map→aq7,find?_cons→aq9,getElem_of_mem→arb,getElem?_range→arc,take_append_drop→arl,mem_of_find?_eq_some→arn,lookup→aro,dropLast_concat_getLast→aru,map_nil→arv,any_cons→ary,exists_cons_of_ne_nil→arz,any_eq_false→arA,length→arD,findIdx?_eq_some_iff_getElem→arE,not_mem_nil→arF,mem_flatMap→arH,flatMap_nil→arI,length_filterMap_le→arK,length_nil→arO,all_append→arQ,find?_eq_none→arS,range_succ→arT,take_of_length_le→arV,ext_getElem?→arY,length_range→arZ,nodup_range→ar7,pairwise_append→ar8,getD_eq_getElem?_getD→asa,perm_ext_iff_of_nodup→asd,filterMap_cons→asf,mem_filter→ash,drop_eq_getElem_cons→asi,getElem?_eq_none_iff→asl,getElem?_cons_succ→asA,nodup_append→asF,getElem?_set_self→asG,map_id→asI,pairwise_lt_range→asJ,pairwise_iff_forall_sublist→asM,singleton_append→asQ,length_filter_le→asR,getElem?_set_ne→asW,nil_append→asY,find?_some→as2,drop_append_of_le_length→as6,drop_zero→as9,drop_left→ata,findIdx?_cons→atk,filter_append→atl,sum_cons→ato,foldl_append→ats,getElem?_take_of_lt→atz,any_map→atA,drop_length→atD,filter_cons→atG,getLast?_singleton→atP,mem_singleton_self→atQ,pairwise_filterMap→atR,pairwise_singleton→atU,of_mem_zip→atZ,reverse_singleton→at5,take_left→aua,take_zero→aub,drop_drop→auc,pairwise_flatMap→auf,dropLast_concat→auj,take_succ_cons→auq,toList_toArray→aus,reverse_append→aut,length_reverse→auu,map_singleton→auF,mem_eraseDups→auH,getElem?_drop→auK,take_sublist→auM,getElem_drop→auN,getElem_mem→au0,map→au4,sum_append→au7,replicate→avg,forIn_nil→avh,filterMap→avn,nodup_nil→avo,Pairwise→avt,map_take→avu,map_drop→avv,isEmpty→avX,head?→awj
open List.Pairwise renaming imp→aq8,imp_of_mem→atH,filter→awh
open List.Perm renaming eq_of_pairwise→atF
open List.cons renaming inj→aqI,injEq→as4
open Nat renaming le_refl→apE,zero_le→apV,lt_of_lt_of_le→ap9,le_trans→aqa,ne_of_lt→aqo,le_add_left→aqz,le_add_right→aqC,lt_irrefl→arf,mod_lt→arP,zero_add→ar2,min_eq_left→asj,toDigits→asp,add_sub_cancel_left→asz,le_of_succ_le→asC,lt_succ_of_lt→asD,lt_trichotomy→asE,le_of_lt→asV,strongRecOn→as0,digitChar→atn,le_of_eq→atx,lt_succ_self→aty,add_zero→atB,sub_self→atJ,zero_lt_succ→atL,toDigits_of_lt_base→atO,le_max_left→at0,mul_comm→auI,le_succ_of_le→auQ,le_max_right→au2,succ_le_succ→au3,one_ne_zero→avf,ne_of_gt→avG,mul_zero→avU,lt_or_ge→avV
open Ne renaming symm→ap1
open Option renaming map_eq_some_iff→apF,isSome_map→apX,isSome_iff_exists→apZ,isSome→arq,map_some→as1,map_map→ate,bind_eq_some_iff→atV,isSome_some→auE,getD_none→auV,map→ave,some_or→avk,none_or→avl,none→av8
open Option.some renaming inj→apC,injEq→att
open Or renaming inl→apN,inr→aud
open Po renaming Dir→aqG
open PyFlat renaming told→aqA,played→aqO,calls→arG,call→auS,rows→auT
open PyProof.Rows renaming callWith_type1→ar5,boot_ord→asT,callWith_builtin1→au6,signs_ofString→avp,join_tuple→avZ,join_list→av7,iadd_int→awb,split_le→awd
open PySem renaming boot_len→ap8,mem_of_lookup→aqi,evalArgs_none→aup,Within→auy,MulOk→awa,call→awg
open PySem.Around renaming under→auB
open PySem.AutoListH renaming list_insert_list_int_val_1→auh
open PySem.Builtin.List renaming listTooLong→aso
open PySem.Builtin.Range renaming rangeSize→avY
open PySem.Builtin.Str renaming strKind→aqy,occurrences→asy,partsBetween→atE,tooLong→aur
open PySem.Calls renaming callWith_builtin→ard,spliced_cons→arM,evalArgs_plain→ar6,spliced_nil→asB,Name_function_global→atm
open PySem.Challenge renaming rw_pointbook_s01_answers→ar9,pw_pointbook_s01_answers→auk
open PySem.Code renaming isFrame→auC,frames→av5
open PySem.Data renaming seq→auZ
open PySem.EqMixed renaming eq_bool_str→avz,eq_str_bool→avA,ne_bool_str→avE,ne_str_bool→avF,eq_int_str→avK,eq_str_int→avM,ne_int_str→avQ,ne_str_int→avS
open PySem.EqNone renaming eq_none_none→avw,eq_none_bool→avx,eq_bool_none→avy,ne_none_none→avB,ne_none_bool→avC,ne_bool_none→avD,eq_none_int→avH,eq_none_str→avI,eq_int_none→avJ,eq_str_none→avL,ne_none_int→avN,ne_none_str→avO,ne_int_none→avP,ne_str_none→avR
open PySem.F renaming slot_list_append→aqM,type_list_append→aqT,slot_dict_get→ark,slot_list_insert→arJ,slot_list_extend→arN,entry_dict_get→arU,slot_dict_setdefault→ar4,type_list_insert→asq,type_list_extend→asr,plainAttrs_dict→asx,slot_str_split→asL,type_dict_setdefault→atf,args_str_split_2→atj,entry_str_split→atr,slot_dict_getitem→atv,args_dict_get_2→atM,args_dict_get_3→atN,plainAttrs_list→atW,type_dict_get→at9,slot_list_pop→auD,plainAttrs_str→auX
open PySem.Heap renaming get?_push_of_some→apL,lt_size→ap0,get?_push_size→aqd,size_push→aqS,SameBut→atw
open PySem.Heap.DictOf renaming new→awo
open PySem.Heap.IsSliceOf renaming new→awm
open PySem.NameKind renaming free→asb,cell→aun
open PySem.NumText renaming digitsVal→auO
open PySem.Paired renaming length→aum,snoc→av6
open PySem.PassesOwn renaming never→ara
open PySem.SeqAt renaming EqAt→awf
open PySem.SeqAt.EqAt renaming int_str→auv,str_int→auw
open PySem.Str renaming ofString→aqQ,length→atu,join→avT
open PySem.Txt renaming split→arw,isalnum→arW,join→atb,isdigit→at3,isalpha→at4,mul→aui
open PySem.Unicode renaming isAlnum→au8,isDigit→au9,isAlpha→ava
open PySem.Value renaming ref→aqq,type→arB,int→asn,str→asN,bool→asU,none→au5,isStrOf→avq,isInt→av0,bytes→av3,float→av4
open PySem.Value.type renaming inj→avi
open PySem.W renaming Frag→apw,nsIn→apU,emptyDict→aq0,mg_none_of→aq3,findIn→aq5,instObj→arp,keepIn→ar0,fnOf→ar1,plainGet→asK,plainGet_of→as7,lookIn→as8,length_le_weightAllW→atc,callWith_K→ati,methodObj→atp,hasDictIn→atq,takerIn→atX,makesIn→atY,cellsFrom_some→at1,methodCall_KW→at7,codeIn→at8,callWith_K0→auo,isFn→auA,plainOver→auL,handedIn→auU,WRecords→auY,KeysLit→avb,mapOf_K→avc,WalkOS→avj,find_K→avm
open PySem.W.KIN renaming signs_num→awc,call_text→awe
open PySem.W.Looks renaming here→awl
open PySem.Within renaming cons→awn
open Sum renaming inl→apT,inr→apY
open Sum.inl renaming inj→av1
open Sum.inr renaming inj→av2
open True renaming intro→arL
open UInt8 renaming ofNat→apM,le_iff_toNat_le→ap7,toNat_inj→arR,toNat_ofNat'→auG,ofNat_toNat→auP,toNat→av9
open Wqatcm renaming letterNum→aqt,found→aqv,taken→aqw,isLetters→aqD,nums→aq4,int→arh,nameOf→ari,pointNums→arj,MISSING→asv,sizesOf→asw,isIt→asH,ofPoint→atd,says→atg,LONGEST→aue,streetNum→au1,rowAns→avs,BAD→awi
open WqatcmNeutral renaming natural→apS,step→aqc,numbers→aqf,bytes→aqj,asked1→aqY,start→art,callsOf→arx,S→as3,asked→awk
set_option Elab.async false
set_option linter.all false
set_option bootstrap.genMatcherCode false
set_option compiler.extract_closed false
set_option genSizeOf false
set_option maxRecDepth 100000
set_option maxHeartbeats 4000000
section
local macro_rules|`(tactic|omega)=>`(tactic|first|lia|omega +splitDisjunctions)
local macro_rules(kind:=Lean.Parser.Command.declaration)|s=>do
  if s.getPos?.isNone then Lean.Macro.throwUnsupported
  let t:=s.rewriteBottomUp (·.setInfo .none)
  if s[0].getPos?.isSome||!(s[1].isOfKind ``Lean.Parser.Command.definition||s[1].isOfKind ``Lean.Parser.Command.abbrev) then return t
  return t.setArg 0 (←`(command|noncomputable def x:=x)).raw[0]
theorem obt{G:Prop}(f:∀R:Prop,(G→R)→R):G:=f G id
local macro_rules|`(tactic|obtain⟨$p,*⟩:=$e)=>do
  if p.getElems.size<3 then`(tactic|rcases $e:term with⟨$p,*⟩)
  else`(tactic|(refine obt fun Z z=>?_;rcases $e:term with⟨$p,*⟩;all_goals(refine z ?_;clear z Z)))
namespace L2.Internal
open PySem PySem.Spec PyProof.Rows
abbrev Key:=Sum Int Str
def EC:Key→Value→Bool
 | .inl k,v=>av0 k v
 | .inr x,v=>avq x v
def agT(w:World):Key→Int
 | .inl k=>hashInt k
 | .inr x=>hashStr w x
theorem dI:∀{k:Key} {v:Value},EC k v=true→(∃i t,k=apT i∧v=asn i t)∨(∃x t,k=apY x∧v=asN x t)
 | .inl i,v,h=>by
  obtain⟨t,e⟩:=Value.isInt_shape (k:=i) (v:=v) h;exact .inl ⟨i,t,rfl,e⟩
 | .inr x,v,h=>by
  obtain⟨t,e⟩:=Value.isStrOf_shape (x:=x) (v:=v) h;exact .inr ⟨x,t,rfl,e⟩
theorem Sd(i:Int)(t:Tok):EC (.inl i) (.int i t)=true:=by simp[EC,av0]
theorem Sb(x:Str)(t:Tok):EC (.inr x) (.str x t)=true:=by simp[EC,avq]
theorem ZM(a b:Int):decide ((apT a:Key)=apT b)=(a==b):=by
 by_cases e:a=b
 ·subst e;simp
 ·have h:¬(apT a:Key)=apT b:=fun q=>e (av1 q);rw[decide_eq_false h];exact(beq_eq_false_iff_ne.mpr e).symm
theorem ZJ(a b:Str):decide ((apY a:Key)=apY b)=decide (a=b):=by
 by_cases e:a=b
 ·subst e;simp
 ·have h:¬(apY a:Key)=apY b:=fun q=>e (av2 q);rw[decide_eq_false h,decide_eq_false e]
theorem ZL(a:Int)(b:Str):decide ((apT a:Key)=apY b)=false:=decide_eq_false (fun q=>nomatch q)
theorem ZK(a:Str)(b:Int):decide ((apY a:Key)=apT b)=false:=decide_eq_false (fun q=>nomatch q)
def cY(prog:Program)(w:World):PySem.KeyKind prog w Key where
 is:=EC
 hash:=agT w
 inj:=fun v a b ha hb=>by
  rcases dI ha with⟨i,t,rfl,rfl⟩|⟨x,t,rfl,rfl⟩
  ·rcases dI hb with⟨j,u,rfl,e⟩|⟨y,u,rfl,e⟩
   ·injection e with e1 _;rw[e1]
   ·exact nomatch e
  ·rcases dI hb with⟨j,u,rfl,e⟩|⟨y,u,rfl,e⟩
   ·exact nomatch e
   ·injection e with e1 _;rw[e1]
 byValue:=fun k v h=>by
  rcases dI h with⟨i,t,rfl,rfl⟩|⟨x,t,rfl,rfl⟩<;>rfl
 pyHash:=fun hv h=>by
  rcases dI hv with⟨i,t,rfl,rfl⟩|⟨x,t,rfl,rfl⟩
  ·exact wpAny_pyHash_int h
  ·exact wpAny_pyHash_str h
 eqBool:=fun hu hv h=>by
  rcases dI hu with⟨i,t,rfl,rfl⟩|⟨x,t,rfl,rfl⟩
  ·rcases dI hv with⟨j,u,rfl,rfl⟩|⟨y,u,rfl,rfl⟩
   ·rw[ZM]at h;exact wpAny_eqBool_int h
   ·rw[ZL]at h;exact auv i t y u _ _ _ _ h
  ·rcases dI hv with⟨j,u,rfl,rfl⟩|⟨y,u,rfl,rfl⟩
   ·rw[ZK]at h;exact auw x t j u _ _ _ _ h
   ·rw[ZJ]at h;exact wpAny_eqBool_str h
 «strs»:=fun k x t v h=>by
  rcases dI h with⟨i,u,rfl,e⟩|⟨y,u,rfl,e⟩
  ·exact nomatch e
  ·injection e with e1 _;subst e1;cases v<;>rfl
theorem LQ(prog:Program)(w:World)(i:Int)(t:Tok):(cY prog w).is (.inl i) (.int i t)=true:=Sd i t
theorem LP(prog:Program)(w:World)(x:Str)(t:Tok):(cY prog w).is (.inr x) (.str x t)=true:=Sb x t
inductive V where
 |cx|bl (b:Bool)|int (i:Int)|str (x:Str)|M6 (b:Array UInt8)|flt (b:UInt64)|ref (a:Addr)|ty (n:String)
 deriving DecidableEq
def ck:V→Value→Prop
 | .cx,u=>u=au5
 | .bl b,u=>u=asU b
 | .int i,u=>∃t,u=asn i t
 | .str x,u=>∃t,u=asN x t
 | .M6 b,u=>∃t,u=av3 b t
 | .flt b,u=>∃t,u=av4 b t
 | .ref a,u=>u=aqq a
 | .ty n,u=>u=arB n
abbrev cg:List V→List Value→Prop:=Paired ck
theorem cg.length{xs:List V}{us:List Value}(r:cg xs us):xs.length=us.length:=aum r
theorem cg.get:∀{xs:List V} {us:List Value} {i:Nat} {x:V},cg xs us→xs[i]? =some x→∃u,us[i]? =some u∧ck x u
 |_,_,_,_,.nil,e=>by simp at e
 |_,_,0,_,.cons r _,e=>by simp at e;subst e;exact⟨_,rfl,r⟩
 |_,_,i+1,x,.cons _ t,e=>by
  obtain⟨u,h1,h2⟩:=cg.get (i:=i) (x:=x) t (by simpa using e);exact⟨u,by simpa using h1,h2⟩
theorem cg.append:∀{xs ys:List V} {us ws:List Value},cg xs us→cg ys ws→cg (xs++ys) (us++ws):=by
 intro xs ys us ws h s
 induction h with
 |nil=>exact s
 |cons r t ih=>exact .cons r ih
theorem cg.take:∀{xs:List V} {us:List Value} (n:Nat),cg xs us→cg (xs.take n) (us.take n)
 |_,_,0,_=>.nil
 |_,_,_+1,.nil=>.nil
 |_,_,n+1,.cons r t=>.cons r (cg.take n t)
theorem cg.drop:∀{xs:List V} {us:List Value} (n:Nat),cg xs us→cg (xs.drop n) (us.drop n)
 |_,_,0,r=>r
 |_,_,_+1,.nil=>.nil
 |_,_,n+1,.cons _ t=>cg.drop n t
def rQ:Option V→Option Value→Prop
 |some v,some u=>ck v u
 |none,none=>True
 |_,_=>False
def KV{κ:Type}:List (κ×V)→List (κ×Value)→Prop:=Paired fun(p:κ×V) (q:κ×Value)=>p.1=q.1∧ck p.2 q.2
def kV:Key→V
 | .inl i=>.int i
 | .inr x=>.str x
inductive HO where
 |aN (xs:List V)
 |fR (xs:List V)
 |dK (kvs:List (Key×V))|dT (kvs:List (List Key×V))
 |set (S:Int→Bool) (n:Nat)
 |bR (C dx:Addr) (fs:List (Str×V))
 |own (x:Addr)
 |xd (fs:List (Str×V))
 |met (f x:Addr)
 |rng (lo hi:Int)
 |GD (o:Obj) (u:HO)
 |YT (ps:Array Value)
 |ext (φ:Heap→Prop)
abbrev Hp:=Addr→Option HO
def aJ(H:Hp)(a:Addr)(o:HO):Hp:=fun b=>if b=a then some o else H b
theorem au{H:Hp}{a:Addr}{o:HO}:aJ H a o a=some o:=by unfold aJ;rw[if_pos rfl]
theorem ai{H:Hp}{a b:Addr}{o:HO}(h:b≠a):aJ H a o b=H b:=by unfold aJ;rw[if_neg h]
theorem j5{H:Hp}{a:Addr}{o u:HO}:aJ (aJ H a o) a u=aJ H a u:=by
 funext b;unfold aJ;split<;>rfl
theorem dy{H:Hp}{a b:Addr}{o u:HO}(h:H a=some o)(h':H b=some u)(d:o≠u):a≠b:=by
 intro e;subst e;rw[h]at h';exact d (apC h')
theorem aj{H:Hp}{a b:Addr}{o:HO}(h:H a=some o)(h':H b=none):a≠b:=by
 intro e;subst e;rw[h]at h';cases h'
section
variable(P:Program)(w:World)
def gK(H:Hp)(h:Heap)(a:Addr):HO→Prop
 | .aN xs=>xs.length≤sizeLine∧∃(bX:List Value) (n:Nat),cg xs bX∧h.get? a=some {cls:=.type "list",data:=.seq bX.toArray n}
 | .fR xs=>xs.length≤sizeLine∧∃bX:List Value,cg xs bX∧IsTup h a bX.toArray
 | .dK kvs=>kvs.length≤sizeLine∧(a==sysModules)=false∧∃vs,KV kvs vs∧h.DictOf (cY P w) a vs
 | .dT kvs=>kvs.length≤sizeLine∧(a==sysModules)=false∧∃xs:List (List Key×Addr×Value),
   Paired (fun(p:List Key×V) (q:List Key×Addr×Value)=>p.1=q.1∧H q.2.1=some (.fR (p.1.map kV))∧ck p.2 q.2.2) kvs xs∧
   ∃o es ep,h.get? a=some o∧o.ExactDict∧o.data=.dict es ep∧es.toList=xs.map (entryOfKey (tupleKind (cY P w)))∧(xs.map (·.1)).Nodup
 | .set S n=>h.SetOf (intKind P w) a S n
 | .bR C dx fs=>H dx=some (.own a)∧fs.length≤1000∧dx≠a∧h.get? a=some (arp C dx)∧
   ∃mA,h.Ns1 dx mA∧(∀f,rQ (fs.lookup f) (mA f))∧auy mA (fs.map (·.1))
 | .own _=>∃o,h.get? a=some o
 | .xd fs=>∃mA,h.Ns1 a mA∧∀f,rQ (fs.lookup f) (mA f)
 | .rng lo hi=>∃t u v,h.get? a=some {cls:=.type "range",data:=.fields #[.int lo t,.int hi u,.int 1 v]}
 | .GD o u=>h.get? a=some o∧gK H h a u
 | .YT ps=>h.get? a=some {cls:=.none,data:=.fields ps}
 | .met f x=>h.get? a=some (atp (.ref f) (.ref x))
 | .ext φ=>φ h∧(∃o,h.get? a=some o)∧∀h1 h2:Heap,φ h1→(∀o,h1.get? a=some o→h2.get? a=some o)→φ h2
def ur(H:Hp)(h:Heap):Prop:=∀a o,H a=some o→gK P w H h a o
end
section
variable{P:Program}{w:World}{H H':Hp}{h h':Heap}{a:Addr}{o:HO}
theorem gK.lt(x:gK P w H h a o):a<h.objs.size:=by
 cases o with
 |aN xs=>obtain⟨_,_,_,_,e⟩:=x;exact ap0 e
 |fR xs=>obtain⟨_,_,_,p⟩:=x;exact p.lt
 |dK kvs=>obtain⟨_,_,_,_,o,_,_,e,_⟩:=x;exact ap0 e
 |dT kvs=>obtain⟨_,_,_,_,o,_,_,e,_⟩:=x;exact ap0 e
 |set S n=>obtain⟨o,_,_,_,e,_⟩:=x;exact ap0 e
 |bR C dx fs=>obtain⟨_,_,_,e,_⟩:=x;exact ap0 e
 |own y=>obtain⟨_,e⟩:=x;exact ap0 e
 |xd fs=>obtain⟨_,⟨_,_,_,e,_⟩,_⟩:=x;exact ap0 e
 |rng lo hi=>obtain⟨_,_,_,e⟩:=x;exact ap0 e
 |GD ob u=>obtain⟨e,_⟩:=x;exact ap0 e
 |YT ps=>exact ap0 (show h.get? a=some _ from x)
 |met f y=>exact ap0 (show h.get? a=some _ from x)
 |ext φ=>obtain⟨_,⟨_,e⟩,_⟩:=x;exact ap0 e
theorem Paired.acj{α β:Type}{F G:α→β→Prop}:∀{l₁:List α} {l₂:List β},Paired F l₁ l₂→(∀a b,F a b→G a b)→Paired G l₁ l₂:=by
 intro l m h f
 induction h with
 |nil=>exact .nil
 |cons r t ih=>exact .cons (f _ _ r) ih
theorem gK.T3(x:gK P w H h a o)(k:∀b u,(b=a∨H b=some (.own a))→h.get? b=some u→h'.get? b=some u)
  (ho:∀b,H b=some (.own a)→H' b=some (.own a))(ht:∀b xs,H b=some (.fR xs)→H' b=some (.fR xs)):gK P w H' h' a o:=by
 induction o with
 |aN xs=>obtain⟨z,bX,n,r,e⟩:=x;exact⟨z,bX,n,r,k _ _ (.inl rfl) e⟩
 |fR xs=>obtain⟨z,bX,r,ob,e,c⟩:=x;exact⟨z,bX,r,ob,k _ _ (.inl rfl) e,c⟩
 |dK kvs=>obtain⟨z,y,vs,r,ob,es,ep,e,c⟩:=x;exact⟨z,y,vs,r,ob,es,ep,k _ _ (.inl rfl) e,c⟩
 |dT kvs=>
  obtain⟨z,y,xs,r,ob,es,ep,e,c⟩:=x;exact⟨z,y,xs,Paired.acj r fun p q z=>⟨z.1,ht _ _ z.2.1,z.2.2⟩,ob,es,ep,k _ _ (.inl rfl) e,c⟩
 |set S n=>obtain⟨ob,es,ep,t,e,c⟩:=x;exact⟨ob,es,ep,t,k _ _ (.inl rfl) e,c⟩
 |bR C dx fs=>
  obtain⟨d,z,ne,e,mA,⟨od,es,ep,e2,c⟩,r⟩:=x;exact⟨ho _ d,z,ne,k _ _ (.inl rfl) e,mA,⟨od,es,ep,k _ _ (.inr d) e2,c⟩,r⟩
 |own y=>obtain⟨ob,e⟩:=x;exact⟨ob,k _ _ (.inl rfl) e⟩
 |xd fs=>obtain⟨mA,⟨od,es,ep,e,c⟩,r⟩:=x;exact⟨mA,⟨od,es,ep,k _ _ (.inl rfl) e,c⟩,r⟩
 |rng lo hi=>obtain⟨t,u,v,e⟩:=x;exact⟨t,u,v,k _ _ (.inl rfl) e⟩
 |GD ob u ih=>obtain⟨e,q⟩:=x;exact⟨k _ _ (.inl rfl) e,ih q⟩
 |YT ps=>
  have e:h.get? a=some {cls:=.none,data:=.fields ps}:=x;show h'.get? a=some {cls:=.none,data:=.fields ps};exact k a _ (.inl rfl) e
 |met f y=>
  have e:h.get? a=some (atp (.ref f) (.ref y)):=x;show h'.get? a=some (atp (.ref f) (.ref y));exact k a _ (.inl rfl) e
 |ext φ=>obtain⟨p,⟨o,e⟩,st⟩:=x;exact⟨st _ _ p fun o q=>k _ _ (.inl rfl) q,⟨o,k _ _ (.inl rfl) e⟩,st⟩
theorem ur.lt(x:ur P w H h)(e:H a=some o):a<h.objs.size:=(x a o e).lt
theorem ur.fresh(x:ur P w H h)(e:h.objs.size≤a):H a=none:=by
 cases q:H a with
 |none=>rfl
 |some u=>exact absurd (ap9 (x.lt q) e) (arf _)
theorem ur.kept(x:ur P w H h)(k:∀b u,h.get? b=some u→h'.get? b=some u):ur P w H h':=fun a o e=>
 (x a o e).T3 (fun b u _ q=>k b u q) (fun _ q=>q) fun _ _ q=>q
theorem ur.vd(x:ur P w H h)(k:∀b u,h.get? b=some u→h'.get? b=some u)(hp:h.objs.size≤a)(new:gK P w (aJ H a o) h' a o):ur P w (aJ H a o) h':=fun b u e=>by
 have hn:=x.fresh hp;by_cases hb:b=a
 ·subst hb;rw[au]at e;cases e;exact new
 ·rw[ai hb]at e;exact(x b u e).T3 (fun c v _ q=>k c v q) (fun c q=>by rw[ai (aj q hn)];exact q) fun c xs q=>by rw[ai (aj q hn)];exact q
end
def Rd(H:Hp)(a:Addr)(u:HO):Prop:=H a=some u∨∃o,H a=some (.GD o u)
theorem Rd.ok{P:Program}{w:World}{H:Hp}{h:Heap}{a:Addr}{u:HO}(r:Rd H a u)(x:ur P w H h):gK P w H h a u:=by
 rcases r with r|⟨o,r⟩
 ·exact x a u r
 ·obtain⟨_,q⟩:=x a _ r;exact q
def Mut:Option HO→Prop
 |some (.aN _)=>True
 |some (.dK _)=>True
 |some (.dT _)=>True
 |some (.set _ _)=>True
 |some (.bR _ _ _)=>True
 |some (.ext _)=>True
 |_=>False
section
variable{P:Program}{w:World}{H:Hp}{h h':Heap}{x e:Addr}{o':HO}
theorem ur.write(ok:ur P w H h)(mu:Mut (H x))(he:e=x∨H e=some (.own x))(k:∀b u,b≠e→h.get? b=some u→h'.get? b=some u)(heo:∃u,h'.get? e=some u)
  (new:gK P w (aJ H x o') h' x o'):ur P w (aJ H x o') h':=fun b u q=>by
 have abT:∀c y,H c=some (.own y)→c≠x:=fun c y r z=>by subst z;rw[r]at mu;exact mu
 have agF:∀c xs,H c=some (.fR xs)→c≠x:=fun c xs r z=>by subst z;rw[r]at mu;exact mu
 by_cases hb:b=x
 ·subst hb;rw[au]at q;cases q;exact new
 ·rw[ai hb]at q;by_cases Wu:b=e
  ·have q':H b=some (.own x):=by
    rcases he with z|z
    ·exact absurd (Wu.trans z) hb
    ·rw[Wu];exact z
   rw[q]at q';cases q';obtain⟨v,hv⟩:=heo;exact⟨v,by rw[Wu];exact hv⟩
  ·refine(ok b u q).T3 (fun c v hc r=>k c v ?_ r) (fun c r=>by rw[ai (abT c b r)];exact r) fun c xs r=>by rw[ai (agF c xs r)];exact r
   rcases hc with rfl|hc
   ·exact Wu
   ·rintro rfl;rcases he with z|z
    ·exact abT c b hc z
    ·rw[hc]at z;cases z;exact hb rfl
end
structure Un(fs ex:List Addr)(H H':Hp)(h h':Heap):Prop where
 keep:∀b o,h.get? b=some o→H b=none→b∉fs→b∉ex→h'.get? b=some o
 slot:∀b o,h.get? b=some o→H b=none→b∈fs→b∉ex→∃sl,h'.get? b=some {o with slots:=sl}
 free:∀b o,h.get? b=some o→H b=none→b∉ex→H' b=none
 there:∀b o,h.get? b=some o→b∉ex→∃o',h'.get? b=some o'
 Kx:∀b xs,H b=some (.fR xs)→H' b=some (.fR xs)
 JU:∀b o u,H b=some (.GD o u)→H' b=some (.GD o u)
 KD:∀b ps,H b=some (.YT ps)→∃more,H' b=some (.YT (ps++more))
section
variable{fs E7 ex ex':List Addr}{H H1 H2:Hp}{h h1 h2 h':Heap}{a x e:Addr}{o:HO}
theorem Un.any(u:Un fs ex H H1 h h1){b:Addr}{ob:Obj}(q:h.get? b=some ob)(n:H b=none)(hx:b∉ex):∃sl,h1.get? b=some {ob with slots:=sl}:=by
 by_cases hb:b∈fs
 ·exact u.slot b ob q n hb hx
 ·exact⟨ob.slots,u.keep b ob q n hb hx⟩
theorem Un.kept(k:∀b u,h.get? b=some u→h'.get? b=some u):Un fs ex H H h h':=
 ⟨fun b ob q _ _ _=>k b ob q,fun b ob q _ _ _=>⟨ob.slots,k b ob q⟩,fun _ _ _ n _=>n,fun b ob q _=>⟨ob,k b ob q⟩,fun _ _ q=>q,fun _ _ _ q=>q,fun _ ps q=>⟨#[],by rw[q];simp⟩⟩
theorem Un.refl:Un fs ex H H h h:=Un.kept fun _ _ q=>q
theorem Un.vd(k:∀b u,h.get? b=some u→h'.get? b=some u)(hp:h.objs.size≤a)(hn:H a=none):Un fs ex H (aJ H a o) h h' where
 keep:=fun b u q _ _ _=>k b u q
 slot:=fun b u q _ _ _=>⟨u.slots,k b u q⟩
 free:=fun b u q n _=>by rw[ai (aqo (ap9 (ap0 q) hp))];exact n
 there:=fun b u q _=>⟨u,k b u q⟩
 Kx:=fun b xs q=>by rw[ai (aj q hn)];exact q
 JU:=fun b u xs q=>by rw[ai (aj q hn)];exact q
 KD:=fun b ps q=>⟨#[],by rw[ai (aj q hn),q];simp⟩
theorem Un.write(mu:Mut (H x))(he:e=x∨H e=some (.own x))(k:∀b u,b≠e→h.get? b=some u→h'.get? b=some u)(heo:∃u,h'.get? e=some u):Un fs ex H (aJ H x o) h h':=by
 have hx:∀b,H b=none→b≠x:=fun b n z=>by subst z;rw[n]at mu;exact mu
 have hb:∀b,H b=none→b≠e:=fun b n z=>by
  subst z;rcases he with r|r
  ·exact hx b n r
  ·rw[n]at r;cases r
 have hm:∀b u,H b=some u→¬Mut (some u)→b≠x:=fun b u q nm z=>by subst z;rw[q]at mu;exact nm mu
 refine⟨fun b u q n _ _=>k b u (hb b n) q,fun b u q n _ _=>⟨u.slots,k b u (hb b n) q⟩,fun b u q n _=>by rw[ai (hx b n)];exact n,fun b u q _=>?_,
  fun b xs q=>by rw[ai (hm b _ q fun z=>z)];exact q,fun b u xs q=>by rw[ai (hm b _ q fun z=>z)];exact q,fun b ps q=>⟨#[],by rw[ai (hm b _ q fun z=>z),q];simp⟩⟩
 by_cases Wu:b=e
 ·subst Wu;exact heo
 ·exact⟨u,k b u Wu q⟩
end
def trk(h:Heap)(H:Hp):List Addr:=(ap4 h.objs.size).filter fun a=>(H a).isSome
def JJ(h:Heap)(H:Hp):Heap:=PySem.W.hideAll h (trk h H)
theorem Sn(h:Heap)(H:Hp):(JJ h H).objs.size=h.objs.size:=PySem.W.hideAll_size _ _
theorem VB{h:Heap}{H:Hp}{b:Addr}{o:Obj}(e:h.get? b=some o)(n:H b=none):(JJ h H).get? b=some o:=
 PySem.W.hideAll_get _ e fun hm=>by
  have q:(H b).isSome=true:=(ash.mp hm).2;rw[n]at q;simp at q
theorem Xf{h:Heap}{H:Hp}{b:Addr}{o:Obj}(e:(JJ h H).get? b=some o):h.get? b=some o∧H b=none:=by
 have e':h.get? b=some o:=PySem.W.of_hideAll (trk h H) e;refine⟨e',?_⟩;cases q:H b with
 |none=>rfl
 |some x=>
  have hm:b∈trk h H:=ash.mpr ⟨apP.mpr (ap0 e'),by simp[q]⟩;have z:(JJ h H).get? b=none:=PySem.W.hideAll_none (trk h H) hm;rw[z]at e;cases e
structure Mod(K:apw)(mg:Str→Option Value)(base:Heap):Prop where
 kin:K.In base
 JN:base.Ns mainGlobals mg
 blt:∃mb,base.Ns builtinsNs mb∧∀x:Str,x≠"__name__"→mb x=bootBuiltins x
 nolimit:base.NoLimit
structure Cx where
 prog:Program
 w:World
 K:apw
 mg:Str→Option Value
 base:Heap
 A:Around
 N:List Str
 Hq:Shared
 H_0:Hp
 env:Env
 outer:List Env
 stack:List Env
 ex:List Addr
 fn:Str→Bool
 GQ:Bool
 pn:List (Addr×Obj)
 xe:Value→Shared→Prop
def VJ(l:List Env):List Addr:=l.filterMap (·.frame)
abbrev Cx.fs(X:Cx):List Addr:=VJ X.outer
def Vis(sc:Scope)(x:Str):Prop:=sc.names.lookup x=some .local∨sc.names.lookup x=some .cell∨sc.names.lookup x=some .free
def Loc(sc:Scope)(x:Str):Prop:=sc.names.lookup x=some .local∨sc.names.lookup x=some .cell
def Look(env:Env)(h:Heap)(m:Str→Option Value)(x:Str)(u:Value):Prop:=
 (env.kindOf x=some .local∧m x=some u)∨((env.kindOf x=some .cell∨env.kindOf x=some .free)∧∃c,env.cells.lookup x=some c∧h.IsCell c (some u))
structure Cx.Ok(X:Cx):Prop where
 mod:Mod X.K X.mg X.base
 kind:X.env.scope.kind=.function
 JN:X.env.globals=mainGlobals
 blt:X.env.builtins=builtinsNs
 above:X.Hq.heap.objs.size≤X.env.locals
 inj:∀x y c,X.env.cells.lookup x=some c→X.env.cells.lookup y=some c→x=y
 has:∀x,(X.env.kindOf x=some .cell∨X.env.kindOf x=some .free)→∃c,X.env.cells.lookup x=some c
 cab:∀x c,X.fn x=true→X.env.cells.lookup x=some c→X.Hq.heap.objs.size≤c
 hd:X.GQ=true→X.A.handled=none
 frames:X.A.frames=some X.stack
 stk:X.stack=X.outer∨(X.stack=X.env::X.outer∧X.env.frame=some X.env.locals)
 exf:∀b∈X.ex,b≠X.env.locals∧∀x c,X.env.cells.lookup x=some c→c≠b
 bs:∀b o,X.base.get? b=some o→X.Hq.heap.get? b=some o∧X.H_0 b=none
 XU:X.base.objs.size≤X.Hq.heap.objs.size
 U6:∀b o,X.base.get? b=some o→b∉X.ex
 VO:∀b∈X.ex,b∉X.fs
 Cr:X.Hq.heap.FunFrames X.base X.outer
 frf:∀b∈X.fs,X.H_0 b=none
structure bu(X:Cx)(ah:List (Addr×Obj))(σ:List (Option V))(H:Hp)(s:Shared):Prop where
 ok:X.Ok
 os:s.os=X.Hq.os
 qV:AllBare s.gens
 base:Un X.fs X.ex X.H_0 H X.Hq.heap s.heap
 loc:∃m,s.heap.Ns X.env.locals m∧∀(i:Nat) (x:Str) (v:V),X.N[i]? =some x→σ[i]? =some (some v)→Vis X.env.scope x→∃u,ck v u∧Look X.env s.heap m x u
 cell:∀x c,X.env.cells.lookup x=some c→∃v,s.heap.IsCell c v
 free:H X.env.locals=none
 tT:∀x c,X.env.cells.lookup x=some c→H c=none
 pin:∀p∈X.pn++ah,s.heap.get? p.1=some p.2∧H p.1=none∧p.1≠X.env.locals∧p.1∉X.fs∧∀v,p.2.data≠.cell v
 du:ur X.prog X.w H s.heap
 len:σ.length=X.N.length
section
variable{X:Cx}{ah:List (Addr×Obj)}{σ:List (Option V)}{H H':Hp}{s:Shared}{h':Heap}
theorem Cx.Ok.agI(ok:X.Ok){b:Addr}{o:Obj}(e:X.base.get? b=some o):b∉X.fs:=fun hb=>by
 have:=(ok.Cr.mem hb).1;rw[e]at this;cases this
theorem bu.bs(I:bu X ah σ H s):∀b o,X.base.get? b=some o→s.heap.get? b=some o∧H b=none:=fun b o e=>
 ⟨I.base.keep b o (I.ok.bs b o e).1 (I.ok.bs b o e).2 (I.ok.agI e) (I.ok.U6 b o e),I.base.free b o (I.ok.bs b o e).1 (I.ok.bs b o e).2 (I.ok.U6 b o e)⟩
theorem bu.bk(I:bu X ah σ H s):∀b o,X.base.get? b=some o→s.heap.get? b=some o:=fun b o e=>(I.bs b o e).1
theorem bu.mod(I:bu X ah σ H s):Mod X.K X.mg X.base:=I.ok.mod
theorem bu.L8(I:bu X ah σ H s):X.K.In s.heap:=I.ok.mod.kin.keeps I.bk
theorem bu.lt(I:bu X ah σ H s):X.env.locals<s.heap.objs.size:=let⟨_,hn,_⟩:=I.loc;hn.lt
theorem bu.sz(I:bu X ah σ H s):X.Hq.heap.objs.size≤s.heap.objs.size:=aqa I.ok.above (asV I.lt)
theorem bu.agH(I:bu X ah σ H s){a:Addr}(h:s.heap.objs.size≤a):a∉X.fs:=fun hb=>by
 obtain⟨_,o,ho,_⟩:=I.ok.Cr.mem hb;exact absurd (ap9 (ap0 ho) (aqa I.sz h)) (arf _)
theorem bu.cne(I:bu X ah σ H s):∀x c,X.env.cells.lookup x=some c→c≠X.env.locals:=fun x c e z=>by
 obtain⟨v,o,ho,hd⟩:=I.cell x c e;obtain⟨m,⟨o',es,ep,Tq,hd',_⟩,_⟩:=I.loc;rw[z,Tq]at ho;cases ho;rw[hd']at hd;cases hd
theorem bu.Cr(I:bu X ah σ H s):s.heap.FunFrames X.base X.outer:=by
 have all:∀(l:List Env),(∀b∈VJ l,b∈X.fs)→X.Hq.heap.FunFrames X.base l→s.heap.FunFrames X.base l:=by
  intro l
  induction l with
  |nil=>intro _ _;trivial
  |cons env r ih=>
   intro hs hl;obtain⟨hk,⟨L,o,hf,hn,ho,hd⟩,hr⟩:=hl;have hL:L∈X.fs:=hs L (by unfold VJ;rw[asf,hf];exact apD);obtain⟨sl,e⟩:=I.base.slot L o ho (I.ok.frf L hL) hL fun z=>I.ok.VO L z hL;exact⟨hk,⟨L,_,hf,hn,e,hd⟩,ih (fun b hb=>hs b (by unfold VJ;rw[asf,hf];exact apy _ hb)) hr⟩
 exact all X.outer (fun _ hb=>hb) I.ok.Cr
theorem bu.stack(I:bu X ah σ H s):s.heap.FunFrames X.base X.stack:=by
 rcases I.ok.stk with e|⟨e,hf⟩
 ·rw[e];exact I.Cr
 ·rw[e];obtain⟨m,hn,_⟩:=I.loc;refine .cons (by rw[I.ok.kind];decide) hf hn ?_ I.Cr;exact Heap.get?_none_of_le (aqa I.ok.XU I.ok.above)
theorem bu.Ni(I:bu X ah σ H s):∀b∈VJ X.stack,b∈X.env.locals::X.fs:=fun b hb=>by
 rcases I.ok.stk with e|⟨e,hf⟩
 ·rw[e]at hb;exact apy _ hb
 ·rw[e]at hb;unfold VJ at hb;rw[asf,hf]at hb;exact hb
theorem bu.P8(I:bu X ah σ H s):∀b∈VJ X.stack,H b=none:=fun b hb=>by
 rcases apA.mp (I.Ni b hb)with e|hb
 ·rw[e];exact I.free
 ·obtain⟨_,o,ho,_⟩:=I.ok.Cr.mem hb;exact I.base.free b o ho (I.ok.frf b hb) fun z=>I.ok.VO b z hb
theorem bu.step{g':Array GenState}{t':Nat}{d':Drawn}{ch:List Addr}(I:bu X ah σ H s)
  (Wt:∀b∈ch,(b∈X.ex∨X.Hq.heap.objs.size≤b)∧b≠X.env.locals∧(∀x c,X.env.cells.lookup x=some c→c≠b)∧∀p∈X.pn++ah,p.1≠b)
  (keep:∀b o,b≠X.env.locals→b∉X.fs→b∉ch→s.heap.get? b=some o→H b=none→h'.get? b=some o)
  (slot:∀b o,b≠X.env.locals→b∈X.fs→b∉ch→s.heap.get? b=some o→H b=none→∃sl,h'.get? b=some {o with slots:=sl})(free:∀b o,b∉ch→s.heap.get? b=some o→H b=none→H' b=none)
  (there:∀b o,b∉ch→s.heap.get? b=some o→∃o',h'.get? b=some o')
  (Kx:∀b xs,H b=some (.fR xs)→H' b=some (.fR xs))(JU:∀b o u,H b=some (.GD o u)→H' b=some (.GD o u))(KD:∀b ps,H b=some (.YT ps)→∃more,H' b=some (.YT (ps++more)))
  (ns:∀m,s.heap.Ns X.env.locals m→h'.Ns X.env.locals m)(du:ur X.prog X.w H' h')(hg:AllBare g'):
  bu X ah σ H' {s with heap:=h',gens:=g',drawn:=d',toks:=t'}:=by
 have neL:∀b o,X.Hq.heap.get? b=some o→b≠X.env.locals:=fun b o e=>aqo (ap9 (ap0 e) I.ok.above);have neC:∀b o,X.Hq.heap.get? b=some o→b∉X.ex→b∉ch:=fun b o e hx hb=>by
  rcases(Wt b hb).1 with z|z
  ·exact hx z
  ·exact absurd (ap9 (ap0 e) z) (arf _)
 have cellK:∀x c,X.env.cells.lookup x=some c→∀v,s.heap.IsCell c v→h'.IsCell c v:=fun x c e v ⟨o,ho,hd⟩=>by
  have nch:c∉ch:=fun z=>(Wt c z).2.2.1 x c e rfl;by_cases hc:c∈X.fs
  ·obtain⟨sl,q⟩:=slot c o (I.cne x c e) hc nch ho (I.tT x c e);exact⟨_,q,hd⟩
  ·exact⟨o,keep c o (I.cne x c e) hc nch ho (I.tT x c e),hd⟩
 refine⟨I.ok,I.os,hg,⟨fun b o e n hb hx=>?_,fun b o e n hb hx=>?_,fun b o e n hx=>?_,fun b o e hx=>?_,fun b xs e=>Kx b xs (I.base.Kx b xs e),fun b o xs e=>JU b o xs (I.base.JU b o xs e),fun b ps e=>?_⟩,?_,fun x c e=>?_,?_,fun x c e=>?_,fun p hp=>?_,du,I.len⟩
 ·exact keep b o (neL b o e) hb (neC b o e hx) (I.base.keep b o e n hb hx) (I.base.free b o e n hx)
 ·obtain⟨sl,e1⟩:=I.base.slot b o e n hb hx;obtain⟨sl',e2⟩:=slot b _ (neL b o e) hb (neC b o e hx) e1 (I.base.free b o e n hx);exact⟨sl',e2⟩
 ·obtain⟨o',e1⟩:=I.base.there b o e hx;exact free b o' (neC b o e hx) e1 (I.base.free b o e n hx)
 ·obtain⟨o',e1⟩:=I.base.there b o e hx;exact there b o' (neC b o e hx) e1
 ·obtain⟨m1,e1⟩:=I.base.KD b ps e;obtain⟨m2,e2⟩:=KD b _ e1;exact⟨m1++m2,by rw[e2,Array.append_assoc]⟩
 ·obtain⟨m,hn,hl⟩:=I.loc;refine⟨m,ns m hn,fun i x v e1 e2 e3=>?_⟩;obtain⟨u,r,l⟩:=hl i x v e1 e2 e3;refine⟨u,r,?_⟩;rcases l with l|⟨k,c,e,z⟩
  ·exact .inl l
  ·exact .inr ⟨k,c,e,cellK x c e _ z⟩
 ·obtain⟨v,z⟩:=I.cell x c e;exact⟨v,cellK x c e v z⟩
 ·obtain⟨m,⟨o,_,_,ho,_⟩,_⟩:=I.loc;exact free _ o (fun z=>(Wt _ z).2.1 rfl) ho I.free
 ·obtain⟨v,o,ho,hd⟩:=I.cell x c e;exact free c o (fun z=>(Wt c z).2.2.1 x c e rfl) ho (I.tT x c e)
 ·obtain⟨e,n,ne,nf,d⟩:=I.pin p hp;have nch:p.1∉ch:=fun z=>(Wt p.1 z).2.2.2 p hp rfl;exact⟨keep p.1 p.2 ne nf nch e n,free p.1 p.2 nch e n,ne,nf,d⟩
theorem bu.un{t':Nat}(I:bu X ah σ H s)(u:Un X.fs [] H H' s.heap h')(du:ur X.prog X.w H' h'):bu X ah σ H' {s with heap:=h',toks:=t'}:=by
 obtain⟨m,⟨o,es,ep,ho,r⟩,_⟩:=id I.loc;obtain⟨sl,hL⟩:=u.any ho I.free (by simp);exact I.step (g':=s.gens) (d':=s.drawn) (ch:=[]) (fun _ z=>nomatch z) (fun b o _ hb _ e n=>u.keep b o e n hb (by simp)) (fun b o _ hb _ e n=>u.slot b o e n hb (by simp)) (fun b o _ e n=>u.free b o e n (by simp)) (fun b o _ e=>u.there b o e (by simp)) u.Kx u.JU u.KD (fun m' hm=>by
  obtain⟨o',es',ep',Tq,r'⟩:=hm;rw[ho]at Tq;cases Tq;exact⟨_,es',ep',hL,r'⟩) du I.qV
theorem bu.call{g':Array GenState}{t':Nat}{d':Drawn}{ch:List Addr}(I:bu X ah σ H s)(u:Un (VJ X.stack) ch H H' s.heap h')(du:ur X.prog X.w H' h')(hg:AllBare g')
  (Wt:∀b∈ch,(b∈X.ex∨X.Hq.heap.objs.size≤b)∧b≠X.env.locals∧(∀x c,X.env.cells.lookup x=some c→c≠b)∧∀p∈X.pn++ah,p.1≠b):
  bu X ah σ H' {s with heap:=h',gens:=g',drawn:=d',toks:=t'}:=by
 obtain⟨m,⟨o,es,ep,ho,r⟩,_⟩:=id I.loc;obtain⟨sl,hL⟩:=u.any ho I.free fun z=>(Wt _ z).2.1 rfl;exact I.step (ch:=ch) Wt (fun b o hL hb hc e n=>u.keep b o e n (fun z=>(apA.mp (I.Ni b z)).elim hL hb) hc) (fun b o _ _ hc e n=>u.any e n hc) (fun b o hc e n=>u.free b o e n hc) (fun b o hc e=>u.there b o e hc) u.Kx u.JU u.KD (fun m' hm=>by
  obtain⟨o',es',ep',Tq,r'⟩:=hm;rw[ho]at Tq;cases Tq;exact⟨_,es',ep',hL,r'⟩) du hg
theorem bu.gf{t':Nat}{it:Addr}(I:bu X ah σ H s)(k:∀b o,b≠it→s.heap.get? b=some o→h'.get? b=some o)(hn:H it=none)(hL:it≠X.env.locals)
  (h1:it∈X.ex∨X.Hq.heap.objs.size≤it)(h2:∀x c,X.env.cells.lookup x=some c→c≠it)(h3:∀p∈X.pn++ah,p.1≠it):bu X ah σ H {s with heap:=h',toks:=t'}:=by
 have nit:∀b u,H b=some u→b≠it:=fun b u e z=>by rw[z,hn]at e;cases e
 refine I.step (g':=s.gens) (d':=s.drawn) (ch:=[it]) (fun b hb=>?_) (fun b o _ _ hc e _=>k b o (fun z=>hc (by simp[z])) e) (fun b o _ _ hc e _=>⟨o.slots,k b o (fun z=>hc (by simp[z])) e⟩) (fun _ _ _ _ n=>n)
  (fun b o hc e=>⟨o,k b o (fun z=>hc (by simp[z])) e⟩) (fun _ _ e=>e) (fun _ _ _ e=>e) (fun b ps e=>⟨#[],by rw[e];simp⟩) (fun m hm=>?_) (fun b u e=>?_) I.qV
 ·have e:b=it:=by simpa using hb
  subst e;exact⟨h1,hL,h2,h3⟩
 ·obtain⟨o,es,ep,ho,r⟩:=hm;exact⟨o,es,ep,k _ o (ap1 hL) ho,r⟩
 ·refine(I.du b u e).T3 (fun c v hc q=>k c v ?_ q) (fun _ q=>q) fun _ _ q=>q;rcases hc with z|z
  ·rw[z];exact nit b u e
  ·exact nit c _ z
theorem bu.tok(I:bu X ah σ H s)(t:Nat):bu X ah σ H {s with toks:=t}:=I.un (h':=s.heap) (t':=t) Un.refl I.du
theorem bu.kept{t':Nat}(I:bu X ah σ H s)(k:∀b u,s.heap.get? b=some u→h'.get? b=some u):bu X ah σ H {s with heap:=h',toks:=t'}:=I.un (Un.kept k) (I.du.kept k)
theorem bu.vd{a:Addr}{o:HO}{t':Nat}(I:bu X ah σ H s)(k:∀b u,s.heap.get? b=some u→h'.get? b=some u)(hp:s.heap.objs.size≤a)(new:gK X.prog X.w (aJ H a o) h' a o):
  bu X ah σ (aJ H a o) {s with heap:=h',toks:=t'}:=I.un (Un.vd k hp (I.du.fresh hp)) (I.du.vd k hp new)
theorem bu.write{x e:Addr}{o:HO}{t':Nat}(I:bu X ah σ H s)(mu:Mut (H x))(he:e=x∨H e=some (.own x))(k:∀b u,b≠e→s.heap.get? b=some u→h'.get? b=some u)(heo:∃u,h'.get? e=some u)
  (new:gK X.prog X.w (aJ H x o) h' x o):bu X ah σ (aJ H x o) {s with heap:=h',toks:=t'}:=I.un (Un.write mu he k heo) (I.du.write mu he k heo new)
theorem bu.weak{σ':List (Option V)}(I:bu X ah σ H s)(hl:σ'.length=σ.length)(w:∀(i:Nat) v,σ'[i]? =some (some v)→σ[i]? =some (some v)):bu X ah σ' H s:=
 ⟨I.ok,I.os,I.qV,I.base,let⟨m,hn,tN⟩:=I.loc;⟨m,hn,fun i x v e1 e2 e3=>tN i x v e1 (w i v e2) e3⟩,I.cell,I.free,I.tT,I.pin,I.du,hl.trans I.len⟩
theorem bu.Qo{X7:List (Addr×Obj)}(I:bu X ah σ H s)(h:∀p∈X7,s.heap.get? p.1=some p.2∧H p.1=none∧p.1≠X.env.locals∧p.1∉X.fs∧∀v,p.2.data≠.cell v):bu X X7 σ H s:=
 ⟨I.ok,I.os,I.qV,I.base,I.loc,I.cell,I.free,I.tT,fun p hp=>(apx.mp hp).elim (fun z=>I.pin p (aqr _ z)) (h p),I.du,I.len⟩
theorem Ee{N:List Str}(hN:N.Nodup){i j:Nat}{x:Str}(a:N[i]? =some x)(b:N[j]? =some x):i=j:=by
 obtain⟨h1,e1⟩:=apu.mp a;obtain⟨h2,e2⟩:=apu.mp b;exact(List.getElem_inj hN).mp (e1.trans e2.symm)
theorem Hi{M:Model}{A:Around}{E:Value→Shared→Prop}{i:Nat}{x:Str}{v:V}{u:Value}{Q:Unit→Shared→Prop}(I:bu X ah σ H s)(hN:X.N.Nodup)(hi:X.N[i]? =some x)(hx:Loc X.env.scope x)(r:ck v u)
  (h:∀s',bu X ah (σ.set i (some v)) H s'→(∃a,atw a s.heap s'.heap∧(a=X.env.locals∨X.env.cells.lookup x=some a))→Q () s')(hf:X.fn x=true∨X.env.scope.names.lookup x=some .local:=by first|exact .inl rfl|exact .inr rfl|assumption):wpAny M A (storeName X.env x u) Q E s:=by
 obtain⟨m,hn,hl⟩:=id I.loc;have ahP:(X.env.scope.kind== .class||(X.env.scope.kind== .module&&X.env.locals != X.env.globals))=false:=by rw[I.ok.kind];rfl
 have hiσ:i<σ.length:=by rw[I.len];exact(apu.mp hi).1
 have cne:=I.cne;have tracked:∀{a:Addr} {h':Heap},(∃o,s.heap.get? a=some o∧H a=none)→atw a s.heap h'→ur X.prog X.w H h':=fun{a h'} ha hs b ob e=>by
  obtain⟨_,_,Bg⟩:=ha;refine(I.du b ob e).T3 (fun c w' hc q=>(hs.2 c ?_).trans q) (fun _ q=>q) fun _ _ q=>q;rintro rfl;rcases hc with rfl|hc
  ·rw[Bg]at e;cases e
  ·rw[Bg]at hc;cases hc
 rcases hx with hk|hk
 ·refine wpAny_storeName_local hk hn (fun h' hn' hs=>?_) ahP;obtain⟨oL,_,_,hoL,_⟩:=id hn;refine h _ ⟨I.ok,I.os,I.qV,⟨fun b o e n hb hx=>?_,fun b o e n hb hx=>?_,I.base.free,fun b o e hx=>?_,I.base.Kx,I.base.JU,I.base.KD⟩,⟨_,hn',fun j y v' e1 e2 e3=>?_⟩,fun y c e=>?_,I.free,I.tT,fun p hp=>?_,tracked ⟨oL,hoL,I.free⟩ hs,by simpa using I.len⟩ ⟨_,hs,.inl rfl⟩
  ·exact(hs.2 b (aqo (ap9 (ap0 e) I.ok.above))).trans (I.base.keep b o e n hb hx)
  ·obtain⟨sl,e1⟩:=I.base.slot b o e n hb hx;exact⟨sl,(hs.2 b (aqo (ap9 (ap0 e) I.ok.above))).trans e1⟩
  ·obtain⟨o',e1⟩:=I.base.there b o e hx;exact⟨o',(hs.2 b (aqo (ap9 (ap0 e) I.ok.above))).trans e1⟩
  ·by_cases hj:j=i
   ·subst hj;rw[hi]at e1;cases e1;rw[asG hiσ]at e2;cases e2;exact⟨u,r,.inl ⟨hk,by simp⟩⟩
   ·rw[asW (ap1 hj)]at e2;obtain⟨u',r',q⟩:=hl j y v' e1 e2 e3;refine⟨u',r',?_⟩;rcases q with⟨k,e⟩|⟨k,c,e,z⟩
    ·refine .inl ⟨k,?_⟩;have:y≠x:=fun e=>hj (Ee hN e1 (e▸hi));simp[this,e]
    ·exact .inr ⟨k,c,e,z.sameBut hs (cne y c e)⟩
  ·obtain⟨w',z⟩:=I.cell y c e;exact⟨w',z.sameBut hs (cne y c e)⟩
  ·obtain⟨e,n,ne,nf,d⟩:=I.pin p hp;exact⟨(hs.2 p.1 ne).trans e,n,ne,nf,d⟩
 ·have hfn:X.fn x=true:=by
   rcases hf with z|z
   ·exact z
   ·rw[z]at hk;cases hk
  obtain⟨c,hc⟩:=I.ok.has x (.inl hk);obtain⟨w',z⟩:=I.cell x c hc;refine wpAny_storeName_cell I.ok.kind hk hc z (fun h' hc' hs=>?_);obtain⟨oc,hoc,ahr⟩:=id z;refine h {s with heap:=h'} ⟨I.ok,I.os,I.qV,⟨fun b o e n hb hx=>?_,fun b o e n hb hx=>?_,I.base.free,fun b o e hx=>?_,I.base.Kx,I.base.JU,I.base.KD⟩,⟨m,hn.sameBut hs (ap1 (cne x c hc)),fun j y v' e1 e2 e3=>?_⟩,fun y c' e=>?_,I.free,I.tT,fun p hp=>?_,tracked ⟨oc,hoc,I.tT x c hc⟩ hs,by simpa using I.len⟩ ⟨c,hs,.inr hc⟩
  ·exact(hs.2 b (aqo (ap9 (ap0 e) (I.ok.cab x c hfn hc)))).trans (I.base.keep b o e n hb hx)
  ·obtain⟨sl,e1⟩:=I.base.slot b o e n hb hx;exact⟨sl,(hs.2 b (aqo (ap9 (ap0 e) (I.ok.cab x c hfn hc)))).trans e1⟩
  ·obtain⟨o',e1⟩:=I.base.there b o e hx;exact⟨o',(hs.2 b (aqo (ap9 (ap0 e) (I.ok.cab x c hfn hc)))).trans e1⟩
  ·by_cases hj:j=i
   ·subst hj;rw[hi]at e1;cases e1;rw[asG hiσ]at e2;cases e2;exact⟨u,r,.inr ⟨.inl hk,c,hc,hc'⟩⟩
   ·rw[asW (ap1 hj)]at e2;obtain⟨u',r',q⟩:=hl j y v' e1 e2 e3;refine⟨u',r',?_⟩;rcases q with q|⟨k,c',e,z'⟩
    ·exact .inl q
    ·refine .inr ⟨k,c',e,z'.sameBut hs ?_⟩;rintro rfl;exact hj (Ee hN e1 (I.ok.inj _ _ _ e hc▸hi))
  ·by_cases hcc:c'=c
   ·subst hcc;exact⟨_,hc'⟩
   ·obtain⟨w2,z2⟩:=I.cell y c' e;exact⟨w2,z2.sameBut hs hcc⟩
  ·obtain⟨e,n,ne,nf,d⟩:=I.pin p hp;refine⟨(hs.2 p.1 ?_).trans e,n,ne,nf,d⟩;intro q;rw[q,hoc]at e;have q':oc=p.2:=apC e;exact d w' (by rw[←q'];exact ahr)
theorem C9{M:Model}{A:Around}{E:Value→Shared→Prop}{i:Nat}{x:Str}{v:V}{u:Value}{Q:Unit→Shared→Prop}(I:bu X ah σ H s)(hN:X.N.Nodup)(hi:X.N[i]? =some x)(hx:Loc X.env.scope x)(r:ck v u)
  (h:∀s',bu X ah (σ.set i (some v)) H s'→Q () s')(hf:X.fn x=true∨X.env.scope.names.lookup x=some .local:=by first|exact .inl rfl|exact .inr rfl|assumption):wpAny M A (storeName X.env x u) Q E s:=
 Hi I hN hi hx r (fun s' I' _=>h s' I') hf
theorem bu.adl{s':Shared}{ch:List Addr}(I:bu X ah σ H s)(ho:s'.os=s.os)(u:Un (VJ X.stack) ch H H' s.heap s'.heap)(du:ur X.prog X.w H' s'.heap)(hg:AllBare s'.gens)
  (Wt:∀b∈ch,(b∈X.ex∨X.Hq.heap.objs.size≤b)∧b≠X.env.locals∧(∀x c,X.env.cells.lookup x=some c→c≠b)∧∀p∈X.pn++ah,p.1≠b):bu X ah σ H' s':=by
 obtain⟨h',g',d',t',o'⟩:=s';have e:o'=s.os:=ho;subst e;exact I.call (g':=g') (t':=t') (d':=d') u du hg Wt
end
abbrev XK:=Value→Option Addr→Hp→Prop
abbrev St:=List (Option V)
abbrev VK:=V→Hp→Prop
abbrev TE:=St→Hp→VK→Prop
abbrev TT:=St→Hp→(Bool→Hp→Prop)→Prop
abbrev TA:=St→Hp→(List V→Hp→Prop)→Prop
structure w9 where
 nx:St→Hp→Prop
 rt:VK
 bk:St→Hp→Prop:=fun _ _=>False
 ct:St→Hp→Prop:=fun _ _=>False
abbrev TS:=w9→St→Hp→Prop
def EP(X:Cx)(ah:List (Addr×Obj))(σ:St)(Q:VK)(u:Value)(s':Shared):Prop:=∃v H',bu X ah σ H' s'∧ck v u∧Q v H'
def TP(X:Cx)(ah:List (Addr×Obj))(σ:St)(Q:Bool→Hp→Prop)(b:Bool)(s':Shared):Prop:=∃H',bu X ah σ H' s'∧Q b H'
def AP(X:Cx)(ah:List (Addr×Obj))(σ:St)(Q:List V→Hp→Prop)(us:List Value)(s':Shared):Prop:=∃vs H',bu X ah σ H' s'∧cg vs us∧Q vs H'
def SP(X:Cx)(ah:List (Addr×Obj))(D:w9)(f:Flow)(s':Shared):Prop:=
 match f with
 | .next=>∃σ' H',bu X ah σ' H' s'∧D.nx σ' H'
 | .brk=>∃σ' H',bu X ah σ' H' s'∧D.bk σ' H'
 | .cont=>∃σ' H',bu X ah σ' H' s'∧D.ct σ' H'
 | .ret u=>∃v σ' H',bu X ah σ' H' s'∧ck v u∧D.rt v H'
def PE(X:Cx)(e:Expr)(t:TE):Prop:=
 ∀(ah:List (Addr×Obj)) (s:Shared) (σ:St) (H:Hp) (Q:VK),bu X ah σ H s→t σ H Q→wpAny (model X.prog X.w) X.A (eval e X.env) (EP X ah σ Q) X.xe s
def PT(X:Cx)(e:Expr)(t:TT):Prop:=
 ∀(ah:List (Addr×Obj)) (s:Shared) (σ:St) (H:Hp) (Q:Bool→Hp→Prop),bu X ah σ H s→t σ H Q→wpAny (model X.prog X.w) X.A (isTrue e X.env (eval e X.env)) (TP X ah σ Q) X.xe s
def PW(X:Cx)(e:Expr)(t:TT):Prop:=
 ∀(whole:Sem Value) (ah:List (Addr×Obj)) (s:Shared) (σ:St) (H:Hp) (Q:Bool→Hp→Prop),bu X ah σ H s→t σ H Q→wpAny (model X.prog X.w) X.A (isTrue e X.env whole) (TP X ah σ Q) X.xe s
theorem PW.pt{X:Cx}{e:Expr}{t:TT}(h:PW X e t):PT X e t:=h _
def PA(X:Cx)(es:List Expr)(t:TA):Prop:=
 ∀(pos:Pos) (ah:List (Addr×Obj)) (s:Shared) (σ:St) (H:Hp) (Q:List V→Hp→Prop),bu X ah σ H s→t σ H Q→wpAny (model X.prog X.w) X.A (spliced (backTo pos (starEach es X.env))) (AP X ah σ Q) X.xe s
def PS(X:Cx)(st:Stmt)(t:TS):Prop:=
 ∀(ah:List (Addr×Obj)) (s:Shared) (σ:St) (H:Hp) (D:w9),bu X ah σ H s→t D σ H→wpAny (model X.prog X.w) X.A (exec st X.env) (SP X ah D) X.xe s
def Te(X:Cx)(st:List Stmt)(t:TS):Prop:=
 ∀(ah:List (Addr×Obj)) (s:Shared) (σ:St) (H:Hp) (D:w9),bu X ah σ H s→t D σ H→wpAny (model X.prog X.w) X.A (execs st X.env) (SP X ah D) X.xe s
theorem rR{α:Type}{t:Sem α}{Q Q':α→Shared→Prop}{M:Model}{A:Around}{E:Value→Shared→Prop}{s:Shared}(h:wpAny M A t Q E s)(hQ:∀a s,Q a s→Q' a s):wpAny M A t Q' E s:=wpAny_mono h hQ fun _ _ x=>x
theorem lu{R:Value→Shared→Prop}(h:wpAny M A t (EP X p σ Q) E s)(k:∀u s x H,bu X p σ H s→ck x u→Q x H→R u s):wpAny M A t R E s:=rR h fun u s z=>by
 obtain⟨x,H,i,r,q⟩:=z;exact k u s x H i r q
theorem Wm{R:List Value→Shared→Prop}(h:wpAny M A t (AP X p σ Q) E s)(k:∀u s x H,bu X p σ H s→cg x u→Q x H→R u s):wpAny M A t R E s:=rR h fun u s z=>by
 obtain⟨x,H,i,r,q⟩:=z;exact k u s x H i r q
section
variable{X:Cx}
def mR(i:Nat):TE:=fun σ H Q=>∃v,σ[i]? =some (some v)∧Q v H
def tC(v:V):TE:=fun _ H Q=>Q v H
theorem Zm{i:Nat}{x:Str}{pos:Pos}(hN:X.N[i]? =some x)(hv:Vis X.env.scope x)(hd:(x==("__debug__":Str))=false:=by decide)(Bi:(x==("__classdict__":Str))=false:=by decide):PE X (.Name x pos) (mR i):=by
 intro ah s σ H Q I h;obtain⟨v,e,h⟩:=h;obtain⟨m,hn,hl⟩:=I.loc;obtain⟨u,r,l⟩:=hl i x v hN e hv;have fin:EP X ah σ Q u s:=⟨v,H,I,r,h⟩;rcases l with⟨hk,hm⟩|⟨hk,c,hc,QT⟩
 ·exact wpAny_Name (wpAny_loadName_local I.ok.kind hk hn hm fin) hd
 ·rcases hk with hk|hk
  ·exact wpAny_Name (wpAny_loadName_cell I.ok.kind hk hc QT fin) hd
  ·exact wpAny_Name (wpAny_loadName_free I.ok.kind hk hc QT fin Bi) hd
theorem ay{i j pos}:PE X (.Constant (.int i) j pos) (tC (.int i)):=fun _ _ _ H _ I h=>wpAny_Constant_int ⟨.int i,H,I.tok _,⟨_,rfl⟩,h⟩
theorem vp{b j pos}:PE X (.Constant (.bool b) j pos) (tC (.bl b)):=fun _ _ _ H _ I h=>Constant_bool ⟨.bl b,H,I,rfl,h⟩
theorem cj{j pos}:PE X (.Constant .none j pos) (tC .cx):=fun _ _ _ H _ I h=>Constant_none ⟨.cx,H,I,rfl,h⟩
theorem aR{x j pos}:PE X (.Constant (.str x) j pos) (tC (.str x)):=fun _ _ _ H _ I h=>Calls.Constant_str ⟨.str x,H,I.tok _,⟨_,rfl⟩,h⟩
def Gl(X:Cx)(x:Str):Prop:=X.env.kindOf x=some .globalImplicit
theorem uM{E:Value→Shared→Prop}{ah:List (Addr×Obj)}{s:Shared}{σ:St}{H:Hp}{x:Str}{u:Value}{pos:Pos}{Q:Value→Shared→Prop}(I:bu X ah σ H s)(hg:Gl X x)(hm:X.mg x=some u)(h:Q u s)
  (hd:(x==("__debug__":Str))=false:=by decide):wpAny (model X.prog X.w) X.A (eval (.Name x pos) X.env) Q E s:=
 atm I.ok.kind hg (Calls.loadGlobal_global (by rw[I.ok.JN];exact I.mod.JN.keeps I.bk) hm h) hd
theorem Jt{E:Value→Shared→Prop}{ah:List (Addr×Obj)}{s:Shared}{σ:St}{H:Hp}{x:Str}{u:Value}{pos:Pos}{Q:Value→Shared→Prop}(I:bu X ah σ H s)(hg:Gl X x)(hm:X.mg x=none)(hv:bootBuiltins x=some u)(h:Q u s)
  (hn:x≠"__name__":=by decide)(hd:(x==("__debug__":Str))=false:=by decide):wpAny (model X.prog X.w) X.A (eval (.Name x pos) X.env) Q E s:=by
 obtain⟨mb,h1,h2⟩:=I.mod.blt;exact atm I.ok.kind hg (Calls.loadGlobal_builtin (by rw[I.ok.JN];exact I.mod.JN.keeps I.bk) hm (by rw[I.ok.blt];exact h1.keeps I.bk) ((h2 x hn).trans hv) h) hd
theorem Qp{x:Str}{v:V}{u:Value}{pos:Pos}(hg:Gl X x)(hm:X.mg x=some u)(r:ck v u)(hd:(x==("__debug__":Str))=false:=by decide):PE X (.Name x pos) (tC v):=
 fun _ _ _ H _ I h=>uM I hg hm ⟨v,H,I,r,h⟩ hd
variable{a b:Expr}{ta tb:TE}{pos:Pos}
def PC(X:Cx)(op:CmpOp)(a b:Expr)(t:TE):Prop:=
 ∀(ah:List (Addr×Obj)) (s:Shared) (σ:St) (H:Hp) (Q:VK),bu X ah σ H s→t σ H Q→
  wpAny (model X.prog X.w) X.A (eval a X.env) (fun v s₁=>wpAny (model X.prog X.w) X.A (eval b X.env) (fun u s₂=>wpAny (model X.prog X.w) X.A (compareOp op v u) (EP X ah σ Q) X.xe s₂) X.xe s₁) X.xe s
def tB(t:TE):TT:=fun σ H Q=>t σ H fun x H1=>∃c,x=.bl c∧Q c H1
theorem Jg{op:CmpOp}{t:TE}(h:PC X op a b t)(h1:behindInMarks op b=false:=by first|exact U7 _ (by decide) (by decide)|rfl):PE X (.Compare a [op] [b] pos) t:=fun ah s σ H Q I hw=>wpAny_Compare1 (h ah s σ H Q I hw) h1
theorem IZ{op:CmpOp}{t:TE}(h:PC X op a b t)(h1:behindInMarks op b=false:=by first|exact U7 _ (by decide) (by decide)|rfl):PT X (.Compare a [op] [b] pos) (tB t):=by
 intro ah s σ H Q I hw;refine wpAny_isTrue_Compare1 (rR (h ah s σ H _ I hw) fun v s1 h1=>rR h1 fun u s2 h2=>rR h2 fun c s3 zz=>?_) h1;obtain⟨x,H1,I1,r1,q1⟩:=zz;obtain⟨d,rfl,q⟩:=q1;cases r1;exact wpAny_truthy_bool ⟨H1,I1,q⟩
theorem kX{e:Expr}{t:TE}(h:PE X e t)(he:∀whole,isTrue e X.env whole=(do let v ←whole;standAt e.pos;holding [v] (truthy v)):=by intro _;rfl):PT X e (tB t):=by
 intro ah s σ H Q I hw;refine isTrue_plain (lu (h ah s σ H _ I hw) fun v s1 x H1 I1 r1 q1=>?_) (he _);obtain⟨d,rfl,q⟩:=q1;cases r1;exact wpAny_truthy_bool ⟨H1,I1,q⟩
variable{tA tB':TT}{rest:List Expr}
def Y5(t u:TT):TT:=fun σ H Q=>t σ H fun c H1=>if c=true then u σ H1 Q else Q false H1
def tOr(t u:TT):TT:=fun σ H Q=>t σ H fun c H1=>if c=true then Q true H1 else u σ H1 Q
def YW(t:TT):TT:=fun σ H Q=>t σ H fun c H1=>Q (!c) H1
theorem qi(ha:PT X a tA):PW X (.BoolOp .And [a] pos) tA:=by
 intro wh ah s σ H Q I h;refine isTrue_and (rR (ha ah s σ H Q I h) fun c s1 e=>?_);cases c with
 |true=>exact isTrue_and_nil e
 |false=>exact e
theorem i6(ha:PT X a tA):PW X (.BoolOp .Or [a] pos) tA:=by
 intro wh ah s σ H Q I h;refine isTrue_or (rR (ha ah s σ H Q I h) fun c s1 e=>?_);cases c with
 |false=>exact isTrue_or_nil e
 |true=>exact e
theorem wz(ha:PT X a tA)(hb:PW X (.BoolOp .And (b::rest) pos) tB'):PW X (.BoolOp .And (a::b::rest) pos) (Y5 tA tB'):=by
 intro wh ah s σ H Q I h;refine isTrue_and (rR (ha ah s σ H _ I h) fun c s1 zz=>?_);obtain⟨H1,I1,q1⟩:=zz;cases c with
 |true=>exact hb wh ah s1 σ H1 Q I1 q1
 |false=>exact⟨H1,I1,q1⟩
theorem k8(ha:PT X a tA)(hb:PW X (.BoolOp .Or (b::rest) pos) tB'):PW X (.BoolOp .Or (a::b::rest) pos) (tOr tA tB'):=by
 intro wh ah s σ H Q I h;refine isTrue_or (rR (ha ah s σ H _ I h) fun c s1 zz=>?_);obtain⟨H1,I1,q1⟩:=zz;cases c with
 |true=>exact⟨H1,I1,q1⟩
 |false=>exact hb wh ah s1 σ H1 Q I1 q1
theorem sL(ha:PT X a tA):PT X (.UnaryOp .Not a pos) (YW tA):=by
 intro ah s σ H Q I h;exact isTrue_not (ha ah s σ H (fun c H1=>Q (!c) H1) I h)
def TZ(ta tb:TE):TE:=fun σ H Q=>ta σ H fun x H1=>∃c,x=.bl c∧if c=true then tb σ H1 Q else Q (.bl false) H1
def YV(ta tb:TE):TE:=fun σ H Q=>ta σ H fun x H1=>∃c,x=.bl c∧if c=true then Q (.bl true) H1 else tb σ H1 Q
theorem zN{op}{t:TE}(h:PE X a t):PE X (.BoolOp op [a] pos) t:=fun ah s σ H Q I hw=>BoolOp_one (h ah s σ H Q I hw)
theorem Jh(ha:PE X a ta)(hb:PE X (.BoolOp .And (b::rest) pos) tb):PE X (.BoolOp .And (a::b::rest) pos) (TZ ta tb):=by
 intro ah s σ H Q I h;refine BoolOp_and (lu (ha ah s σ H _ I h) fun v s1 x H1 I1 r1 q1=>?_);obtain⟨c,rfl,q1⟩:=q1;cases r1;refine wpAny_truthy_bool ?_;cases c with
 |true=>exact hb ah s1 σ H1 Q I1 q1
 |false=>exact⟨.bl false,H1,I1,rfl,q1⟩
theorem X8(ha:PE X a ta)(hb:PE X (.BoolOp .Or (b::rest) pos) tb):PE X (.BoolOp .Or (a::b::rest) pos) (YV ta tb):=by
 intro ah s σ H Q I h;refine BoolOp_or (lu (ha ah s σ H _ I h) fun v s1 x H1 I1 r1 q1=>?_);obtain⟨c,rfl,q1⟩:=q1;cases r1;refine wpAny_truthy_bool ?_;cases c with
 |false=>exact hb ah s1 σ H1 Q I1 q1
 |true=>exact⟨.bl true,H1,I1,rfl,q1⟩
def tIf(t:TT)(ta tb:TE):TE:=fun σ H Q=>t σ H fun c H1=>if c=true then ta σ H1 Q else tb σ H1 Q
theorem i9{c:Expr}(hc:PT X c tA)(ha:PE X a ta)(hb:PE X b tb):PE X (.IfExp c a b pos) (tIf tA ta tb):=by
 intro ah s σ H Q I h;refine wpAny_IfExp (rR (hc ah s σ H _ I h) fun d s1 zz=>?_);obtain⟨H1,I1,q1⟩:=zz;cases d with
 |true=>exact ha ah s1 σ H1 Q I1 q1
 |false=>exact hb ah s1 σ H1 Q I1 q1
end
def jH(K:apw)(H:Hp)(a:Addr)(xs:List V):Prop:=
 Rd H a (.aN xs)∨
  ∃(o:Obj) (bX:Array Value) (n:Nat),K.lookup a=some o∧o.cls=.type "list"∧o.dict=none∧o.data=.seq bX n∧bX.size≤sizeLine∧cg xs bX.toList
def AK(K:apw)(H:Hp)(a:Addr)(xs:List V):Prop:=
 Rd H a (.fR xs)∨
  ∃(o:Obj) (bX:Array Value) (n:Nat),K.lookup a=some o∧o.cls=.type "tuple"∧o.data=.seq bX n∧bX.size≤sizeLine∧cg xs bX.toList
def aiq:Value→Option V
 | .none=>some .cx
 | .bool b=>some (.bl b)
 | .int i _=>some (.int i)
 | .str x _=>some (.str x)
 | .bytes b _=>some (.M6 b)
 | .float b _=>some (.flt b)
 | .ref a=>some (.ref a)
 | .type n=>some (.ty n)
 |_=>none
theorem ck.abs{x:V}{u:Value}(r:ck x u):aiq u=some x:=by
 cases x with
 |cx=>cases r;rfl
 |bl _=>cases r;rfl
 |int _=>obtain⟨t,rfl⟩:=r;rfl
 |str _=>obtain⟨t,rfl⟩:=r;rfl
 |M6 _=>obtain⟨t,rfl⟩:=r;rfl
 |flt _=>obtain⟨t,rfl⟩:=r;rfl
 |ref _=>cases r;rfl
 |ty _=>cases r;rfl
theorem ck.inj{x y:V}{u:Value}(r:ck x u)(q:ck y u):x=y:=apC (r.abs.symm.trans q.abs)
theorem cg.inj:∀{xs ys:List V} {us:List Value},cg xs us→cg ys us→xs=ys:=by
 intro xs ys us h
 induction h generalizing ys with
 |nil=>intro k;cases k;rfl
 |cons r t ih=>
  intro k;cases k with
  |cons r' t'=>rw[r.inj r',ih t']
section
variable{X:Cx}{ah:List (Addr×Obj)}{σ:St}{H:Hp}{s:Shared}{a:Addr}{xs ys:List V}
theorem jH.of{K:apw}(h:H a=some (.aN xs)):jH K H a xs:=.inl (.inl h)
theorem AK.of{K:apw}(h:H a=some (.fR xs)):AK K H a xs:=.inl (.inl h)
theorem bu.list(I:bu X ah σ H s)(h:jH X.K H a xs):∃bX:List Value,cg xs bX∧PlainL s.heap a bX.toArray∧xs.length≤sizeLine:=by
 rcases h with h|⟨o,bX,n,hk,hc,hd,hs,hz,r⟩
 ·obtain⟨z,bX,n,r,e⟩:=h.ok I.du;exact⟨bX,r,⟨_,n,e,rfl,rfl,rfl⟩,z⟩
 ·refine⟨bX.toList,r,⟨o,n,I.L8 a o hk,hc,hd,by simpa using hs⟩,?_⟩;have e:=r.length;simp only[ars]at e;omega
theorem bu.tuple(I:bu X ah σ H s)(h:AK X.K H a xs):∃bX:List Value,cg xs bX∧IsTup s.heap a bX.toArray∧xs.length≤sizeLine:=by
 rcases h with h|⟨o,bX,n,hk,hc,hs,hz,r⟩
 ·obtain⟨z,bX,r,p⟩:=h.ok I.du;exact⟨bX,r,p,z⟩
 ·refine⟨bX.toList,r,⟨o,I.L8 a o hk,hc,n,by simpa using hs⟩,?_⟩;have e:=r.length;simp only[ars]at e;omega
theorem bu.Vk(I:bu X ah σ H s)(h:jH X.K H a xs)(h':jH X.K H a ys):xs=ys:=by
 obtain⟨bX,r,⟨o,n,e,_,_,d⟩,_⟩:=I.list h;obtain⟨EI,r',⟨o',n',e',_,_,d'⟩,_⟩:=I.list h';rw[e]at e';cases e';rw[d]at d';injection d' with d1 _;have:bX=EI:=by simpa using congrArg auz d1
 subst this;exact r.inj r'
theorem bu.Rq(I:bu X ah σ H s)(h:AK X.K H a xs)(h':AK X.K H a ys):xs=ys:=by
 obtain⟨bX,r,⟨o,e,_,n,d⟩,_⟩:=I.tuple h;obtain⟨EI,r',⟨o',e',_,n',d'⟩,_⟩:=I.tuple h';rw[e]at e';cases e';rw[d]at d';injection d' with d1 _;have:bX=EI:=by simpa using congrArg auz d1
 subst this;exact r.inj r'
end
abbrev Cx.FV(X:Cx)(E:Value→Shared→Prop):Cx:={X with xe:=E}
abbrev Cx.nox(X:Cx):Cx:=X.FV fun _ _=>False
theorem Cx.Ok.FV{X:Cx}(ok:X.Ok)(E:Value→Shared→Prop):(X.FV E).Ok:=
 ⟨ok.mod,ok.kind,ok.JN,ok.blt,ok.above,ok.inj,ok.has,ok.cab,ok.hd,ok.frames,ok.stk,ok.exf,ok.bs,ok.XU,ok.U6,ok.VO,ok.Cr,ok.frf⟩
theorem Cx.Ok.rW{X:Cx}{E:Value→Shared→Prop}(ok:(X.FV E).Ok):X.Ok:=
 ⟨ok.mod,ok.kind,ok.JN,ok.blt,ok.above,ok.inj,ok.has,ok.cab,ok.hd,ok.frames,ok.stk,ok.exf,ok.bs,ok.XU,ok.U6,ok.VO,ok.Cr,ok.frf⟩
section
variable{X:Cx}{ah:List (Addr×Obj)}{σ:St}{H:Hp}{s:Shared}{E:Value→Shared→Prop}
theorem bu.FV(I:bu X ah σ H s)(E:Value→Shared→Prop):bu (X.FV E) ah σ H s:=⟨I.ok.FV E,I.os,I.qV,I.base,I.loc,I.cell,I.free,I.tT,I.pin,I.du,I.len⟩
theorem bu.rW(I:bu (X.FV E) ah σ H s):bu X ah σ H s:=⟨I.ok.rW,I.os,I.qV,I.base,I.loc,I.cell,I.free,I.tT,I.pin,I.du,I.len⟩
theorem SP.rW{D:w9}{f:Flow}{s':Shared}(h:SP (X.FV E) ah D f s'):SP X ah D f s':=by
 cases f with
 |next=>obtain⟨σ',H',I,q⟩:=h;exact⟨σ',H',I.rW,q⟩
 |brk=>obtain⟨σ',H',I,q⟩:=h;exact⟨σ',H',I.rW,q⟩
 |cont=>obtain⟨σ',H',I,q⟩:=h;exact⟨σ',H',I.rW,q⟩
 |ret u=>obtain⟨v,σ',H',I,r,q⟩:=h;exact⟨v,σ',H',I.rW,r,q⟩
theorem Te.nox{st:List Stmt}{t:TS}(h:Te X.nox st t):Te X st t:=fun ah s σ H D I hw=>
 wpAny_mono (h ah s σ H D (I.FV _) hw) (fun _ _ q=>q.rW) fun _ _ z=>aqW z
end
section
variable{X:Cx}{st:Stmt}{rest:List Stmt}{t u:TS}{e:Expr}{te:TE}{pos:Pos}
def C8:TS:=fun D σ H=>D.nx σ H
def eV(t u:TS):TS:=fun D σ H=>t {D with nx:=u D} σ H
theorem aM:Te X [] C8:=fun _ _ σ H _ I h=>wpAny_execs_nil ⟨σ,H,I,h⟩
theorem ag(h1:PS X st t)(h2:Te X rest u):Te X (st::rest) (eV t u):=by
 intro ah s σ H D I h;refine wpAny_execs_cons (rR (h1 ah s σ H {D with nx:=u D} I h) fun f s1 q=>?_);cases f with
 |next=>
  obtain⟨σ',H',I',q⟩:=q;exact h2 ah s1 σ' H' D I' q
 |ret v=>exact q
 |brk=>exact q
 |cont=>exact q
theorem aw(h1:PS X st t):Te X [st] t:=by
 intro ah s σ H D I h;refine wpAny_execs_cons (rR (h1 ah s σ H D I h) fun f s1 q=>?_);cases f with
 |next=>exact wpAny_execs_nil q
 |ret v=>exact q
 |brk=>exact q
 |cont=>exact q
theorem bu.quiet{ah:List (Addr×Obj)}{σ:St}{H:Hp}{s:Shared}(I:bu X ah σ H s):interactive X.env=false:=by simp[interactive,I.ok.kind]
def KL(te:TE):TS:=fun D σ H=>te σ H fun _ H1=>D.nx σ H1
theorem cQ(he:PE X e te)(hs:swapsWith e none pos.line X.env=pure false:=by rfl):PS X (.Expr e pos) (KL te):=by
 intro ah s σ H D I h;exact wpAny_Expr_any (lu (he ah s σ H _ I h) fun v s1 x H1 I1 r1 q1=>⟨σ,H1,I1,q1⟩) I.quiet hs
def xo(te:TE):TS:=fun D σ H=>te σ H D.rt
theorem aB(he:PE X e te):PS X (.Return (some e) pos) (xo te):=by
 intro ah s σ H D I h;exact wpAny_Return_some (lu (he ah s σ H _ I h) fun v s1 x H1 I1 r1 q1=>⟨x,σ,H1,I1,r1,q1⟩)
def WI(c:TT)(t u:TS):TS:=fun D σ H=>c σ H fun b H1=>if b=true then t D σ H1 else u D σ H1
theorem bo{c:Expr}{a b:List Stmt}{tc:TT}(hc:PT X c tc)(ha:Te X a t)(hb:Te X b u):PS X (.If c a b pos) (WI tc t u):=by
 intro ah s σ H D I h;refine wpAny_If (rR (hc ah s σ H _ I h) fun d s1 zz=>?_);obtain⟨H1,I1,q1⟩:=zz;cases d with
 |true=>exact ha ah s1 σ H1 D I1 q1
 |false=>exact hb ah s1 σ H1 D I1 q1
def Y1:TS:=fun _ _ _=>False
theorem UJ:PS X st Y1:=fun _ _ _ _ _ _ h=>h.elim
end
abbrev TG:=V→St→Hp→(St→Hp→Prop)→Prop
def PG(X:Cx)(target:Expr)(t:TG):Prop:=
 ∀(ah:List (Addr×Obj)) (s:Shared) (σ:St) (H:Hp) (v:V) (u:Value) (Q:St→Hp→Prop),bu X ah σ H s→ck v u→t v σ H Q→
  wpAny (model X.prog X.w) X.A (assign target X.env u) (fun _ s'=>∃σ' H',bu X ah σ' H' s'∧Q σ' H') X.xe s
abbrev TIp:=V→V→Hp→VK→Prop
def PIp(X:Cx)(op:Operator)(t:TIp):Prop:=
 ∀(ah:List (Addr×Obj)) (s:Shared) (σ:St) (H:Hp) (x y:V) (v u:Value) (Q:VK),bu X ah σ H s→ck x v→ck y u→t x y H Q→
  wpAny (model X.prog X.w) X.A (inplaceOp op v u) (EP X ah σ Q) X.xe s
section
variable{X:Cx}{pos:Pos}
def HN(i:Nat):TG:=fun v σ H Q=>Q (σ.set i (some v)) H
theorem fW{i:Nat}{x:Str}(hN:X.N.Nodup)(hi:X.N[i]? =some x)(hx:Loc X.env.scope x)(hf:X.fn x=true∨X.env.scope.names.lookup x=some .local:=by first|exact .inl rfl|exact .inr rfl|assumption):PG X (.Name x pos) (HN i):=by
 intro ah s σ H v u Q I r h;exact wpAny_assign_Name (C9 I hN hi hx r (fun s' I'=>⟨_,H,I',h⟩) hf)
def WK(te:TE)(g:TG):TS:=fun D σ H=>te σ H fun x H1=>g x σ H1 D.nx
theorem aX{i:Nat}{x:Str}{e:Expr}{te:TE}{pos':Pos}(hN:X.N.Nodup)(hi:X.N[i]? =some x)(hx:Loc X.env.scope x)(he:PE X e te)(hs:swapsWith e (some (.Name x pos')) pos.line X.env=pure false:=by rfl)(hf:X.fn x=true∨X.env.scope.names.lookup x=some .local:=by first|exact .inl rfl|exact .inr rfl|assumption):
  PS X (.Assign [.Name x pos'] e pos) (WK te (HN i)):=by
 intro ah s σ H D I h;refine wpAny_Assign_Name (lu (he ah s σ H _ I h) fun v s1 y H1 I1 r1 q1=>?_) hs;exact C9 I1 hN hi hx r1 (fun s2 I2=>⟨_,H1,I2,q1⟩) hf
def abB(i:Nat)(te:TE)(ti:TIp):TS:=fun D σ H=>∃x,σ[i]? =some (some x)∧te σ H fun y H1=>ti x y H1 fun z H2=>D.nx (σ.set i (some z)) H2
theorem Zk{i:Nat}{x:Str}{e:Expr}{te:TE}{op:Operator}{ti:TIp}{pos':Pos}(hN:X.N.Nodup)(hi:X.N[i]? =some x)(hx:Loc X.env.scope x)(he:PE X e te)(ho:PIp X op ti)(hf:X.fn x=true∨X.env.scope.names.lookup x=some .local:=by first|exact .inl rfl|exact .inr rfl|assumption):
  PS X (.AugAssign (.Name x pos') op e pos) (abB i te ti):=by
 intro ah s σ H D I h;obtain⟨v,e1,h⟩:=h;obtain⟨m,hn,hl⟩:=I.loc;have vis:Vis X.env.scope x:=by rcases hx with k|k;exact .inl k;exact .inr (.inl k)
 obtain⟨u,r,l⟩:=hl i x v hi e1 vis;refine wpAny_AugAssign_Name ?_;have go:wpAny (model X.prog X.w) X.A (eval e X.env) (fun w s₂=>wpAny (model X.prog X.w) X.A (inplaceOp op u w) (fun r s₃=>wpAny (model X.prog X.w) X.A (storeName X.env x r) (fun _=>SP X ah D .next) X.xe s₃) X.xe s₂) X.xe s:=by
  refine lu (he ah s σ H _ I h) fun w s1 y H1 I1 r1 q1=>?_;refine lu (ho ah s1 σ H1 v y u w _ I1 r r1 q1) fun z s2 zv H2 I2 r2 q2=>?_;exact C9 I2 hN hi hx r2 (fun s3 I3=>⟨_,H2,I3,q2⟩) hf
 rcases l with⟨hk,hm⟩|⟨hk,c,hc,QT⟩
 ·exact wpAny_loadName_local I.ok.kind hk hn hm go
 ·rcases hk with hk|hk
  ·exact wpAny_loadName_cell I.ok.kind hk hc QT go
  ·rcases hx with k|k
   ·have:X.env.scope.names.lookup x=some .free:=hk;rw[k]at this;cases this
   ·have:X.env.scope.names.lookup x=some .free:=hk;rw[k]at this;cases this
def ipI(f:Int→Int→Int):TIp:=fun x y H Q=>∃i j,x=.int i∧y=.int j∧Q (.int (f i j)) H
theorem ZS:PIp X .Add (ipI fun i j=>i+j):=by
 intro ah s σ H x y v u Q I r1 r2 h;obtain⟨i,j,e1,e2,q⟩:=h;subst e1;subst e2;obtain⟨t,rfl⟩:=r1;obtain⟨t',rfl⟩:=r2;exact iadd_int ⟨.int _,H,I.tok _,⟨_,rfl⟩,q⟩
end
section
variable{X:Cx}{pos:Pos}
def TQ(c:TT)(tb:TS):TS:=fun D σ H=>∃W:Nat→St→Hp→Prop,(∃m,W m σ H)∧∀m σ H,W m σ H→
 c σ H fun b H1=>if b=true then∃N:St→Hp→Prop,(∀σ' H',N σ' H'→∃m',m'<m∧W m' σ' H')∧tb {D with nx:=N,ct:=N,bk:=D.nx} σ H1 else D.nx σ H1
theorem Lr{c:Expr}{body:List Stmt}{tc:TT}{tb:TS}(hp:PassesOwn (model X.prog X.w) X.A X.env X.xe)(hc:PT X c tc)(hb:Te X body tb):PS X (.While c body [] pos) (TQ tc tb):=by
 intro ah s σ H D I h;obtain⟨W,⟨m0,w0⟩,turn⟩:=h;refine wpAny_While (codeAny_whileLoop (fun n s'=>∃σ' H',bu X ah σ' H' s'∧W n σ' H') ?_ m0 ⟨σ,H,I,w0⟩);rintro n s1 ⟨σ1,H1,I1,w1⟩;refine wpAny_passesOwn hp (rR (hc ah s1 σ1 H1 _ I1 (turn n σ1 H1 w1)) fun b s2 zz=>?_);obtain⟨H2,I2,q2⟩:=zz;cases b with
 |true=>
  obtain⟨N,hN,q2⟩:=q2;rw[if_pos rfl];refine wpAny_passesOwn hp (rR (hb ah s2 σ1 H2 _ I2 q2) fun f s3 q3=>?_);cases f with
  |next=>
   obtain⟨σ3,H3,I3,n3⟩:=q3;obtain⟨m',hm,w3⟩:=hN σ3 H3 n3;exact⟨m',hm,σ3,H3,I3,w3⟩
  |cont=>
   obtain⟨σ3,H3,I3,n3⟩:=q3;obtain⟨m',hm,w3⟩:=hN σ3 H3 n3;exact⟨m',hm,σ3,H3,I3,w3⟩
  |brk=>exact q3
  |ret v=>exact q3
 |false=>
  rw[if_neg apI];exact wpAny_execs_nil ⟨σ1,H2,I2,q2⟩
end
structure It where
 go:Nat→Hp→Prop
 Wl:Nat→Hp→V→Hp→Prop
 stop:Nat→Hp→Prop
def G8(X:Cx)(ah:List (Addr×Obj))(H:Hp)(b:Addr):Prop:=
 H b=none∧b≠X.env.locals∧b∉X.fs∧(b∈X.ex∨X.Hq.heap.objs.size≤b)∧(∀x c,X.env.cells.lookup x=some c→c≠b)∧∀p∈X.pn++ah,p.1≠b
theorem bu.VL{X:Cx}{ah:List (Addr×Obj)}{σ:St}{H H':Hp}{s:Shared}{b:Addr}(I:bu X ah σ H s)(hb:s.heap.objs.size≤b)(hn:H' b=none):G8 X ah H' b:=by
 refine⟨hn,avG (ap9 I.lt hb),I.agH hb,.inr (aqa I.sz hb),fun x c e z=>?_,fun p hp z=>?_⟩
 ·obtain⟨v,q⟩:=I.cell x c e;exact absurd (ap9 q.lt (by rw[z];exact hb)) (arf _)
 ·exact absurd (ap9 (ap0 (I.pin p hp).1) (by rw[z];exact hb)) (arf _)
structure Turn(P:Program)(w:World)(K:apw)(tg:Expr)(J:It)(fp:List Addr)(it:Addr)(tn:Nat→Heap→Prop):Prop where
 mem:it∈fp
 obj:∀i h,tn i h→∀b∈fp,∃o,h.get? b=some o∧∀v,o.data≠.cell v
 keep:∀i h h',tn i h→(∀b∈fp,∀o,h.get? b=some o→h'.get? b=some o)→tn i h'
 item:∀(X:Cx),X.prog=P→X.w=w→X.K=K→X.GQ=true→∀(i:Nat) (ah:List (Addr×Obj)) (s:Shared) (σ:St) (H:Hp) (E:Value→Shared→Prop),bu X ah σ H s→(∀b∈fp,G8 X ah H b)→tn i s.heap→J.go i H→
  wpAny (model P w) X.A (pyNext (.ref it)) (fun r s1=>∃u,r=some u∧
   wpAny (model P w) X.A (letOwnedTupleGo tg (.ref it) u) (fun _ s2=>∃x H',bu X ah σ H' s2∧ck x u∧J.Wl i H x H'∧tn (i+1) s2.heap∧∀b∈fp,H' b=none) E s1) E s
 done:∀(X:Cx),X.prog=P→X.w=w→X.K=K→X.GQ=true→∀(i:Nat) (ah:List (Addr×Obj)) (s:Shared) (σ:St) (H:Hp) (E:Value→Shared→Prop),bu X ah σ H s→(∀b∈fp,G8 X ah H b)→tn i s.heap→J.stop i H→
  wpAny (model P w) X.A (pyNext (.ref it)) (fun r s1=>r=none∧bu X ah σ H s1) E s
 self:∀(A:Around) (i:Nat) (s:Shared) (Q:Value→Shared→Prop) (E:Value→Shared→Prop),tn i s.heap→Q (.ref it) s→wpAny (model P w) A (pyIter (.ref it)) Q E s
abbrev TI:=St→Hp→(It→Hp→Prop)→Prop
def PIE(X:Cx)(ah:List (Addr×Obj))(σ:St)(tg:Expr)(R:It→Hp→Prop)(itv:Value)(s2:Shared):Prop:=
 ∃(it:Addr) (fp:List Addr) (tn:Nat→Heap→Prop) (J:It) (H':Hp),itv=.ref it∧bu X ah σ H' s2∧Turn X.prog X.w X.K tg J fp it tn∧tn 0 s2.heap∧(∀b∈fp,G8 X ah H' b)∧R J H'
def PI(X:Cx)(tg iter:Expr)(wi:TI):Prop:=
 ∀(ah:List (Addr×Obj)) (s:Shared) (σ:St) (H:Hp) (R:It→Hp→Prop),bu X ah σ H s→wi σ H R→
  wpAny (model X.prog X.w) X.A (eval iter X.env) (fun v s1=>wpAny (model X.prog X.w) X.A (pyIter v) (PIE X ah σ tg R) X.xe s1) X.xe s
theorem QV{M:Model}{A:Around}{E:Value→Shared→Prop}{s:Shared}{tg:Expr}{it:Addr}{u:Value}{o:Obj}{n:String}{vs:Array Value}{Q:Unit→Shared→Prop}(ho:s.heap.get? it=some o)(hc:o.cls=.type n)(hd:o.data=.fields vs)
  (hn:["enumerate","zip","dict_itemiterator","dict_reverseitemiterator","odict_iterator","itertools.zip_longest","itertools.pairwise"].contains n=false)(hQ:Q () s):wpAny M A (letOwnedTupleGo tg (.ref it) u) Q E s:=by
 unfold letOwnedTupleGo;cases tg<;>first
  |exact wpAny_pure hQ
  |(cases u<;>first
    |exact wpAny_pure hQ
    |(refine wpAny_bind (wpAny_load ho ?_)
      rw[hc,hd];show wpAny M A (if(["enumerate","zip","dict_itemiterator","dict_reverseitemiterator","odict_iterator","itertools.zip_longest","itertools.pairwise"].contains n&&vs[0]? ==some (rawInt _))=true then _ else _) Q E s;rw[if_neg (by intro h;rw[hn,at6]at h;cases h)];exact wpAny_pure hQ))
def Yw(K:apw)(a:Addr):It:=
 ⟨fun i H=>∃xs x,jH K H a xs∧xs[i]? =some x,fun i H x H'=>H'=H∧∀xs,jH K H a xs→xs[i]? =some x,fun i H=>∃xs,jH K H a xs∧xs.length≤i⟩
def Yv(K:apw)(a:Addr):It:=
 ⟨fun i H=>∃xs x,AK K H a xs∧xs[i]? =some x,fun i H x H'=>H'=H∧∀xs,AK K H a xs→xs[i]? =some x,fun i H=>∃xs,AK K H a xs∧xs.length≤i⟩
def Wz(lo:Int)(n:Nat):It:=⟨fun i _=>i<n,fun i H x H'=>H'=H∧x=.int (lo+i),fun i _=>n≤i⟩
theorem Rp{P:Program}{w:World}{K:apw}{tg:Expr}(a it:Addr):Turn P w K tg (Yw K a) [it] it (fun i h=>h.IsListIter it a i) where
 mem:=by simp
 obj:=fun i h st b hb=>by
  have e:b=it:=by simpa using hb
  subst e;obtain⟨o,e,c,d⟩:=st;exact⟨o,e,fun v z=>by rw[d]at z;cases z⟩
 keep:=fun i h h' st k=>st.at fun o e=>k it (by simp) o e
 item:=by
  intro X hP hw hK hc i ah s σ H E I hf st hg;subst hP hw hK;obtain⟨xs,x,hq,hx⟩:=hg;obtain⟨bX,rv,p,hz⟩:=I.list hq;obtain⟨u,hu,ru⟩:=rv.get hx;obtain⟨f0,f1,f2,f3,f4,f5⟩:=hf it (by simp);refine wpAny_pyNext_list_item st p.isList (x:=u) (by simpa using hu) fun h' oN sb=>?_;have I1:bu X ah σ H {s with heap:=h'}:=I.gf (t':=s.toks) (fun b o hb e=>(sb.2 b hb).trans e) f0 f1 f3 f4 f5;obtain⟨o,e,c,d⟩:=id oN;exact⟨u,rfl,QV (s:={s with heap:=h'}) e c d (by decide) ⟨x,H,I1,ru,⟨rfl,fun ys hy=>by rw[I.Vk hy hq];exact hx⟩,oN,fun b hb=>(hf b hb).1⟩⟩
 done:=by
  intro X hP hw hK hc i ah s σ H E I hf st hg;subst hP hw hK;obtain⟨xs,hq,hx⟩:=hg;obtain⟨bX,rv,p,hz⟩:=I.list hq;obtain⟨f0,f1,f2,f3,f4,f5⟩:=hf it (by simp);have hl:=rv.length;exact wpAny_pyNext_list_end (I.ok.hd hc) st p.isList (by simp;omega) fun h' eb=>⟨rfl,I.gf (t':=s.toks) (fun b o hb e=>eb b o hb e) f0 f1 f3 f4 f5⟩
 self:=fun _ _ _ _ _ st h=>wpAny_pyIter_listiter st h
theorem Na{P:Program}{w:World}{K:apw}{tg:Expr}(a it:Addr):Turn P w K tg (Yv K a) [it] it (fun i h=>h.IsTupleIter it a i) where
 mem:=by simp
 obj:=fun i h st b hb=>by
  have e:b=it:=by simpa using hb
  subst e;obtain⟨o,e,c,d⟩:=st;exact⟨o,e,fun v z=>by rw[d]at z;cases z⟩
 keep:=fun i h h' st k=>st.at fun o e=>k it (by simp) o e
 item:=by
  intro X hP hw hK hc i ah s σ H E I hf st hg;subst hP hw hK;obtain⟨xs,x,hq,hx⟩:=hg;obtain⟨bX,rv,p,hz⟩:=I.tuple hq;obtain⟨u,hu,ru⟩:=rv.get hx;obtain⟨f0,f1,f2,f3,f4,f5⟩:=hf it (by simp);refine wpAny_pyNext_tuple_item st (show s.heap.IsTuple a bX.toArray from p) (x:=u) (by simpa using hu) fun h' oN sb=>?_;have I1:bu X ah σ H {s with heap:=h'}:=I.gf (t':=s.toks) (fun b o hb e=>(sb.2 b hb).trans e) f0 f1 f3 f4 f5;obtain⟨o,e,c,d⟩:=id oN;exact⟨u,rfl,QV (s:={s with heap:=h'}) e c d (by decide) ⟨x,H,I1,ru,⟨rfl,fun ys hy=>by rw[I.Rq hy hq];exact hx⟩,oN,fun b hb=>(hf b hb).1⟩⟩
 done:=by
  intro X hP hw hK hc i ah s σ H E I hf st hg;subst hP hw hK;obtain⟨xs,hq,hx⟩:=hg;obtain⟨bX,rv,p,hz⟩:=I.tuple hq;obtain⟨f0,f1,f2,f3,f4,f5⟩:=hf it (by simp);have hl:=rv.length;exact wpAny_pyNext_tuple_end (I.ok.hd hc) st (show s.heap.IsTuple a bX.toArray from p) (by simp;omega) fun h' eb=>⟨rfl,I.gf (t':=s.toks) (fun b o hb e=>eb b o hb e) f0 f1 f3 f4 f5⟩
 self:=fun _ _ _ _ _ st h=>wpAny_pyIter_tupleiter st h
theorem Nb{P:Program}{w:World}{K:apw}{tg:Expr}(it:Addr)(lo:Int)(n:Nat):Turn P w K tg (Wz lo n) [it] it (fun i h=>IsRangeIter h it (lo+(i:Nat)*1) ((n:Int)-(i:Nat)) 1) where
 mem:=by simp
 obj:=fun i h st b hb=>by
  have e:b=it:=by simpa using hb
  subst e;exact⟨_,st,fun v z=>by
   have z':Data.fields _=Data.cell v:=z;cases z'⟩
 keep:=fun i h h' st k=>k it (by simp) _ st
 item:=by
  intro X hP hw hK hc i ah s σ H E I hf st hg;subst hP hw hK;obtain⟨f0,f1,f2,f3,f4,f5⟩:=hf it (by simp);have W:=Walks.range (prog:=X.prog) (w:=X.w) (I.ok.hd hc) it lo 1 n;refine W.item i s _ _ hg st fun v h' tk hv oN kk=>?_;obtain⟨t,rfl⟩:=hv;have I1:bu X ah σ H {s with heap:=h',toks:=tk}:=I.gf (fun b o hb e=>kk b o (by simpa using hb) e) f0 f1 f3 f4 f5;refine⟨_,rfl,QV (s:={s with heap:=h',toks:=tk}) (n:="range_iterator") oN rfl rfl (by decide) ⟨.int (lo+i),H,I1,⟨t,?_⟩,⟨rfl,rfl⟩,oN,fun b hb=>(hf b hb).1⟩⟩;rw[Int.mul_one]
 done:=by
  intro X hP hw hK hc i ah s σ H E I hf st hg;subst hP hw hK;obtain⟨f0,f1,f2,f3,f4,f5⟩:=hf it (by simp);exact wpAny_pyNext_range_end (I.ok.hd hc) st (by have:n≤i:=hg;omega) fun h' eb=>⟨rfl,I.gf (t':=s.toks) (fun b o hb e=>eb b o hb e) f0 f1 f3 f4 f5⟩
 self:=fun _ _ _ _ _ st h=>wpAny_pyIter_rangeiter st h
section
variable{X:Cx}{tg:Expr}
def acI(K:apw)(tl:TE):TI:=fun σ H R=>tl σ H fun x H1=>∃a,x=.ref a∧(∃xs,jH K H1 a xs)∧R (Yw K a) H1
def agY(K:apw)(tl:TE):TI:=fun σ H R=>tl σ H fun x H1=>∃a,x=.ref a∧(∃xs,AK K H1 a xs)∧R (Yv K a) H1
theorem mZ{l:Expr}{tl:TE}(hl:PE X l tl):PI X tg l (acI X.K tl):=by
 intro ah s σ H R I h;refine lu (hl ah s σ H _ I h) fun v s1 x H1 I1 r1 q1=>?_;obtain⟨a,e,⟨xs,hq⟩,q⟩:=q1;subst e;cases r1;obtain⟨bX,rv,p,hz⟩:=I1.list hq;refine wpAny_pyIter_list p.isList ?_;refine⟨s1.heap.objs.size,[s1.heap.objs.size],_,_,H1,rfl,I1.kept (t':=s1.toks) fun b o e=>apL _ e,Rp a _,⟨_,aqd _ rfl,rfl,rfl⟩,fun b hb=>?_,q⟩;have e:b=s1.heap.objs.size:=by simpa using hb
 subst e;exact I1.VL (apE _) (I1.du.fresh (apE _))
theorem UN{l:Expr}{tl:TE}(hl:PE X l tl):PI X tg l (agY X.K tl):=by
 intro ah s σ H R I h;refine lu (hl ah s σ H _ I h) fun v s1 x H1 I1 r1 q1=>?_;obtain⟨a,e,⟨xs,hq⟩,q⟩:=q1;subst e;cases r1;obtain⟨bX,rv,p,hz⟩:=I1.tuple hq;refine wpAny_pyIter_tuple (show s1.heap.IsTuple a bX.toArray from p) ?_;refine⟨s1.heap.objs.size,[s1.heap.objs.size],_,_,H1,rfl,I1.kept (t':=s1.toks) fun b o e=>apL _ e,Na a _,⟨_,aqd _ rfl,rfl,rfl⟩,fun b hb=>?_,q⟩;have e:b=s1.heap.objs.size:=by simpa using hb
 subst e;exact I1.VL (apE _) (I1.du.fresh (apE _))
theorem Lo{ah:List (Addr×Obj)}{σ:St}{H:Hp}{s:Shared}{R:It→Hp→Prop}{E:Value→Shared→Prop}{lo hi:Int}{t u v:Tok}{tk:Nat}(I:bu X ah σ H s)(h1: -(2 ^ 62)≤lo)(h2:lo<2 ^ 62)(h3: -(2 ^ 62)≤hi)(h4:hi<2 ^ 62)
  (q:R (Wz lo (hi-lo).toNat) H):wpAny (model X.prog X.w) X.A (pyIter (.ref s.heap.objs.size)) (PIE X ah σ tg R) E {s with heap:=s.heap.push {cls:=.type "range",data:=.fields #[.int lo t,.int hi u,.int 1 v]},toks:=tk}:=by
 refine wpAny_pyIter_range (IsRange.new ..) (small_one h1 h2 h3 h4) ?_;have I1:bu X ah σ H {s with heap:=s.heap.push {cls:=.type "range",data:=.fields #[.int lo t,.int hi u,.int 1 v]},toks:=tk}:=I.kept fun b o e=>apL _ e;refine⟨(s.heap.push {cls:=.type "range",data:=.fields #[.int lo t,.int hi u,.int 1 v]}).objs.size,[(s.heap.push {cls:=.type "range",data:=.fields #[.int lo t,.int hi u,.int 1 v]}).objs.size],_,_,H,rfl,
  I1.kept (t':=tk) fun b o e=>apL _ e,Nb _ lo (hi-lo).toNat,?_,fun b hb=>?_,q⟩
 ·have e1:lo+((0:Nat):Int)*1=lo:=by simp
  have e2:(((hi-lo).toNat:Nat):Int)-((0:Nat):Int)=avY lo hi 1:=by rw[rangeSize_one];split<;>omega
  show IsRangeIter _ _ (lo+((0:Nat):Int)*1) ((((hi-lo).toNat:Nat):Int)-((0:Nat):Int)) 1;rw[e1,e2];exact aqd _ rfl
 ·have e:b=(s.heap.push {cls:=.type "range",data:=.fields #[.int lo t,.int hi u,.int 1 v]}).objs.size:=by simpa using hb
  subst e;exact I1.VL (apE _) (I1.du.fresh (apE _))
def acH(ta:TA):TI:=fun σ H R=>ta σ H fun vs H1=>∃j:Int,vs=[.int j]∧ -(2 ^ 62)≤j∧j<2 ^ 62∧R (Wz 0 j.toNat) H1
def acG(ta:TA):TI:=fun σ H R=>ta σ H fun vs H1=>∃i j:Int,vs=[.int i,.int j]∧(-(2 ^ 62)≤i∧i<2 ^ 62∧ -(2 ^ 62)≤j∧j<2 ^ 62)∧R (Wz i (j-i).toNat) H1
theorem RU{a:Expr}{ta:TA}{p pos:Pos}(hg:Gl X "range")(hm:X.mg "range"=none)(ha:PA X [a] ta)(hs:starEach [a] X.env=[(false,eval a X.env)]:=by rfl):PI X tg (.Call (.Name "range" p) [a] [] pos) (acH ta):=by
 intro ah s σ H R I h;refine Call_ (Jt I hg hm boot_range (ar5 (Wm (ha pos ah s σ H _ I h) fun us s1 vs H1 I1 r1 q1=>?_) hs rfl));obtain⟨j,e,q1,q2,q⟩:=q1;subst e;cases r1 with
 |cons r rr=>
  cases rr;obtain⟨t,rfl⟩:=r;exact call_range_1 (Lo I1 (by omega) (by omega) q1 q2 (by simpa using q))
theorem Hw{a b:Expr}{ta:TA}{p pos:Pos}(hg:Gl X "range")(hm:X.mg "range"=none)(ha:PA X [a,b] ta)(hs:starEach [a,b] X.env=[(false,eval a X.env),(false,eval b X.env)]:=by rfl)(Z0:starEach [b] X.env=[(false,eval b X.env)]:=by rfl):
  PI X tg (.Call (.Name "range" p) [a,b] [] pos) (acG ta):=by
 intro ah s σ H R I h;refine Call_ (Jt I hg hm boot_range (ar5 (Wm (ha pos ah s σ H _ I h) fun us s1 vs H1 I1 r1 q1=>?_) (by rw[hs,Z0]) (by rw[Z0];rfl)));obtain⟨i,j,e,⟨q1,q2,q3,q4⟩,q⟩:=q1;subst e;cases r1 with
 |cons r rr=>
  cases rr with
  |cons r' rr=>
   cases rr;obtain⟨t,rfl⟩:=r;obtain⟨t',rfl⟩:=r';exact call_range_2 (Lo I1 q1 q2 q3 q4 q)
def ae7(wi:TI)(g:TG)(tb:TS):TS:=fun D σ H=>wi σ H fun J H1=>∃W:Nat→Nat→St→Hp→Prop,(∃m,W 0 m σ H1)∧∀i m σ H,W i m σ H→
 (J.stop i H∧D.nx σ H)∨(J.go i H∧∃N:St→Hp→Prop,(∀σ' H',N σ' H'→∃m',m'<m∧W (i+1) m' σ' H')∧∀x H',J.Wl i H x H'→g x σ H' fun σ2 H2=>tb {D with nx:=N,ct:=N,bk:=D.nx} σ2 H2)
def DZ(fp:List Addr)(h:Heap):List (Addr×Obj):=fp.filterMap fun b=>(h.get? b).map fun o=>(b,o)
theorem wI{fp:List Addr}{h:Heap}{b:Addr}{o:Obj}(hb:b∈fp)(e:h.get? b=some o):(b,o)∈DZ fp h:=aqu.mpr ⟨b,hb,by rw[e];rfl⟩
theorem RX{fp:List Addr}{h:Heap}{p:Addr×Obj}(hp:p∈DZ fp h):p.1∈fp∧h.get? p.1=some p.2:=by
 obtain⟨b,hb,e⟩:=aqu.mp hp;cases q:h.get? b with
 |none=>rw[q]at e;cases e
 |some o=>
  rw[q]at e;have e':(b,o)=p:=apC e;subst e';exact⟨hb,q⟩
theorem bu.pinned{ah:List (Addr×Obj)}{σ:St}{H:Hp}{s:Shared}{fp:List Addr}(I:bu X ah σ H s)(hf:∀b∈fp,G8 X ah H b)(ho:∀b∈fp,∃o,s.heap.get? b=some o∧∀v,o.data≠.cell v):bu X (ah++DZ fp s.heap) σ H s:=
 I.Qo fun p hp=>(apx.mp hp).elim (fun z=>I.pin p (ap3 _ z)) fun z=>by
  obtain⟨hb,e⟩:=RX z;obtain⟨f0,f1,f2,_⟩:=hf p.1 hb;obtain⟨o,e',d⟩:=ho p.1 hb;rw[e]at e';cases e';exact⟨e,f0,f1,f2,d⟩
theorem bu.xl{ah pl:List (Addr×Obj)}{σ:St}{H:Hp}{s:Shared}(I:bu X (ah++pl) σ H s):bu X ah σ H s:=I.Qo fun p hp=>I.pin p (ap3 _ (aqr _ hp))
theorem wA{iter:Expr}{body:List Stmt}{wi:TI}{g:TG}{tb:TS}{pos:Pos}(hp:PassesOwn (model X.prog X.w) X.A X.env X.xe)(hc:X.GQ=true)(hi:PI X tg iter wi)(hg:PG X tg g)(hb:Te X body tb)
  (hs:∀x,foldedSetIterable iter X.env x=pure x:=by intro _;rfl):PS X (.For tg iter body [] pos) (ae7 wi g tb):=by
 intro ah s σ H D I h;refine wpAny_For (rR (hi ah s σ H _ I h) fun v s1 h1=>rR h1 fun itv s2 h2=>?_) hs;obtain⟨it,fp,tn,J,H2,e,I2,T,st2,f2,W,⟨m0,w0⟩,turn⟩:=h2;subst e;have Nj:∀{H':Hp},(∀b∈fp,H' b=none)→∀b∈fp,G8 X ah H' b:=fun hn b hb=>⟨hn b hb,(f2 b hb).2⟩;refine codeAny_forLoop_any (fun n s'=>∃i σ' H',bu X ah σ' H' s'∧tn i s'.heap∧(∀b∈fp,H' b=none)∧W i n σ' H') ?_ m0 ⟨0,σ,H2,I2,st2,fun b hb=>(f2 b hb).1,w0⟩;rintro n s3 ⟨i,σ3,H3,I3,st3,fr3,w3⟩;rcases turn i n σ3 H3 w3 with⟨stop,qn⟩|⟨go,N,hN,step⟩
 ·refine wpAny_passesOwn hp (rR (T.done X rfl rfl rfl hc i ah s3 σ3 H3 X.xe I3 (Nj fr3) st3 stop) fun r s4 zz=>?_);obtain⟨hr,I4⟩:=zz;subst hr;exact wpAny_execs_nil ⟨σ3,H3,I4,qn⟩
 ·refine wpAny_passesOwn hp (rR (T.item X rfl rfl rfl hc i ah s3 σ3 H3 X.xe I3 (Nj fr3) st3 go) fun r s4 zz=>?_);obtain⟨u,hr,h4⟩:=zz;subst hr;refine wpAny_passesOwn hp (rR h4 fun _ s5 zz=>?_);obtain⟨x,H5,I5,r5,y5,Wo,fr5⟩:=zz;have I5':=I5.pinned (Nj fr5) (T.obj _ _ Wo);refine wpAny_passesOwn hp (rR (hg _ s5 σ3 H5 x u _ I5' r5 (step x H5 y5)) fun _ s6 zz=>?_);obtain⟨σ6,H6,I6,q6⟩:=zz;refine wpAny_passesOwn hp (rR (hb _ s6 σ6 H6 _ I6 q6) fun f s7 q7=>?_);have again:∀{σ7:St} {H7:Hp},bu X (ah++DZ fp s5.heap) σ7 H7 s7→N σ7 H7→∃m,m<n∧∃i σ' H',bu X ah σ' H' s7∧tn i s7.heap∧(∀b∈fp,H' b=none)∧W i m σ' H':=fun{σ7 H7} I7 n7=>by
   obtain⟨m',hm,w7⟩:=hN σ7 H7 n7;refine⟨m',hm,i+1,σ7,H7,I7.xl,T.keep _ _ _ Wo fun b hb o e=>(I7.pin (b,o) (ap3 _ (ap3 _ (wI hb e)))).1,fun b hb=>?_,w7⟩;obtain⟨o,e,d⟩:=T.obj _ _ Wo b hb;exact(I7.pin (b,o) (ap3 _ (ap3 _ (wI hb e)))).2.1
  cases f with
  |next=>obtain⟨σ7,H7,I7,n7⟩:=q7;exact again I7 n7
  |cont=>obtain⟨σ7,H7,I7,n7⟩:=q7;exact again I7 n7
  |brk=>obtain⟨σ7,H7,I7,q7⟩:=q7;exact⟨σ7,H7,I7.xl,q7⟩
  |ret v=>obtain⟨x7,σ7,H7,I7,r7,q7⟩:=q7;exact⟨x7,σ7,H7,I7.xl,r7,q7⟩
end
theorem yr{K:apw}{a:Addr}{xs:List V}{g:TG}{tb:TS}{D:w9}{σ:St}{H:Hp}(Pv:Nat→St→Hp→Prop)(h0:Pv 0 σ H)(hl:∀i σ H,i≤xs.length→Pv i σ H→jH K H a xs)
  (hs:∀i x σ H,xs[i]? =some x→Pv i σ H→g x σ H fun σ2 H2=>tb {D with nx:=Pv (i+1),ct:=Pv (i+1),bk:=D.nx} σ2 H2)(hd:∀σ H,Pv xs.length σ H→D.nx σ H):
  ∃W:Nat→Nat→St→Hp→Prop,(∃m,W 0 m σ H)∧∀i m σ H,W i m σ H→
   ((Yw K a).stop i H∧D.nx σ H)∨((Yw K a).go i H∧∃N:St→Hp→Prop,(∀σ' H',N σ' H'→∃m',m'<m∧W (i+1) m' σ' H')∧∀x H',(Yw K a).Wl i H x H'→g x σ H' fun σ2 H2=>tb {D with nx:=N,ct:=N,bk:=D.nx} σ2 H2):=by
 refine⟨fun i m σ H=>m=xs.length-i∧i≤xs.length∧Pv i σ H,⟨xs.length,by simp,apV _,h0⟩,?_⟩;rintro i m σ H ⟨rfl,hi,p⟩;have q:=hl i σ H hi p;by_cases gX:i<xs.length
 ·refine .inr ⟨⟨xs,xs[i],q,by simp[gX]⟩,Pv (i+1),fun σ' H' p'=>⟨xs.length-(i+1),by omega,rfl,gX,p'⟩,fun x H' y=>?_⟩;obtain⟨e,y⟩:=y;subst e;exact hs i x σ _ (y xs q) p
 ·have e:i=xs.length:=by omega
  subst e;exact .inl ⟨⟨xs,q,apE _⟩,hd σ H p⟩
theorem XN{K:apw}{a:Addr}{xs:List V}{g:TG}{tb:TS}{D:w9}{σ:St}{H:Hp}(Pv:Nat→St→Hp→Prop)(h0:Pv 0 σ H)(hl:∀i σ H,i≤xs.length→Pv i σ H→AK K H a xs)
  (hs:∀i x σ H,xs[i]? =some x→Pv i σ H→g x σ H fun σ2 H2=>tb {D with nx:=Pv (i+1),ct:=Pv (i+1),bk:=D.nx} σ2 H2)(hd:∀σ H,Pv xs.length σ H→D.nx σ H):
  ∃W:Nat→Nat→St→Hp→Prop,(∃m,W 0 m σ H)∧∀i m σ H,W i m σ H→
   ((Yv K a).stop i H∧D.nx σ H)∨((Yv K a).go i H∧∃N:St→Hp→Prop,(∀σ' H',N σ' H'→∃m',m'<m∧W (i+1) m' σ' H')∧∀x H',(Yv K a).Wl i H x H'→g x σ H' fun σ2 H2=>tb {D with nx:=N,ct:=N,bk:=D.nx} σ2 H2):=by
 refine⟨fun i m σ H=>m=xs.length-i∧i≤xs.length∧Pv i σ H,⟨xs.length,by simp,apV _,h0⟩,?_⟩;rintro i m σ H ⟨rfl,hi,p⟩;have q:=hl i σ H hi p;by_cases gX:i<xs.length
 ·refine .inr ⟨⟨xs,xs[i],q,by simp[gX]⟩,Pv (i+1),fun σ' H' p'=>⟨xs.length-(i+1),by omega,rfl,gX,p'⟩,fun x H' y=>?_⟩;obtain⟨e,y⟩:=y;subst e;exact hs i x σ _ (y xs q) p
 ·have e:i=xs.length:=by omega
  subst e;exact .inl ⟨⟨xs,q,apE _⟩,hd σ H p⟩
theorem HQ{lo:Int}{n:Nat}{g:TG}{tb:TS}{D:w9}{σ:St}{H:Hp}(Pv:Nat→St→Hp→Prop)(h0:Pv 0 σ H)
  (hs:∀i σ H,i<n→Pv i σ H→g (.int (lo+i)) σ H fun σ2 H2=>tb {D with nx:=Pv (i+1),ct:=Pv (i+1),bk:=D.nx} σ2 H2)(hd:∀σ H,Pv n σ H→D.nx σ H):
  ∃W:Nat→Nat→St→Hp→Prop,(∃m,W 0 m σ H)∧∀i m σ H,W i m σ H→
   ((Wz lo n).stop i H∧D.nx σ H)∨((Wz lo n).go i H∧∃N:St→Hp→Prop,(∀σ' H',N σ' H'→∃m',m'<m∧W (i+1) m' σ' H')∧∀x H',(Wz lo n).Wl i H x H'→g x σ H' fun σ2 H2=>tb {D with nx:=N,ct:=N,bk:=D.nx} σ2 H2):=by
 refine⟨fun i m σ H=>m=n-i∧i≤n∧Pv i σ H,⟨n,by simp,apV _,h0⟩,?_⟩;rintro i m σ H ⟨rfl,hi,p⟩;by_cases gX:i<n
 ·refine .inr ⟨gX,Pv (i+1),fun σ' H' p'=>⟨n-(i+1),by omega,rfl,gX,p'⟩,fun x H' y=>?_⟩;obtain⟨e,y⟩:=y;subst e y;exact hs i σ _ gX p
 ·have e:i=n:=by omega
  subst e;exact .inl ⟨apE _,hd σ H p⟩
theorem Kr{c:TT}{tb:TS}{D:w9}{σ:St}{H:Hp}(Pv:St→Hp→Prop)(μ:St→Hp→Nat)(h0:Pv σ H)
  (hs:∀σ H,Pv σ H→c σ H fun b H1=>if b=true then tb {D with nx:=fun σ' H'=>Pv σ' H'∧μ σ' H'<μ σ H,ct:=fun σ' H'=>Pv σ' H'∧μ σ' H'<μ σ H,bk:=D.nx} σ H1 else D.nx σ H1)
  (x9:∀σ H Q Q',(∀b H1,Q b H1→Q' b H1)→c σ H Q→c σ H Q'):TQ c tb D σ H:=by
 refine⟨fun m σ H=>m=μ σ H∧Pv σ H,⟨_,rfl,h0⟩,?_⟩;rintro m σ H ⟨rfl,p⟩;refine x9 σ H _ _ (fun b H1 q=>?_) (hs σ H p);cases b with
 |true=>exact⟨_,fun σ' H' ⟨p',l⟩=>⟨_,l,rfl,p'⟩,q⟩
 |false=>exact q
abbrev R2:=V→V→Hp→VK→Prop
def BE(X:Cx)(f:Value→Value→Sem Value)(r:R2):Prop:=
 ∀(ah:List (Addr×Obj)) (s:Shared) (σ:St) (H:Hp) (x y:V) (v u:Value) (Q:VK),bu X ah σ H s→ck x v→ck y u→r x y H Q→
  wpAny (model X.prog X.w) X.A (f v u) (EP X ah σ Q) X.xe s
def rF(X:Cx)(f:Value)(r:List V→Hp→VK→Prop):Prop:=
 ∀(ah:List (Addr×Obj)) (s:Shared) (σ:St) (H:Hp) (xs:List V) (us:List Value) (Q:VK),bu X ah σ H s→cg xs us→r xs H Q→
  wpAny (model X.prog X.w) X.A (call f us) (EP X ah σ Q) X.xe s
def Ru(r:R2)(ta tb:TE):TE:=fun σ H Q=>ta σ H fun x H1=>tb σ H1 fun y H2=>r x y H2 Q
def rI(C:Int→Int→Prop)(g:Int→Int→V):R2:=fun x y H Q=>∃i j,x=.int i∧y=.int j∧C i j∧Q (g i j) H
def Qi(g:Int→Int→V):R2:=fun x y H Q=>∃i j,x=.int i∧y=.int j∧Q (g i j) H
section
variable{X:Cx}{a b c:Expr}{ta tb tc:TE}{pos:Pos}
theorem aap(ha:PE X a ta)(hb:PE X b tb){ah:List (Addr×Obj)}{s:Shared}{σ:St}{H:Hp}{R:V→V→Hp→Prop}(I:bu X ah σ H s)
  (h:ta σ H fun x H1=>tb σ H1 fun y H2=>R x y H2){Q:Value→Shared→Prop}{f:Value→Value→Sem Value}
  (hf:∀v u s2 x y H2,bu X ah σ H2 s2→ck x v→ck y u→R x y H2→wpAny (model X.prog X.w) X.A (f v u) Q X.xe s2):
  wpAny (model X.prog X.w) X.A (eval a X.env) (fun v s₁=>wpAny (model X.prog X.w) X.A (eval b X.env) (fun u s₂=>wpAny (model X.prog X.w) X.A (f v u) Q X.xe s₂) X.xe s₁) X.xe s:=by
 refine lu (ha ah s σ H _ I h) fun v s1 x H1 I1 r1 q1=>?_;refine lu (hb ah s1 σ H1 _ I1 q1) fun u s2 y H2 I2 r2 q2=>?_;exact hf v u s2 x y H2 I2 r1 r2 q2
theorem aZ{op:Operator}{r:R2}(ho:BE X (binaryOp op) r)(ha:PE X a ta)(hb:PE X b tb):PE X (.BinOp a op b pos) (Ru r ta tb):=by
 intro ah s σ H Q I h;exact wpAny_BinOp (aap ha hb I h fun v u s2 x y H2 I2 rx ry q=>ho ah s2 σ H2 x y v u Q I2 rx ry q)
theorem opI{f:Value→Value→Sem Value}{C:Int→Int→Prop}{g:Int→Int→Int}
  (rule:∀(i j:Int) (t u:Tok) (s:Shared) (Q:Value→Shared→Prop) (E:Value→Shared→Prop),C i j→Q (.int (g i j) s.toks) {s with toks:=s.toks+1}→wpAny (model X.prog X.w) X.A (f (.int i t) (.int j u)) Q E s):
  BE X f (rI C fun i j=>.int (g i j)):=by
 intro ah s σ H x y v u Q I rx ry h;obtain⟨i,j,rfl,rfl,hc,q⟩:=h;obtain⟨t,rfl⟩:=rx;obtain⟨t',rfl⟩:=ry;exact rule i j t t' s _ _ hc ⟨.int (g i j),H,I.tok _,⟨_,rfl⟩,q⟩
theorem abP{f:Value→Value→Sem Value}{g:Int→Int→Int}
  (rule:∀(i j:Int) (t u:Tok) (s:Shared) (Q:Value→Shared→Prop) (E:Value→Shared→Prop),Q (.int (g i j) s.toks) {s with toks:=s.toks+1}→wpAny (model X.prog X.w) X.A (f (.int i t) (.int j u)) Q E s):
  BE X f (Qi fun i j=>.int (g i j)):=by
 intro ah s σ H x y v u Q I rx ry h;obtain⟨i,j,rfl,rfl,q⟩:=h;obtain⟨t,rfl⟩:=rx;obtain⟨t',rfl⟩:=ry;exact rule i j t t' s _ _ ⟨.int (g i j),H,I.tok _,⟨_,rfl⟩,q⟩
theorem Xc{f:Value→Value→Sem Value}{g:Int→Int→Bool}
  (rule:∀(i j:Int) (t u:Tok) (s:Shared) (Q:Value→Shared→Prop) (E:Value→Shared→Prop),Q (.bool (g i j)) s→wpAny (model X.prog X.w) X.A (f (.int i t) (.int j u)) Q E s):
  BE X f (Qi fun i j=>.bl (g i j)):=by
 intro ah s σ H x y v u Q I rx ry h;obtain⟨i,j,rfl,rfl,q⟩:=h;obtain⟨t,rfl⟩:=rx;obtain⟨t',rfl⟩:=ry;exact rule i j t t' s _ _ ⟨.bl (g i j),H,I,rfl,q⟩
def adB(i j:Int):Prop:=0<j∧j<1073741824
def Kn(i j:Int):Prop:=(-(2 ^ 64)<i∧i<2 ^ 64)∨(-(2 ^ 64)<j∧j<2 ^ 64)
theorem Kn.ok{i j:Int}(h:Kn i j):IntMulOk i j:=by
 rcases h with⟨h1,h2⟩|⟨h1,h2⟩
 ·exact .of_left (intBits_le_64 h1 h2)
 ·exact .of_right (intBits_le_64 h1 h2)
theorem dD:BE X (binaryOp .Add) (Qi fun i j=>.int (i+j)):=abP fun _ _ _ _ _ _ _ q=>add_int q
theorem dS:BE X (binaryOp .Sub) (Qi fun i j=>.int (i-j)):=abP fun _ _ _ _ _ _ _ q=>sub_int q
theorem U1:BE X (binaryOp .Mult) (rI Kn fun i j=>.int (i*j)):=opI fun _ _ _ _ _ _ _ hc q=>mul_int q hc.ok
theorem uB:BE X (binaryOp .FloorDiv) (rI adB fun i j=>.int (i / j)):=opI fun i j _ _ _ _ _ hc q=>by
 have h1:(0:Int)<j:=hc.1;have h2:j<1073741824:=hc.2;exact floordiv_int (by omega) (by rw[Int.fdiv_eq_ediv_of_nonneg i (by omega)];exact q) (.inl (PyProof.noPylong_small (by omega)))
theorem NX:BE X (binaryOp .Mod) (rI (fun _ j=>0<j) fun i j=>.int (i % j)):=opI fun i j _ _ _ _ _ hc q=>by
 have h1:(0:Int)<j:=hc;exact mod_int' (by omega) (by rw[Int.fmod_eq_emod_of_nonneg i (by omega)];exact q)
end
def Nq:V→V→Bool
 | .cx,.cx=>true| .cx,.int _=>true| .int _,.cx=>true| .cx,.bl _=>true| .bl _,.cx=>true| .cx,.str _=>true| .str _,.cx=>true
 | .int _,.int _=>true| .bl _,.bl _=>true| .str _,.str _=>true| .M6 _,.M6 _=>true
 | .int _,.str _=>true| .str _,.int _=>true| .bl _,.str _=>true| .str _,.bl _=>true
 |_,_=>false
def rEq:R2:=fun x y H Q=>Nq x y=true∧Q (.bl (decide (x=y))) H
def rNe:R2:=fun x y H Q=>Nq x y=true∧Q (.bl (!decide (x=y))) H
theorem Rb{i j:Int}:decide (V.int i=V.int j)=(i==j):=by
 rw[aqe];simp
theorem VW{i j:Bool}:decide (V.bl i=V.bl j)=(i==j):=by
 rw[aqe];simp
theorem Ra{i j:Str}:decide (V.str i=V.str j)=(i==j):=by
 rw[aqe];simp
theorem Rc{i j:Array UInt8}:decide (V.M6 i=V.M6 j)=(i.toList==j.toList):=by
 rw[aqe];cases i;cases j;simp
section
variable{X:Cx}{a b c:Expr}{ta tb tc:TE}{pos:Pos}
theorem cB{ah:List (Addr×Obj)}{σ:St}{H:Hp}{s:Shared}{Q:VK}{k k':Bool}(I:bu X ah σ H s)(q:Q (.bl k) H)(e:k=k'):EP X ah σ Q (.bool k') s:=by
 subst e;exact⟨.bl k,H,I,rfl,q⟩
theorem cy:BE X (compareOp .Eq) rEq:=by
 intro ah s σ H x y v u Q I rx ry h;obtain⟨hs,q⟩:=h;cases x with
 |cx=>
  cases rx;cases y with
  |cx=>cases ry;exact avw (cB I q (by simp))
  |bl j=>cases ry;exact avx (cB I q (by simp))
  |int j=>obtain⟨t',rfl⟩:=ry;exact avH (cB I q (by simp))
  |str j=>obtain⟨t',rfl⟩:=ry;exact avI (cB I q (by simp))
  |_=>exact absurd (show false=true from hs) apI
 |bl i=>
  cases rx;cases y with
  |cx=>cases ry;exact avy (cB I q (by simp))
  |bl j=>cases ry;exact eq_bool (cB I q VW)
  |str j=>obtain⟨t',rfl⟩:=ry;exact avz (cB I q (by simp))
  |_=>exact absurd (show false=true from hs) apI
 |int i=>
  obtain⟨t,rfl⟩:=rx;cases y with
  |cx=>cases ry;exact avJ (cB I q (by simp))
  |int j=>obtain⟨t',rfl⟩:=ry;exact eq_int (cB I q Rb)
  |str j=>obtain⟨t',rfl⟩:=ry;exact avK (cB I q (by simp))
  |_=>exact absurd (show false=true from hs) apI
 |str i=>
  obtain⟨t,rfl⟩:=rx;cases y with
  |cx=>cases ry;exact avL (cB I q (by simp))
  |bl j=>cases ry;exact avA (cB I q (by simp))
  |int j=>obtain⟨t',rfl⟩:=ry;exact avM (cB I q (by simp))
  |str j=>obtain⟨t',rfl⟩:=ry;exact eq_str (cB I q Ra)
  |_=>exact absurd (show false=true from hs) apI
 |M6 i=>
  obtain⟨t,rfl⟩:=rx;cases y with
  |M6 j=>obtain⟨t',rfl⟩:=ry;exact PySem.W.eq_bytes (cB I q Rc)
  |_=>exact absurd (show false=true from hs) apI
 |_=>cases y<;>exact absurd (show false=true from hs) apI
theorem m9:BE X (compareOp .NotEq) rNe:=by
 intro ah s σ H x y v u Q I rx ry h;obtain⟨hs,q⟩:=h;cases x with
 |cx=>
  cases rx;cases y with
  |cx=>cases ry;exact avB (cB I q (by simp))
  |bl j=>cases ry;exact avC (cB I q (by simp))
  |int j=>obtain⟨t',rfl⟩:=ry;exact avN (cB I q (by simp))
  |str j=>obtain⟨t',rfl⟩:=ry;exact avO (cB I q (by simp))
  |_=>exact absurd (show false=true from hs) apI
 |bl i=>
  cases rx;cases y with
  |cx=>cases ry;exact avD (cB I q (by simp))
  |bl j=>cases ry;exact ne_bool (cB I q (congrArg not VW))
  |str j=>obtain⟨t',rfl⟩:=ry;exact avE (cB I q (by simp))
  |_=>exact absurd (show false=true from hs) apI
 |int i=>
  obtain⟨t,rfl⟩:=rx;cases y with
  |cx=>cases ry;exact avP (cB I q (by simp))
  |int j=>obtain⟨t',rfl⟩:=ry;exact ne_int (cB I q (congrArg not Rb))
  |str j=>obtain⟨t',rfl⟩:=ry;exact avQ (cB I q (by simp))
  |_=>exact absurd (show false=true from hs) apI
 |str i=>
  obtain⟨t,rfl⟩:=rx;cases y with
  |cx=>cases ry;exact avR (cB I q (by simp))
  |bl j=>cases ry;exact avF (cB I q (by simp))
  |int j=>obtain⟨t',rfl⟩:=ry;exact avS (cB I q (by simp))
  |str j=>obtain⟨t',rfl⟩:=ry;exact ne_str (cB I q (congrArg not Ra))
  |_=>exact absurd (show false=true from hs) apI
 |M6 i=>
  obtain⟨t,rfl⟩:=rx;cases y with
  |M6 j=>obtain⟨t',rfl⟩:=ry;exact PySem.W.ne_bytes (cB I q (congrArg not Rc))
  |_=>exact absurd (show false=true from hs) apI
 |_=>cases y<;>exact absurd (show false=true from hs) apI
theorem LA:BE X (compareOp .Lt) (Qi fun i j=>.bl (decide (i<j))):=Xc fun _ _ _ _ _ _ _ q=>lt_int q
theorem U2:BE X (compareOp .LtE) (Qi fun i j=>.bl (decide (i≤j))):=Xc fun _ _ _ _ _ _ _ q=>le_int q
theorem vq:BE X (compareOp .Gt) (Qi fun i j=>.bl (decide (j<i))):=Xc fun _ _ _ _ _ _ _ q=>gt_int q
theorem D5:BE X (compareOp .GtE) (Qi fun i j=>.bl (decide (j≤i))):=Xc fun _ _ _ _ _ _ _ q=>ge_int q
theorem kY:BE X (compareOp .Is) (fun x y H Q=>y=.cx∧Q (.bl (decide (x=.cx))) H):=by
 intro ah s σ H x y v u Q I rx ry h;obtain⟨rfl,q⟩:=h;cases ry;refine is_none_gen (cB I q ?_);cases x<;>first
  |(cases rx;rfl)
  |(obtain⟨t,rfl⟩:=rx;rfl)
theorem Xb:BE X (compareOp .IsNot) (fun x y H Q=>y=.cx∧Q (.bl (!decide (x=.cx))) H):=by
 intro ah s σ H x y v u Q I rx ry h;obtain⟨rfl,q⟩:=h;cases ry;refine isnot_none_gen (cB I q ?_);cases x<;>first
  |(cases rx;rfl)
  |(obtain⟨t,rfl⟩:=rx;rfl)
theorem aH(b:Expr){op:CmpOp}(h:op≠.In:=by decide)(h2:op≠.NotIn:=by decide):behindInMarks op b=false:=by
 have e1:(op==CmpOp.In)=false:=by cases op<;>first|rfl|exact absurd rfl h
 have e2:(op==CmpOp.NotIn)=false:=by cases op<;>first|rfl|exact absurd rfl h2
 cases b<;>simp[behindInMarks,e1,e2]
theorem m8{op:CmpOp}{r:R2}(ho:BE X (compareOp op) r)(ha:PE X a ta)(hb:PE X b tb)(hm:behindInMarks op b=false):PE X (.Compare a [op] [b] pos) (Ru r ta tb):=by
 intro ah s σ H Q I h;exact wpAny_Compare1 (aap ha hb I h fun v u s2 x y H2 I2 rx ry q=>ho ah s2 σ H2 x y v u Q I2 rx ry q) hm
def Hg(t:TE):TT:=fun σ H Q=>t σ H fun x H'=>∃k,x=.bl k∧Q k H'
theorem aD{op:CmpOp}{r:R2}(ho:BE X (compareOp op) r)(ha:PE X a ta)(hb:PE X b tb)(hm:behindInMarks op b=false):PT X (.Compare a [op] [b] pos) (Hg (Ru r ta tb)):=by
 intro ah s σ H Q I h;refine wpAny_isTrue_Compare1 (lu (ha ah s σ H _ I h) fun v s1 x H1 I1 r1 q1=>lu (hb ah s1 σ H1 _ I1 q1) fun u s2 y H2 I2 r2 q2=>
  lu (ho ah s2 σ H2 x y v u _ I2 r1 r2 q2) fun c s3 z H3 I3 r3 ⟨k,e,q3⟩=>?_) hm
 subst e;cases r3;exact wpAny_truthy_bool ⟨H3,I3,q3⟩
theorem Ez:(sizeLine:Nat)<2 ^ 63:=by rw[sizeLine_eq];decide
theorem cu:BE X (binaryOp .Add) (fun x y H Q=>∃i j,x=.str i∧y=.str j∧i.length+j.length≤sizeLine∧Q (.str (i++j)) H):=by
 intro ah s σ H x y v u Q I rx ry h;obtain⟨i,j,rfl,rfl,hz,q⟩:=h;obtain⟨t,rfl⟩:=rx;obtain⟨t',rfl⟩:=ry;exact add_str (fun t' tk=>⟨.str (i++j),H,I.tok _,⟨_,rfl⟩,q⟩) hz
theorem vals1{x:V}{us:List Value}(r:cg [x] us):∃u,us=[u]∧ck x u:=by
 cases r with
 |cons r1 r2=>cases r2;exact⟨_,rfl,r1⟩
theorem yF:rF X (.type "str") (fun xs H Q=>∃i,xs=[.int i]∧i.natAbs.log2<1920∧Q (.str (toString i)) H):=by
 intro ah s σ H xs us Q I r h;obtain⟨i,rfl,hz,q⟩:=h;obtain⟨u,rfl,t,rfl⟩:=vals1 r;exact PySem.P.str_of_int hz ⟨.str _,H,I.tok _,⟨_,rfl⟩,q⟩
theorem Fs:rF X (.builtin "ord") (fun xs H Q=>∃x,xs=[.str x]∧x.length=1∧Q (.int (x.cps.getD 0 0:Nat)) H):=by
 intro ah s σ H xs us Q I r h;obtain⟨x,rfl,hz,q⟩:=h;obtain⟨u,rfl,t,rfl⟩:=vals1 r;exact ord_of_one hz ⟨.int _,H,I.tok _,⟨_,rfl⟩,q⟩
end
structure PN(h:Heap)(x dx C:Addr)(mA:Str→Option Value):Prop where
 obj:h.get? x=some (arp C dx)
 ns:h.Ns1 dx mA
 ne:dx≠x
theorem R9{h:Heap}{dx:Addr}{mA:Str→Option Value}(n:h.Ns1 dx mA):∃od,h.get? dx=some od∧∀name,as8 name od=some (mA name):=by
 obtain⟨o,es,ep,ho,hd,hk,_,hm⟩:=n;refine⟨o,ho,fun name=>?_⟩;have e:=hm name;unfold nsFind findBy at e;rw[←Array.find?_toList]at e;unfold as8;rw[hd];dsimp only;split
 ·rename_i y q
  rw[q]at e;exact congrArg some e
 ·rename_i q
  rw[q]at e;have a:es.toList.any (·.refKey)=false:=by
   rw[arA];intro y hy;obtain⟨z,t,ahE⟩:=hk y (Array.mem_toList_iff.mp hy);simp[DictEntry.refKey,ahE]
  have a':¬es.toList.any (·.refKey)=true:=by rw[a];exact apI
  rw[if_neg a'];exact congrArg some e
theorem PN.look{h:Heap}{x dx C:Addr}{mA:Str→Option Value}(I:PN h x dx C mA):∃od,PySem.W.InstAt h x (arp C dx) C (some od)∧∀name,as8 name od=some (mA name):=
 let⟨od,ho,hl⟩:=R9 I.ns
 ⟨od,⟨I.obj,rfl,rfl,ho⟩,hl⟩
section
variable{prog:Program}{w:World}{A:Around}{E:Value→Shared→Prop}{s:Shared}{K:apw}{x dx C f:Addr}{mA:Str→Option Value}{name:Str}{v:Value}
theorem get_map{expr:Bool}{Q:Value→Shared→Prop}(X:K.In s.heap)(I:PN s.heap x dx C mA)(hg:asK K C name=true)(hh:atq K C=true)
  (ha:aq5 K (.ref C) name=some none)(hv:mA name=some v)(Xu:auU v=true)(h:Q v {s with toks:=s.toks+1}):
  wpAny (model prog w) A (getAttr (.ref x) name expr) Q E s:=by
 obtain⟨od,J,hl⟩:=I.look;exact PySem.W.get_value X J (as7 hg).1 (PySem.W.findObj_own hh ha rfl (by rw[hl,hv])) Xu h
theorem VG{pl:Sem Bool}{Q:Value×List Value→Shared→Prop}(X:K.In s.heap)(I:PN s.heap x dx C mA)(hg:asK K C name=true)
  (hf:aq5 K (.ref C) name=some (some (.ref f)))(ht:auA K (.ref f)=true)(hv:mA name=none)(h:Q (.ref f,[.ref x]) s):
  wpAny (model prog w) A (getMethod (.ref x) name pl) Q E s:=by
 obtain⟨od,J,hl⟩:=I.look;exact PySem.W.method_fn X J (as7 hg).1 (as7 hg).2 hf (beq_iff_eq.mp ht) (by show(as8 name od).map (·.isSome)=some false;rw[hl,hv];rfl) h
theorem W0{ns:List Str}{Q:Unit→Shared→Prop}(X:K.In s.heap)(I:PN s.heap x dx C mA)
  (hs:aq5 K (.ref C) "__setattr__"=some (some (.builtin "object.__setattr__")))(hp:auL K C=true)(ht:atX K C name=some none)(hh:atq K C=true)
  (hw:auy mA ns)(hsz:ns.length≤sizeLine)
  (h:∀h',PN h' x dx C (fun y=>if y=name then some v else mA y)→atw dx s.heap h'→Q () {s with heap:=h',toks:=s.toks+2}):
  wpAny (model prog w) A (setAttr (.ref x) name v) Q E s:=by
 obtain⟨od,J,hl⟩:=I.look;refine PySem.W.set_plain X J hs (PySem.W.osa_open (s:={s with toks:=s.toks+1}) (r:=none) X J hp ht fun b=>?_);obtain⟨cd,hc,hd'⟩:=PySem.W.any_some hh;have hx:s.heap.get? x=some ⟨.ref C,some dx,.plain,#[]⟩:=I.obj;refine wpAny_bind (wpAny_pure (wpAny_bind (wpAny_bind (wpAny_loadPart hx (wpAny_bind (awl (s:={s with toks:=s.toks+1}) (PySem.W.looks_clsIn X hc) ?_))))));rw[hd'];refine wpAny_pure (a:=some dx) (wpAny_bind (wpAny_pure (wpAny_bind ?_)));refine wpAny_nsSet1 (s:={s with toks:=s.toks+1}) I.ns fun h' hn2 Z0=>?_;obtain⟨oD,esD,epD,hoD,hdD,hcD⟩:=hn2.count (awn name v hw);refine wpAny_bind (wpAny_lookBehind hoD (by rw[hdD];exact pastItsLine_dict (aqa hcD (by rw[apz];omega))) ?_);exact wpAny_pure (h _ ⟨(Z0.2 _ (ap1 I.ne)).trans I.obj,hn2,I.ne⟩ Z0)
theorem Vg{R:Result→Shared→Prop}{vs:List Value}{kw:List (Str×Value)}(X:K.In s.heap)(hm:atY K C=true)
  (hi:aq5 K (.ref C) "__init__"=some (some (.ref f)))(hf:PySem.W.typeIn K (.ref f)=some (.type "function"))
  (h:codeAny (model prog w) (A.under (.builtin "type.__call__" ⟨.ref C::vs,kw⟩)) (.call (.ref f) ⟨.ref (s.heap.objs.size+1)::vs,kw⟩) (PySem.W.InitBack (s.heap.objs.size+1) R)
   {s with heap:=(s.heap.push aq0).push (arp C s.heap.objs.size)}):
  codeAny (model prog w) A (.call (.ref C) ⟨vs,kw⟩) R s:=by
 obtain⟨hh,g,d,t,os⟩:=s;exact PySem.W.make_core (PySem.W.makes_of X hm) (PySem.W.looks_findIn X hi) (fun self=>PySem.W.bind_fn X self hf) (.inl rfl) h
end
def cA(f:Str)(v:V):List (Str×V)→List (Str×V)
 |[]=>[(f,v)]
 |(g,x)::r=>if g=f then(g,v)::r else(g,x)::cA f v r
theorem A7(f g:Str)(v:V):∀fs:List (Str×V),(cA f v fs).lookup g=if g=f then some v else fs.lookup g
 |[]=>by
  show aro g [(f,v)]=_;by_cases h:g=f
  ·have hb:(g==f)=true:=beq_iff_eq.mpr h;simp only[aro,hb,if_pos h]
  ·have hb:(g==f)=false:=beq_eq_false_iff_ne.mpr h;simp only[aro,hb,if_neg h]
 |(k,x)::r=>by
  have ih:=A7 f g v r;rw[show cA f v ((k,x)::r)=(if k=f then(k,v)::r else(k,x)::cA f v r)from rfl];by_cases hk:k=f
  ·rw[if_pos hk];by_cases h:g=k
   ·have hb:(g==k)=true:=beq_iff_eq.mpr h;simp only[aro,hb,if_pos (h.trans hk)]
   ·have hb:(g==k)=false:=beq_eq_false_iff_ne.mpr h;simp only[aro,hb,if_neg (fun e:g=f=>h (e.trans hk.symm))]
  ·rw[if_neg hk];by_cases h:g=k
   ·have hb:(g==k)=true:=beq_iff_eq.mpr h;simp only[aro,hb,if_neg (fun e:g=f=>hk (h.symm.trans e))]
   ·have hb:(g==k)=false:=beq_eq_false_iff_ne.mpr h;simp only[aro,hb];exact ih
theorem Ai(f:Str)(v:V):∀fs:List (Str×V),f∈(cA f v fs).map (·.1)∧∀g,g∈fs.map (·.1)→g∈(cA f v fs).map (·.1)
 |[]=>⟨by simp[cA],fun g h=>by simp at h⟩
 |(k,x)::r=>by
  obtain⟨i1,i2⟩:=Ai f v r;rw[show cA f v ((k,x)::r)=(if k=f then(k,v)::r else(k,x)::cA f v r)from rfl];by_cases hk:k=f
  ·rw[if_pos hk];subst hk;exact⟨by simp,fun g h=>by simpa using h⟩
  ·rw[if_neg hk];refine⟨?_,fun g h=>?_⟩
   ·rw[apG];exact apy _ i1
   ·rw[apG]at h ⊢;rcases apA.mp h with e|e
    ·exact apA.mpr (.inl e)
    ·exact apy _ (i2 g e)
theorem Ba(f:Str)(v:V):∀fs:List (Str×V),(cA f v fs).length≤fs.length+1
 |[]=>by simp[cA]
 |(k,x)::r=>by
  have ih:=Ba f v r;rw[show cA f v ((k,x)::r)=(if k=f then(k,v)::r else(k,x)::cA f v r)from rfl];by_cases hk:k=f
  ·rw[if_pos hk,apz,apz];omega
  ·rw[if_neg hk,apz,apz];omega
theorem rQ.some_of{v:V}{o:Option Value}(r:rQ (some v) o):∃u,o=some u∧ck v u:=by
 cases o with
 |none=>exact(show False from r).elim
 |some u=>exact⟨u,rfl,r⟩
theorem rQ.none_of{o:Option Value}(r:rQ none o):o=none:=by
 cases o with
 |none=>rfl
 |some u=>exact(show False from r).elim
theorem So{v:V}{u:Value}(r:ck v u):auU u=true:=by
 cases v with
 |cx=>cases(show u=au5 from r);rfl
 |bl b=>cases(show u=asU b from r);rfl
 |int i=>obtain⟨t,e⟩:=(show∃t,u=asn i t from r);cases e;rfl
 |str x=>obtain⟨t,e⟩:=(show∃t,u=asN x t from r);cases e;rfl
 |M6 b=>obtain⟨t,e⟩:=(show∃t,u=av3 b t from r);cases e;rfl
 |flt b=>obtain⟨t,e⟩:=(show∃t,u=av4 b t from r);cases e;rfl
 |ref a=>cases(show u=aqq a from r);rfl
 |ty n=>cases(show u=arB n from r);rfl
section
variable{P:Program}{w:World}{H H':Hp}{h h':Heap}{a C dx:Addr}{fs E7:List (Str×V)}
theorem JG(du:ur P w H h)(e:H a=some (.bR C dx fs)):∃mA,PN h a dx C mA∧(∀f,rQ (fs.lookup f) (mA f))∧auy mA (fs.map (·.1))∧fs.length≤1000∧H dx=some (.own a):=by
 obtain⟨d,z,ne,ob,mA,n,r,q⟩:=(show gK P w H h a (.bR C dx fs)from du a _ e);exact⟨mA,⟨ob,n,ne⟩,r,q,z,d⟩
end
structure AL(K:apw)(C:Addr):Prop where
 pg:asK K C Str.empty=true
 hd:atq K C=true
 po:auL K C=true
 sa:aq5 K (.ref C) "__setattr__"=some (some (.builtin "object.__setattr__"))
theorem AL.get{K:apw}{C:Addr}(c:AL K C)(f:Str):asK K C f=true:=c.pg
def aG(K:apw)(C:Addr)(f:Str):Prop:=aq5 K (.ref C) f=some none
theorem aG.abx{K:apw}{C:Addr}{f:Str}(n:aG K C f):atX K C f=some none:=by
 unfold atX;rw[show aq5 K (.ref C) f=some none from n];rfl
structure fo(K:apw)(C:Addr)(m:Str)(f:Addr):Prop where
 at_:aq5 K (.ref C) m=some (some (.ref f))
 fn:auA K (.ref f)=true
 kp:ar0 K (.ref f)=true
section
variable{X:Cx}{ah:List (Addr×Obj)}{σ:St}{H:Hp}{s:Shared}{a C dx:Addr}{fs:List (Str×V)}{f:Str}{v:V}{A:Around}{E:Value→Shared→Prop}
theorem EW{b:Bool}{Q:Value→Shared→Prop}(I:bu X ah σ H s)(e:H a=some (.bR C dx fs))(c:AL X.K C)(n:aG X.K C f)(l:fs.lookup f=some v)
  (h:∀u s',bu X ah σ H s'→ck v u→Q u s'):wpAny (model X.prog X.w) A (getAttr (.ref a) f b) Q E s:=by
 obtain⟨mA,O,r,_,_,_⟩:=JG I.du e;obtain⟨u,hu,ru⟩:=rQ.some_of (v:=v) (o:=mA f) (by rw[←l];exact r f);exact get_map I.L8 O (c.get f) c.hd n hu (So ru) (h u _ (I.tok _) ru)
theorem EV{m:Str}{g:Addr}{pl:Sem Bool}{Q:Value×List Value→Shared→Prop}(I:bu X ah σ H s)(e:H a=some (.bR C dx fs))(c:AL X.K C)(k:fo X.K C m g)(l:fs.lookup m=none)
  (h:Q (.ref g,[.ref a]) s):wpAny (model X.prog X.w) A (getMethod (.ref a) m pl) Q E s:=by
 obtain⟨mA,O,r,_,_,_⟩:=JG I.du e;have hn:mA m=none:=rQ.none_of (by rw[←l];exact r m);exact VG I.L8 O (c.get m) k.at_ k.fn hn h
theorem Dx{y:V}{u:Value}{Q:Unit→Shared→Prop}(I:bu X ah σ H s)(e:H a=some (.bR C dx fs))(c:AL X.K C)(n:aG X.K C f)(hl:fs.length<1000)(ry:ck y u)
  (h:∀s',bu X ah σ (aJ H a (.bR C dx (cA f y fs))) s'→Q () s'):wpAny (model X.prog X.w) A (setAttr (.ref a) f u) Q E s:=by
 obtain⟨mA,O,r,wi,_,ho⟩:=JG I.du e;have hz:(fs.map (·.1)).length≤sizeLine:=by rw[apt,sizeLine_eq];omega
 refine W0 I.L8 O c.sa c.po n.abx c.hd wi hz fun h' O' sb=>h _ ?_;have hd:∃o,h'.get? dx=some o:=let⟨o,_,_,e',_⟩:=O'.ns;⟨o,e'⟩;refine I.write (x:=a) (e:=dx) (by rw[e];exact arL) (.inr ho) (fun b q hb z=>(sb.2 b hb).trans z) hd ?_;refine⟨by rw[ai O.ne];exact ho,?_,O.ne,O'.obj,_,O'.ns,fun g=>?_,fun g hg=>?_⟩
 ·have:=Ba f y fs;omega
 ·show rQ ((cA f y fs).lookup g) (if g=f then some u else mA g);rw[A7];by_cases q:g=f
  ·rw[if_pos q,if_pos q];exact ry
  ·rw[if_neg q,if_neg q];exact r g
 ·by_cases q:g=f
  ·rw[q];exact(Ai f y fs).1
  ·refine(Ai f y fs).2 g (wi g fun z=>hg ?_);show(if g=f then some u else mA g)=none;rw[if_neg q];exact z
theorem bu.made(I:bu X ah σ H s):bu X ah σ (aJ (aJ H s.heap.objs.size (.own (s.heap.objs.size+1))) (s.heap.objs.size+1) (.bR C s.heap.objs.size []))
  {s with heap:=(s.heap.push aq0).push (arp C s.heap.objs.size)}:=by
 have e1:(s.heap.push aq0).get? s.heap.objs.size=some aq0:=aqd s.heap rfl;have e2:((s.heap.push aq0).push (arp C s.heap.objs.size)).get? (s.heap.objs.size+1)=some (arp C s.heap.objs.size):=by
  have:=aqd (s.heap.push aq0) (o:=arp C s.heap.objs.size) rfl;rwa [aqS]at this
 have e3:(s.heap.push aq0).Ns s.heap.objs.size (fun _=>none):=⟨aq0,#[],_,e1,rfl,(fun e he=>absurd he (by simp)),fun _=>rfl⟩;have I1:=I.vd (a:=s.heap.objs.size) (o:=.own (s.heap.objs.size+1)) (h':=s.heap.push aq0) (t':=s.toks) (fun b u q=>apL _ q) (apE _) ⟨_,e1⟩;refine I1.vd (a:=s.heap.objs.size+1) (o:=.bR C s.heap.objs.size []) (t':=s.toks) (fun b u q=>apL _ q) (atx (aqS _ _)) ?_;have ne:s.heap.objs.size≠s.heap.objs.size+1:=aqo (aty _);refine⟨by rw[ai ne,au],apV _,ne,e2,fun _=>none,(Heap.Ns1.of_empty e3).at fun o q=>apL _ q,fun _=>arL,fun y hy=>absurd rfl hy⟩
theorem XX{prog:Program}{w:World}{env:Env}{e:Expr}{f:Str}{pos:Pos}{s:Shared}{Q:Value→Shared→Prop}(hb:attributeBase e f env (eval e env)=eval e env)
  (h:wpAny (model prog w) A (eval e env) (fun o s₁=>wpAny (model prog w) A (getAttr o f true) Q E s₁) E s):wpAny (model prog w) A (eval (.Attribute e f pos) env) Q E s:=
 Attribute_any_ h (by rw[arm_eval_Attribute,hb])
end
def Iz(K:apw)(ta:TE)(f:Str):TE:=fun σ H Q=>ta σ H fun x H1=>∃a C dx fs v,x=.ref a∧H1 a=some (.bR C dx fs)∧AL K C∧aG K C f∧fs.lookup f=some v∧Q v H1
def Lj(K:apw)(ta tv:TE)(f:Str):TS:=fun D σ H=>tv σ H fun y H1=>ta σ H1 fun x H2=>∃a C dx fs,x=.ref a∧H2 a=some (.bR C dx fs)∧AL K C∧aG K C f∧fs.length<1000∧
 D.nx σ (aJ H2 a (.bR C dx (cA f y fs)))
def aas(X:Cx)(op:Operator)(rd:V→V→Hp→VK→Prop):Prop:=
 ∀(ah:List (Addr×Obj)) (s:Shared) (σ:St) (H:Hp) (x y:V) (u v:Value) (Q:VK),bu X ah σ H s→ck x u→ck y v→rd x y H Q→wpAny (model X.prog X.w) X.A (inplaceOp op u v) (EP X ah σ Q) X.xe s
def IU(K:apw)(ta tv:TE)(rd:V→V→Hp→VK→Prop)(f:Str):TS:=fun D σ H=>ta σ H fun x H1=>∃a C dx fs v,x=.ref a∧H1 a=some (.bR C dx fs)∧AL K C∧aG K C f∧fs.lookup f=some v∧
 tv σ H1 fun y H2=>rd v y H2 fun z H3=>∃vg E7,H3 a=some (.bR C vg E7)∧E7.length<1000∧D.nx σ (aJ H3 a (.bR C vg (cA f z E7)))
section
variable{X:Cx}{o e value:Expr}{f:Str}{pos pos' WG:Pos}{ta tv:TE}
theorem aq(he:PE X e ta)(hb:attributeBase e f X.env (eval e X.env)=eval e X.env):PE X (.Attribute e f pos) (Iz X.K ta f):=by
 intro ah s σ H Q I h;refine XX hb (lu (he ah s σ H _ I h) fun u s1 x H1 I1 rx zz=>?_);obtain⟨a,C,dx,fs,v,ex,ea,c,n,l,q⟩:=zz;subst ex;obtain rfl:u=aqq a:=rx;exact EW I1 ea c n l fun u' s2 I2 ru=>⟨v,H1,I2,ru,q⟩
theorem aW(ha:PE X o ta)(hv:PE X value tv)(hs:swapsWith value (some (.Attribute o f pos')) pos.line X.env=pure false):PS X (.Assign [.Attribute o f pos'] value pos) (Lj X.K ta tv f):=by
 intro ah s σ H D I h;refine plainObj_wpAny_Assign_Attribute (lu (hv ah s σ H _ I h) fun u s1 y H1 I1 ry q=>lu (ha ah s1 σ H1 _ I1 q) fun ov s2 x H2 I2 rx zz=>?_) hs;obtain⟨a,C,dx,fs,ex,ea,c,n,l,q2⟩:=zz;subst ex;obtain rfl:ov=aqq a:=rx;exact Dx I2 ea c n l ry fun s3 I3=>⟨σ,_,I3,q2⟩
theorem Ht{op:Operator}{rd:V→V→Hp→VK→Prop}(ha:PE X o ta)(hv:PE X value tv)(hop:aas X op rd):PS X (.AugAssign (.Attribute o f WG) op value pos) (IU X.K ta tv rd f):=by
 intro ah s σ H D I h;refine wpAny_AugAssign_AttributeAny (lu (ha ah s σ H _ I h) fun ov s1 x H1 I1 rx zz=>?_);obtain⟨a,C,dx,fs,v,ex,ea,c,n,l,q⟩:=zz;subst ex;obtain rfl:ov=aqq a:=rx;refine EW I1 ea c n l fun u s2 I2 ru=>lu (hv ah s2 σ H1 _ I2 q) fun w3 s3 y H2 I3 ry q3=>lu (hop ah s3 σ H2 v y u w3 _ I3 ru ry q3) fun w4 s4 z H3 I4 rz zz=>?_;obtain⟨vg,E7,ea',l',q4⟩:=zz;exact Dx I4 ea' c n l' rz fun s5 I5=>⟨σ,_,I5,q4⟩
def Zj:V→V→Hp→VK→Prop:=fun x y H Q=>∃i j,x=.int i∧y=.int j∧Q (.int (i+j)) H
theorem OL:aas X .Add Zj:=by
 rintro ah s σ H x y u v Q I rx ry ⟨i,j,rfl,rfl,q⟩;obtain⟨t,rfl⟩:=(show∃t,u=asn i t from rx);obtain⟨t',rfl⟩:=(show∃t',v=asn j t' from ry);exact awb ⟨.int (i+j),H,I.tok _,⟨_,rfl⟩,q⟩
end
structure gb(k:Nat)(A:Around):Prop where
 hd:A.handled=none
 dp:A.depth+3*k+5<recursionLimit
 un:A.units+16*k+200<cLine
theorem gb.x9{j k:Nat}{A:Around}(r:gb k A)(h:j≤k):gb j A:=⟨r.hd,by have:=r.dp;omega,by have:=r.un;omega⟩
theorem gb.deeper{k:Nat}{A:Around}(r:gb (k+1) A)(env:Env):gb k (A.deeper env):=
 ⟨r.hd,by have:=r.dp;show A.depth+1+3*k+5<_;omega,by have:=r.un;show A.units+3+16*k+200<_;omega⟩
theorem Oq{A:Around}{C:Addr}{us:List Value}{kw:List (Str×Value)}:(A.under (.builtin "type.__call__" ⟨.ref C::us,kw⟩)).depth=A.depth+1:=by
 first|rfl|simp[auB,Code.weight,Code.isCreation,Code.isGuard,Code.isCaller,av5,auC,guardIds]
theorem Oo{A:Around}{C:Addr}{us:List Value}{kw:List (Str×Value)}:(A.under (.builtin "type.__call__" ⟨.ref C::us,kw⟩)).units=A.units+1:=by
 first|rfl|simp[auB,Code.cUnits,av5,auC]
theorem gb.make{k:Nat}{A:Around}(r:gb (k+1) A)(C:Addr)(us:List Value)(kw:List (Str×Value)):gb k (A.under (.builtin "type.__call__" ⟨.ref C::us,kw⟩)):=
 ⟨r.hd,by have:=r.dp;rw[Oq];omega,by have:=r.un;rw[Oo];omega⟩
theorem gb.depth{k:Nat}{A:Around}(r:gb k A):A.depth<recursionLimit:=by have:=r.dp;omega
theorem gb.units{k:Nat}{A:Around}(r:gb k A):A.units+64<cLine:=by have:=r.un;omega
def TR:TA:=fun _ H Q=>Q [] H
def TX(ta:TE)(tr:TA):TA:=fun σ H Q=>ta σ H fun x H1=>tr σ H1 fun xs H2=>Q (x::xs) H2
section
variable{X:Cx}{e:Expr}{es:List Expr}{te:TE}{t:TA}{pos:Pos}
theorem ax:PA X [] TR:=fun _ _ _ _ H Q I h=>asB ⟨[],H,I,.nil,h⟩
theorem af(ha:PE X e te)(hr:PA X es t)(hs:starEach (e::es) X.env=(false,eval e X.env)::starEach es X.env:=by rfl):PA X (e::es) (TX te t):=by
 intro pos ah s σ H Q I h;rw[hs];show wpAny _ _ (spliced ((false,eval e X.env)::backTo pos (starEach es X.env))) _ _ s;refine arM (lu (ha ah s σ H _ I h) fun u s1 x H1 I1 r1 q1=>?_);exact Wm (hr pos ah s1 σ H1 _ I1 q1) fun us s2 xs H2 I2 r2 q2=>⟨x::xs,H2,I2,.cons r1 r2,q2⟩
def YU(t:TA):TE:=fun σ H Q=>t σ H fun xs H1=>xs.length≤sizeLine∧∀p,H1 p=none→Q (.ref p) (aJ H1 p (.fR xs))
def BG(t:TA):TE:=fun σ H Q=>t σ H fun xs H1=>xs.length≤sizeLine∧∀p,H1 p=none→Q (.ref p) (aJ H1 p (.aN xs))
theorem sQ{x1}(h:PA X es t):PE X (.Tuple es x1 pos) (YU t):=by
 intro ah s σ H Q I hq;refine wpAny_Tuple_spliced (Wm (h pos ah s σ H _ I hq) fun us s1 xs H1 I1 r ⟨z,q⟩=>⟨by rw[←r.length];exact z,?_⟩);have hf:H1 s1.heap.objs.size=none:=I1.du.fresh (apE _);refine⟨.ref s1.heap.objs.size,aJ H1 s1.heap.objs.size (.fR xs),I1.vd (t':=s1.toks) (fun b u e=>apL _ e) (apE _) ?_,rfl,q _ hf⟩;exact⟨z,us,r,⟨_,aqd _ rfl,rfl,_,rfl⟩⟩
theorem cG(h:PA X es t):PE X (.List es pos) (BG t):=by
 intro ah s σ H Q I hq;refine wpAny_List_spliced (Wm (h pos ah s σ H _ I hq) fun us s1 xs H1 I1 r ⟨z,q⟩=>⟨by rw[←r.length];exact z,?_⟩);have hf:H1 s1.heap.objs.size=none:=I1.du.fresh (apE _);refine⟨.ref s1.heap.objs.size,aJ H1 s1.heap.objs.size (.aN xs),I1.vd (t':=s1.toks) (fun b u e=>apL _ e) (apE _) ?_,rfl,q _ hf⟩;exact⟨z,us,0,r,aqd _ rfl⟩
end
abbrev Sp:=List V→Hp→VK→XK→Prop
abbrev Th:=List Env→Hp→Shared→XK→Value→Shared→Prop
structure PU(P:Program)(w:World)(K:apw)(mg:Str→Option Value)(base:Heap)(A:Around)(outer:List Env)(s:Shared)(H:Hp):Prop where
 frames:A.frames=some outer
 mod:Mod K mg base
 bs:∀b o,base.get? b=some o→s.heap.get? b=some o∧H b=none
 XU:base.objs.size≤s.heap.objs.size
 Cr:s.heap.FunFrames base outer
 frf:∀b∈VJ outer,H b=none
 du:ur P w H s.heap
 qV:AllBare s.gens
def CE(outer:List Env)(P:Program)(w:World)(H:Hp)(s:Shared)(Q:VK)(u:Value)(s':Shared):Prop:=
 ∃v H',s'.os=s.os∧AllBare s'.gens∧Un (VJ outer) [] H H' s.heap s'.heap∧ur P w H' s'.heap∧ck v u∧Q v H'
def CR(CX:Th)(outer:List Env)(P:Program)(w:World)(H:Hp)(s:Shared)(Q:VK)(E:XK)(r:Result)(s':Shared):Prop:=
 match r with
 | .ok (.ret u)=>CE outer P w H s Q u s'
 | .ok _=>False
 | .error e=>CX outer H s E e s'
structure bN(P:Program)(w:World)(K:apw)(mg:Str→Option Value)(base:Heap)(CX:Th)(k:Nat)(f:Addr)(fd:FuncData)(ps:List Str)(sp:Sp):Prop where
 len:∀vs H Q E,sp vs H Q E→vs.length=ps.length
 run:∀(A:Around) (outer:List Env) (s:Shared) (H:Hp) (args:Args) (us:List Value) (vs:List V) (Q:VK) (E:XK),gb k A→PU P w K mg base A outer s H→BindsTo s fd args (ps.zip us)→cg vs us→sp vs H Q E→
  codeAny (model P w) A (.call (.ref f) args) (CR CX outer P w H s Q E) s
theorem PU.make{P:Program}{w:World}{K:apw}{mg:Str→Option Value}{base:Heap}{A:Around}{outer:List Env}{s:Shared}{H:Hp}(e:PU P w K mg base A outer s H)(C:Addr)(us:List Value)(kw:List (Str×Value)):
  PU P w K mg base (A.under (.builtin "type.__call__" ⟨.ref C::us,kw⟩)) outer s H:=⟨by first|exact e.frames|(simpa[auB,Code.envs,auC,pushEnvs]using e.frames),e.mod,e.bs,e.XU,e.Cr,e.frf,e.du,e.qV⟩
section
variable{X:Cx}{ah:List (Addr×Obj)}{σ:St}{H:Hp}{s s':Shared}
theorem bu.ac9(I:bu X ah σ H s):PU X.prog X.w X.K X.mg X.base X.A X.stack s H:=
 ⟨I.ok.frames,I.ok.mod,I.bs,aqa I.ok.XU I.sz,I.stack,I.P8,I.du,I.qV⟩
theorem bu.after{Q:VK}{u:Value}(I:bu X ah σ H s)(h:CE X.stack X.prog X.w H s Q u s'):EP X ah σ Q u s':=by
 obtain⟨v,H',os,qV,un,du,r,q⟩:=h;obtain⟨hh,g,d,t,os'⟩:=s';obtain rfl:os'=s.os:=os;exact⟨v,H',I.call (h':=hh) (g':=g) (d':=d) (t':=t) (ch:=[]) un du qV (fun b z=>absurd z (by simp)),r,q⟩
end
def TY(sp:Sp)(oP:List V)(E:XK)(t:TA):TE:=fun σ H Q=>t σ H fun vs H1=>sp (vs++oP) H1 Q E
def Hh(C:Addr)(m:Str)(sp:Sp)(oP:List V)(E:XK)(ta:TE)(t:TA):TE:=fun σ H Q=>ta σ H fun x H1=>∃a dx fs,x=.ref a∧H1 a=some (.bR C dx fs)∧fs.lookup m=none∧
 t σ H1 fun vs H2=>sp (x::(vs++oP)) H2 Q E
def vi(C:Addr)(sp:Sp)(oP:List V)(E:XK)(t:TA):TE:=fun σ H Q=>t σ H fun vs H1=>∀x dx,H1 x=none→H1 dx=none→dx≠x→
 sp (.ref x::(vs++oP)) (aJ (aJ H1 dx (.own x)) x (.bR C dx [])) (fun v H2=>v=.cx∧Q (.ref x) H2) E
def uu(K:apw)(fd:FuncData)(ps:List Str)(ds:List Value):Prop:=
 ∀(s:Shared) (us:List Value),K.In s.heap→(us++ds).length=ps.length→BindsTo s fd ⟨us,[]⟩ (ps.zip (us++ds))
theorem uu.all{K:apw}{fd:FuncData}{ps:List Str}(h:∀us:List Value,us.length=ps.length→bindArgs fd ⟨us,[]⟩=pure (ps.zip us)):uu K fd ps []:=fun s us _ hl=>by
 rw[apK]at hl ⊢;exact .of_eq (h us hl)
def uo(CX:Th)(X:Cx)(E:XK):Prop:=∀(ah:List (Addr×Obj)) (σ:St) (H:Hp) (s:Shared) (e:Value) (s':Shared),bu X ah σ H s→CX X.stack H s E e s'→X.xe e s'
section
variable{X:Cx}{CX:Th}{k:Nat}{f C:Addr}{fd:FuncData}{ps:List Str}{sp:Sp}{oP:List V}{ds:List Value}{E:XK}{x m:Str}{p pos apos:Pos}{e o:Expr}{es:List Expr}{ta:TE}{t:TA}
theorem NK{ah:List (Addr×Obj)}{σ:St}{H:Hp}{s:Shared}{Q:VK}{us:List Value}{vs:List V}(F:bN X.prog X.w X.K X.mg X.base CX k f fd ps sp)(hr:gb k X.A)(hb:uu X.K fd ps ds)(hd:cg oP ds)(hx:uo CX X E)
  (I:bu X ah σ H s)(r:cg vs us)(h:sp (vs++oP) H Q E):wpAny (model X.prog X.w) X.A (call (.ref f) us) (EP X ah σ Q) X.xe s:=by
 have r2:cg (vs++oP) (us++ds):=r.append hd;have hl:(us++ds).length=ps.length:=by rw[←r2.length];exact F.len _ _ _ _ h
 refine wpAny_call (codeAny_mono (F.run X.A X.stack s H ⟨us,[]⟩ (us++ds) (vs++oP) Q E hr I.ac9 (hb s us I.L8 hl) r2 h) fun r s' hq=>?_);cases r with
 |error e=>exact hx ah σ H s e s' I hq
 |ok fl=>
  cases fl with
  |ret u=>exact I.after hq
  |next=>exact aqW hq
  |brk=>exact aqW hq
  |cont=>exact aqW hq
theorem br(F:bN X.prog X.w X.K X.mg X.base CX k f fd ps sp)(hr:gb k X.A)(hg:Gl X x)(hm:X.mg x=some (.ref f))(hk:ar0 X.K (.ref f)=true)(hb:uu X.K fd ps ds)(hd:cg oP ds)(hx:uo CX X E)
  (ha:PA X (e::es) t)(XH:(x==("__debug__":Str))=false:=by decide)(he:starEach (e::es) X.env=(false,eval e X.env)::starEach es X.env:=by rfl)(Kp:(backTo pos (starEach es X.env)).any (·.1)=false:=by rfl):
  PE X (.Call (.Name x p) (e::es) [] pos) (TY sp oP E t):=by
 intro ah s σ H Q I h;refine wpAny_Call_Name_kw (uM I hg hm ?_ XH);refine ati (h₀:=X.base) I.ok.mod.kin hk (Wm (ha pos ah s σ H _ I h) fun us s1 vs H1 I1 r q=>⟨I1.L8,?_⟩) he Kp;exact NK F hr hb hd hx I1 r q
theorem bg{pl:Sem Bool}(he:PE X o ta)(c:AL X.K C)(hm:fo X.K C m f)(F:bN X.prog X.w X.K X.mg X.base CX k f fd ps sp)(hr:gb k X.A)(hb:uu X.K fd ps ds)(hd:cg oP ds)(hx:uo CX X E)(ha:PA X (e::es) t)
  (j7:starEach (e::es) X.env=(false,eval e X.env)::starEach es X.env:=by rfl)(Kp:(backTo pos (starEach es X.env)).any (·.1)=false:=by rfl)
  (ht:eval (.Call (.Attribute o m apos) (e::es) [] pos) X.env=(do
   let ov ←eval o X.env
   standAt apos.atName
   let(f,first) ←holding [ov] (getMethod ov m pl)
   callWith pos f first (backTo pos (starEach (e::es) X.env)) (backToKw pos (keywordEach [] X.env))):=by rfl):
  PE X (.Call (.Attribute o m apos) (e::es) [] pos) (Hh C m sp oP E ta t):=by
 intro ah s σ H Q I h;refine at7 (pl:=pl) (lu (he ah s σ H _ I h) fun u s1 x H1 I1 rx zz=>?_) ht;obtain⟨a,dx,fs,ex,ea,l,q⟩:=zz;subst ex;obtain rfl:u=aqq a:=rx;refine EV I1 ea c hm l ?_;refine ati (first:=[.ref a]) (h₀:=X.base) I.ok.mod.kin hm.kp (Wm (ha pos ah s1 σ H1 _ I1 q) fun us s2 vs H2 I2 r q2=>⟨I2.L8,?_⟩) j7 Kp;exact NK (us:=.ref a::us) (vs:=.ref a::vs) F hr hb hd hx I2 (.cons rfl r) q2
theorem Lw{pl:Sem Bool}(he:PE X o ta)(c:AL X.K C)(hm:fo X.K C m f)(F:bN X.prog X.w X.K X.mg X.base CX k f fd ps sp)(hr:gb k X.A)(hb:uu X.K fd ps ds)(hd:cg oP ds)(hx:uo CX X E)
  (ht:eval (.Call (.Attribute o m apos) [] [] pos) X.env=(do
   let ov ←eval o X.env
   standAt apos.atName
   let(f,first) ←holding [ov] (getMethod ov m pl)
   callWith pos f first (backTo pos (starEach [] X.env)) (backToKw pos (keywordEach [] X.env))):=by rfl):
  PE X (.Call (.Attribute o m apos) [] [] pos) (Hh C m sp oP E ta TR):=by
 intro ah s σ H Q I h;refine at7 (pl:=pl) (lu (he ah s σ H _ I h) fun u s1 x H1 I1 rx zz=>?_) ht;obtain⟨a,dx,fs,ex,ea,l,q⟩:=zz;subst ex;obtain rfl:u=aqq a:=rx;refine EV I1 ea c hm l ?_;exact auo (first:=[.ref a]) I1.L8 hm.kp (NK (us:=[.ref a]) (vs:=[.ref a]) F hr hb hd hx I1 (.cons rfl .nil) q)
structure Mk(K:apw)(C f:Addr):Prop where
 makes:atY K C=true
 init:aq5 K (.ref C) "__init__"=some (some (.ref f))
 fn:auA K (.ref f)=true
 kp:ar0 K (.ref C)=true
theorem Ll{ah:List (Addr×Obj)}{σ:St}{H:Hp}{s:Shared}{Q:VK}{us:List Value}{vs:List V}(M:Mk X.K C f)(F:bN X.prog X.w X.K X.mg X.base CX k f fd ps sp)(hr:gb (k+1) X.A)(hb:uu X.K fd ps ds)(hd:cg oP ds)
  (hx:uo CX X E)(I:bu X ah σ H s)(r:cg vs us)
  (h:∀x dx,H x=none→H dx=none→dx≠x→sp (.ref x::(vs++oP)) (aJ (aJ H dx (.own x)) x (.bR C dx [])) (fun v H2=>v=.cx∧Q (.ref x) H2) E):
  wpAny (model X.prog X.w) X.A (call (.ref C) us) (EP X ah σ Q) X.xe s:=by
 have hq:=h (s.heap.objs.size+1) s.heap.objs.size (I.du.fresh (Nat.le_succ _)) (I.du.fresh (apE _)) (aqo (aty _));have I2:=bu.made (C:=C) I;have r2:cg (V.ref (s.heap.objs.size+1)::(vs++oP)) (aqq (s.heap.objs.size+1)::(us++ds)):=.cons rfl (r.append hd);have hl:(aqq (s.heap.objs.size+1)::us++ds).length=ps.length:=by
  have e:=r2.length;rw[F.len _ _ _ _ hq]at e;exact e.symm
 refine wpAny_call (Vg (f:=f) I.L8 M.makes M.init (beq_iff_eq.mp M.fn) (codeAny_mono (F.run _ X.stack _ _ ⟨aqq (s.heap.objs.size+1)::us,[]⟩ (aqq (s.heap.objs.size+1)::(us++ds)) _ _ E (hr.make C us [])
  (I2.ac9.make C us []) (hb _ (aqq (s.heap.objs.size+1)::us) I2.L8 hl) r2 hq) fun r s' Xz=>?_))
 cases r with
 |error e=>exact hx ah σ _ _ e s' I2 Xz
 |ok fl=>
  cases fl with
  |ret u=>
   obtain⟨v,H',I3,rv,ev,q3⟩:=I2.after Xz;subst ev;exact⟨rv,⟨V.ref (s.heap.objs.size+1),H',I3,rfl,q3⟩⟩
  |next=>exact aqW Xz
  |brk=>exact aqW Xz
  |cont=>exact aqW Xz
theorem xP(M:Mk X.K C f)(F:bN X.prog X.w X.K X.mg X.base CX k f fd ps sp)(hr:gb (k+1) X.A)(hg:Gl X x)(hm:X.mg x=some (.ref C))(hb:uu X.K fd ps ds)(hd:cg oP ds)(hx:uo CX X E)
  (ha:PA X (e::es) t)(XH:(x==("__debug__":Str))=false:=by decide)(he:starEach (e::es) X.env=(false,eval e X.env)::starEach es X.env:=by rfl)(Kp:(backTo pos (starEach es X.env)).any (·.1)=false:=by rfl):
  PE X (.Call (.Name x p) (e::es) [] pos) (vi C sp oP E t):=by
 intro ah s σ H Q I h;refine wpAny_Call_Name_kw (uM I hg hm ?_ XH);refine ati (h₀:=X.base) I.ok.mod.kin M.kp (Wm (ha pos ah s σ H _ I h) fun us s1 vs H1 I1 r q=>⟨I1.L8,?_⟩) he Kp;exact Ll M F hr hb hd hx I1 r q
theorem D1(M:Mk X.K C f)(F:bN X.prog X.w X.K X.mg X.base CX k f fd ps sp)(hr:gb (k+1) X.A)(hg:Gl X x)(hm:X.mg x=some (.ref C))(hb:uu X.K fd ps ds)(hd:cg oP ds)(hx:uo CX X E)
  (XH:(x==("__debug__":Str))=false:=by decide):PE X (.Call (.Name x p) [] [] pos) (vi C sp oP E TR):=by
 intro ah s σ H Q I h;refine wpAny_Call_Name_kw (uM I hg hm ?_ XH);exact auo I.L8 M.kp (Ll (us:=[]) M F hr hb hd hx I .nil h)
end
structure aI(N P:List Str)(sc:Scope):Prop where
 kind:sc.kind=.function
 co:sc.isCoroutine=false
 gen:sc.isGenerator=false
 nd:N.Nodup
 pre:N.take P.length=P
 par:∀x∈P,sc.names.lookup x=some .local∨sc.names.lookup x=some .cell
 Zq:∀y∈sc.names,y.2≠.free
theorem Ia{kindOf:Str→Option NameKind}{x:Str}:∀{binds:List (Str×Value)} {m:Str→Option Value},(∀v,(x,v)∉binds)→bindL kindOf binds m x=m x
 |[],_,_=>rfl
 |(n,v)::r,m,h=>by
  unfold bindL;rw[Ia fun w hw=>h w (apy _ hw)];split
  ·have:x≠n:=by rintro rfl;exact h v apD
   simp[this]
  ·rfl
theorem Ic{kindOf:Str→Option NameKind}{x:Str}:∀{binds:List (Str×Value)} {m:Str→Option Value},(∀v,(x,v)∉binds)→bindC kindOf binds m x=m x
 |[],_,_=>rfl
 |(n,v)::r,m,h=>by
  unfold bindC;rw[Ic fun w hw=>h w (apy _ hw)];split
  ·rfl
  ·have:x≠n:=by rintro rfl;exact h v apD
   simp[this]
theorem Ib{kindOf:Str→Option NameKind}{x:Str}{v:Value}:∀{P:List Str} {vs:List Value} {i:Nat} {m:Str→Option Value},P.Nodup→P[i]? =some x→vs[i]? =some v→kindOf x=some .local→
  bindL kindOf (P.zip vs) m x=some v
 |[],_,_,_,_,h,_,_=>by simp at h
 |_::_,[],_,_,_,_,h,_=>by simp at h
 |p::P,w::vs,0,m,nd,h1,h2,hk=>by
  simp at h1 h2;subst h1;subst h2;show bindL kindOf ((p,w)::P.zip vs) m p=_;unfold bindL;rw[Ia fun v hv=>(aqP.mp nd).1 (atZ hv).1,if_pos hk];simp
 |p::P,w::vs,i+1,m,nd,h1,h2,hk=>by
  show bindL kindOf ((p,w)::P.zip vs) m x=_;unfold bindL;exact Ib (i:=i) (aqP.mp nd).2 (by simpa using h1) (by simpa using h2) hk
theorem Ie{kindOf:Str→Option NameKind}{x:Str}{v:Value}:∀{P:List Str} {vs:List Value} {i:Nat} {m:Str→Option Value},P.Nodup→P[i]? =some x→vs[i]? =some v→kindOf x≠some .local→
  bindC kindOf (P.zip vs) m x=some v
 |[],_,_,_,_,h,_,_=>by simp at h
 |_::_,[],_,_,_,_,h,_=>by simp at h
 |p::P,w::vs,0,m,nd,h1,h2,hk=>by
  simp at h1 h2;subst h1;subst h2;show bindC kindOf ((p,w)::P.zip vs) m p=_;unfold bindC;rw[Ic fun v hv=>(aqP.mp nd).1 (atZ hv).1,if_neg hk];simp
 |p::P,w::vs,i+1,m,nd,h1,h2,hk=>by
  show bindC kindOf ((p,w)::P.zip vs) m x=_;unfold bindC;exact Ie (i:=i) (aqP.mp nd).2 (by simpa using h1) (by simpa using h2) hk
def start(N:List Str)(vs:List V):St:=vs.map some++avg (N.length-vs.length) none
def Mz(CX:Th)(P:Program)(w:World)(K:apw)(mg:Str→Option Value)(base:Heap)(N:List Str)(qual:Str)(scope:Scope)(f:Addr)(cd:Value)(A:Around)(outer:List Env)(s:Shared)(H:Hp)(E:XK):Cx where
 prog:=P
 w:=w
 K:=K
 mg:=mg
 base:=base
 A:=A.deeper (envOfC qual scope s.heap.objs.size f cd)
 N:=N
 Hq:=s
 H_0:=H
 env:=envOfC qual scope s.heap.objs.size f cd
 outer:=outer
 stack:=envOfC qual scope s.heap.objs.size f cd::outer
 ex:=[]
 GQ:=true
 fn:=fun _=>true
 pn:=[]
 xe:=fun e s'=>wpAny (model P w) (A.deeper (envOfC qual scope s.heap.objs.size f cd)) (leaving (envOfC qual scope s.heap.objs.size f cd) e) (fun _ s''=>CX outer H s E e s'') (fun e' s''=>CX outer H s E e' s'') s'
theorem ME{sc:Scope}{n:Nat}{x:Str}(h:sc.names.lookup x=some .cell):∃c,(cellsFrom n sc.names []).lookup x=some c:=by
 have q:=at1 sc.names n [] (.inl h);exact apZ.mp q
theorem Sf{CX:Th}{P:Program}{w:World}{K:apw}{mg:Str→Option Value}{base:Heap}{N ps:List Str}{qual:Str}{scope:Scope}{f:Addr}{cd:Value}{A:Around}{outer:List Env}{s s1:Shared}{H:Hp}{E:XK}{us:List Value}{vs:List V}
  (S:aI N ps scope)(hd:A.handled=none)(e0:PU P w K mg base A outer s H)(hl:vs.length=ps.length)(r:cg vs us)
  (x:InCallC s s.heap.objs.size (bindL (envOfC qual scope s.heap.objs.size f cd).kindOf (ps.zip us) fun _=>none) (cellsFrom (s.heap.objs.size+1) scope.names []) (bindC (envOfC qual scope s.heap.objs.size f cd).kindOf (ps.zip us) fun _=>none) s1):
  bu (Mz CX P w K mg base N qual scope f cd A outer s H E) [] (start N vs) H s1:=by
 have Kp:ps.length≤N.length:=by have:=congrArg arD S.pre;rw[aqm]at this;omega
 obtain⟨h1,tk,rfl,hk⟩:=x.done;have noA:∀b:Addr,b∉(Mz CX P w K mg base N qual scope f cd A outer s H E).ex:=fun b z=>absurd (show b∈([]:List Addr)from z) (by simp);refine⟨⟨e0.mod,S.kind,rfl,rfl,apE _,fun y z c h1 h2=>?_,fun y hy=>?_,fun y c _ h=>?_,fun _=>hd,Around.frames_deeper e0.frames,.inr ⟨rfl,rfl⟩,fun b z=>absurd z (noA b),e0.bs,e0.XU,fun b _ _=>noA b,fun b z=>absurd z (noA b),e0.Cr,e0.frf⟩,
  rfl,e0.qV,Un.kept hk,⟨_,x.toInCall.ns,fun i y v h1 h2 h3=>?_⟩,fun y c h=>⟨_,x.cell y c h⟩,e0.du.fresh (apE _),fun y c h=>?_,fun p hp=>absurd (show p∈([]:List (Addr×Obj))from hp) (by simp),e0.du.kept hk,?_⟩
 ·exact name_of_addr x.apart (aqi h1) (aqi h2)
 ·have hy:scope.names.lookup y=some .cell∨scope.names.lookup y=some .free:=hy;rcases hy with hy|hy
  ·exact ME hy
  ·exact absurd rfl (S.Zq _ (aqi hy))
 ·exact asV (x.above y c (aqi h))
 ·have hi:i<vs.length:=by
   unfold start at h2;by_cases hi:i<vs.length
   ·exact hi
   ·rw[aqh (by simpa using hi)]at h2;rw[List.getElem?_replicate]at h2;split at h2<;>cases h2
  have ha:vs[i]? =some v:=by
   unfold start at h2;rw[aql (by simpa using hi),apH]at h2;cases e:vs[i]? with
   |none=>rw[e]at h2;cases h2
   |some a=>rw[e]at h2;cases h2;rfl
  obtain⟨u,hu,rv⟩:=r.get ha;have hp:ps[i]? =some y:=by
   rw[←S.pre,atz (by omega)];exact h1
  have ndP:ps.Nodup:=by rw[←S.pre];exact S.nd.sublist (auM _ _)
  refine⟨u,rv,?_⟩;rcases S.par y (aps hp)with k|k
  ·exact .inl ⟨k,Ib ndP hp hu k⟩
  ·obtain⟨c,e⟩:=ME (n:=s.heap.objs.size+1) k;refine .inr ⟨.inl k,c,e,?_⟩;have q:=x.cell y c e;rw[Ie ndP hp hu (by show scope.names.lookup y≠_;rw[k];decide)]at q;exact q
 ·exact e0.du.fresh (asV (x.above y c (aqi h)))
 ·unfold start;show _=N.length;rw[apr,apt,List.length_replicate];omega
theorem ac7{CX:Th}{P:Program}{w:World}{K:apw}{mg:Str→Option Value}{base:Heap}{k:Nat}{f:Addr}{name qual:Str}{params:Arguments}{body:List Stmt}{scope:Scope}{dV kV doc pm yS ct oc:Value}{an od:Option Addr}
  {Xa:Array (Option Value)}{N ps:List Str}{sp:Sp}(lk:K.lookup f=some ⟨oc,od,.func (ar1 name qual params body scope dV kV doc pm an yS ct),Xa⟩)(Bi:at8 K yS qual=true)(S:aI N ps scope)
  (len:∀vs H Q E,sp vs H Q E→vs.length=ps.length)
  (VD:∀(A:Around) (outer:List Env) (s:Shared) (H:Hp) (vs:List V) (Q:VK) (E:XK),gb k (A.deeper (envOfC qual scope s.heap.objs.size f yS))→sp vs H Q E→
   ∃t,Te (Mz CX P w K mg base N qual scope f yS A outer s H E) body t∧t {nx:=fun _ H'=>Q .cx H',rt:=Q} (start N vs) H):
  bN P w K mg base CX (k+1) f (ar1 name qual params body scope dV kV doc pm an yS ct) ps sp:=by
 refine⟨len,fun A outer s H args us vs Q E hr e0 hb r QM=>?_⟩;have hl:=len _ _ _ _ QM;have KX:K.In s.heap:=e0.mod.kin.keeps fun b o e=>(e0.bs b o e).1;have lim:s.heap.NoLimit:=e0.mod.nolimit.keeps fun b o e=>(e0.bs b o e).1;have acS:∀y∈ps.zip us,scope.names.lookup y.1=some .local∨(scope.names.lookup y.1=some .cell∧((cellsFrom (s.heap.objs.size+1) scope.names []).lookup y.1).isSome=true):=fun⟨n,v⟩ hy=>by
  rcases S.par n (atZ hy).1 with q|q
  ·exact .inl q
  ·exact .inr ⟨q,at1 _ _ _ (.inl q)⟩
 refine codeAny_call_function hr.depth (KX _ _ lk) rfl S.co S.gen rfl (PySem.W.codeRec_of KX Bi) (hb _ _ _ _ ?_);refine wpAny_newFunctionEnv_cells S.kind acS fun env he s1 x=>?_;subst he;refine⟨lim.keeps x.toInCall.keep,codeAny_func ?_⟩;obtain⟨t,ht,hq⟩:=VD A outer s H vs Q E (hr.deeper _) QM;have I:bu (Mz CX P w K mg base N qual scope f yS A outer s H E) [] (start N vs) H s1:=Sf S hr.hd e0 hl r x;refine wpAny_mono (ht [] s1 (start N vs) H _ I hq) (fun fl s' hs=>?_) fun e s' hs=>hs;have fin:∀{σ':St} {H':Hp} {v:V} {u:Value},bu (Mz CX P w K mg base N qual scope f yS A outer s H E) [] σ' H' s'→ck v u→Q v H'→CE outer P w H s Q u s':=
  fun{σ' H' v u} J rv q=>⟨v,H',J.os,J.qV,J.base,J.du,rv,q⟩
 cases fl with
 |ret u=>
  obtain⟨v,σ',H',J,rv,q⟩:=hs;exact fin J rv q
 |next=>
  obtain⟨σ',H',J,q⟩:=hs;exact fin (v:=V.cx) (u:=au5) J rfl q
 |brk=>
  obtain⟨_,_,_,q⟩:=hs;exact aqW q
 |cont=>
  obtain⟨_,_,_,q⟩:=hs;exact aqW q
section
variable{X:Cx}{x:Str}{p pos:Pos}{e:Expr}{es:List Expr}{t:TA}{id T:String}{r:List V→Hp→VK→Prop}
def tCB(r:List V→Hp→VK→Prop)(t:TA):TE:=fun σ H Q=>t σ H fun vs H1=>r vs H1 Q
theorem bH(hc:rF X (.builtin id) r)(hg:Gl X x)(hm:X.mg x=none)(hv:bootBuiltins x=some (.builtin id))(ha:PA X (e::es) t)(hn:x≠"__name__":=by decide)(XH:(x==("__debug__":Str))=false:=by decide)
  (he:starEach (e::es) X.env=(false,eval e X.env)::starEach es X.env:=by rfl)(Kp:(backTo pos (starEach es X.env)).any (·.1)=false:=by rfl):PE X (.Call (.Name x p) (e::es) [] pos) (tCB r t):=by
 intro ah s σ H Q I h;refine wpAny_Call_Name_kw (Jt I hg hm hv ?_ hn XH);exact au6 (Wm (ha pos ah s σ H _ I h) fun us s1 vs H1 I1 r1 q1=>hc ah s1 σ H1 vs us Q I1 r1 q1) he Kp
theorem uA(hc:rF X (.type T) r)(hg:Gl X x)(hm:X.mg x=none)(hv:bootBuiltins x=some (.type T))(ha:PA X (e::es) t)(hn:x≠"__name__":=by decide)(XH:(x==("__debug__":Str))=false:=by decide)
  (he:starEach (e::es) X.env=(false,eval e X.env)::starEach es X.env:=by rfl)(Kp:(backTo pos (starEach es X.env)).any (·.1)=false:=by rfl):PE X (.Call (.Name x p) (e::es) [] pos) (tCB r t):=by
 intro ah s σ H Q I h;refine wpAny_Call_Name_kw (Jt I hg hm hv ?_ hn XH);exact ar5 (Wm (ha pos ah s σ H _ I h) fun us s1 vs H1 I1 r1 q1=>hc ah s1 σ H1 vs us Q I1 r1 q1) he Kp
end
end L2.Internal
namespace HT
open PySem PyProof.Rows
section
variable{prog:Program}{w:World}{A:Around}{E:Value→Shared→Prop}{s:Shared}
def Gg(n d:Nat):Option Int→Nat
 |none=>d
 |some v=>if v<0 then(v+(n:Int)).toNat else min v.toNat n
theorem Uy(n d:Nat):Gg n d none=d:=rfl
theorem xE(n d k:Nat):Gg n d (some (k:Int))=min k n:=by
 show(if(k:Int)<0 then((k:Int)+(n:Int)).toNat else min (k:Int).toNat n)=min k n;rw[if_neg (by omega),aqE]
end
end HT
namespace L2.Internal
open PySem PySem.Spec PyProof.Rows
abbrev TO:=St→Hp→(Option Int→Hp→Prop)→Prop
def PO(X:Cx)(e:Option Expr)(t:TO):Prop:=
 ∀(ah:List (Addr×Obj)) (s:Shared) (σ:St) (H:Hp) (Q:Option Int→Hp→Prop),bu X ah σ H s→t σ H Q→
  wpAny (model X.prog X.w) X.A (evalPart e X.env) (fun u s'=>∃o H',bu X ah σ H' s'∧IsPart u o∧Q o H') X.xe s
def P5:TO:=fun _ H Q=>Q none H
def X3(t:TE):TO:=fun σ H Q=>t σ H fun x H1=>∃i,x=.int i∧Q (some i) H1
section
variable{X:Cx}{e:Expr}{te:TE}{lo hi:Option Expr}{tl th:TO}{pos p2:Pos}
theorem Je:PO X none P5:=by
 intro ah s σ H Q I h;rw[evalPart_none];exact wpAny_pure ⟨none,H,I,.none,h⟩
theorem qk(h:PE X e te):PO X (some e) (X3 te):=by
 intro ah s σ H Q I hw;rw[evalPart_some];refine lu (h ah s σ H _ I hw) fun u s1 x H1 I1 r1 q1=>?_;obtain⟨i,rfl,q⟩:=q1;obtain⟨t,rfl⟩:=r1;exact⟨some i,H1,I1,.int i t,q⟩
def SlR(X:Cx)(r:V→Option Int→Option Int→Hp→VK→Prop):Prop:=
 ∀(ah:List (Addr×Obj)) (s:Shared) (σ:St) (H:Hp) (x:V) (v vl vu:Value) (lo hi:Option Int) (sl:Addr) (Q:VK),bu X ah σ H s→ck x v→s.heap.IsSliceOf sl vl vu .none→IsPart vl lo→IsPart vu hi→r x lo hi H Q→
  ∃T id,typeLookup (.type T) "__getitem__"=pure (some (.builtin id))∧s.TypeIs v T∧wpAny (model X.prog X.w) X.A (getItem v (.ref sl)) (EP X ah σ Q) X.xe s
def tSl(r:V→Option Int→Option Int→Hp→VK→Prop)(te:TE)(tl th:TO):TE:=fun σ H Q=>te σ H fun x H1=>tl σ H1 fun l H2=>th σ H2 fun u H3=>r x l u H3 Q
theorem sR{r:V→Option Int→Option Int→Hp→VK→Prop}(hr:SlR X r)(he:PE X e te)(hl:PO X lo tl)(hu:PO X hi th):PE X (.Subscript e (.Slice lo hi none p2) pos) (tSl r te tl th):=by
 intro ah s σ H Q I h;refine Subscript_ (rR (he ah s σ H _ I h) fun v s1 zz=>?_);obtain⟨x,H1,I1,r1,q1⟩:=zz;refine wpAny_Slice (rR (hl ah s1 σ H1 _ I1 q1) fun vl s2 zz=>?_);obtain⟨l,H2,I2,pl,q2⟩:=zz;refine rR (hu ah s2 σ H2 _ I2 q2) fun vu s3 zz=>?_;obtain⟨u,H3,I3,pu,q3⟩:=zz;rw[evalPart_none];refine wpAny_pure ?_;have I4:bu X ah σ H3 {s3 with heap:=s3.heap.push {cls:=.type "slice",data:=.fields #[vl,vu,.none]}}:=I3.kept (t':=s3.toks) fun b ob q=>apL _ q;obtain⟨T,id,hT,ht,hg⟩:=hr ah {s3 with heap:=s3.heap.push {cls:=.type "slice",data:=.fields #[vl,vu,.none]}} σ H3 x v vl vu l u s3.heap.objs.size Q I4 r1 (awm ..) pl pu q3;show wpAny (model X.prog X.w) X.A (subscriptTail e (.Slice lo hi none p2) v (.ref s3.heap.objs.size)) (EP X ah σ Q) X.xe {s3 with heap:=s3.heap.push {cls:=.type "slice",data:=.fields #[vl,vu,.none]}};exact tail_any (ops:=[.ref s3.heap.objs.size,v]) ht hT hg (by with_unfolding_all rfl)
def qQ(xs:List V)(lo hi:Option Int):List V:=(xs.drop (HT.Gg xs.length 0 lo)).take (HT.Gg xs.length xs.length hi-HT.Gg xs.length 0 lo)
theorem MA(xs:List V)(lo hi:Option Int):(qQ xs lo hi).length≤xs.length:=by
 unfold qQ;rw[aqm,aqX];omega
end
def ixN(n:Nat)(i:Int):Option Nat:=if 0≤i then(if i<n then some i.toNat else none)else if -(n:Int)≤i then some (i+n).toNat else none
def mP{α:Type}(xs:List α)(i:Int):Option α:=(ixN xs.length i).bind fun j=>xs[j]?
theorem Xs{n:Nat}{i:Int}{j:Nat}(h:ixN n i=some j):seqIndex? i n=some j∧j<n∧ -(n:Int)≤i∧i<n:=by
 unfold ixN at h;by_cases h0:0≤i
 ·rw[if_pos h0]at h;by_cases h1:i<n
  ·rw[if_pos h1]at h;have e:i.toNat=j:=apC h;exact⟨by rw[seqIndex_of h0 h1,e],by omega,by omega,h1⟩
  ·rw[if_neg h1]at h;cases h
 ·rw[if_neg h0]at h;by_cases h1: -(n:Int)≤i
  ·rw[if_pos h1]at h;have e:(i+n).toNat=j:=apC h;exact⟨by rw[seqIndex_neg (by omega) h1,e],by omega,h1,by omega⟩
  ·rw[if_neg h1]at h;cases h
theorem Kg{α:Type}{xs:List α}{i:Int}{v:α}(h:mP xs i=some v):∃j,seqIndex? i xs.length=some j∧xs[j]? =some v∧j<xs.length∧ -(xs.length:Int)≤i∧i<xs.length:=by
 unfold mP at h;cases e:ixN xs.length i with
 |none=>rw[e]at h;cases h
 |some j=>
  rw[e]at h;obtain⟨h1,h2,h3,h4⟩:=Xs e;exact⟨j,h1,h,h2,h3,h4⟩
theorem fZ{α:Type}{xs:List α}{j:Nat}{v:α}(h:xs[j]? =some v):mP xs (j:Int)=some v:=by
 have hj:j<xs.length:=(apu.mp h).1;have e:ixN xs.length (j:Int)=some j:=by
  unfold ixN;rw[if_pos (by omega),if_pos (by omega)];simp
 unfold mP;rw[e];exact h
def XZ(b:Expr):Prop:=∀o i,subscripted b false o i=operate [o,i] (getItem o i)
def IxR(X:Cx)(r:R2):Prop:=
 ∀(value slice:Expr) (ah:List (Addr×Obj)) (s:Shared) (σ:St) (H:Hp) (x y:V) (v u:Value) (Q:VK),bu X ah σ H s→ck x v→ck y u→r x y H Q→
  subscripted slice false v u=operate [v,u] (getItem v u)→wpAny (model X.prog X.w) X.A (subscriptTail value slice v u) (EP X ah σ Q) X.xe s
def PQ(X:Cx)(id:String)(r:V→List V→Hp→VK→Prop):Prop:=
 ∀(ah:List (Addr×Obj)) (s:Shared) (σ:St) (H:Hp) (x:V) (xs:List V) (v:Value) (us:List Value) (Q:VK),bu X ah σ H s→ck x v→cg xs us→r x xs H Q→
  wpAny (model X.prog X.w) X.A (call (.builtin id) (v::us)) (EP X ah σ Q) X.xe s
section
variable{X:Cx}{a b:Expr}{ta tb:TE}{pos:Pos}
theorem bC{r:R2}(hr:IxR X r)(ha:PE X a ta)(hb:PE X b tb)(hs:XZ b):PE X (.Subscript a b pos) (Ru r ta tb):=by
 intro ah s σ H Q I h;exact Subscript_ (aap ha hb I h fun v u s2 x y H2 I2 rx ry q=>hr a b ah s2 σ H2 x y v u Q I2 rx ry q (hs _ _))
def UG(K:apw):R2:=fun x y H Q=>∃p xs i v,x=.ref p∧y=.int i∧jH K H p xs∧mP xs i=some v∧Q v H
def afk(K:apw):R2:=fun x y H Q=>∃p xs i v,x=.ref p∧y=.int i∧AK K H p xs∧mP xs i=some v∧Q v H
def abL:R2:=fun x y H Q=>∃z i c,x=.str z∧y=.int i∧z.length≤sizeLine∧mP z.cps.toList i=some c∧Q (.str ⟨#[c]⟩) H
theorem JC:IxR X (UG X.K):=by
 intro value slice ah s σ H x y v u Q I rx ry h hs;obtain⟨p,xs,i,z,rfl,rfl,hq,he,q⟩:=h;cases rx;obtain⟨t,rfl⟩:=ry;obtain⟨bX,r,pl,hz⟩:=I.list hq;obtain⟨j,h1,h2,h3,h4,h5⟩:=Kg he;obtain⟨w,ew,Lk⟩:=r.get h2;have hl:=r.length;have hn:=Ez;have fin:EP X ah σ Q w s:=⟨z,H,I,Lk,q⟩;by_cases h0:0≤i
 ·have hj:i.toNat=j:=by
   rw[seqIndex_of h0 h5]at h1;exact apC h1
  exact item_listR pl.isList h0 (by omega) (by rw[hj];simpa using ew) fin hs
 ·have hj:(i+(bX.toArray.size:Int)).toNat=j:=by
   rw[seqIndex_neg (by omega) h4]at h1;rw[apQ,←hl];exact apC h1
  exact subscriptTail_builtinR (x:=w) pl.isList.typeIs slot_list_getitem.lookup
   (wpAny_getItem_list_neg (Q:=fun r s'=>r=w∧EP X ah σ Q r s') pl.isList (by omega) (by rw[apQ]<;>omega) (by omega) (by rw[hj];simpa using ew) ⟨rfl,fin⟩) hs
theorem ZR:IxR X (afk X.K):=by
 intro value slice ah s σ H x y v u Q I rx ry h hs;obtain⟨p,xs,i,z,rfl,rfl,hq,he,q⟩:=h;cases rx;obtain⟨t,rfl⟩:=ry;obtain⟨bX,r,pl,hz⟩:=I.tuple hq;obtain⟨j,h1,h2,h3,h4,h5⟩:=Kg he;obtain⟨w,ew,Lk⟩:=r.get h2;have hl:=r.length;have hn:=Ez;have fin:EP X ah σ Q w s:=⟨z,H,I,Lk,q⟩;exact subscriptTail_builtinR (x:=w) pl.typeIs slot_tuple_getitem.lookup
  (getItem_tuple (j:=j) (Q:=fun r s'=>r=w∧EP X ah σ Q r s') pl (by omega) (by omega) (by rw[apQ,←hl];exact h1) (by simpa using ew) ⟨rfl,fin⟩) hs
theorem OF:IxR X abL:=by
 intro value slice ah s σ H x y v u Q I rx ry h hs;obtain⟨z,i,c,rfl,rfl,hz,he,q⟩:=h;obtain⟨t,rfl⟩:=rx;obtain⟨t',rfl⟩:=ry;obtain⟨j,h1,h2,h3,h4,h5⟩:=Kg he;have hl:z.cps.toList.length=z.length:=by simp[atu]
 rw[hl]at h1 h4 h5;have hn:=Ez;exact tail_any (typeIs_str s z t) slot_str_getitem.lookup (getItem_str (c:=c) (by
  have e1:decide (i< -(2 ^ 63:Int))=false:=decide_eq_false (by omega);have e2:decide (i≥2 ^ 63)=false:=decide_eq_false (by omega);rw[e1,e2,avr]) (by rw[h1];simpa using h2) ⟨.str ⟨#[c]⟩,H,I.tok _,⟨_,rfl⟩,q⟩) hs
theorem IJ(lo hi:Option Int)(n:Nat):(sliceBounds lo hi none n).1=((HT.Gg n 0 lo:Nat):Int)∧(sliceBounds lo hi none n).2.1=((HT.Gg n n hi:Nat):Int)∧(sliceBounds lo hi none n).2.2=1:=by
 refine⟨?_,?_,rfl⟩
 ·cases lo with
  |none=>simp[sliceBounds,HT.Gg]
  |some i=>
   simp only[sliceBounds,HT.Gg,auV,show(1:Int)>0 by decide,if_true];by_cases h:i<0
   ·simp only[h,if_true]<;>omega
   ·simp only[h,if_false]<;>omega
 ·cases hi with
  |none=>simp[sliceBounds,HT.Gg]
  |some i=>
   simp only[sliceBounds,HT.Gg,auV,show(1:Int)>0 by decide,if_true];by_cases h:i<0
   ·simp only[h,if_true]<;>omega
   ·simp only[h,if_false]<;>omega
theorem Ga(bX:List Value)(lo hi:Option Int):slicePick bX.toArray lo hi none=((bX.drop (HT.Gg bX.length 0 lo)).take (HT.Gg bX.length bX.length hi-HT.Gg bX.length 0 lo)).toArray:=by
 obtain⟨h1,h2,h3⟩:=IJ lo hi bX.toArray.size;unfold slicePick;rw[h1,h2,h3];simp only[sliceRange_one,pick_run,apQ]<;>rfl
def UD(K:apw):V→Option Int→Option Int→Hp→VK→Prop:=fun x lo hi H Q=>∃a xs,x=.ref a∧jH K H a xs∧∀p,H p=none→Q (.ref p) (aJ H p (.aN (qQ xs lo hi)))
theorem Qc:SlR X (UD X.K):=by
 intro ah s σ H x v vl vu lo hi sl Q I rx hs pl pu h;obtain⟨a,xs,rfl,hx,q⟩:=h;cases rx;obtain⟨bX,r,ht,hz⟩:=I.list hx;have hlen:=r.length;refine⟨"list",_,slot_list_getitem.lookup,ht.isList.typeIs,?_⟩;refine wpAny_getItem_list_slice ht.isList hs pl pu .none (by simp) ?_ (by rw[apQ]<;>omega);rw[Ga,←hlen];refine⟨.ref s.heap.objs.size,_,I.vd (t':=s.toks) (o:=.aN (qQ xs lo hi)) (fun b ob q=>apL _ q) (apE _) ?_,rfl,q _ (I.du.fresh (apE _))⟩;exact⟨aqa (MA xs lo hi) hz,_,0,(r.drop (HT.Gg xs.length 0 lo)).take (HT.Gg xs.length xs.length hi-HT.Gg xs.length 0 lo),aqd _ rfl⟩
def lb:V→Bool
 | .cx=>true
 | .bl _=>true
 | .int _=>true
 | .str _=>true
 |_=>false
def XQ:V→V→Bool
 | .cx,.cx=>true
 | .bl a,.bl b=>a==b
 | .bl a,.int b=>(if a then 1 else 0)==b
 | .int a,.bl b=>a==(if b then 1 else 0)
 | .int a,.int b=>a==b
 | .str a,.str b=>a==b
 |_,_=>false
theorem aah{A:Around}{s:Shared}{y x:V}{u v:Value}(ry:ck y u)(rx:ck x v)(fy:lb y=true)(fx:lb x=true):awf A s u v (XQ y x):=by
 cases y with
 |cx=>
  cases ry;cases x with
  |cx=>cases rx;exact SeqAt.EqAt.same _
  |bl b=>cases rx;exact SeqAt.EqAt.none_bool b
  |int b=>obtain⟨t,rfl⟩:=rx;exact SeqAt.EqAt.none_int b t
  |str b=>obtain⟨t,rfl⟩:=rx;exact SeqAt.EqAt.none_str b t
  |_=>exact absurd (show false=true from fx) apI
 |bl a=>
  cases ry;cases x with
  |cx=>cases rx;exact SeqAt.EqAt.bool_none a
  |bl b=>cases rx;exact SeqAt.EqAt.bool_bool a b
  |int b=>obtain⟨t,rfl⟩:=rx;exact SeqAt.EqAt.bool_int a b t
  |str b=>obtain⟨t,rfl⟩:=rx;exact SeqAt.EqAt.bool_str a b t
  |_=>exact absurd (show false=true from fx) apI
 |int a=>
  obtain⟨t',rfl⟩:=ry;cases x with
  |cx=>cases rx;exact SeqAt.EqAt.int_none a t'
  |bl b=>cases rx;exact SeqAt.EqAt.int_bool a t' b
  |int b=>obtain⟨t,rfl⟩:=rx;exact SeqAt.EqAt.int_int a t' b t
  |str b=>obtain⟨t,rfl⟩:=rx;exact auv a t' b t
  |_=>exact absurd (show false=true from fx) apI
 |str a=>
  obtain⟨t',rfl⟩:=ry;cases x with
  |cx=>cases rx;exact SeqAt.EqAt.str_none a t'
  |bl b=>cases rx;exact SeqAt.EqAt.str_bool a t' b
  |int b=>obtain⟨t,rfl⟩:=rx;exact auw a t' b t
  |str b=>obtain⟨t,rfl⟩:=rx;exact SeqAt.EqAt.str_str a t' b t
  |_=>exact absurd (show false=true from fx) apI
 |_=>exact absurd (show false=true from fy) apI
def O4(x:V)(u:Value):Bool:=match u with
 | .none=>XQ .cx x
 | .bool b=>XQ (.bl b) x
 | .int i _=>XQ (.int i) x
 | .str z _=>XQ (.str z) x
 |_=>false
theorem VQ{x y:V}{u:Value}(r:ck y u)(f:lb y=true):O4 x u=XQ y x:=by
 cases y with
 |cx=>cases r;rfl
 |bl b=>cases r;rfl
 |int i=>obtain⟨t,rfl⟩:=r;rfl
 |str z=>obtain⟨t,rfl⟩:=r;rfl
 |_=>exact absurd (show false=true from f) apI
theorem yN{x:V}:∀{xs:List V} {us:List Value},cg xs us→xs.all lb=true→us.any (O4 x)=xs.any fun y=>XQ y x
 |_,_,.nil,_=>rfl
 |y::xs,u::us,.cons r t,f=>by
  rw[aqZ,apv]at f;rw[ary,ary,VQ r f.1,yN t f.2]
theorem sX{A:Around}{s:Shared}{x:V}{v:Value}(rx:ck x v)(fx:lb x=true):∀{xs:List V} {us:List Value},cg xs us→xs.all lb=true→∀u∈us,awf A s u v (O4 x u)
 |_,_,.nil,_=>fun u hu=>by cases hu
 |y::xs,u::us,.cons r t,f=>fun u' hu=>by
  rw[aqZ,apv]at f;rcases apA.mp hu with rfl|hu
  ·rw[VQ r f.1];exact aah r rx f.1 fx
  ·exact sX rx fx t f.2 u' hu
def Wq(x:V)(xs:List V):Bool:=xs.any fun y=>XQ y x
def rIn(K:apw)(neg:Bool):R2:=fun x y H Q=>∃p xs,y=.ref p∧(jH K H p xs∨AK K H p xs)∧lb x=true∧xs.all lb=true∧Q (.bl (if neg then !Wq x xs else Wq x xs)) H
theorem RW:BE X (compareOp .In) (rIn X.K false):=by
 intro ah s σ H x y v u Q I rx ry h;obtain⟨p,xs,rfl,hq,fx,fs,q⟩:=h;cases ry;rcases hq with hq|hq
 ·obtain⟨bX,r,pl,hz⟩:=I.list hq;refine SeqAt.in_listAt (O4 x) pl.isList (fun w hw=>sX rx fx r fs w (by simpa using hw)) ⟨.bl _,H,I,rfl,?_⟩;rw[show bX.toArray.any (O4 x)=bX.any (O4 x) by simp,yN r fs];exact q
 ·obtain⟨bX,r,pl,hz⟩:=I.tuple hq;refine SeqAt.in_tupleAt (O4 x) pl (fun w hw=>sX rx fx r fs w (by simpa using hw)) ⟨.bl _,H,I,rfl,?_⟩;rw[show bX.toArray.any (O4 x)=bX.any (O4 x) by simp,yN r fs];exact q
theorem Ji:BE X (compareOp .NotIn) (rIn X.K true):=by
 intro ah s σ H x y v u Q I rx ry h;obtain⟨p,xs,rfl,hq,fx,fs,q⟩:=h;cases ry;rcases hq with hq|hq
 ·obtain⟨bX,r,pl,hz⟩:=I.list hq;refine SeqAt.notIn_listAt (O4 x) pl.isList (fun w hw=>sX rx fx r fs w (by simpa using hw)) ⟨.bl _,H,I,rfl,?_⟩;rw[show bX.toArray.any (O4 x)=bX.any (O4 x) by simp,yN r fs];exact q
 ·obtain⟨bX,r,pl,hz⟩:=I.tuple hq;refine SeqAt.notIn_tupleAt (O4 x) pl (fun w hw=>sX rx fx r fs w (by simpa using hw)) ⟨.bl _,H,I,rfl,?_⟩;rw[show bX.toArray.any (O4 x)=bX.any (O4 x) by simp,yN r fs];exact q
theorem yG:rF X (.builtin "len") (fun xs H Q=>∃p ys,xs=[.ref p]∧(jH X.K H p ys∨AK X.K H p ys)∧Q (.int ys.length) H):=by
 intro ah s σ H xs us Q I r h;obtain⟨p,ys,rfl,hq,q⟩:=h;obtain⟨u,rfl,rx⟩:=vals1 r;cases rx;have hn:=Ez;rcases hq with hq|hq
 ·obtain⟨bX,r',pl,hz⟩:=I.list hq;have hlen:=r'.length;exact Calls.call_len_list pl.isList (by simp only[apQ]<;>omega) ⟨.int ys.length,H,I.tok _,⟨s.toks+1,by rw[apQ,hlen]⟩,q⟩
 ·obtain⟨bX,r',pl,hz⟩:=I.tuple hq;have hlen:=r'.length;exact len_tuple pl (by simp only[apQ]<;>omega) ⟨.int ys.length,H,I.tok _,⟨s.toks+1,by rw[apQ,hlen]⟩,q⟩
theorem jy:rF X (.builtin "len") (fun xs H Q=>∃z,xs=[.str z]∧z.length≤sizeLine∧Q (.int z.length) H):=by
 intro ah s σ H xs us Q I r h;obtain⟨z,rfl,hz,q⟩:=h;obtain⟨u,rfl,t,rfl⟩:=vals1 r;have hn:=Ez;exact len_str (by omega) ⟨.int z.length,H,I.tok _,⟨_,rfl⟩,q⟩
theorem J7:rF X (.type "list") (fun xs H Q=>∃p ys,xs=[.ref p]∧(jH X.K H p ys∨AK X.K H p ys)∧∀l,H l=none→Q (.ref l) (aJ H l (.aN ys))):=by
 intro ah s σ H xs us Q I r h;obtain⟨p,ys,rfl,hq,q⟩:=h;obtain⟨u,rfl,rx⟩:=vals1 r;cases rx;have fin:∀(bX:List Value),cg ys bX→ys.length≤sizeLine→∀(h':Heap) (c':Nat),(∀b o',s.heap.get? b=some o'→h'.get? b=some o')→
   h'.get? s.heap.objs.size=some {cls:=.type "list",dict:=none,data:=.seq bX.toArray c',slots:= #[]}→EP X ah σ Q (.ref s.heap.objs.size) {s with heap:=h'}:=fun bX r' hz h' c' kp e=>
  ⟨.ref s.heap.objs.size,_,I.vd (t':=s.toks) kp (apE _) (show gK X.prog X.w _ h' _ (.aN ys)from⟨hz,bX,c',r',e⟩),rfl,q _ (I.du.fresh (apE _))⟩
 rcases hq with hq|hq
 ·obtain⟨bX,r',pl,hz⟩:=I.list hq;have hlen:=r'.length;obtain⟨o,ho,hc,n,hd⟩:=pl.isList;exact call_list_seq p (.inl rfl) ho hc hd (fun h' c' kp e=>fin bX r' hz h' c' kp e) (by simp only[apQ]<;>omega)
 ·obtain⟨bX,r',pl,hz⟩:=I.tuple hq;have hlen:=r'.length;obtain⟨o,ho,hc,n,hd⟩:=pl;exact call_list_seq p (.inr rfl) ho hc hd (fun h' c' kp e=>fin bX r' hz h' c' kp e) (by simp only[apQ]<;>omega)
def tyV(K:apw)(T:String)(x:V)(H:Hp):Prop:=match x with
 | .str _=>T="str"
 | .int _=>T="int"
 | .ref p=>(T="list"∧∃xs,jH K H p xs)∨(T="tuple"∧∃o,K.lookup p=some o∧o.cls=.type "tuple"∧o.dict=none)∨
   (T="dict"∧((∃kvs,H p=some (.dK kvs))∨∃kvs,H p=some (.dT kvs)))∨(T="set"∧∃S n,H p=some (.set S n))
 |_=>False
theorem TJ{ah:List (Addr×Obj)}{σ:St}{H:Hp}{s:Shared}{T:String}{x:V}{v:Value}(I:bu X ah σ H s)(r:ck x v)(ty:tyV X.K T x H):
  s.TypeIs v T∧∀a,v=.ref a→∃ob,s.heap.get? a=some ob∧ob.dict=none:=by
 cases x with
 |str z=>
  obtain⟨t,rfl⟩:=r;cases(show T="str" from ty);exact⟨typeIs_str s z t,fun _ e=>nomatch e⟩
 |int i=>
  obtain⟨t,rfl⟩:=r;cases(show T="int" from ty);exact⟨typeIs_int s i t,fun _ e=>nomatch e⟩
 |ref p=>
  cases r;rcases ty with⟨rfl,xs,hq⟩|⟨rfl,o,hk,hc,hd⟩|⟨rfl,hk⟩|⟨rfl,S,n,hk⟩
  ·obtain⟨bX,_,pl,_⟩:=I.list hq;refine⟨pl.isList.typeIs,fun a e=>?_⟩;cases e;obtain⟨o,n,e,c,hd,_⟩:=pl;exact⟨o,e,hd⟩
  ·refine⟨⟨o,I.L8 p o hk,hc⟩,fun a e=>?_⟩;cases e;exact⟨o,I.L8 _ o hk,hd⟩
  ·have z:∃o,s.heap.get? p=some o∧o.ExactDict:=by
    rcases hk with⟨kvs,hk⟩|⟨kvs,hk⟩
    ·obtain⟨_,_,_,_,o,_,_,e,ex,_⟩:=I.du p _ hk;exact⟨o,e,ex⟩
    ·obtain⟨_,_,_,_,o,_,_,e,ex,_⟩:=I.du p _ hk;exact⟨o,e,ex⟩
   obtain⟨o,e,ex⟩:=z;refine⟨⟨o,e,ex.1⟩,fun a e2=>?_⟩;cases e2;exact⟨o,e,ex.2.1⟩
  ·obtain⟨o,_,_,_,e,ex,_⟩:=I.du p _ hk;refine⟨⟨o,e,ex.1⟩,fun a e2=>?_⟩;cases e2;exact⟨o,e,ex.2.1⟩
 |_=>exact aqW ty
def ae9(K:apw)(T:String)(r:V→List V→Hp→VK→Prop)(to:TE):TE:=fun σ H Q=>to σ H fun x H1=>tyV K T x H1∧r x [] H1 Q
def tBM(K:apw)(T:String)(r:V→List V→Hp→VK→Prop)(to:TE)(t:TA):TE:=fun σ H Q=>to σ H fun x H1=>tyV K T x H1∧t σ H1 fun xs H2=>r x xs H2 Q
variable{o e:Expr}{es:List Expr}{to:TE}{t:TA}{name:Str}{apos eJ:Pos}{T id:String}{r:V→List V→Hp→VK→Prop}
theorem Zn(pa:PlainAttrs T)(slot:Slot T name id)(QK:typeOf (.builtin id)=pure (.type "method_descriptor"))(hm:PQ X id r)(ho:PE X o to)
  (kF:attributeBase o name X.env (eval o X.env)=eval o X.env:=by rfl)(kE:(apos.endLine==eJ.line)=true:=by rfl):PE X (.Call (.Attribute o name apos) [] [] eJ) (ae9 X.K T r to):=by
 intro ah s σ H Q I h;refine wpAny_Call_method0_late kF kE (lu (ho ah s σ H _ I h) fun v s1 x H1 I1 r1 zz=>?_);obtain⟨ty,q1⟩:=zz;obtain⟨h1,h2⟩:=TJ I1 r1 ty;exact⟨T,id,pa,slot,QK,h1,h2,ard rfl (aup (hm ah s1 σ H1 x [] v [] Q I1 r1 .nil q1))⟩
theorem Yb(pa:PlainAttrs T)(slot:Slot T name id)(QK:typeOf (.builtin id)=pure (.type "method_descriptor"))(hm:PQ X id r)(ho:PE X o to)(ha:PA X (e::es) t)
  (kF:attributeBase o name X.env (eval o X.env)=eval o X.env:=by rfl)
  (VC:((backTo eJ (starEach (e::es) X.env)).all (fun x=> !x.1)&&(backToKw eJ (keywordEach [] X.env)).all (fun x=>x.1.isSome)
   &&decide ((e::es).length+([]:List Keyword).length+(if([]:List Keyword).isEmpty then 0 else 1)<30))=true:=by rfl)
  (kE:(apos.endLine==eJ.line)=true:=by rfl)(hs:starEach (e::es) X.env=(false,eval e X.env)::starEach es X.env:=by rfl)(EM:(backTo eJ (starEach es X.env)).any (·.1)=false:=by rfl):
  PE X (.Call (.Attribute o name apos) (e::es) [] eJ) (tBM X.K T r to t):=by
 intro ah s σ H Q I h;refine wpAny_Call_method_late kF VC kE rfl (lu (ho ah s σ H _ I h) fun v s1 x H1 I1 r1 zz=>?_);obtain⟨ty,q1⟩:=zz;obtain⟨h1,h2⟩:=TJ I1 r1 ty;refine⟨T,id,pa,slot,QK,h1,h2,?_⟩;have hA:=ha eJ ah s1 σ H1 _ I1 q1;rw[hs]at hA ⊢;refine ard (by show(false||(backTo eJ (starEach es X.env)).any (·.1))=false;rw[EM]<;>rfl) (ar6 ?_);refine rR hA fun us s2 zz=>?_;obtain⟨vs,H2,I2,r2,q2⟩:=zz;exact hm ah s2 σ H2 x vs v us Q I2 r1 r2 q2
end
def MtM(X:Cx)(id:String)(r:V→List V→Hp→VK→Prop):Prop:=
 ∀(ah:List (Addr×Obj)) (s:Shared) (σ:St) (H:Hp) (x:V) (xs:List V) (v:Value) (us:List Value) (Q:VK),bu X ah σ H s→ck x v→cg xs us→r x xs H Q→
  wpAny (model X.prog X.w) X.A (call (.builtin id) (v::us)) (EP X ah σ Q) X.xe s
theorem cg.one:∀{x:V} {us:List Value},cg [x] us→∃u,us=[u]∧ck x u:=by
 intro x us h;cases h with
 |cons r h=>
  cases h;exact⟨_,rfl,r⟩
theorem cg.two:∀{x y:V} {us:List Value},cg [x,y] us→∃u v,us=[u,v]∧ck x u∧ck y v:=by
 intro x y us h;cases h with
 |cons r h=>
  cases h with
  |cons q h=>
   cases h;exact⟨_,_,rfl,r,q⟩
theorem cg.zero:∀{us:List Value},cg [] us→us=[]
 |_,.nil=>rfl
theorem cg.dropLast{xs:List V}{us:List Value}(h:cg xs us):cg xs.dropLast us.dropLast:=by
 induction h with
 |nil=>exact .nil
 |cons r t ih=>
  cases t with
  |nil=>exact .nil
  |cons q t'=>exact .cons r ih
theorem O3{α:Type}(l:List α):l.eraseIdx (l.length-1)=l.dropLast:=by
 induction l with
 |nil=>rfl
 |cons a r ih=>
  cases r with
  |nil=>rfl
  |cons b r=>
   have e:(a::b::r).length-1=((b::r).length-1)+1:=by
    have h1:(a::b::r).length=r.length+2:=rfl;have h2:(b::r).length=r.length+1:=rfl;omega
   rw[e,List.eraseIdx_cons_succ,ih]
   all_goals rfl
section
variable{X:Cx}{ah:List (Addr×Obj)}{σ:St}{H:Hp}{s:Shared}{l b:Addr}{xs ys zs:List V}
theorem bu.Xm{bX EI:List Value}{n:Nat}{f:Array Value→Array Value}{t':Nat}(I:bu X ah σ H s)(hH:H l=some (.aN xs))
  (e:s.heap.get? l=some {cls:=.type "list",data:=.seq bX.toArray n})(hf:f bX.toArray=EI.toArray)(hv:cg ys EI)(hz:ys.length≤sizeLine):
  bu X ah σ (aJ H l (.aN ys)) {s with heap:=s.heap.update l (Obj.mapSeq f),toks:=t'}:=by
 have q:=PySem.IsL.update e f;rw[hf]at q;refine I.write (x:=l) (e:=l) (by rw[hH];exact trivial) (.inl rfl) (fun b' u hb hu=>(Heap.get?_update_other s.heap (Obj.mapSeq f) (ap1 hb)).trans hu) ⟨_,q⟩ ?_;exact⟨hz,EI,_,hv,q⟩
theorem bu.agO{bX:List Value}{t':Nat}(I:bu X ah σ H s)(hv:cg ys bX)(hz:ys.length≤sizeLine):
  bu X ah σ (aJ H s.heap.objs.size (.aN ys)) {s with heap:=s.heap.push {cls:=.type "list",data:=.seq bX.toArray},toks:=t'}:=
 I.vd (fun _ _ q=>apL _ q) (apE _) ⟨hz,bX,0,hv,aqd _ rfl⟩
theorem bu.fresh(I:bu X ah σ H s):H s.heap.objs.size=none:=I.du.fresh (apE _)
theorem bu.Ot(I:bu X ah σ H s)(hH:H l=some (.aN xs)):xs.length≤sizeLine∧∃(bX:List Value) (n:Nat),cg xs bX∧xs.length=bX.length∧s.heap.get? l=some {cls:=.type "list",data:=.seq bX.toArray n}:=by
 obtain⟨z,bX,n,r,e⟩:=I.du l _ hH;exact⟨z,bX,n,r,r.length,e⟩
theorem U5{n:Nat}(h:n≤sizeLine):aso n=false:=by
 unfold aso;exact decide_eq_false (by omega)
end
section
variable{X:Cx}
def uz:V→List V→Hp→VK→Prop:=fun x vs H Q=>∃l xs y,x=.ref l∧vs=[y]∧H l=some (.aN xs)∧xs.length<sizeLine∧Q .cx (aJ H l (.aN (xs++[y])))
theorem jY:MtM X "list.append" uz:=by
 intro ah s σ H x vs v us Q I rx rv h;obtain⟨l,xs,y,rfl,rfl,hH,hz,q⟩:=h;cases rx;obtain⟨u,rfl,ru⟩:=rv.one;obtain⟨z,bX,n,r,hl,e⟩:=I.Ot hH;refine call_meets aqM ⟨_,e,rfl⟩ F.entry_list_append (F.args_list_append_2 _ _) (PySem.list_append l bX.toArray n u (by rw[apQ];omega)) ⟨e,?_⟩;refine⟨.cx,_,I.Xm (EI:=bX++[u]) hH e (by simp) (r.append (.cons ru .nil)) ?_,rfl,q⟩;rw[apr,ap5];omega
def xH:V→List V→Hp→VK→Prop:=fun x vs H Q=>∃l b xs zs,x=.ref l∧vs=[.ref b]∧H l=some (.aN xs)∧H b=some (.aN zs)∧xs.length+zs.length≤sizeLine∧Q .cx (aJ H l (.aN (xs++zs)))
theorem zZ:MtM X "list.extend" xH:=by
 intro ah s σ H x vs v us Q I rx rv h;obtain⟨l,b,xs,zs,rfl,rfl,hH,hB,hz,q⟩:=h;cases rx;obtain⟨u,rfl,ru⟩:=rv.one;cases ru;obtain⟨z,bX,n,r,hl,e⟩:=I.Ot hH;obtain⟨z2,OH,n2,r2,hl2,e2⟩:=I.Ot hB;have hsz:bX.toArray.size+OH.toArray.size≤sizeLine:=by rw[apQ,apQ];omega
 have acN:¬(!bX.toArray.isEmpty&&aso (bX.toArray.size+OH.toArray.size))=true:=by
  rw[U5 hsz,Bool.and_false];exact apI
 refine call_meets arN ⟨_,e,rfl⟩ F.entry_list_extend (F.args_list_extend_2 _ _)
  (AutoSeq1.list_extend_list_list_0 l bX.toArray n b OH.toArray n2 acN (by rw[apQ];omega) (by omega)) ⟨e,e2,?_⟩
 refine⟨.cx,_,I.Xm (EI:=bX++OH) hH e (by simp) (r.append r2) ?_,rfl,q⟩;rw[apr];omega
def afi:V→List V→Hp→VK→Prop:=fun x vs H Q=>∃l xs y,x=.ref l∧vs=[]∧H l=some (.aN xs)∧xs[xs.length-1]? =some y∧Q y (aJ H l (.aN xs.dropLast))
theorem Zu:MtM X "list.pop" afi:=by
 intro ah s σ H x vs v us Q I rx rv h;obtain⟨l,xs,y,rfl,rfl,hH,hy,q⟩:=h;cases rx;have hus:=rv.zero;subst hus;obtain⟨z,bX,n,r,hl,e⟩:=I.Ot hH;obtain⟨u,hu,ru⟩:=r.get hy;have hy':bX.toArray[bX.toArray.size-1]? =some u:=by
  show bX.toArray[bX.length-1]? =some u;rw[←asO,←hl];exact hu
 refine call_meets auD ⟨_,e,rfl⟩ F.entry_list_pop (F.args_list_pop_1 _) (MeetsSeq.list_pop_last l bX.toArray n u hy' (by rw[apQ];omega)) ⟨e,?_⟩;refine⟨y,_,I.Xm (EI:=bX.dropLast) hH e ?_ r.dropLast ?_,ru,q⟩
 ·show bX.toArray.eraseIdxIfInBounds (bX.toArray.size-1)=bX.dropLast.toArray;rw[apQ,List.eraseIdxIfInBounds_toArray,O3]
 ·rw[List.length_dropLast];omega
def RR:R2:=fun x y H Q=>∃l b xs zs,x=.ref l∧y=.ref b∧H l=some (.aN xs)∧H b=some (.aN zs)∧xs.length+zs.length≤sizeLine∧∀p,H p=none→Q (.ref p) (aJ H p (.aN (xs++zs)))
theorem wC:BE X (binaryOp .Add) RR:=by
 intro ah s σ H x y v u Q I rx ry h;obtain⟨l,b,xs,zs,rfl,rfl,hH,hB,hz,q⟩:=h;cases rx;cases ry;obtain⟨z,bX,n,r,hl,e⟩:=I.Ot hH;obtain⟨z2,OH,n2,r2,hl2,e2⟩:=I.Ot hB;refine PySem.P.add_list e e2 ?_ (by rw[apQ,apQ];omega);have ea:bX.toArray++OH.toArray=(bX++OH).toArray:=by simp
 rw[ea];exact⟨.ref _,_,I.agO (t':=s.toks) (r.append r2) (by rw[apr];omega),rfl,q _ I.fresh⟩
end
theorem xj:∀{us:List Value} {ns:List Int},IntsAre us ns→cg (ns.map V.int) us
 |_,_,.nil=>by rw[arv];exact Paired.nil
 |_,_,.cons n t h=>by rw[apG];exact Paired.cons (show ck (V.int n) (asn n t)from⟨t,rfl⟩) (xj h)
theorem cg.bls:∀{bs:List Bool} {us:List Value},cg (bs.map V.bl) us→us=bs.map asU
 |[],us,h=>by
  rw[arv]at h;cases h;rfl
 |b::bs,us,h=>by
  rw[apG]at h;cases h with
  |cons r t=>
   cases r;rw[cg.bls t,apG]
theorem cg.abJ{a:Addr}{us:List Value}(r:cg [V.ref a] us):us=[aqq a]:=by
 cases r with
 |cons r t=>
  cases t;cases r;rfl
section
variable{X:Cx}
theorem WW{n:Nat}(h:n<64):n≤sizeLine:=by rw[sizeLine_eq];omega
end
theorem Vr{prog:Program}{w:World}{A:Around}{E:Value→Shared→Prop}{s:Shared}{l:Addr}{items:Array Value}{Q:Value→Shared→Prop}(hl:s.heap.IsList l items)
  (h:∀s₂:Shared,s₂={s with heap:=s.heap.push {cls:=.type "list_iterator",data:=.fields #[.ref l,.int 0 0]}}→
   (s₂.heap.IsListIter s.heap.objs.size l 0∧s₂.heap.IsList l items)→l≠s.heap.objs.size→Q (.ref s.heap.objs.size) s₂):wpAny (model prog w) A (pyIter (.ref l)) Q E s:=by
 have gX:l<s.heap.objs.size:=by obtain⟨_,e,_⟩:=hl;exact ap0 e
 exact wpAny_pyIter_list hl (h _ rfl ⟨⟨_,aqd _ rfl,rfl,rfl⟩,hl.push _⟩ (aqo gX))
theorem Ky{prog:Program}{w:World}{A:Around}{bs:List Bool}{bX:List Value}(e:bX=bs.map asU):
  TruthOf prog w A (fun i v=>bX.toArray[i]? =some v) (fun i=>bs.getD i false):=fun i v s Q E hv hq=>by
 have Xu:bX[i]? =some v:=by simpa using hv
 rw[e,apH]at Xu;obtain⟨b,hb,rfl⟩:=apF.mp Xu;have hg:bs.getD i false=b:=by rw[asa,hb]<;>rfl
 have Xz:Q (bs.getD i false) s:=hq;rw[hg]at Xz;exact wpAny_truthy_bool Xz
theorem any_range:∀bs:List Bool,(ap4 bs.length).any (fun i=>bs.getD i false)=bs.any id
 |[]=>rfl
 |b::bs=>by
  rw[apz,List.range_succ_eq_map,ary,atA,ary,←any_range bs]
  all_goals rfl
section
variable{X:Cx}
def afl(K:apw):List V→Hp→VK→Prop:=fun vs H Q=>∃(a:Addr) (bs:List Bool),vs=[V.ref a]∧jH K H a (bs.map V.bl)∧Q (.bl (bs.any id)) H
theorem V0(hc:X.GQ=true):rF X (.builtin "any") (afl X.K):=by
 intro ah s σ H vs us Q I r h;obtain⟨a,bs,rfl,hs,q⟩:=h;obtain⟨bX,rv,hl,_⟩:=I.list hs;rw[cg.abJ r];have hb:=rv.bls;refine call_any_walk (Vr hl.isList fun s₂ e2 st Bf=>?_);subst e2;refine⟨_,_,_,_,_,_,_,rfl,Walks.list (A:=X.A.in1) (I.ok.hd hc) _ a Bf bX.toArray,st,Ky hb,fun h' tk hk=>?_⟩;refine⟨.bl _,H,I.kept fun b o eo=>hk b o (fun Vz=>?_) (apL _ eo),?_,q⟩
 ·rcases apA.mp Vz with e1|Vz
  ·exact absurd (e1▸ap0 eo) (arf _)
  ·cases Vz
 ·show asU _=asU _;rw[←any_range,hb,apQ,apt]
end
abbrev Wk(h:Heap)(c:Addr)(v:Option Value):Prop:=h.IsCell c v
def afh(scope sc:Scope):Scope:=
 {scope with names:=scope.names.map fun(n,k)=>if(k== .free&&sc.kind== .function&&sc.names.lookup n==some .cell)then(n,.cell)else(n,k)}
def c8(cells:List (Str×Addr)):List (Str×NameKind)→List (Str×Addr)→List (Str×Addr)
 |[],acc=>acc
 |(n,k)::r,acc=>if k== .free then c8 cells r ((n,(cells.lookup n).getD 0)::acc)else c8 cells r acc
theorem yC(env:Env)(f:Str×NameKind→List (Str×Addr)→Sem (ForInStep (List (Str×Addr))))
  (hf:∀n k c,f (n,k) c=if k== .free then(do let a ←cellOf env n;pure (.yield ((n,a)::c)))else pure (.yield c)):
  ∀(names:List (Str×NameKind)) (acc:List (Str×Addr)),(∀y∈names,y.2=.free→∃c,env.cells.lookup y.1=some c)→forIn names acc f=pure (c8 env.cells names acc)
 |[],acc,_=>by rw[avh];rfl
 |(n,k)::r,acc,h=>by
  rw[List.forIn_cons,hf];have ih:=fun acc=>yC env f hf r acc fun y hy=>h y (apy _ hy);unfold c8;by_cases hk:(k==asb)=true
  ·rw[if_pos hk,if_pos hk];obtain⟨c,hc⟩:=h (n,k) apD (by simpa using hk);have e:cellOf env n=pure c:=by unfold cellOf;rw[hc]
   rw[e];have e2:(env.cells.lookup n).getD 0=c:=by rw[hc];rfl
   rw[e2];exact ih _
  ·rw[if_neg hk,if_neg hk];exact ih _
theorem Pk{scope:Scope}{env:Env}(h:∀y∈scope.names,y.2=.free→∃c,env.cells.lookup y.1=some c):closureFor scope env=pure (c8 env.cells scope.names []):=by
 simp only[closureFor];rw[yC env _ (fun n k c=>rfl) scope.names [] h];rfl
theorem eB{α:Type}:∀{l:List (Str×α)} {n:Str} {c:α},(n,c)∈l→∃c',l.lookup n=some c'
 |(k,v)::r,n,c,h=>by
  rw[ap6];cases hb:n==k with
  |true=>exact⟨_,rfl⟩
  |false=>
   rcases apA.mp h with e|h
   ·cases e;simp at hb
   ·exact eB h
theorem nT{cells:List (Str×Addr)}:∀{names:List (Str×NameKind)} {acc:List (Str×Addr)} {n:Str} {c:Addr},(n,c)∈c8 cells names acc→(n,c)∈acc∨((n,.free)∈names∧c=(cells.lookup n).getD 0)
 |[],_,_,_,h=>.inl h
 |(m,k)::r,acc,n,c,h=>by
  unfold c8 at h;split at h
  ·rename_i hk
   have hk:k=.free:=by simpa using hk
   rcases nT h with h|⟨h1,h2⟩
   ·rcases apA.mp h with e|h
    ·cases e;exact .inr ⟨hk▸apD,rfl⟩
    ·exact .inl h
   ·exact .inr ⟨apy _ h1,h2⟩
  ·rcases nT h with h|⟨h1,h2⟩
   ·exact .inl h
   ·exact .inr ⟨apy _ h1,h2⟩
theorem ua{cells:List (Str×Addr)}:∀{names:List (Str×NameKind)} {acc:List (Str×Addr)} {p:Str×Addr},p∈acc→p∈c8 cells names acc
 |[],_,_,h=>h
 |(m,k)::r,acc,p,h=>by
  unfold c8;split
  ·exact ua (apy _ h)
  ·exact ua h
theorem t9{cells:List (Str×Addr)}:∀{names:List (Str×NameKind)} {acc:List (Str×Addr)} {n:Str},(n,.free)∈names→(n,(cells.lookup n).getD 0)∈c8 cells names acc
 |(m,k)::r,acc,n,h=>by
  unfold c8;rcases apA.mp h with e|h
  ·cases e;exact ua apD
  ·split
   ·exact t9 h
   ·exact t9 h
theorem pS:∀{names:List (Str×NameKind)} {h:Heap} {acc:List (Str×Addr)} {x:Str} {c:Addr},(x,c)∈cellsFrom h.objs.size names acc→
  (x,c)∈acc∨((x,.cell)∈names∧h.objs.size≤c∧Wk (pushCells h names) c none)
 |[],_,_,_,_,h=>.inl h
 |(n,k)::r,h,acc,x,c,hm=>by
  unfold cellsFrom at hm;unfold pushCells;split at hm
  ·rename_i hk
   rw[if_pos hk];have hk:k=.cell:=by simpa using hk
   rw[←aqS h {cls:=.type "cell",data:=.cell none}]at hm;rcases pS hm with hm|⟨h1,h2,h3⟩
   ·rcases apA.mp hm with e|hm
    ·cases e;exact .inr ⟨hk▸apD,apE _,_,pushCells_keeps r _ _ _ (aqd _ rfl),rfl⟩
    ·exact .inl hm
   ·rw[aqS]at h2;exact .inr ⟨apy _ h1,asC h2,h3⟩
  ·rename_i hk
   rw[if_neg hk];rcases pS hm with hm|⟨h1,h2,h3⟩
   ·exact .inl hm
   ·exact .inr ⟨apy _ h1,h2,h3⟩
theorem u7:∀{names:List (Str×NameKind)} {n:Nat} {acc:List (Str×Addr)} {p:Str×Addr},p∈acc→p∈cellsFrom n names acc
 |[],_,_,_,h=>h
 |(m,k)::r,n,acc,p,h=>by
  unfold cellsFrom;split
  ·exact u7 (apy _ h)
  ·exact u7 h
theorem Ay:∀{names:List (Str×NameKind)} {n:Nat} {acc:List (Str×Addr)} {x:Str},(x,.cell)∈names→∃c,(x,c)∈cellsFrom n names acc
 |(m,k)::r,n,acc,x,h=>by
  unfold cellsFrom;rcases apA.mp h with e|h
  ·cases e;exact⟨n,u7 apD⟩
  ·split
   ·exact Ay h
   ·exact Ay h
theorem Ax:∀{names:List (Str×NameKind)} {h:Heap} {acc:List (Str×Addr)} {x y:Str} {c:Addr},(∀p∈acc,p.2<h.objs.size)→(∀x y c,(x,c)∈acc→(y,c)∈acc→x=y)→
  (x,c)∈cellsFrom h.objs.size names acc→(y,c)∈cellsFrom h.objs.size names acc→x=y
 |[],_,_,_,_,_,_,hi,h1,h2=>hi _ _ _ h1 h2
 |(n,k)::r,h,acc,x,y,c,hl,hi,h1,h2=>by
  unfold cellsFrom at h1 h2;split at h1
  ·rename_i hk
   rw[if_pos hk]at h2;rw[←aqS h {cls:=.type "cell",data:=.cell none}]at h1 h2;refine Ax (h:=h.push _) (fun p hp=>?_) (fun x y c a b=>?_) h1 h2
   ·rw[aqS];rcases apA.mp hp with rfl|hp
    ·exact aty _
    ·exact asD (hl p hp)
   ·rcases apA.mp a with e|a<;>rcases apA.mp b with e'|b
    ·cases e;cases e';rfl
    ·cases e;exact absurd (hl _ b) (arf _)
    ·cases e';exact absurd (hl _ a) (arf _)
    ·exact hi _ _ _ a b
  ·rename_i hk
   rw[if_neg hk]at h2;exact Ax hl hi h1 h2
theorem LL{M:Model}{A:Around}{E:Value→Shared→Prop}{s:Shared}{scope:Scope}{globals:Addr}{closure:List (Str×Addr)}{qual:Str}{func:Option Addr}{code:Value}{around:Env}{builtins:Addr}{Q:Env→Shared→Prop}
  (h:Q (newEnv scope s.heap.objs.size globals (cellsFrom (s.heap.objs.size+1) scope.names closure) qual func code (some around) builtins)
   {s with heap:=pushCells (s.heap.push {cls:=.type "dict",data:=.dict #[]}) scope.names}):
  wpAny M A (newFunctionEnv scope globals closure [] qual func code (some around) builtins) Q E s:=by
 simp only[newFunctionEnv,auE,if_true];refine wpAny_bind (wpAny_alloc ?_);refine wpAny_bind (wpAny_layCells _ (fun n k c=>rfl) scope.names closure _ _ ?_);rw[show({s with heap:=s.heap.push {cls:=.type "dict",data:=.dict #[]}}:Shared).heap.objs.size=s.heap.objs.size+1 from aqS ..];rw[avh];exact wpAny_bind (wpAny_pure (wpAny_pure h))
theorem tE{sc:Scope}:∀{names:List (Str×NameKind)} {x:Str} {k:NameKind},
  (names.map fun(n,k)=>if(k==asb&&sc.kind== .function&&sc.names.lookup n==some .cell)then(n,aun)else(n,k)).lookup x=some k→
  ∃k',names.lookup x=some k'∧(k=k'∨(k'=.free∧k=.cell))
 |[],_,_,h=>by simp at h
 |(n,k₀)::r,x,k,h=>by
  have ih:= @tE sc r x k;have h':aro x ((if(k₀==asb&&sc.kind== .function&&sc.names.lookup n==some .cell)=true then(n,aun)else(n,k₀))::(r.map _))=some k:=h;cases hx:x==n with
  |true=>
   simp only[ap6,hx];by_cases hc:(k₀==asb&&sc.kind== .function&&sc.names.lookup n==some .cell)=true
   ·rw[if_pos hc]at h';simp only[ap6,hx]at h';cases h';simp only[apv,beq_iff_eq]at hc;exact⟨k₀,rfl,.inr ⟨hc.1.1,rfl⟩⟩
   ·rw[if_neg hc]at h';simp only[ap6,hx]at h';cases h';exact⟨_,rfl,.inl rfl⟩
  |false=>
   simp only[ap6,hx];by_cases hc:(k₀==asb&&sc.kind== .function&&sc.names.lookup n==some .cell)=true
   ·rw[if_pos hc]at h';simp only[ap6,hx]at h';exact ih h'
   ·rw[if_neg hc]at h';simp only[ap6,hx]at h';exact ih h'
structure M0(N:List Str)(sc scope:Scope)(own:List (Str×Nat)):Prop where
 kind:scope.kind=.function
 uniq:∀y∈scope.names,scope.names.lookup y.1=some y.2
 ix:∀p∈own,N[p.2]? =some p.1
 free:∀y∈scope.names,y.2=.free→sc.names.lookup y.1=some .cell∨sc.names.lookup y.1=some .free
 own:∀y∈scope.names,y.2=.local∨y.2=.cell→y.1∈own.map (·.1)∨y.1∉N
def fV(σ:St):List Nat→St
 |[]=>σ
 |v::vs=>(fV σ vs).set v none
theorem rT(σ:St):∀vs:List Nat,(fV σ vs).length=σ.length
 |[]=>rfl
 |v::vs=>by unfold fV;rw[List.length_set,rT σ vs]
theorem yV{σ:St}{i:Nat}{x:V}:∀{vs:List Nat},(fV σ vs)[i]? =some (some x)→σ[i]? =some (some x)∧i∉vs
 |[],h=>⟨h,by simp⟩
 |v::vs,h=>by
  unfold fV at h;by_cases hi:v=i
  ·subst hi;by_cases hv:v<(fV σ vs).length
   ·rw[asG hv]at h;cases h
   ·rw[aqJ (by simpa using hv)]at h;cases h
  ·rw[asW hi]at h;obtain⟨h1,h2⟩:=yV h;exact⟨h1,by simp only[apA,not_or];exact⟨fun e=>hi e.symm,h2⟩⟩
abbrev Cx.Ka(X:Cx)(s:Shared)(H:Hp)(scope:Scope)(iU:Env)(fp:List Addr):Cx:={X with Hq:=s,H_0:=H,env:=iU,outer:=X.stack,ex:=fp,fn:=fun x=>scope.names.lookup x==some .cell,pn:=[],xe:=fun _ _=>False}
section
variable{X:Cx}{ah:List (Addr×Obj)}{σ:St}{H:Hp}{s:Shared}
theorem MJ{scope:Scope}{own:List (Str×Nat)}{fp:List Addr}(I:bu X ah σ H s)(ok:M0 X.N X.env.scope scope own)(hN:X.N.Nodup)(hfp:∀b∈fp,G8 X ah H b∧b<s.heap.objs.size):
  bu (X.Ka s H scope (compEnvC scope (cellsFrom (s.heap.objs.size+1) scope.names (c8 X.env.cells scope.names [])) s.heap.objs.size X.env) fp) [] (fV σ (own.map (·.2))) H {s with heap:=pushCells (s.heap.push {cls:=.type "dict",data:=.dict #[]}) scope.names}:=by
 have Bg:∀y∈scope.names,y.2=.free→∃c,X.env.cells.lookup y.1=some c:=fun y hy e=>by
  rcases ok.free y hy e with k|k
  ·exact I.ok.has _ (.inl k)
  ·exact I.ok.has _ (.inr k)
 generalize Mg:compEnvC scope (cellsFrom (s.heap.objs.size+1) scope.names (c8 X.env.cells scope.names [])) s.heap.objs.size X.env=iU;have kp:∀b o,s.heap.get? b=some o→(pushCells (s.heap.push {cls:=.type "dict",data:=.dict #[]}) scope.names).get? b=some o:=fun b o e=>pushCells_keeps _ _ _ _ (apL _ e);have hL:iU.locals=s.heap.objs.size:=by rw[←Mg];rfl
 have M4:iU.cells=cellsFrom (s.heap.objs.size+1) scope.names (c8 X.env.cells scope.names []):=by rw[←Mg];rfl
 have hsc:iU.scope=afh scope X.env.scope:=by rw[←Mg];rfl
 rw[←aqS s.heap {cls:=.type "dict",data:=.dict #[]}]at M4;have cm:∀{y c},(y,c)∈c8 X.env.cells scope.names []→X.env.cells.lookup y=some c∧c<s.heap.objs.size:=fun{y c} hm=>by
  rcases nT hm with hm|⟨h1,rfl⟩
  ·cases hm
  ·obtain⟨c,hc⟩:=Bg _ h1 rfl;rw[hc];obtain⟨w,z⟩:=I.cell _ _ hc;exact⟨rfl,z.lt⟩
 have mem:∀{y c},iU.cells.lookup y=some c→(X.env.cells.lookup y=some c∧c<s.heap.objs.size)∨(s.heap.objs.size+1≤c∧Wk (pushCells (s.heap.push {cls:=.type "dict",data:=.dict #[]}) scope.names) c none):=fun{y c} e=>by
  rw[M4]at e;rcases pS (aqi e)with hm|⟨_,h2,h3⟩
  ·exact .inl (cm hm)
  ·rw[aqS]at h2;exact .inr ⟨h2,h3⟩
 have look:∀{y},scope.names.lookup y=some .free→∃c,iU.cells.lookup y=some c∧X.env.cells.lookup y=some c:=fun{y} hl=>by
  have hy:(y,asb)∈scope.names:=aqi hl;obtain⟨c',e'⟩:=eB (u7 (names:=scope.names) (n:=(s.heap.push {cls:=.type "dict",data:=.dict #[]}).objs.size) (t9 (cells:=X.env.cells) (acc:=[]) hy));rw[←M4]at e';refine⟨c',e',?_⟩;rw[M4]at e';rcases pS (aqi e')with hm|⟨h1,_,_⟩
  ·exact(cm hm).1
  ·have:=ok.uniq _ h1;rw[hl]at this;cases this
 have okB:(X.Ka s H scope iU fp).Ok:=by
  refine⟨I.ok.mod,by show iU.scope.kind=_;rw[hsc];exact ok.kind,by show iU.globals=_;rw[←Mg];exact I.ok.JN,by show iU.builtins=_;rw[←Mg];exact I.ok.blt,by show s.heap.objs.size≤iU.locals;rw[hL];exact apE _,
   fun y z c e1 e2=>?_,fun y hy=>?_,fun y c z e=>?_,I.ok.hd,I.ok.frames,.inl rfl,fun b hb=>⟨?_,fun y c e z=>?_⟩,I.bs,aqa I.ok.XU I.sz,fun b o e hb=>?_,fun b hb z=>?_,I.stack,I.P8⟩
  ·have e1:iU.cells.lookup y=some c:=e1;have e2:iU.cells.lookup z=some c:=e2;rw[M4]at e1 e2;refine Ax (fun p hp=>?_) (fun y z c a b=>I.ok.inj y z c (cm a).1 (cm b).1) (aqi e1) (aqi e2);rw[aqS];exact asD (cm (y:=p.1) (c:=p.2) hp).2
  ·show∃c,iU.cells.lookup y=some c;have key:∀k,iU.kindOf y=some k→(k=.cell∨k=.free)→∃c,iU.cells.lookup y=some c:=fun k hk hk'=>by
    unfold Env.kindOf at hk;rw[hsc]at hk;obtain⟨k',e,r⟩:=tE hk;have:k'=.cell∨k'=.free:=by
     rcases r with rfl|⟨rfl,_⟩
     ·exact hk'
     ·exact .inr rfl
    rcases this with rfl|rfl
    ·obtain⟨c,hm⟩:=Ay (n:=(s.heap.push {cls:=.type "dict",data:=.dict #[]}).objs.size) (acc:=c8 X.env.cells scope.names []) (aqi e);obtain⟨c',e'⟩:=eB hm;exact⟨c',by rw[M4];exact e'⟩
    ·obtain⟨c,h1,_⟩:=look e;exact⟨c,h1⟩
   rcases hy with hy|hy
   ·exact key _ hy (.inl rfl)
   ·exact key _ hy (.inr rfl)
  ·have z:(scope.names.lookup y==some aun)=true:=z;have z:scope.names.lookup y=some .cell:=by simpa using z
   have e:iU.cells.lookup y=some c:=e;rw[M4]at e;rcases pS (aqi e)with hm|⟨_,h2,_⟩
   ·rcases nT hm with hm|⟨h1,_⟩
    ·cases hm
    ·have q:=ok.uniq _ h1;rw[z]at q;cases q
   ·rw[aqS]at h2;exact asC h2
  ·show b≠iU.locals;rw[hL];exact aqo (hfp b hb).2
  ·have e:iU.cells.lookup y=some c:=e;rcases mem e with⟨h1,_⟩|⟨h1,_⟩
   ·exact(hfp b hb).1.2.2.2.2.1 y c h1 z
   ·have h2:s.heap.objs.size+1≤b:=by rw[←z];exact h1
    exact absurd (ap9 (hfp b hb).2 (asC h2)) (arf _)
  ·rcases(hfp b hb).1.2.2.2.1 with z|z
   ·exact I.ok.U6 b o e z
   ·exact absurd (ap9 (ap0 e) (aqa I.ok.XU z)) (arf _)
  ·rcases apA.mp (I.Ni b z)with z|z
   ·exact(hfp b hb).1.2.1 z
   ·exact(hfp b hb).1.2.2.1 z
 refine⟨okB,rfl,I.qV,Un.kept kp,⟨fun _=>none,?_,fun i y av e1 e2 e3=>?_⟩,fun y c e=>?_,?_,fun y c e=>?_,fun p hp=>?_,I.du.kept kp,by rw[rT];exact I.len⟩
 ·show Heap.Ns _ iU.locals _;rw[hL];exact Heap.Ns.keeps (Heap.Ns.new ..) fun b o e=>pushCells_keeps _ _ _ _ e
 ·obtain⟨e2,Bf⟩:=yV e2;have hfr:scope.names.lookup y=some .free∧(iU.kindOf y=some .cell∨iU.kindOf y=some .free):=by
   have key:∀k,iU.scope.names.lookup y=some k→k=.local∨k=.cell∨k=.free→scope.names.lookup y=some .free∧(iU.kindOf y=some .cell∨iU.kindOf y=some .free):=fun k hk hk'=>by
    have Z5:=hk;rw[hsc]at hk;obtain⟨k',e,r⟩:=tE hk;have no:¬(k'=.local∨k'=.cell):=fun hh=>by
     rcases ok.own _ (aqi e) hh with e'|e'
     ·obtain⟨p,hp,hpy⟩:=apW.mp e';have e3:=ok.ix p hp;have:p.1=y:=hpy;rw[this]at e3;exact Bf (apW.mpr ⟨p,hp,Ee hN e3 e1⟩)
     ·exact e' (aps e1)
    rcases r with rfl|⟨rfl,rfl⟩
    ·rcases hk' with rfl|rfl|rfl
     ·exact absurd (.inl rfl) no
     ·exact absurd (.inr rfl) no
     ·exact⟨e,.inr Z5⟩
    ·exact⟨e,.inl Z5⟩
   have e3:Vis iU.scope y:=e3;rcases e3 with e3|e3|e3
   ·exact key _ e3 (.inl rfl)
   ·exact key _ e3 (.inr (.inl rfl))
   ·exact key _ e3 (.inr (.inr rfl))
  obtain⟨m,hn,hl⟩:=I.loc;have ag3:Vis X.env.scope y:=(ok.free _ (aqi hfr.1) rfl).elim (fun k=>.inr (.inl k)) (fun k=>.inr (.inr k));obtain⟨w,r,q⟩:=hl i y av e1 e2 ag3;refine⟨w,r,.inr ⟨hfr.2,?_⟩⟩;obtain⟨c,h1,h2⟩:=look hfr.1;rcases q with⟨k,_⟩|⟨_,c',e',z⟩
  ·have k:X.env.scope.names.lookup y=some .local:=k;rcases ok.free _ (aqi hfr.1) rfl with k'|k'<;>rw[show X.env.scope.names.lookup y=_ from k']at k<;>cases k
  ·rw[h2]at e';cases e';exact⟨c,h1,z.keeps kp⟩
 ·have e:iU.cells.lookup y=some c:=e;rcases mem e with⟨h1,_⟩|⟨_,z⟩
  ·obtain⟨w,z⟩:=I.cell y c h1;exact⟨w,z.keeps kp⟩
  ·exact⟨_,z⟩
 ·show H iU.locals=none;rw[hL];exact I.du.fresh (apE _)
 ·have e:iU.cells.lookup y=some c:=e;rcases mem e with⟨h1,_⟩|⟨h1,_⟩
  ·exact I.tT y c h1
  ·exact I.du.fresh (asC h1)
 ·exact absurd (show p∈([]:List (Addr×Obj))++[]from hp) (by simp)
theorem aar{E:Value→Shared→Prop}{D:Addr}{xs:List V}{y:V}{v:Value}{Q:Value→Shared→Prop}(I:bu X ah σ H s)(hD:H D=some (.aN xs))(hz:xs.length<sizeLine)(r:ck y v)
  (h:∀s',bu X ah σ (aJ H D (.aN (xs++[y]))) s'→Q .none s'):wpAny (model X.prog X.w) X.A (call (.builtin "list.append") [.ref D,v]) Q E s:=by
 obtain⟨hz',bX,n,ri,e⟩:=I.du D _ hD;have hl:=ri.length;refine append_at (hsz:=by rw[apQ];omega) e fun h' sb Tq=>?_;refine h {s with heap:=h'} (I.write (t':=s.toks) (by rw[hD];trivial) (.inl rfl) (fun b u hb q=>(sb.2 b hb).trans q) ⟨_,Tq⟩ ⟨by rw[apr];exact hz,bX++[v],n+1,ri.append (.cons r .nil),?_⟩);rw[Tq];simp
def PTs(X:Cx)(ifs:List Expr)(t:TT):Prop:=
 ∀(ah:List (Addr×Obj)) (s:Shared) (σ:St) (H:Hp) (Q:Bool→Hp→Prop),bu X ah σ H s→t σ H Q→
  wpAny (model X.prog X.w) X.A (forIn ifs true fun c r=>if r=true then do let ok ←isTrue c X.env (eval c X.env);pure (asX ok)else pure (asX r)) (TP X ah σ Q) X.xe s
def KG:TT:=fun _ H Q=>Q true H
theorem qj:PTs X [] KG:=fun _ _ _ H _ I h=>wpAny_tests_nil ⟨H,I,h⟩
end
theorem Rr{α:Type}{t:Sem α}{Q Q':α→Shared→Prop}{M:Model}{A:Around}{E:Value→Shared→Prop}{s:Shared}(h:wpAny M A t Q (fun _ _=>False) s)(hQ:∀a s,Q a s→Q' a s):wpAny M A t Q' E s:=wpAny_mono h hQ fun _ _ z=>aqW z
theorem J3{prog:Program}{w:World}{A:Around}{R:Result→Shared→Prop}{s:Shared}{elt target iter:Expr}{ifs:List Expr}{scope:Scope}{pos:Pos}{it acc:Value}{env:Env}(I:Nat→Shared→Prop)
  (turn:∀n s,I n s→wpAny (model prog w) A (pyNext it) (fun r s₁=>match r with
   |none=>R (.ok .next) s₁
   |some v=>wpAny (model prog w) A (letOwnedTupleGo target it v) (fun _ s₁'=>wpAny (model prog w) A (assign target env v) (fun _ s₂=>
     wpAny (model prog w) A (forIn ifs true fun c r=>if r=true then do let ok ←isTrue c env (eval c env);pure (asX ok)else pure (asX r)) (fun ok s₃=>
      if ok=true then wpAny (model prog w) A (eval elt env) (fun x s₄=>
       wpAny (model prog w) A (call (.builtin "list.append") [acc,x]) (fun _ s₅=>∃m,m<n∧I m s₅) (notedBy (model prog w) A env fun e s'=>R (.error e) s') s₄) (notedBy (model prog w) A env fun e s'=>R (.error e) s') s₃
      else∃m,m<n∧I m s₃) (notedBy (model prog w) A env fun e s'=>R (.error e) s') s₂) (notedBy (model prog w) A env fun e s'=>R (.error e) s') s₁') (notedBy (model prog w) A env fun e s'=>R (.error e) s') s₁) (notedBy (model prog w) A env fun e s'=>R (.error e) s') s)
  (n:Nat)(h:I n s):
  codeAny (model prog w) A (.compLoop (.ListComp elt [⟨target,iter,ifs,0⟩] scope pos) 0 it acc env) R s:=by
 refine codeAny_loop rfl I (fun n s hI=>?_) n h;show wpAny _ A ((compTurn (.ListComp elt [⟨target,iter,ifs,0⟩] scope pos) 0 it acc env).onRaise (fun x=>do noteFrame x env;theTreesLotGoes x)) _ _ s;refine wpAny_noted ?_;rw[compTurn_list];refine wpAny_bind (wpAny_standAt (wpAny_bind (wpAny_mono (turn n s hI) (fun r s₁ h₁=>?_) fun _ _ h'=>h')));cases r with
 |none=>exact wpAny_pure h₁
 |some v=>
  refine wpAny_bind (wpAny_mono h₁ (fun _ s₁' h₁'=>?_) fun _ _ h'=>h');refine wpAny_bind (wpAny_mono h₁' (fun _ s₂ h₂=>wpAny_bind (wpAny_mono h₂ (fun ok s₃ h₃=>?_) fun _ _ h'=>h')) fun _ _ h'=>h');cases ok with
  |false=>exact wpAny_pure ⟨rfl,h₃⟩
  |true=>
   exact wpAny_bind (wpAny_bind (wpAny_mono h₃ (fun x s₄ h₄=>wpAny_bind (wpAny_mono h₄ (fun _ s₅ h₅=>wpAny_pure (wpAny_pure ⟨rfl,h₅⟩)) fun _ _ h'=>h')) fun _ _ h'=>h'))
section
variable{X:Cx}
def tLc(wi:TI)(g:TG)(tt:TT)(te:TE)(vs:List Nat):TE:=fun σ H Q=>wi σ H fun J H1=>∀D,H1 D=none→∃W:Nat→Nat→Hp→Prop,(∃m,W 0 m (aJ H1 D (.aN [])))∧∀i m H,W i m H→
 (J.stop i H∧Q (.ref D) H)∨(J.go i H∧∃Nx:Hp→Prop,(∀H',Nx H'→∃m',m'<m∧W (i+1) m' H')∧∀x H',J.Wl i H x H'→g x (fV σ vs) H' fun σ2 H2=>fV σ2 vs=fV σ vs∧tt σ2 H2 fun b H3=>
  if b=true then te σ2 H3 fun y H4=>∃acc,H4 D=some (.aN acc)∧acc.length<sizeLine∧Nx (aJ H4 D (.aN (acc++[y])))else Nx H3)
theorem Qy{ah:List (Addr×Obj)}{s:Shared}{σ:St}{H:Hp}{Q:VK}{elt tg iter:Expr}{ifs:List Expr}{scope:Scope}{own:List (Str×Nat)}{pos pos':Pos}{wi:TI}{g:TG}{tt:TT}{te:TE}{use:Option (Value→Sem Unit)}{Qf:Value→Shared→Prop}
  (hc:X.GQ=true)(hN:X.N.Nodup)(I:bu X ah σ H s)(hi:PI X tg iter wi)(ok:M0 X.N X.env.scope scope own)
  (hg:∀(s:Shared) (H:Hp) (C:Addr) (cl:List (Str×Addr)) (fp:List Addr),PG (X.Ka s H scope (compEnvC scope cl C X.env) fp) tg g)(ht:∀(s:Shared) (H:Hp) (C:Addr) (cl:List (Str×Addr)) (fp:List Addr),PTs (X.Ka s H scope (compEnvC scope cl C X.env) fp) ifs tt)
  (he:∀(s:Shared) (H:Hp) (C:Addr) (cl:List (Str×Addr)) (fp:List Addr),PE (X.Ka s H scope (compEnvC scope cl C X.env) fp) elt te)(hs:∀x,foldedSetIterable iter X.env x=pure x)
  (h:tLc wi g tt te (own.map (·.2)) σ H Q)
  (hRR:∀D C s' m H',bu X ah σ H' s'→Q (.ref D) H'→s'.heap.Ns C m→G8 X ah H' C→compPost (model X.prog X.w) X.A X.xe use Qf (.ref D) C (.ok .next) s'):
  wpAny (model X.prog X.w) X.A (comprehension (.ListComp elt [⟨tg,iter,ifs,0⟩] scope pos) scope X.env pos' (newList []) false (eval iter X.env) use) Qf X.xe s:=by
 have Bg:∀y∈scope.names,y.2=.free→∃c,X.env.cells.lookup y.1=some c:=fun y hy e=>by
  rcases ok.free y hy e with k|k
  ·exact I.ok.has _ (.inl k)
  ·exact I.ok.has _ (.inr k)
 refine wpAny_comprehension_free (use:=use) rfl hs (Pk Bg) ok.kind (fun y hy e=>by rw[ok.uniq y hy,e])
  (rR (hi ah s σ H _ I h) fun xv s1 hx=>rR hx fun itv s2 h2=>?_)
 obtain⟨it,fp,tn,J,H2,e,I2,T,st2,f2,q⟩:=h2;subst e;refine wpAny_newObj_type (LL ?_) (by show 0≤sizeLine;decide);generalize hD:s2.heap.objs.size=D;have hDn:H2 D=none:=I2.du.fresh (atx hD);obtain⟨W,⟨m0,w0⟩,turn⟩:=q D hDn;generalize hs3:({s2 with heap:=s2.heap.push {cls:=.type "list",data:=.seq ([]:List Value).toArray}}:Shared)=s3;have I3:bu X ah σ (aJ H2 D (.aN [])) s3:=by
  rw[←hs3];refine I2.vd (t':=s2.toks) (fun b o e=>apL _ e) (atx hD) ⟨apV _,[],0,.nil,?_⟩;rw[←hD];exact aqd _ rfl
 have h3:s3.heap=s2.heap.push {cls:=.type "list",data:=.seq ([]:List Value).toArray}:=by rw[←hs3]
 have sz:∀b∈fp,b<s2.heap.objs.size:=fun b hb=>by
  obtain⟨o,e,_⟩:=T.obj _ _ st2 b hb;exact ap0 e
 have f3:∀b∈fp,G8 X ah (aJ H2 D (.aN [])) b∧b<s3.heap.objs.size:=fun b hb=>by
  have gX:=sz b hb;refine⟨⟨?_,(f2 b hb).2⟩,by rw[h3,aqS];exact asD gX⟩;rw[ai (by rw[←hD];exact aqo gX)];exact(f2 b hb).1
 have st3:tn 0 s3.heap:=T.keep _ _ _ st2 fun b _ o e=>by rw[h3];exact apL _ e
 have I4:=MJ I3 ok hN f3;have pg:=hg s3 (aJ H2 D (.aN [])) s3.heap.objs.size (cellsFrom (s3.heap.objs.size+1) scope.names (c8 X.env.cells scope.names [])) fp;have pt:=ht s3 (aJ H2 D (.aN [])) s3.heap.objs.size (cellsFrom (s3.heap.objs.size+1) scope.names (c8 X.env.cells scope.names [])) fp;have pe:=he s3 (aJ H2 D (.aN [])) s3.heap.objs.size (cellsFrom (s3.heap.objs.size+1) scope.names (c8 X.env.cells scope.names [])) fp;show codeAny _ _ (.compStart (.ListComp elt [⟨tg,iter,ifs,0⟩] scope pos) 0 (.ref it) (.ref D) (compEnvC scope (cellsFrom (s3.heap.objs.size+1) scope.names (c8 X.env.cells scope.names [])) s3.heap.objs.size X.env)) (compPost (model X.prog X.w) X.A X.xe use Qf (.ref D) s3.heap.objs.size) {s3 with heap:=pushCells (s3.heap.push {cls:=.type "dict",data:=.dict #[]}) scope.names};have Zs:∀b∈fp,(aJ H2 D (.aN [])) b=none:=fun b hb=>(f3 b hb).1.1;generalize hce:compEnvC scope (cellsFrom (s3.heap.objs.size+1) scope.names (c8 X.env.cells scope.names [])) s3.heap.objs.size X.env=ce at I4 pg pt pe ⊢;have cL:ce.locals=s3.heap.objs.size:=by subst hce;rfl
 generalize hH3:aJ H2 D (.aN [])=H3 at I3 I4 pg pt pe w0 Zs f3;generalize hs4:({s3 with heap:=pushCells (s3.heap.push {cls:=.type "dict",data:=.dict #[]}) scope.names}:Shared)=s4 at I4 ⊢;have st4:tn 0 s4.heap:=T.keep _ _ _ st3 fun b _ o e=>by rw[←hs4];exact pushCells_keeps _ _ _ _ (apL _ e)
 have Nj:∀{σ':St} {H':Hp} {s':Shared},bu (X.Ka s3 H3 scope ce fp) [] σ' H' s'→(∀b∈fp,H' b=none)→∀b∈fp,G8 (X.Ka s3 H3 scope ce fp) [] H' b:=fun{σ' H' s'} I' hn b hb=>
  ⟨hn b hb,(I'.ok.exf b hb).1,I'.ok.VO b hb,.inl hb,fun x c e=>(I'.ok.exf b hb).2 x c e,fun p hp=>absurd (show p∈([]:List (Addr×Obj))++[]from hp) (by simp)⟩
 have loop:codeAny (model X.prog X.w) X.A (.compLoop (.ListComp elt [⟨tg,iter,ifs,0⟩] scope pos) 0 (.ref it) (.ref D) ce) (compPost (model X.prog X.w) X.A X.xe use Qf (.ref D) s3.heap.objs.size) s4:=by
  refine J3 (fun n s'=>∃i H',bu (X.Ka s3 H3 scope ce fp) [] (fV σ (own.map (·.2))) H' s'∧tn i s'.heap∧(∀b∈fp,H' b=none)∧W i n H') ?_ m0 ⟨0,H3,I4,st4,Zs,w0⟩;rintro n s5 ⟨i,H5,I5,Wo,n5,w5⟩;rcases turn i n H5 w5 with⟨stop,qq⟩|⟨go,Nx,hNx,step⟩
  ·have td:=T.done (X.Ka s3 H3 scope ce fp) rfl rfl rfl hc i [] s5 _ H5 (fun _ _=>False) I5 (Nj I5 n5) Wo stop;refine Rr td fun r s6 zz=>?_;obtain⟨hr,I6⟩:=zz;subst hr;have I7:bu X ah σ H5 s6:=I3.adl (ch:=fp) I6.os I6.base I6.du I6.qV fun b hb=>⟨(f3 b hb).1.2.2.2.1,(f3 b hb).1.2.1,(f3 b hb).1.2.2.2.2.1,(f3 b hb).1.2.2.2.2.2⟩;have nC:H5 s3.heap.objs.size=none:=by
    have z:H5 ce.locals=none:=I6.free;rw[cL]at z;exact z
   obtain⟨m,hn,_⟩:=I6.loc;have hn:s6.heap.Ns ce.locals m:=hn;rw[cL]at hn;exact hRR D s3.heap.objs.size s6 m H5 I7 qq hn (I3.VL (apE _) nC)
  ·have ti:=T.item (X.Ka s3 H3 scope ce fp) rfl rfl rfl hc i [] s5 _ H5 (fun _ _=>False) I5 (Nj I5 n5) Wo go;refine Rr ti fun r s6 zz=>?_;obtain⟨u,hr,h6⟩:=zz;subst hr;refine Rr h6 fun _ s7 zz=>?_;obtain⟨x,H7,I7,r7,y7,st7,n7⟩:=zz;have I7':=I7.pinned (Nj I7 n7) (T.obj _ _ st7);refine Rr (pg _ s7 _ H7 x u _ I7' r7 (step x H7 y7)) fun _ s8 zz=>?_;obtain⟨σ8,H8,I8,hw8,q8⟩:=zz;refine Rr (pt _ s8 σ8 H8 _ I8 q8) fun b s9 zz=>?_;obtain⟨H9,I9,q9⟩:=zz;have fin:∀{s':Shared} {H':Hp},bu (X.Ka s3 H3 scope ce fp) ([]++DZ fp s7.heap) σ8 H' s'→Nx H'→∃m,m<n∧∃i H',bu (X.Ka s3 H3 scope ce fp) [] (fV σ (own.map (·.2))) H' s'∧tn i s'.heap∧(∀b∈fp,H' b=none)∧W i m H':=fun{s' H'} I' nx=>by
    obtain⟨m',hm,w'⟩:=hNx H' nx;have abO:∀b∈fp,∀o,s7.heap.get? b=some o→s'.heap.get? b=some o∧H' b=none:=fun b hb o e=>
     let z:=I'.pin (b,o) (ap3 _ (ap3 _ (wI hb e)))
     ⟨z.1,z.2.1⟩
    have hl:(fV σ (own.map (·.2))).length=σ8.length:=by rw[←hw8,rT]
    refine⟨m',hm,i+1,H',(I'.xl (ah:=[])).weak hl (fun j v e=>?_),T.keep _ _ _ st7 fun b hb o e=>(abO b hb o e).1,fun b hb=>?_,w'⟩
    ·rw[←hw8]at e;exact(yV e).1
    ·obtain⟨o,e,_⟩:=T.obj _ _ st7 b hb;exact(abO b hb o e).2
   cases b with
   |false=>
    simp only[aqb,if_false]at q9 ⊢;exact fin I9 q9
   |true=>
    simp only[if_true]at q9 ⊢;refine Rr (pe _ s9 σ8 H9 _ I9 q9) fun z s10 zz=>?_;obtain⟨yv,H10,I10,r10,acc,ahZ,ag0,nx⟩:=zz;exact aar (X:=X.Ka s3 H3 scope ce fp) I10 ahZ ag0 r10 fun s11 I11=>fin I11 nx
 exact codeAny_compStart_list loop (T.self X.A 0 _ _ _ st4 loop)
theorem Hx{elt tg iter:Expr}{ifs:List Expr}{scope:Scope}{own:List (Str×Nat)}{pos:Pos}{wi:TI}{g:TG}{tt:TT}{te:TE}(hc:X.GQ=true)(hN:X.N.Nodup)(hi:PI X tg iter wi)(ok:M0 X.N X.env.scope scope own)
  (hg:∀(s:Shared) (H:Hp) (C:Addr) (cl:List (Str×Addr)) (fp:List Addr),PG (X.Ka s H scope (compEnvC scope cl C X.env) fp) tg g)(ht:∀(s:Shared) (H:Hp) (C:Addr) (cl:List (Str×Addr)) (fp:List Addr),PTs (X.Ka s H scope (compEnvC scope cl C X.env) fp) ifs tt)
  (he:∀(s:Shared) (H:Hp) (C:Addr) (cl:List (Str×Addr)) (fp:List Addr),PE (X.Ka s H scope (compEnvC scope cl C X.env) fp) elt te)(hs:∀x,foldedSetIterable iter X.env x=pure x:=by intro _;rfl):
  PE X (.ListComp elt [⟨tg,iter,ifs,0⟩] scope pos) (tLc wi g tt te (own.map (·.2))):=by
 intro ah s σ H Q I h;rw[eval_ListComp];refine Qy hc hN I hi ok hg ht he hs h fun D C s' m H' I' q hn f=>⟨m,hn,fun h'' sb=>?_⟩;obtain⟨f0,f1,f2,f3,f4,f5⟩:=f;exact⟨.ref D,H',I'.gf (t':=s'.toks) (fun b o hb e=>(sb.2 b hb).trans e) f0 f1 f3 f4 f5,rfl,q⟩
theorem UI{i:Nat}{y:Str}{py:Pos}{elt tg iter:Expr}{ifs:List Expr}{scope:Scope}{own:List (Str×Nat)}{pos abC:Pos}{wi:TI}{g:TG}{tt:TT}{te:TE}(hc:X.GQ=true)(hN:X.N.Nodup)(hy:X.N[i]? =some y)(hyl:X.env.scope.names.lookup y=some .local)
  (hsw:swapsWith (.ListComp elt [⟨tg,iter,ifs,0⟩] scope pos) (some (.Name y py)) abC.line X.env=pure true)(hi:PI X tg iter wi)(ok:M0 X.N X.env.scope scope own)
  (hg:∀(s:Shared) (H:Hp) (C:Addr) (cl:List (Str×Addr)) (fp:List Addr),PG (X.Ka s H scope (compEnvC scope cl C X.env) fp) tg g)(ht:∀(s:Shared) (H:Hp) (C:Addr) (cl:List (Str×Addr)) (fp:List Addr),PTs (X.Ka s H scope (compEnvC scope cl C X.env) fp) ifs tt)
  (he:∀(s:Shared) (H:Hp) (C:Addr) (cl:List (Str×Addr)) (fp:List Addr),PE (X.Ka s H scope (compEnvC scope cl C X.env) fp) elt te)(hs:∀x,foldedSetIterable iter X.env x=pure x:=by intro _;rfl):
  PS X (.Assign [.Name y py] (.ListComp elt [⟨tg,iter,ifs,0⟩] scope pos) abC) (WK (tLc wi g tt te (own.map (·.2))) (HN i)):=by
 intro ah s σ H D I h;rw[exec_Assign_Name_used _ _ _ _ hsw];refine wpAny_bind (wpAny_standAt (wpAny_bind ?_));show wpAny _ X.A (do let _ ←comprehension (.ListComp elt [⟨tg,iter,ifs,0⟩] scope pos) scope X.env (firstIterPos [⟨tg,iter,ifs,0⟩] pos) (newList []) false (eval iter X.env) (some (assign (.Name y py) X.env))) _ _ s;have h:tLc wi g tt te (own.map (·.2)) σ H (fun x H1=>HN i x σ H1 D.nx):=h;refine wpAny_bind (rR (Qy (Qf:=fun _ s'=>SP X ah D .next s') hc hN I hi ok hg ht he hs h fun L C s' m H' I' q hn f=>?_) fun _ s' hq=>wpAny_pure (wpAny_pure hq));show wpAny _ _ (assign (.Name y py) X.env (.ref L)) _ _ _;refine wpAny_assign_Name (Hi (v:=V.ref L) I' hN hy (.inl hyl) rfl (fun s2 I2 zz=>?_) (.inr hyl));obtain⟨a,sb,ha⟩:=zz;obtain⟨f0,f1,f2,f3,f4,f5⟩:=f;have haC:C≠a:=by
  rcases ha with z|z
  ·rw[z];exact f1
  ·exact fun e=>f4 y a z e.symm
 refine⟨m,hn.sameBut sb haC,fun h3 sb3=>?_⟩;exact⟨_,H',I2.gf (t':=s2.toks) (fun b o hb e=>(sb3.2 b hb).trans e) f0 f1 f3 f4 f5,q⟩
theorem WL{elt:Expr}{gs:List Comprehension}{scope:Scope}{pos py:Pos}{y:Str}{l:Nat}{env:Env}(hk:env.scope.kind=.function)(hy:env.scope.names.lookup y=some .local)(hl:(py.line==pos.line)=true)
  (ha:(scope.names.any fun(n,k)=>n==y&&(k== .local||k== .cell))=false):swapsWith (.ListComp elt gs scope pos) (some (.Name y py)) l env=pure true:=by
 have ky:env.kindOf y=some .local:=hy;have hb:env.blockKind=.function:=by unfold Env.blockKind;rw[hk];rfl
 unfold swapsWith;simp only[hb,ky,ha,Expr.pos,hl];rfl
end
theorem Vn{lo:Int}{n:Nat}{g:TG}{tt:TT}{te:TE}{vs:List Nat}{σ:St}{H1:Hp}{D:Addr}{Qd:Hp→Prop}(Pv:Nat→Hp→Prop)(h0:Pv 0 (aJ H1 D (.aN [])))
  (hs:∀i H,i<n→Pv i H→g (.int (lo+i)) (fV σ vs) H fun σ2 H2=>fV σ2 vs=fV σ vs∧tt σ2 H2 fun b H3=>
   if b=true then te σ2 H3 fun y H4=>∃acc,H4 D=some (.aN acc)∧acc.length<sizeLine∧Pv (i+1) (aJ H4 D (.aN (acc++[y])))else Pv (i+1) H3)(hd:∀H,Pv n H→Qd H):
  ∃W:Nat→Nat→Hp→Prop,(∃m,W 0 m (aJ H1 D (.aN [])))∧∀i m H,W i m H→
   ((Wz lo n).stop i H∧Qd H)∨((Wz lo n).go i H∧∃Nx:Hp→Prop,(∀H',Nx H'→∃m',m'<m∧W (i+1) m' H')∧∀x H',(Wz lo n).Wl i H x H'→g x (fV σ vs) H' fun σ2 H2=>fV σ2 vs=fV σ vs∧tt σ2 H2 fun b H3=>
    if b=true then te σ2 H3 fun y H4=>∃acc,H4 D=some (.aN acc)∧acc.length<sizeLine∧Nx (aJ H4 D (.aN (acc++[y])))else Nx H3):=by
 refine⟨fun i m H=>m=n-i∧i≤n∧Pv i H,⟨n,by simp,apV _,h0⟩,?_⟩;rintro i m H ⟨rfl,hi,p⟩;by_cases gX:i<n
 ·refine .inr ⟨gX,Pv (i+1),fun H' p'=>⟨n-(i+1),by omega,rfl,gX,p'⟩,fun x H' y=>?_⟩;obtain⟨e,y⟩:=y;subst e y;exact hs i _ gX p
 ·have e:i=n:=by omega
  subst e;exact .inl ⟨apE _,hd H p⟩
theorem CS{K:apw}{a:Addr}{xs:List V}{g:TG}{tt:TT}{te:TE}{vs:List Nat}{σ:St}{H1:Hp}{D:Addr}{Qd:Hp→Prop}(Pv:Nat→Hp→Prop)(h0:Pv 0 (aJ H1 D (.aN [])))(hl:∀i H,i≤xs.length→Pv i H→jH K H a xs)
  (hs:∀i x H,xs[i]? =some x→Pv i H→g x (fV σ vs) H fun σ2 H2=>fV σ2 vs=fV σ vs∧tt σ2 H2 fun b H3=>
   if b=true then te σ2 H3 fun y H4=>∃acc,H4 D=some (.aN acc)∧acc.length<sizeLine∧Pv (i+1) (aJ H4 D (.aN (acc++[y])))else Pv (i+1) H3)(hd:∀H,Pv xs.length H→Qd H):
  ∃W:Nat→Nat→Hp→Prop,(∃m,W 0 m (aJ H1 D (.aN [])))∧∀i m H,W i m H→
   ((Yw K a).stop i H∧Qd H)∨((Yw K a).go i H∧∃Nx:Hp→Prop,(∀H',Nx H'→∃m',m'<m∧W (i+1) m' H')∧∀x H',(Yw K a).Wl i H x H'→g x (fV σ vs) H' fun σ2 H2=>fV σ2 vs=fV σ vs∧tt σ2 H2 fun b H3=>
    if b=true then te σ2 H3 fun y H4=>∃acc,H4 D=some (.aN acc)∧acc.length<sizeLine∧Nx (aJ H4 D (.aN (acc++[y])))else Nx H3):=by
 refine⟨fun i m H=>m=xs.length-i∧i≤xs.length∧Pv i H,⟨xs.length,by simp,apV _,h0⟩,?_⟩;rintro i m H ⟨rfl,hi,p⟩;have q:=hl i H hi p;by_cases gX:i<xs.length
 ·refine .inr ⟨⟨xs,xs[i],q,by simp[gX]⟩,Pv (i+1),fun H' p'=>⟨xs.length-(i+1),by omega,rfl,gX,p'⟩,fun x H' y=>?_⟩;obtain⟨e,y⟩:=y;subst e;exact hs i x _ (y xs q) p
 ·have e:i=xs.length:=by omega
  subst e;exact .inl ⟨⟨xs,q,apE _⟩,hd H p⟩
theorem ZF{K:apw}{a:Addr}{xs:List V}{g:TG}{tt:TT}{te:TE}{vs:List Nat}{σ:St}{H1:Hp}{D:Addr}{Qd:Hp→Prop}(Pv:Nat→Hp→Prop)(h0:Pv 0 (aJ H1 D (.aN [])))(hl:∀i H,i≤xs.length→Pv i H→AK K H a xs)
  (hs:∀i x H,xs[i]? =some x→Pv i H→g x (fV σ vs) H fun σ2 H2=>fV σ2 vs=fV σ vs∧tt σ2 H2 fun b H3=>
   if b=true then te σ2 H3 fun y H4=>∃acc,H4 D=some (.aN acc)∧acc.length<sizeLine∧Pv (i+1) (aJ H4 D (.aN (acc++[y])))else Pv (i+1) H3)(hd:∀H,Pv xs.length H→Qd H):
  ∃W:Nat→Nat→Hp→Prop,(∃m,W 0 m (aJ H1 D (.aN [])))∧∀i m H,W i m H→
   ((Yv K a).stop i H∧Qd H)∨((Yv K a).go i H∧∃Nx:Hp→Prop,(∀H',Nx H'→∃m',m'<m∧W (i+1) m' H')∧∀x H',(Yv K a).Wl i H x H'→g x (fV σ vs) H' fun σ2 H2=>fV σ2 vs=fV σ vs∧tt σ2 H2 fun b H3=>
    if b=true then te σ2 H3 fun y H4=>∃acc,H4 D=some (.aN acc)∧acc.length<sizeLine∧Nx (aJ H4 D (.aN (acc++[y])))else Nx H3):=by
 refine⟨fun i m H=>m=xs.length-i∧i≤xs.length∧Pv i H,⟨xs.length,by simp,apV _,h0⟩,?_⟩;rintro i m H ⟨rfl,hi,p⟩;have q:=hl i H hi p;by_cases gX:i<xs.length
 ·refine .inr ⟨⟨xs,xs[i],q,by simp[gX]⟩,Pv (i+1),fun H' p'=>⟨xs.length-(i+1),by omega,rfl,gX,p'⟩,fun x H' y=>?_⟩;obtain⟨e,y⟩:=y;subst e;exact hs i x _ (y xs q) p
 ·have e:i=xs.length:=by omega
  subst e;exact .inl ⟨⟨xs,q,apE _⟩,hd H p⟩
def adn(N:List Str)(sc scope:Scope)(own:List (Str×Nat)):Bool:=
 (match scope.kind with| .function=>true|_=>false)&&(scope.names.all fun y=>decide (scope.names.lookup y.1=some y.2))&&(own.all fun p=>decide (N[p.2]? =some p.1))&&
  (scope.names.all fun y=>match y.2 with
   | .free=>(match sc.names.lookup y.1 with|some .cell=>true|some .free=>true|_=>false)
   | .local=>decide (y.1∈own.map (·.1))||decide (y.1∉N)
   | .cell=>decide (y.1∈own.map (·.1))||decide (y.1∉N)
   |_=>true)
theorem mM{N:List Str}{sc scope:Scope}{own:List (Str×Nat)}(h:adn N sc scope own=true):M0 N sc scope own:=by
 unfold adn at h;simp only[apv,aqn,decide_eq_true_eq]at h;obtain⟨⟨⟨h1,h2⟩,h3⟩,h4⟩:=h;refine⟨?_,h2,h3,fun y hy e=>?_,fun y hy e=>?_⟩
 ·split at h1
  ·assumption
  ·cases h1
 ·have q:=h4 y hy;simp only[e]at q;split at q<;>first|exact .inl (by assumption)|exact .inr (by assumption)|cases q
 ·have q:=h4 y hy;rcases e with e|e<;>(simp only[e,aqU,decide_eq_true_eq]at q;exact q)
section
variable{κ:Type} [DecidableEq κ]
def vb(kvs:List (κ×V))(k:κ):Option V:=(kvs.find? fun kv=>decide (kv.1=k)).map (·.2)
def mh(kvs:List (κ×V))(k:κ)(v:V):List (κ×V):=
 if(kvs.any fun kv=>decide (kv.1=k))=true then kvs.map (fun kv=>if kv.1=k then(kv.1,v)else kv)else kvs++[(k,v)]
theorem rU{p:κ×V}{r:List (κ×V)}{k:κ}(e:p.1=k):vb (p::r) k=some p.2:=by simp[vb,aq9,e]
theorem rV{p:κ×V}{r:List (κ×V)}{k:κ}(e:¬p.1=k):vb (p::r) k=vb r k:=by simp[vb,aq9,e]
theorem C4(k:κ):∀kvs:List (κ×V),(kvs.any fun kv=>decide (kv.1=k))=(vb kvs k).isSome
 |[]=>rfl
 |p::r=>by
  rw[ary];by_cases e:p.1=k
  ·simp only[rU e,decide_eq_true e,Bool.true_or,auE]
  ·rw[rV e,decide_eq_false e,Bool.false_or];exact C4 k r
theorem nD(kvs:List (κ×V))(k:κ)(v:V):(mh kvs k v).length≤kvs.length+1:=by
 unfold mh;split
 ·rw[apt];omega
 ·rw[apr,apz,arO];omega
theorem Lp{kvs:List (κ×V)}{k:κ}(v:V)(h:vb kvs k=none):mh kvs k v=kvs++[(k,v)]:=by
 unfold mh;rw[C4,h];exact if_neg (by decide)
theorem rQ.gP{o:Option V}{u:Option Value}(r:rQ o u):o.isSome=u.isSome:=by
 cases o with
 |none=>cases u with
  |none=>rfl
  |some _=>exact(show False from r).elim
 |some _=>cases u with
  |none=>exact(show False from r).elim
  |some _=>rfl
theorem rQ.getD{o:Option V}{u:Option Value}{d:V}{d':Value}(r:rQ o u)(rd:ck d d'):ck (o.getD d) (u.getD d'):=by
 cases o with
 |none=>cases u with
  |none=>exact rd
  |some _=>exact(show False from r).elim
 |some _=>cases u with
  |none=>exact(show False from r).elim
  |some _=>exact r
theorem KV.val{kvs:List (κ×V)}{vs:List (κ×Value)}(r:KV kvs vs)(k:κ):rQ (vb kvs k) (valueAt vs k):=by
 unfold KV at r
 induction r with
 |nil=>exact arL
 | @cons p q ps qs h t ih=>
  obtain⟨h1,h2⟩:=h;by_cases e:p.1=k
  ·have e':q.1=k:=h1.symm.trans e;have b:valueAt (q::qs) k=some q.2:=by simp[valueAt,aq9,e']
   rw[rU e,b];exact h2
  ·have e':¬q.1=k:=fun z=>e (h1.trans z);have b:valueAt (q::qs) k=valueAt qs k:=by simp[valueAt,aq9,e']
   rw[rV e,b];exact ih
theorem KV.any{kvs:List (κ×V)}{vs:List (κ×Value)}(r:KV kvs vs)(k:κ):(kvs.any fun kv=>decide (kv.1=k))=vs.any fun kv=>decide (kv.1=k):=by
 unfold KV at r
 induction r with
 |nil=>rfl
 |cons h t ih=>rw[ary,ary,ih,h.1]
theorem KV.Ze{kvs:List (κ×V)}{vs:List (κ×Value)}(r:KV kvs vs)(k:κ){y:V}{u:Value}(ry:ck y u):
  KV (kvs.map fun kv=>if kv.1=k then(kv.1,y)else kv) (vs.map fun kv=>if kv.1=k then(kv.1,u)else kv):=by
 unfold KV at r ⊢
 induction r with
 |nil=>exact .nil
 | @cons p q ps qs h t ih=>
  rw[apG,apG];refine .cons ?_ ih;obtain⟨h1,h2⟩:=h;by_cases e:p.1=k
  ·rw[if_pos e,if_pos (h1.symm.trans e)];exact⟨h1,ry⟩
  ·rw[if_neg e,if_neg (fun z=>e (h1.trans z))];exact⟨h1,h2⟩
theorem KV.put{kvs:List (κ×V)}{vs:List (κ×Value)}(r:KV kvs vs)(k:κ){y:V}{u:Value}(ry:ck y u):KV (mh kvs k y) (stored vs k u):=by
 unfold mh stored;rw[r.any k];by_cases e:(vs.any fun kv=>decide (kv.1=k))=true
 ·rw[if_pos e,if_pos e];exact r.Ze k ry
 ·rw[if_neg e,if_neg e];exact av6 r ⟨rfl,ry⟩
theorem KV.keys{kvs:List (κ×V)}{vs:List (κ×Value)}(r:KV kvs vs):kvs.map (·.1)=vs.map (·.1):=by
 unfold KV at r
 induction r with
 |nil=>rfl
 |cons h t ih=>rw[apG,apG,ih,h.1]
theorem KV.length{kvs:List (κ×V)}{vs:List (κ×Value)}(r:KV kvs vs):kvs.length=vs.length:=aum r
end
theorem ye{P:Program}{w:World}{k:Key}{u:Value}(r:ck (kV k) u):(cY P w).is k u=true:=by
 cases k with
 |inl i=>obtain⟨t,e⟩:=(show∃t,u=asn i t from r);subst e;exact LQ P w i t
 |inr x=>obtain⟨t,e⟩:=(show∃t,u=asN x t from r);subst e;exact LP P w x t
theorem HI{P:Program}{w:World}:∀{ks:List Key} {us:List Value},cg (ks.map kV) us→ItemsAre (cY P w) ks us
 |[],_,r=>by rw[arv]at r;cases r;exact .nil
 |k::ks,_,r=>by
  rw[apG]at r;cases r with
  |cons h t=>exact .cons (ye h) (HI t)
abbrev KT(H:Hp):List (List Key×V)→List (List Key×Addr×Value)→Prop:=Paired fun p q=>p.1=q.1∧H q.2.1=some (.fR (p.1.map kV))∧ck p.2 q.2.2
theorem KT.val{H:Hp}{kvs:List (List Key×V)}{xs:List (List Key×Addr×Value)}(r:KT H kvs xs)(k:List Key):rQ (vb kvs k) ((atKey xs k).map (·.2)):=by
 induction r with
 |nil=>exact arL
 | @cons p q ps qs h t ih=>
  obtain⟨h1,_,h2⟩:=h;by_cases e:p.1=k
  ·have e':q.1=k:=h1.symm.trans e;have b:atKey (q::qs) k=some q.2:=by simp[atKey,aq9,e']
   rw[rU e,b];exact h2
  ·have e':¬q.1=k:=fun z=>e (h1.trans z);have b:atKey (q::qs) k=atKey qs k:=by simp[atKey,aq9,e']
   rw[rV e,b];exact ih
theorem KT.Ze{H:Hp}{kvs:List (List Key×V)}{xs:List (List Key×Addr×Value)}(r:KT H kvs xs)(k:List Key){y:V}{u:Value}(ry:ck y u):
  KT H (kvs.map fun kv=>if kv.1=k then(kv.1,y)else kv) (xs.map (putAt k u)):=by
 induction r with
 |nil=>exact .nil
 | @cons p q ps qs h t ih=>
  rw[apG,apG];refine .cons ?_ ih;obtain⟨h1,h2,h3⟩:=h;unfold putAt;by_cases e:p.1=k
  ·rw[if_pos e,if_pos (h1.symm.trans e)];exact⟨h1,h2,ry⟩
  ·rw[if_neg e,if_neg (fun z=>e (h1.trans z))];exact⟨h1,h2,h3⟩
theorem KT.put{H:Hp}{kvs:List (List Key×V)}{xs:List (List Key×Addr×Value)}(r:KT H kvs xs)(k:List Key){b:Addr}{y:V}{u:Value}(hb:H b=some (.fR (k.map kV)))(ry:ck y u):
  KT H (mh kvs k y) (storedH xs k b u):=by
 have e:(kvs.any fun kv=>decide (kv.1=k))=(atKey xs k).isSome:=by
  rw[C4,(r.val k).gP,apX]
 unfold mh storedH;rw[e];by_cases q:(atKey xs k).isSome=true
 ·rw[if_pos q,if_pos q];exact r.Ze k ry
 ·rw[if_neg q,if_neg q];exact av6 r ⟨rfl,hb,ry⟩
theorem KT.keeps{H H':Hp}{kvs:List (List Key×V)}{xs:List (List Key×Addr×Value)}(r:KT H kvs xs)(ht:∀b ys,H b=some (.fR ys)→H' b=some (.fR ys)):KT H' kvs xs:=
 Paired.acj r fun _ _ z=>⟨z.1,ht _ _ z.2.1,z.2.2⟩
section
variable{P:Program}{w:World}{H:Hp}{h:Heap}{a:Addr}
theorem X5{u:HO}(ok:ur P w H h)(e:Rd H a u):gK P w H h a u:=e.ok ok
theorem yu{kvs:List (Key×V)}(ok:ur P w H h)(e:Rd H a (.dK kvs)):kvs.length≤sizeLine∧(a==sysModules)=false∧∃vs,KV kvs vs∧h.DictOf (cY P w) a vs:=
 show gK P w H h a (.dK kvs)from X5 ok e
theorem Q9{kvs:List (Key×V)}(ok:ur P w H h)(e:H a=some (.dK kvs)):kvs.length≤sizeLine∧(a==sysModules)=false∧∃vs,KV kvs vs∧h.DictOf (cY P w) a vs:=yu ok (.inl e)
theorem wM{ks:List Key}(ok:ur P w H h)(e:H a=some (.fR (ks.map kV))):(tupleKind (cY P w)).is h ks a:=by
 obtain⟨_,bX,r,o,h1,h2,n,h3⟩:=(show gK P w H h a (.fR (ks.map kV))from ok a _ e);exact⟨o,bX.toArray,n,h1,h2,h3,by simpa using HI r⟩
theorem Bo{kvs:List (List Key×V)}(ok:ur P w H h)(e:Rd H a (.dT kvs)):kvs.length≤sizeLine∧(a==sysModules)=false∧
  ∃xs,KT H kvs xs∧h.DictOfH (tupleKind (cY P w)) a xs:=by
 obtain⟨z,y,xs,r,o,es,ep,h1,h2,h3,h4,h5⟩:=(show gK P w H h a (.dT kvs)from X5 ok e);refine⟨z,y,xs,r,o,es,ep,h1,h2,h3,h4,fun x hx=>?_,h5⟩;have all:∀{l:List (List Key×V)} {m:List (List Key×Addr×Value)},KT H l m→∀x∈m,(tupleKind (cY P w)).is h x.1 x.2.1:=by
  intro l m q
  induction q with
  |nil=>intro x hx;exact nomatch hx
  | @cons p q ps qs hq t ih=>
   intro x hx;rcases apA.mp hx with e|hx
   ·subst e;exact wM ok (by rw[←hq.1];exact hq.2.1)
   ·exact ih x hx
 exact all r x hx
theorem adg{kvs:List (List Key×V)}(ok:ur P w H h)(e:H a=some (.dT kvs)):kvs.length≤sizeLine∧(a==sysModules)=false∧
  ∃xs,KT H kvs xs∧h.DictOfH (tupleKind (cY P w)) a xs:=Bo ok (.inl e)
end
def CK(H:Hp)(a:Addr)(y:V)(r:Option V):Prop:=
 (∃kvs k,Rd H a (.dK kvs)∧y=kV k∧r=vb kvs k)∨∃kvs k b,Rd H a (.dT kvs)∧y=.ref b∧H b=some (.fR (k.map kV))∧r=vb kvs k
def aav(H:Hp)(a:Addr)(y v:V)(H':Hp):Prop:=
 (∃kvs k,H a=some (.dK kvs)∧y=kV k∧kvs.length<sizeLine∧H'=aJ H a (.dK (mh kvs k v)))∨
 ∃kvs k b,H a=some (.dT kvs)∧y=.ref b∧H b=some (.fR (k.map kV))∧kvs.length<sizeLine∧H'=aJ H a (.dT (mh kvs k v))
section
variable{X:Cx}{ah:List (Addr×Obj)}{σ:St}{H:Hp}{s:Shared}{a:Addr}{y v:V}{u r:Value}{o:Option V}{A:Around}{E:Value→Shared→Prop}
theorem bu.big(I:bu X ah σ H s):sysModules<s.heap.objs.size:=by
 have h:mainGlobals<s.heap.objs.size:=(I.mod.JN.keeps I.bk).lt;exact Nat.lt_trans (by decide) h
theorem HV{Q:Value→Shared→Prop}(hu:A.units+1<cLine)(I:bu X ah σ H s)(g:CK H a y (some v))(ry:ck y u)(h:∀w' s',bu X ah σ H s'→ck v w'→Q w' s'):
  wpAny (model X.prog X.w) A (getItem (.ref a) u) Q E s:=by
 rcases g with⟨kvs,k,e,ey,l⟩|⟨kvs,k,b,e,ey,eb,l⟩
 ·subst ey;obtain⟨z,hd,vs,oU,dd⟩:=yu I.du e;obtain⟨w',hw,Lk⟩:=rQ.some_of (v:=v) (o:=valueAt vs k) (by rw[l];exact oU.val k);exact wpAny_getItem_of (ye ry) dd.mapOf hw (h w' _ (I.tok _) Lk)
 ·subst ey;cases(show u=aqq b from ry);obtain⟨z,hd,xs,oU,dd⟩:=Bo I.du e;obtain⟨w',hw,Lk⟩:=rQ.some_of (v:=v) (o:=(atKey xs k).map (·.2)) (by rw[l];exact oU.val k);obtain⟨p,hp,hp2⟩:=apF.mp hw;refine wpAny_getItem_heap (tupleKind_room_in1 hu) (wM I.du eb) dd hp ?_;rw[hp2];exact h w' _ (I.tok _) Lk
theorem aij{Q:Value→Shared→Prop}(hu:A.units+1<cLine)(I:bu X ah σ H s)(g:CK H a y o)(ry:ck y u)(h:∀s',bu X ah σ H s'→Q (.bool o.isSome) s'):
  wpAny (model X.prog X.w) A (compareOp .In u (.ref a)) Q E s:=by
 rcases g with⟨kvs,k,e,ey,l⟩|⟨kvs,k,b,e,ey,eb,l⟩
 ·subst ey;obtain⟨z,hd,vs,oU,dd⟩:=yu I.du e;refine wpAny_in_of (ye ry) hd dd.mapOf ?_;rw[←(oU.val k).gP,←l];exact h _ (I.tok _)
 ·subst ey;cases(show u=aqq b from ry);obtain⟨z,hd,xs,oU,dd⟩:=Bo I.du e;refine wpAny_in_heap (tupleKind_room_in1 hu) (wM I.du eb) hd dd ?_;have q:=(oU.val k).gP;rw[apX]at q;rw[←q,←l];exact h _ (I.tok _)
theorem XR{Q:Value→Shared→Prop}(hu:A.units+1<cLine)(I:bu X ah σ H s)(g:CK H a y o)(ry:ck y u)(h:∀s',bu X ah σ H s'→Q (.bool (!o.isSome)) s'):
  wpAny (model X.prog X.w) A (compareOp .NotIn u (.ref a)) Q E s:=by
 rcases g with⟨kvs,k,e,ey,l⟩|⟨kvs,k,b,e,ey,eb,l⟩
 ·subst ey;obtain⟨z,hd,vs,oU,dd⟩:=yu I.du e;refine wpAny_notIn_of (ye ry) hd dd.mapOf ?_;rw[←(oU.val k).gP,←l];exact h _ (I.tok _)
 ·subst ey;cases(show u=aqq b from ry);obtain⟨z,hd,xs,oU,dd⟩:=Bo I.du e;refine wpAny_notIn_heap (tupleKind_room_in1 hu) (wM I.du eb) hd dd ?_;have q:=(oU.val k).gP;rw[apX]at q;rw[←q,←l];exact h _ (I.tok _)
theorem C0{h':Heap}{t':Nat}{ob:HO}(I:bu X ah σ H s)(mu:Mut (H a))(hs:atw a s.heap h')(he:∃q,h'.get? a=some q)(new:gK X.prog X.w (aJ H a ob) h' a ob):
  bu X ah σ (aJ H a ob) {s with heap:=h',toks:=t'}:=
 I.write (x:=a) (e:=a) mu (.inl rfl) (fun b q hb z=>(hs.2 b hb).trans z) he new
theorem Pf{P:Program}{w:World}{H':Hp}{h':Heap}{kvs:List (Key×V)}{vs:List (Key×Value)}(z:kvs.length≤sizeLine)(hd:(a==sysModules)=false)(oU:KV kvs vs)(dd:h'.DictOf (cY P w) a vs):
  gK P w H' h' a (.dK kvs):=⟨z,hd,vs,oU,dd⟩
theorem HU{H':Hp}{Q:Unit→Shared→Prop}(hu:A.units+1<cLine)(I:bu X ah σ H s)(g:aav H a y v H')(ry:ck y u)(rv:ck v r)(h:∀s',bu X ah σ H' s'→Q () s'):
  wpAny (model X.prog X.w) A (setItem (.ref a) u r) Q E s:=by
 rcases g with⟨kvs,k,e,ey,l,eH⟩|⟨kvs,k,b,e,ey,eb,l,eH⟩
 ·subst ey eH;obtain⟨z,hd,vs,oU,dd⟩:=Q9 I.du e;have hz:vs.length≤sizeLine:=by rw[←oU.length];exact z
  have hl:(mh kvs k v).length≤sizeLine:=by have:=nD kvs k v;omega
  refine wpAny_setItem_pairs (hsz:=hz) (ye ry) dd fun h' Wy hs=>h _ ?_;have he:∃q,h'.get? a=some q:=let⟨q,_,_,hq,_⟩:=Wy;⟨q,hq⟩;exact C0 I (by rw[e];exact arL) hs he (Pf hl hd (oU.put k rv) Wy)
 ·subst ey eH;cases(show u=aqq b from ry);obtain⟨z,hd,xs,oU,dd⟩:=adg I.du e;have hz:xs.length≤sizeLine:=by rw[←aum oU];exact z
  have hl:(mh kvs k v).length≤sizeLine:=by have:=nD kvs k v;omega
  refine wpAny_setItem_heap (hsz:=hz) (tupleKind_room_in1 hu) (wM I.du eb) dd fun h' Wy hs=>h _ ?_;obtain⟨q,es,ep,hq,h2,h3,h4,_,h5⟩:=Wy;refine C0 I (by rw[e];exact arL) hs ⟨q,hq⟩ ⟨hl,hd,_,(oU.put k eb rv).keeps fun c ys ec=>?_,q,es,ep,hq,h2,h3,h4,h5⟩;rw[ai (dy ec e (fun z=>nomatch z))];exact ec
end
section
variable{X:Cx}{ah:List (Addr×Obj)}{σ:St}{H:Hp}{s:Shared}{a:Addr}{kvs:List (Key×V)}{k:Key}{u:Value}{A:Around}{E:Value→Shared→Prop}
theorem adh{Q:Value→Shared→Prop}(I:bu X ah σ H s)(e:Rd H a (.dK kvs))(h:∀t s',bu X ah σ H s'→Q (.int kvs.length t) s'):wpAny (model X.prog X.w) A (call (.builtin "len") [.ref a]) Q E s:=by
 obtain⟨z,hd,vs,oU,dd⟩:=yu I.du e;refine call_len_dict hd dd (by rw[←oU.length];rw[sizeLine_eq]at z;omega) ?_;rw[←oU.length];exact h _ _ (I.tok _)
end
def Wj(i:Expr):Prop:=∀ov iv,subscripted i false ov iv=operate [ov,iv] (getItem ov iv)
theorem P6{prog:Program}{w:World}{A:Around}{E:Value→Shared→Prop}{s:Shared}{env:Env}{value slice:Expr}{pos:Pos}{T id:String}{Q:Value→Shared→Prop}
  (hl:typeLookup (.type T) "__getitem__"=pure (some (.builtin id)))(hs:Wj slice)
  (h:wpAny (model prog w) A (eval value env) (fun o s₁=>wpAny (model prog w) A (eval slice env) (fun i s₂=>s₂.TypeIs o T∧wpAny (model prog w) A (getItem o i) Q E s₂) E s₁) E s):
  wpAny (model prog w) A (eval (.Subscript value slice pos) env) Q E s:=by
 refine Subscript_ (wpAny_mono h (fun o s₁ h₁=>wpAny_mono h₁ (fun i s₂ h₂=>?_) fun _ _ x=>x) fun _ _ x=>x);obtain⟨hT,h₂⟩:=h₂;unfold subscriptTail;refine wpAny_bind ?_;rw[getitemInPython_of_ne hT.not_modules];refine wpAny_bind (wpAny_specialOf hT hl ?_);have fin:wpAny (model prog w) A (subscripted slice false o i) (fun r s₃=>wpAny (model prog w) A (letTemporaryGo value o r >>= fun _=>pure r) Q E s₃) E s₂:=by
  rw[hs o i];exact wpAny_operating (wpAny_mono h₂ (fun r s₃ h₃=>wpAny_bind (wpAny_letTemporaryGo (wpAny_pure h₃))) fun _ _ x=>x)
 first
  |exact wpAny_pure (wpAny_bind fin)
  |exact wpAny_bind (wpAny_pure (wpAny_bind fin))
  |exact wpAny_bind fin
theorem Mx{X:Cx}{ah:List (Addr×Obj)}{σ:St}{H:Hp}{s:Shared}{a:Addr}{y:V}{o:Option V}(I:bu X ah σ H s)(g:CK H a y o):s.TypeIs (.ref a) "dict":=by
 rcases g with⟨kvs,k,e,_,_⟩|⟨kvs,k,b,e,_,_,_⟩
 ·obtain⟨_,_,vs,_,dd⟩:=yu I.du e;exact dd.typeIs
 ·obtain⟨_,_,xs,_,dd⟩:=Bo I.du e;exact dd.typeIs
def abA(td ty:TE):TE:=fun σ H Q=>td σ H fun x H1=>ty σ H1 fun y H2=>∃a v,x=.ref a∧CK H2 a y (some v)∧Q v H2
def ae8(ty td:TE):TE:=fun σ H Q=>ty σ H fun y H1=>td σ H1 fun x H2=>∃a o,x=.ref a∧CK H2 a y o∧Q (.bl o.isSome) H2
def WJ(ty td:TE):TE:=fun σ H Q=>ty σ H fun y H1=>td σ H1 fun x H2=>∃a o,x=.ref a∧CK H2 a y o∧Q (.bl (!o.isSome)) H2
def abG(td ty tv:TE):TS:=fun D σ H=>tv σ H fun v H1=>td σ H1 fun x H2=>ty σ H2 fun y H3=>∃a H4,x=.ref a∧aav H3 a y v H4∧D.nx σ H4
def abH(td ty tv:TE)(rd:V→V→Hp→VK→Prop):TS:=fun D σ H=>td σ H fun x H1=>ty σ H1 fun y H2=>∃a v,x=.ref a∧CK H2 a y (some v)∧
 tv σ H2 fun y2 H3=>rd v y2 H3 fun z H4=>∃H5,aav H4 a y z H5∧D.nx σ H5
section
variable{X:Cx}{o i e value:Expr}{pos pos' WG:Pos}{td ty tv:TE}
theorem Qs(hu:X.A.units+1<cLine)(ho:PE X o td)(hi:PE X i ty)(hs:Wj i):PE X (.Subscript o i pos) (abA td ty):=by
 intro ah s σ H Q I h;refine P6 atv.lookup hs (lu (ho ah s σ H _ I h) fun u s1 x H1 I1 rx q1=>lu (hi ah s1 σ H1 _ I1 q1) fun iv s2 y H2 I2 ry zz=>?_);obtain⟨a,v,ex,g,q2⟩:=zz;subst ex;obtain rfl:u=aqq a:=rx;exact⟨Mx I2 g,HV hu I2 g ry fun w' s3 I3 Lk=>⟨v,H2,I3,Lk,q2⟩⟩
theorem U0(hu:X.A.units+1<cLine)(hi:PE X i ty)(ho:PE X o td):PC X .In i o (ae8 ty td):=by
 intro ah s σ H Q I h;refine lu (hi ah s σ H _ I h) fun iv s1 y H1 I1 ry q1=>lu (ho ah s1 σ H1 _ I1 q1) fun u s2 x H2 I2 rx zz=>?_;obtain⟨a,ov,ex,g,q2⟩:=zz;subst ex;obtain rfl:u=aqq a:=rx;exact aij hu I2 g ry fun s3 I3=>⟨.bl ov.isSome,H2,I3,rfl,q2⟩
theorem RV(hu:X.A.units+1<cLine)(hi:PE X i ty)(ho:PE X o td):PC X .NotIn i o (WJ ty td):=by
 intro ah s σ H Q I h;refine lu (hi ah s σ H _ I h) fun iv s1 y H1 I1 ry q1=>lu (ho ah s1 σ H1 _ I1 q1) fun u s2 x H2 I2 rx zz=>?_;obtain⟨a,ov,ex,g,q2⟩:=zz;subst ex;obtain rfl:u=aqq a:=rx;exact XR hu I2 g ry fun s3 I3=>⟨.bl (!ov.isSome),H2,I3,rfl,q2⟩
theorem Ql(hu:X.A.units+1<cLine)(ho:PE X o td)(hi:PE X i ty)(hv:PE X value tv)(hs:swapsWith value (some (.Subscript o i pos')) pos.line X.env=pure false):
  PS X (.Assign [.Subscript o i pos'] value pos) (abG td ty tv):=by
 intro ah s σ H D I h;refine wpAny_Assign_Subscript (lu (hv ah s σ H _ I h) fun r s1 v H1 I1 rv q1=>lu (ho ah s1 σ H1 _ I1 q1) fun u s2 x H2 I2 rx q2=>lu (hi ah s2 σ H2 _ I2 q2) fun iv s3 y H3 I3 ry zz=>?_) hs;obtain⟨a,H4,ex,g,q3⟩:=zz;subst ex;obtain rfl:u=aqq a:=rx;exact HU hu I3 g ry rv fun s4 I4=>⟨σ,H4,I4,q3⟩
theorem W4{op:Operator}{rd:V→V→Hp→VK→Prop}(hu:X.A.units+1<cLine)(ho:PE X o td)(hi:PE X i ty)(hv:PE X value tv)(hop:aas X op rd)
  (ha:∀ov iv new,augStore i ov iv new=(do holding [new,ov,iv] (setItem ov iv new);release [new,ov,iv] [];pure .next)):PS X (.AugAssign (.Subscript o i WG) op value pos) (abH td ty tv rd):=by
 intro ah s σ H D I h;refine wpAny_AugAssign_SubscriptAny (lu (ho ah s σ H _ I h) fun u s1 x H1 I1 rx q1=>lu (hi ah s1 σ H1 _ I1 q1) fun iv s2 y H2 I2 ry zz=>?_) ha;obtain⟨a,v,ex,g,q2⟩:=zz;subst ex;obtain rfl:u=aqq a:=rx;refine HV hu I2 g ry fun w' s3 I3 Lk=>lu (hv ah s3 σ H2 _ I3 q2) fun w2 s4 y2 H3 I4 ry2 q3=>lu (hop ah s4 σ H3 v y2 w' w2 _ I4 Lk ry2 q3) fun w3 s5 z H4 I5 rz zz=>?_;obtain⟨H5,g5,q4⟩:=zz;exact HU hu I5 g5 ry rz fun s6 I6=>⟨σ,H5,I6,q4⟩
end
theorem Mw{P:Program}{w:World}{H:Hp}(h:Heap)(hb:sysModules<h.objs.size):gK P w H (h.push {cls:=.type "dict",data:=.dict #[]}) h.objs.size (.dK []):=
 ⟨apV _,beq_eq_false_iff_ne.mpr (ap1 (aqo hb)),[],.nil,awo h⟩
def vY:TE:=fun _ H Q=>∀p,H p=none→Q (.ref p) (aJ H p (.dK []))
section
variable{X:Cx}{pos:Pos}
theorem oW:PE X (.Dict [] [] pos) vY:=fun ah s σ H Q I h=>
 wpAny_Dict_empty ⟨.ref s.heap.objs.size,_,I.vd (a:=s.heap.objs.size) (o:=.dK []) (t':=s.toks) (fun _ _ q=>apL _ q) (apE _) (Mw s.heap I.big),rfl,h _ (I.du.fresh (apE _))⟩
end
def Nf:List (TE×TE)→St→Hp→(List (V×V)→Hp→Prop)→Prop
 |[],_,H,Q=>Q [] H
 |(tk,tv)::r,σ,H,Q=>tk σ H fun x H1=>tv σ H1 fun y H2=>Nf r σ H2 fun ps H3=>Q ((x,y)::ps) H3
abbrev VV:List (V×V)→List (Value×Value)→Prop:=Paired fun p q=>ck p.1 q.1∧ck p.2 q.2
def PPs(X:Cx)(pos:Pos)(keys:List (Option Expr))(values:List Expr)(WE:List (TE×TE)):Prop:=
 ∀(ah:List (Addr×Obj)) (s:Shared) (σ:St) (H:Hp) (Q:List (V×V)→Hp→Prop),bu X ah σ H s→Nf WE σ H Q→
  wpAny (model X.prog X.w) X.A (evalPairs (pairTrees keys values X.env pos)) (fun vs s'=>∃ps H',bu X ah σ H' s'∧VV ps vs∧Q ps H') X.xe s
theorem Qm{X:Cx}{pos:Pos}:PPs X pos [] [] []:=fun ah s σ H Q I h=>pairTrees_nil_walk ⟨[],H,I,.nil,h⟩
theorem dZ{X:Cx}{pos:Pos}{k v:Expr}{ks:List (Option Expr)}{vs:List Expr}{tk tv:TE}{WE:List (TE×TE)}(hk:PE X k tk)(hv:PE X v tv)(hr:PPs X pos ks vs WE):
  PPs X pos (some k::ks) (v::vs) ((tk,tv)::WE):=fun ah s σ H Q I h=>
 pairTrees_cons_walk (rR (hk ah s σ H _ I h) fun u s1 ⟨x,H1,I1,rx,q1⟩=>rR (hv ah s1 σ H1 _ I1 q1) fun w2 s2 ⟨y,H2,I2,ry,q2⟩=>
  rR (hr ah s2 σ H2 _ I2 q2) fun ws s3 ⟨ps,H3,I3,oU,q3⟩=>⟨(x,y)::ps,H3,I3,.cons ⟨rx,ry⟩ oU,q3⟩)
def sW(kvs more:List (Key×V)):List (Key×V):=more.foldl (fun acc kv=>mh acc kv.1 kv.2) kvs
theorem KV.merge:∀{more:List (Key×V)} {rs:List (Key×Value)} {kvs:List (Key×V)} {vs:List (Key×Value)},KV more rs→KV kvs vs→KV (sW kvs more) (merged vs rs):=by
 intro more rs kvs vs r;unfold KV at r
 induction r generalizing kvs vs with
 |nil=>intro q;exact q
 | @cons p q ps qs h t ih=>
  intro r0;have e:KV (mh kvs p.1 p.2) (stored vs q.1 q.2):=by
   have:=r0.put p.1 h.2;rw[←h.1];exact this
  exact ih e
theorem vA:∀(more kvs:List (Key×V)),(sW kvs more).length≤kvs.length+more.length
 |[],kvs=>by show kvs.length≤kvs.length+0;omega
 |p::r,kvs=>by
  have h1:=vA r (mh kvs p.1 p.2);have h2:=nD kvs p.1 p.2;show(sW (mh kvs p.1 p.2) r).length≤_;rw[apz];omega
theorem Fq{P:Program}{w:World}:∀{kvs:List (Key×V)} {ws:List (Value×Value)},VV (kvs.map fun kv=>(kV kv.1,kv.2)) ws→∃rs,Carries (cY P w) ws rs∧KV kvs rs
 |[],_,r=>by rw[arv]at r;cases r;exact⟨[],arL,.nil⟩
 |p::kvs,_,r=>by
  rw[apG]at r;cases r with
  | @cons a b as bs h t=>
   obtain⟨rs,c,q⟩:=Fq (P:=P) (w:=w) t;obtain⟨b1,b2⟩:=b;exact⟨(p.1,b2)::rs,⟨ye h.1,rfl,c⟩,.cons ⟨rfl,h.2⟩ q⟩
def abz(WE:List (TE×TE)):TE:=fun σ H Q=>∀p,H p=none→Nf WE σ (aJ H p (.dK [])) fun ps H2=>H2 p=some (.dK [])∧∃kvs:List (Key×V),ps=kvs.map (fun kv=>(kV kv.1,kv.2))∧kvs.length≤15∧Q (.ref p) (aJ H2 p (.dK (sW [] kvs)))
theorem Qr{X:Cx}{pos:Pos}{keys:List (Option Expr)}{values:List Expr}{WE:List (TE×TE)}(h:PPs X pos keys values WE)(ve:keys.all (·.isSome)=true)(hl:keys.length=values.length)(h0:keys≠[])
  (h15:keys.length≤15):PE X (.Dict keys values pos) (abz WE):=by
 intro ah s σ H Q I q;have hn:=I.du.fresh (apE s.heap.objs.size);have I1:=I.vd (a:=s.heap.objs.size) (o:=.dK []) (h':=s.heap.push {cls:=.type "dict",data:=.dict #[]}) (t':=s.toks) (fun _ _ q=>apL _ q) (apE _) (Mw s.heap I.big);refine wpAny_Dict_walk (knd:=cY X.prog X.w) ve hl h0 h15 (rR (h ah _ σ _ _ I1 (q _ hn)) fun ws s2 zz=>?_);obtain⟨ps,H2,I2,oU,e,kvs,ep,lk,q2⟩:=zz;subst ep;obtain⟨rs,c,rk⟩:=Fq (P:=X.prog) (w:=X.w) oU;obtain⟨z,hd,vs0,r0,dd⟩:=Q9 I2.du e;cases r0;refine⟨rs,c,dd,fun h' Wy hs=>⟨.ref s.heap.objs.size,_,?_,rfl,q2⟩⟩;have hz:(sW [] kvs).length≤sizeLine:=by
  have h1:=vA kvs [];rw[arO]at h1;rw[sizeLine_eq];omega
 have he:∃q,h'.get? s.heap.objs.size=some q:=let⟨q,_,_,hq,_⟩:=Wy;⟨q,hq⟩;exact C0 I2 (by rw[e];exact arL) hs he (Pf hz hd (rk.merge .nil) Wy)
structure M1(X:Cx)(o:Expr)(m:Str)(apos:Pos)(e:Expr)(eJ:Pos):Prop where
 base:attributeBase o m X.env (eval o X.env)=eval o X.env
 few:((backTo eJ (starEach [e] X.env)).all (fun x=> !x.1)&&(backToKw eJ (keywordEach [] X.env)).all (fun x=>x.1.isSome)
  &&decide (([e]:List Expr).length+([]:List Keyword).length+(if([]:List Keyword).isEmpty then 0 else 1)<30))=true
 line:(apos.endLine==eJ.line)=true
 trees:backTo eJ (starEach [e] X.env)=[(false,eval e X.env)]
structure M2(X:Cx)(o:Expr)(m:Str)(apos:Pos)(e f:Expr)(eJ:Pos):Prop where
 base:attributeBase o m X.env (eval o X.env)=eval o X.env
 few:((backTo eJ (starEach [e,f] X.env)).all (fun x=> !x.1)&&(backToKw eJ (keywordEach [] X.env)).all (fun x=>x.1.isSome)
  &&decide (([e,f]:List Expr).length+([]:List Keyword).length+(if([]:List Keyword).isEmpty then 0 else 1)<30))=true
 line:(apos.endLine==eJ.line)=true
 trees:backTo eJ (starEach [e,f] X.env)=[(false,eval e X.env),(false,eval f X.env)]
def IsD(H:Hp)(a:Addr):Prop:=(∃kvs,Rd H a (.dK kvs))∨∃kvs,Rd H a (.dT kvs)
theorem Vs{X:Cx}{ah:List (Addr×Obj)}{σ:St}{H:Hp}{s:Shared}{a:Addr}(I:bu X ah σ H s)(d:IsD H a):
  s.TypeIs (.ref a) "dict"∧(∀b,aqq a=.ref b→∃ob,s.heap.get? b=some ob∧ob.dict=none)∧(a==sysModules)=false:=by
 rcases d with⟨kvs,e⟩|⟨kvs,e⟩
 ·obtain⟨_,hd,vs,_,dd⟩:=yu I.du e;refine⟨dd.typeIs,fun b q=>?_,hd⟩;cases q;obtain⟨ob,_,_,h1,h2,_⟩:=dd;exact⟨ob,h1,h2.2.1⟩
 ·obtain⟨_,hd,xs,_,dd⟩:=Bo I.du e;refine⟨dd.typeIs,fun b q=>?_,hd⟩;cases q;obtain⟨ob,_,_,h1,h2,_⟩:=dd;exact⟨ob,h1,h2.2.1⟩
section
variable{X:Cx}{ah:List (Addr×Obj)}{σ:St}{H:Hp}{s:Shared}{a:Addr}{y d:V}{u r:Value}{o:Option V}{A:Around}{E:Value→Shared→Prop}
theorem aan{Q:Value→Shared→Prop}(hu:A.units+1<cLine)(I:bu X ah σ H s)(g:CK H a y o)(ry:ck y u)(h:∀w' s',bu X ah σ H s'→ck (o.getD .cx) w'→Q w' s'):
  wpAny (model X.prog X.w) A (call (.builtin "dict.get") [.ref a,u]) Q E s:=by
 rcases g with⟨kvs,k,e,ey,l⟩|⟨kvs,k,b,e,ey,eb,l⟩
 ·subst ey;obtain⟨z,hd,vs,oU,dd⟩:=yu I.du e;refine call_meetsIn ark dd.typeIs arU (atM _ _) (meets_dict_get (cY X.prog X.w) a (ye ry) hd) ⟨_,dd.mapOf,h _ _ (I.tok _) ?_⟩;rw[l];exact(oU.val k).getD rfl
 ·subst ey;cases(show u=aqq b from ry);obtain⟨z,hd,xs,oU,dd⟩:=Bo I.du e;refine call_meetsIn ark dd.typeIs arU (atM _ _) (meetsH_dict_get (tupleKind (cY X.prog X.w)) a b hd) ⟨tupleKind_room_in1 hu,k,xs,wM I.du eb,dd,h _ _ (I.tok _) ?_⟩;rw[l];exact(oU.val k).getD rfl
theorem aam{Q:Value→Shared→Prop}(hu:A.units+1<cLine)(I:bu X ah σ H s)(g:CK H a y o)(ry:ck y u)(rd:ck d r)(h:∀w' s',bu X ah σ H s'→ck (o.getD d) w'→Q w' s'):
  wpAny (model X.prog X.w) A (call (.builtin "dict.get") [.ref a,u,r]) Q E s:=by
 rcases g with⟨kvs,k,e,ey,l⟩|⟨kvs,k,b,e,ey,eb,l⟩
 ·subst ey;obtain⟨z,hd,vs,oU,dd⟩:=yu I.du e;refine call_meetsIn ark dd.typeIs arU (atN _ _ _) (meets_dict_get_default (cY X.prog X.w) a (ye ry) hd r) ⟨_,dd.mapOf,h _ _ (I.tok _) ?_⟩;rw[l];exact(oU.val k).getD rd
 ·subst ey;cases(show u=aqq b from ry);obtain⟨z,hd,xs,oU,dd⟩:=Bo I.du e;refine call_meetsIn ark dd.typeIs arU (atN _ _ _) (meetsH_dict_get_default (tupleKind (cY X.prog X.w)) a b hd r) ⟨tupleKind_room_in1 hu,k,xs,wM I.du eb,dd,h _ _ (I.tok _) ?_⟩;rw[l];exact(oU.val k).getD rd
end
def Y3(td ty:TE):TE:=fun σ H Q=>td σ H fun x H1=>∃a,x=.ref a∧IsD H1 a∧ty σ H1 fun y H2=>∃o,CK H2 a y o∧Q (o.getD .cx) H2
def Y2(td ty tx:TE):TE:=fun σ H Q=>td σ H fun x H1=>∃a,x=.ref a∧IsD H1 a∧ty σ H1 fun y H2=>tx σ H2 fun z H3=>∃o,CK H3 a y o∧Q (o.getD z) H3
section
variable{X:Cx}{o e f:Expr}{apos eJ:Pos}{td ty tx:TE}
theorem UW(hu:X.A.units+1<cLine)(ho:PE X o td)(he:PE X e ty)(m:M1 X o "get" apos e eJ):PE X (.Call (.Attribute o "get" apos) [e] [] eJ) (Y3 td ty):=by
 intro ah s σ H Q I h;refine wpAny_Call_method m.base m.few m.line asx ark at9 (lu (ho ah s σ H _ I h) fun u s1 x H1 I1 rx zz=>?_);obtain⟨a,ex,d,q1⟩:=zz;subst ex;obtain rfl:u=aqq a:=rx;obtain⟨t1,t2,_⟩:=Vs I1 d;refine⟨t1,t2,?_⟩;rw[m.trees];refine ard rfl (ar6 (arM (lu (he ah s1 σ H1 _ I1 q1) fun iv s2 y H2 I2 ry zz=>?_)));obtain⟨ov,g,q2⟩:=zz;refine asB ?_;exact aan hu I2 g ry fun w' s3 I3 Lk=>⟨_,H2,I3,Lk,q2⟩
theorem UU(hu:X.A.units+1<cLine)(ho:PE X o td)(he:PE X e ty)(hf:PE X f tx)(m:M2 X o "get" apos e f eJ):PE X (.Call (.Attribute o "get" apos) [e,f] [] eJ) (Y2 td ty tx):=by
 intro ah s σ H Q I h;refine wpAny_Call_method m.base m.few m.line asx ark at9 (lu (ho ah s σ H _ I h) fun u s1 x H1 I1 rx zz=>?_);obtain⟨a,ex,d,q1⟩:=zz;subst ex;obtain rfl:u=aqq a:=rx;obtain⟨t1,t2,_⟩:=Vs I1 d;refine⟨t1,t2,?_⟩;rw[m.trees];refine ard rfl (ar6 (arM (lu (he ah s1 σ H1 _ I1 q1) fun iv s2 y H2 I2 ry q2=>
  arM (lu (hf ah s2 σ H2 _ I2 q2) fun fv s3 z H3 I3 rz ⟨ov,g,q3⟩=>asB ?_))))
 exact aam hu I3 g ry rz fun w' s4 I4 Lk=>⟨_,H3,I4,Lk,q3⟩
end
section
variable{X:Cx}
theorem UO{tg:Expr}{ah:List (Addr×Obj)}{σ:St}{H:Hp}{s:Shared}{R:It→Hp→Prop}{J:It}{tn:Nat→Heap→Prop}{tk:Nat}(I:bu X ah σ H s)(o:Obj)
  (T:Turn X.prog X.w X.K tg J [s.heap.objs.size] s.heap.objs.size tn)(st:tn 0 (s.heap.push o))(q:R J H):PIE X ah σ tg R (.ref s.heap.objs.size) {s with heap:=s.heap.push o,toks:=tk}:=by
 refine⟨s.heap.objs.size,[s.heap.objs.size],tn,J,H,rfl,I.kept fun b ob e=>apL _ e,T,st,fun b hb=>?_,q⟩;have e:b=s.heap.objs.size:=by simpa using hb
 subst e;exact I.VL (apE _) (I.du.fresh (apE _))
end
def Its(x:Str):It:=⟨fun i _=>i<x.cps.size,fun i H v H'=>H'=H∧∃c,x.cps[i]? =some c∧v=.str ⟨#[c]⟩,fun i _=>x.cps.size≤i⟩
theorem Kw{P:Program}{w:World}{K:apw}{tg:Expr}(it:Addr)(x:Str)(t:Tok)(ty:String)(QK:ty="str_ascii_iterator"∨ty="str_iterator"):
  Turn P w K tg (Its x) [it] it (fun i h=>h.IsStrIter it ty x t i) where
 mem:=by simp
 obj:=fun i h st b hb=>by
  have e:b=it:=by simpa using hb
  subst e;obtain⟨o,e,c,d⟩:=st;exact⟨o,e,fun v z=>by rw[d]at z;cases z⟩
 keep:=fun i h h' st k=>let⟨o,ho,r⟩:=st;⟨o,k it (by simp) o ho,r⟩
 item:=by
  intro X hP hw hK hc i ah s σ H E I hf st hg;subst hP hw hK;obtain⟨f0,f1,f2,f3,f4,f5⟩:=hf it (by simp);have W:Walks X.prog X.w X.A it [it] [it] x.cps.size (SignAt x) (fun i h=>h.IsStrIter it ty x t i):=by
   rcases QK with e|e
   ·rw[e];exact Walks.strAscii (I.ok.hd hc) it x t
   ·rw[e];exact Walks.strWide (I.ok.hd hc) it x t
  have Vy:["enumerate","zip","dict_itemiterator","dict_reverseitemiterator","odict_iterator","itertools.zip_longest","itertools.pairwise"].contains ty=false:=by
   rcases QK with e|e
   ·rw[e];decide
   ·rw[e];decide
  refine W.item i s _ _ hg st fun v h' tk hv oN kk=>?_;obtain⟨c,u,hcx,rfl⟩:=hv;have I1:bu X ah σ H {s with heap:=h',toks:=tk}:=I.gf (fun b o hb e=>kk b o (by simpa using hb) e) f0 f1 f3 f4 f5;obtain⟨oi,e,cc,dd⟩:=id oN;exact⟨_,rfl,QV (s:={s with heap:=h',toks:=tk}) e cc dd Vy ⟨.str ⟨#[c]⟩,H,I1,⟨u,rfl⟩,⟨rfl,c,hcx,rfl⟩,oN,fun b hb=>(hf b hb).1⟩⟩
 done:=by
  intro X hP hw hK hc i ah s σ H E I hf st hg;subst hP hw hK;obtain⟨f0,f1,f2,f3,f4,f5⟩:=hf it (by simp);have hx:x.cps[i]? =none:=Array.getElem?_eq_none hg;rcases QK with e|e
  ·rw[e]at st;exact wpAny_pyNext_ascii_end (I.ok.hd hc) st hx fun h' eb=>⟨rfl,I.gf (t':=s.toks) (fun b o hb e=>eb b o hb e) f0 f1 f3 f4 f5⟩
  ·rw[e]at st;exact wpAny_pyNext_wide_end (I.ok.hd hc) st hx fun h' eb=>⟨rfl,I.gf (t':=s.toks) (fun b o hb e=>eb b o hb e) f0 f1 f3 f4 f5⟩
 self:=fun A i s Q E st h=>by
  rcases QK with e|e
  ·rw[e]at st;exact wpAny_pyIter_striter_ascii st h
  ·rw[e]at st;exact wpAny_pyIter_striter_wide st h
def agZ(te:TE):TI:=fun σ H R=>te σ H fun v H1=>∃x,v=.str x∧R (Its x) H1
theorem Zl{X:Cx}{tg e:Expr}{te:TE}(he:PE X e te):PI X tg e (agZ te):=by
 intro ah s σ H R I h;refine lu (he ah s σ H _ I h) fun v s1 y H1 I1 r1 zz=>?_;obtain⟨x,ex,q⟩:=zz;subst ex;obtain⟨t,rfl⟩:=r1;cases ha:x.cps.all (·<128)
 ·exact wpAny_pyIter_wide ha (UO (tk:=s1.toks) I1 _ (Kw _ x t "str_iterator" (.inr rfl)) ⟨_,aqd _ rfl,rfl,rfl⟩ q)
 ·exact wpAny_pyIter_ascii ha (UO (tk:=s1.toks) I1 _ (Kw _ x t "str_ascii_iterator" (.inl rfl)) ⟨_,aqd _ rfl,rfl,rfl⟩ q)
end L2.Internal
section
namespace TL
open PySem PySem.Builtin PySem.Builtin.Str PySem.StrLaws
abbrev tl(x:Str):List Nat:=x.cps.toList
theorem qv(x:Str):x.length=(tl x).length:=by simp[tl,atu]
theorem wY{x y:Str}(h:tl x=tl y):x=y:=Str.ext' (auW.mp h)
theorem yW(x y:Str):tl (x++y)=tl x++tl y:=by
 show(x++y).cps.toList=_;rw[Str.cps_append,Array.toList_append]
theorem wJ:∀{l m:List Str},l.map tl=m.map tl→l=m
 |[],[],_=>rfl
 |[],_::_,h=>by simp at h
 |_::_,[],h=>by simp at h
 |x::l,y::m,h=>by
  rw[apG,apG]at h;injection h with h1 h2;rw[wY h1,wJ h2]
theorem rZ(s:String):tl (aqQ s)=s.toList.map ass:=avp s
def pre(S l:List Nat):Bool:=l.take S.length==S
def xg(S:List Nat):Nat→List Nat→List Nat→List (List Nat)
 |_,acc,[]=>[acc]
 |0,acc,c::r=>if pre S (c::r)=true then acc::xg S (S.length-1) [] r else xg S 0 (acc++[c]) r
 |k+1,acc,_::r=>xg S k acc r
theorem xt(S:List Nat)(k:Nat)(acc:List Nat):xg S k acc []=[acc]:=by cases k<;>rfl
theorem Qb{S acc r:List Nat}{c:Nat}(h:pre S (c::r)=true):xg S 0 acc (c::r)=acc::xg S (S.length-1) [] r:=by
 show(if pre S (c::r)=true then acc::xg S (S.length-1) [] r else xg S 0 (acc++[c]) r)=_;rw[if_pos h]
theorem KU{S acc r:List Nat}{c:Nat}(h:pre S (c::r)=false):xg S 0 acc (c::r)=xg S 0 (acc++[c]) r:=by
 show(if pre S (c::r)=true then acc::xg S (S.length-1) [] r else xg S 0 (acc++[c]) r)=_;rw[if_neg (by rw[h];exact apI)]
theorem KS(S:List Nat):∀(k:Nat) (acc l:List Nat),xg S k acc l=xg S 0 acc (l.drop k)
 |0,_,_=>by rw[as9]
 |k+1,acc,[]=>by rw[List.drop_nil,xt,xt]
 |k+1,acc,c::r=>by
  show xg S k acc r=xg S 0 acc (r.drop k);exact KS S k acc r
theorem W5{S:List Nat}(hS:S≠[]):pre S []=false:=by
 cases S with
 |nil=>exact absurd rfl hS
 |cons s S=>rfl
theorem Ls{s c:Nat}(S r:List Nat)(h:c≠s):pre (s::S) (c::r)=false:=by
 cases hp:pre (s::S) (c::r)with
 |false=>rfl
 |true=>
  have e:(c::r).take (s::S).length=s::S:=eq_of_beq hp;rw[apz,auq]at e;injection e with e1 e2;exact absurd e1 h
theorem UL(S r:List Nat):pre S (S++r)=true:=by
 show((S++r).take S.length==S)=true;have e:(S++r).take S.length=S:=aua;rw[e]<;>exact beq_self_eq_true S
theorem yp{L:List Nat}{a:Nat}(h:a<L.length):∃c,L.drop a=c::L.drop (a+1):=⟨L[a],asi h⟩
theorem xr(S L:List Nat):∀(m a:Nat) (acc:List Nat),a+m≤L.length→(∀k,a≤k→k<a+m→pre S (L.drop k)=false)→
  xg S 0 acc (L.drop a)=xg S 0 (acc++(L.drop a).take m) (L.drop (a+m))
 |0,a,acc,_,_=>by rw[aub,apK,atB]
 |m+1,a,acc,h,hn=>by
  have gX:a<L.length:=by omega
  obtain⟨c,e⟩:=yp gX;have h0:=hn a (apE _) (by omega);have ih:=xr S L m (a+1) (acc++[c]) (by omega) (fun k h1 h2=>hn k (by omega) (by omega));have e2:a+1+m=a+(m+1):=by omega
  rw[e2]at ih;rw[e]at h0;rw[e,KU h0,ih,auq,aqF]<;>rfl
theorem Mv(L:List Nat)(a b:Nat):(L.drop a).drop b=L.drop (a+b):=by
 first
  |rw[auc]
  |rw[auc,Nat.add_comm]
theorem T9{S L:List Nat}(hS:S≠[]){c:Nat}{acc:List Nat}(h:pre S (L.drop c)=true):xg S 0 acc (L.drop c)=acc::xg S 0 [] (L.drop (c+S.length)):=by
 rw[←Mv];cases e:L.drop c with
 |nil=>rw[e,W5 hS]at h;cases h
 |cons d r=>
  rw[e]at h;rw[Qb h,KS];cases S with
  |nil=>exact absurd rfl hS
  |cons s S=>rfl
theorem Wc{x y:Str}(hy:tl y≠[])(i:Nat):At x y x.length i↔pre (tl y) ((tl x).drop i)=true:=by
 have hx:=qv x;have hl:=qv y;constructor
 ·intro h;have h2:=h.2;rw[subAt_eq,hl]at h2;exact h2
 ·intro h;have e:((tl x).drop i).take (tl y).length=tl y:=eq_of_beq h;have e1:=congrArg arD e;rw[aqm,aqX]at e1;have e2:0<(tl y).length:=aq1.mpr hy;refine⟨by omega,?_⟩;rw[subAt_eq,hl];exact h
theorem Yd{x y:Str}(hy:tl y≠[]){i:Nat}(h:¬At x y x.length i):pre (tl y) ((tl x).drop i)=false:=by
 cases hp:pre (tl y) ((tl x).drop i)with
 |false=>rfl
 |true=>exact absurd ((Wc hy i).mpr hp) h
theorem agR{y:Str}(hy:tl y≠[]):1≤y.length:=by
 have e2:0<(tl y).length:=aq1.mpr hy;rw[qv y];exact e2
theorem He(x:Str)(i j:Nat):tl (strSub x i j)=((tl x).drop i).take (j-i):=strSub_toList x i j
theorem FX(x:Str)(i:Nat):tl (strSub x i x.length)=(tl x).drop i:=by
 rw[He,qv x];exact arV (by rw[aqX]<;>omega)
theorem Hy{x y:Str}(hy:tl y≠[]):∀(adi:List Nat) (a f:Nat),a≤(tl x).length→ChainG x y x.length a adi f→(∀k,f≤k→¬At x y x.length k)→
  (partsFrom x y.length a adi).map tl=xg (tl y) 0 [] ((tl x).drop a)
 |[],a,f,ha,h,hn=>by
  have e:f=a:=h;subst e;show[tl (strSub x f x.length)]=_;have run:=xr (tl y) (tl x) ((tl x).length-f) f [] (by omega) (fun k h1 _=>Yd hy (hn k h1));have e2:f+((tl x).length-f)=(tl x).length:=by omega
  rw[e2,atD,xt,asY,arV (by rw[aqX]<;>omega)]at run;rw[run,FX]
 |c::r,a,f,ha,h,hn=>by
  obtain⟨h1,h2,h3,h4⟩:=h;have hc:c+y.length≤x.length:=h2.1;have hx:=qv x;have hl:=qv y;have ih:=Hy hy r (c+y.length) f (by omega) h4 hn;show tl (strSub x a c)::(partsFrom x y.length (c+y.length) r).map tl=_;have run:=xr (tl y) (tl x) (c-a) a [] (by omega) (fun k k1 k2=>Yd hy (h3 k k1 (by omega)));have e2:a+(c-a)=c:=by omega
  rw[e2,asY,T9 hy ((Wc hy c).mp h2)]at run;rw[run,ih,He,hl]
theorem Hk(x y:Str)(hy:tl y≠[])(hk:¬aqy x<aqy y):(arw x y).map tl=xg (tl y) 0 [] (tl x):=by
 obtain⟨f,g,hn⟩:=occ_tight x y (agR hy);have key:=Hy hy _ 0 f (apV _) g hn;rw[as9]at key;have HA:occurrences x y 0 x.length (x.length+1)=[]→[x].map tl=xg (tl y) 0 [] (tl x):=fun ho=>by
  rw[ho]at key;rw[←key];show[tl x]=[tl (strSub x 0 x.length)];rw[sub_whole]
 unfold arw;by_cases h1:(decide (x.length<y.length)||decide (aqy x<aqy y))=true
 ·rw[if_pos h1];have gX:x.length<y.length:=by
   simp only[aqU,decide_eq_true_eq]at h1;rcases h1 with h|h
   ·exact h
   ·exact absurd h hk
  refine HA ?_;cases ho:occurrences x y 0 x.length (x.length+1)with
  |nil=>rfl
  |cons c r=>
   rw[ho]at g;have hc:c+y.length≤x.length:=g.2.1.1;omega
 ·rw[if_neg h1];by_cases h2:(occurrences x y 0 x.length (x.length+1)).isEmpty=true
  ·rw[if_pos h2];exact HA (List.isEmpty_iff.mp h2)
  ·rw[if_neg h2,partsBetween_eq];exact key
theorem QB{x y:Str}(h:y.cps.all (·<256)=true):¬aqy x<aqy y:=by
 have e:aqy y=1:=by unfold aqy;rw[if_pos h]
 rw[e];unfold aqy;split
 ·omega
 ·split<;>omega
theorem T6{S p rest acc:List Nat}(hS:S≠[])(h:∀i,i<p.length→pre S ((p++(S++rest)).drop i)=false):
  xg S 0 acc (p++(S++rest))=(acc++p)::xg S 0 [] rest:=by
 have run:=xr S (p++(S++rest)) p.length 0 acc (by rw[apr];omega) (fun k _ k2=>h k (by omega));have ed:(p++(S++rest)).drop p.length=S++rest:=ata;rw[as9,ar2,aua]at run;rw[run,T9 hS (by rw[ed];exact UL S rest),←Mv,ed,ata]
theorem T7{S p acc:List Nat}(h:∀i,i<p.length→pre S (p.drop i)=false):xg S 0 acc p=[acc++p]:=by
 have run:=xr S p p.length 0 acc (by omega) (fun k _ k2=>h k (by omega));rw[as9,ar2,atD,xt,aq2]at run;exact run
def vB(S:List Nat):List (List Nat)→List Nat
 |[]=>[]
 |[p]=>p
 |p::q::r=>p++(S++vB S (q::r))
theorem CM(y:Str):∀parts:List Str,tl (avT y parts)=vB (tl y) (parts.map tl)
 |[]=>rfl
 |[_]=>rfl
 |x::z::r=>by
  show tl (x++y++avT y (z::r))=tl x++(tl y++vB (tl y) ((z::r).map tl));rw[yW,yW,CM y (z::r),aqF]
theorem join_eq(y:Str)(parts:List Str):atb y parts=avT y parts:=glued_eq_join y parts
def RZ(n:Nat):List Nat:=(asp 10 n).map ass
theorem YS(n:Nat):tl (aqQ (toString ((n:Nat):Int)))=RZ n:=awc n
theorem vJ:∀d:Nat,d<10→(atn d).toNat=48+d:=by decide
theorem Xh{n:Nat}(h:n<10):RZ n=[48+n]:=by
 unfold RZ;rw[atO h];show[(atn n).toNat]=_;rw[vJ n h]
theorem RY{n:Nat}(h:10≤n):RZ n=RZ (n / 10)++[48+n % 10]:=by
 have hm:n % 10<10:=arP n (by decide);have t:asp 10 (n / 10)++asp 10 (n % 10)=asp 10 (10*(n / 10)+n % 10):=Nat.toDigits_append_toDigits (by decide) (by omega) hm;rw[Nat.div_add_mod]at t;show(asp 10 n).map ass=_;rw[←t,apB,atO hm];show(asp 10 (n / 10)).map ass++[(atn (n % 10)).toNat]=_;rw[vJ _ hm]<;>rfl
end TL
end
namespace L2.Internal
open PySem PySem.Spec PyProof.Rows
theorem Xi{n:Nat}(h:n≤16777216):aur n=false:=by
 have e:(2:Nat) ^ 24=16777216:=by decide
 unfold aur sizeLine;exact decide_eq_false (by omega)
theorem Hc:∀l:List (Str×Tok),cg ((l.map (·.1)).map V.str) (strValues l)
 |[]=>.nil
 |p::r=>.cons ⟨p.2,rfl⟩ (Hc r)
theorem p6:∀{ys:List Str} {us:List Value},cg (ys.map V.str) us→StrsAre us ys
 |[],_,.nil=>.nil
 |y::ys,_,.cons r t=>by
  obtain⟨k,rfl⟩:=r;exact .cons y k (p6 t)
def sJ(ys:List Str):Hp→VK→Prop:=fun H Q=>∀p,H p=none→Q (.ref p) (aJ H p (.aN (ys.map V.str)))
section
variable{X:Cx}{ah:List (Addr×Obj)}{σ:St}{H:Hp}{s:Shared}{Q:VK}
theorem Ah{l:List (Str×Tok)}{ys:List Str}{k:Nat}(I:bu X ah σ H s)(e:l.map (·.1)=ys)(hz:ys.length≤sizeLine)(h:sJ ys H Q):
  EP X ah σ Q (.ref s.heap.objs.size) {s with toks:=k,heap:=s.heap.push {cls:=.type "list",data:=.seq (strValues l).toArray}}:=by
 have hp:=I.du.fresh (apE _);refine⟨.ref s.heap.objs.size,aJ H s.heap.objs.size (.aN (ys.map V.str)),I.vd (fun b u q=>apL _ q) (apE _) ⟨by rw[apt];exact hz,strValues l,_,?_,aqd _ rfl⟩,rfl,h _ hp⟩;rw[←e];exact Hc l
end
section
variable{X:Cx}
theorem Vb:PQ X "str.split" (fun x xs H Q=>∃a b,x=.str a∧xs=[.str b]∧(b.length==0)=false∧a.length+2≤sizeLine∧sJ (arw a b) H Q):=by
 intro ah s σ H x xs v us Q I rx rs h;obtain⟨a,b,rfl,rfl,hb,hz,h⟩:=h;obtain⟨t,rfl⟩:=rx;cases rs with
 |cons r1 rs=>
  cases rs;obtain⟨u,rfl⟩:=r1;have hl:(arw a b).length≤sizeLine:=aqa (awd a b) hz;have hn:(atE a (asy a b 0 a.length (a.length+1)) b.length).length≤sizeLine:=by
   have e1:=StrLaws.occ_length_le a b 0 a.length (a.length+1);rw[length_partsBetween];omega
  cases h1:(decide (a.length<b.length)||decide (aqy a<aqy b))
  ·cases hf:(asy a b 0 a.length (a.length+1)).isEmpty
   ·refine call_meets asL (typeIs_str _ _ _) atr (atj _ _) (meets_str_split_sep a b t u h1 hb hf (by omega) hn) ?_;show EP X ah σ Q (.ref s.heap.objs.size) {s with toks:=_,heap:=s.heap.push {cls:=.type "list",data:=.seq (strsFrom s.toks (atE a (asy a b 0 a.length (a.length+1)) b.length)).toArray}};rw[strsFrom_eq];exact Ah (ys:=arw a b) I ((numbered_texts _ _).trans ((if_neg (ne_true_of_eq_false h1)).trans (if_neg (ne_true_of_eq_false hf))).symm) hl h
   ·refine call_meets asL (typeIs_str _ _ _) atr (atj _ _) (meets_str_split_not_found a b t u h1 hb hf) ?_;exact Ah (l:=[(a,t)]) (ys:=arw a b) (k:=s.toks) I ((if_neg (ne_true_of_eq_false h1)).trans (if_pos hf)).symm hl h
  ·refine call_meets asL (typeIs_str _ _ _) atr (atj _ _) (meets_str_split_cannot_occur a b t u h1) ?_;exact Ah (l:=[(a,t)]) (ys:=arw a b) (k:=s.toks) I (if_pos h1).symm hl h
theorem Xl:PQ X "str.join" (fun x xs H Q=>∃a p,∃ys:List Str,x=.str a∧xs=[.ref p]∧(jH X.K H p (ys.map V.str)∨AK X.K H p (ys.map V.str))∧
  (ys.map (·.length)).sum+ys.length*a.length≤16777216∧Q (.str (atb a ys)) H):=by
 intro ah s σ H x xs v us Q I rx rs h;obtain⟨a,p,ys,rfl,rfl,hp,hz,h⟩:=h;obtain⟨t,rfl⟩:=rx;cases rs with
 |cons r1 rs=>
  cases rs;cases r1;rcases hp with hp|hp
  ·obtain⟨bX,r,⟨o,n,ho,hc,_,hd⟩,_⟩:=I.list hp;exact av7 (items:=bX.toArray) ⟨o,ho,hc,n,hd⟩ (by rw[aus];exact p6 r) hz fun t' k=>⟨.str _,H,I.tok k,⟨t',rfl⟩,h⟩
  ·obtain⟨bX,r,ht,_⟩:=I.tuple hp;exact avZ (items:=bX.toArray) ht (by rw[aus];exact p6 r) hz fun t' k=>⟨.str _,H,I.tok k,⟨t',rfl⟩,h⟩
theorem mt0{id:String}{C:Str→Prop}{g:Str→V}(rule:∀(a:Str) (t:Tok) (s:Shared) (Q:Value→Shared→Prop),C a→(∀(u:Value) (k:Nat),ck (g a) u→Q u {s with toks:=k})→
  wpAny (model X.prog X.w) X.A (call (.builtin id) [.str a t]) Q X.xe s):PQ X id (fun x xs H Q=>∃a,x=.str a∧xs=[]∧C a∧Q (g a) H):=by
 intro ah s σ H x xs v us Q I rx rs h;obtain⟨a,rfl,rfl,hc,h⟩:=h;obtain⟨t,rfl⟩:=rx;cases rs;exact rule a t s _ hc fun u k r=>⟨g a,H,I.tok k,r,h⟩
theorem Oh:PQ X "str.isdigit" (fun x xs H Q=>∃a,x=.str a∧xs=[]∧True∧Q (.bl (at3 a)) H):=
 mt0 (C:=fun _=>True) (g:=fun a=>.bl (at3 a)) fun _ _ s _ _ h=>PySem.SC.isdigit (h _ s.toks rfl)
theorem Oi:PQ X "str.isalpha" (fun x xs H Q=>∃a,x=.str a∧xs=[]∧True∧Q (.bl (at4 a)) H):=
 mt0 (C:=fun _=>True) (g:=fun a=>.bl (at4 a)) fun _ _ s _ _ h=>PySem.SC.isalpha (h _ s.toks rfl)
theorem Oj:PQ X "str.isalnum" (fun x xs H Q=>∃a,x=.str a∧xs=[]∧True∧Q (.bl (arW a)) H):=
 mt0 (C:=fun _=>True) (g:=fun a=>.bl (arW a)) fun _ _ s _ _ h=>PySem.SC.isalnum (h _ s.toks rfl)
theorem J8:rF X (.type "int") (fun xs H Q=>∃a n,xs=[.str a]∧PySem.intText? a=some n∧a.length≤640∧Q (.int n) H):=by
 intro ah s σ H xs us Q I rs h;obtain⟨a,n,rfl,hn,hl,h⟩:=h;cases rs with
 |cons r1 rs=>
  cases rs;obtain⟨t,rfl⟩:=r1;exact awe hn hl ⟨.int n,H,I.tok _,⟨_,rfl⟩,h⟩
end
section
variable{X:Cx}{o e:Expr}{to te:TE}
def tM0(r:V→List V→Hp→VK→Prop)(to:TE):TE:=fun σ H Q=>to σ H fun x H1=>(∃a,x=.str a)∧r x [] H1 Q
def tM1(r:V→List V→Hp→VK→Prop)(to te:TE):TE:=fun σ H Q=>to σ H fun x H1=>(∃a,x=.str a)∧te σ H1 fun y H2=>r x [y] H2 Q
theorem US{id:String}{name:Str}{apos pos:Pos}{r:V→List V→Hp→VK→Prop}(slot:Slot "str" name id)(ty:typeOf (.builtin id)=pure (.type "method_descriptor"))(rule:PQ X id r)(ho:PE X o to)
  (kF:attributeBase o name X.env (eval o X.env)=eval o X.env:=by rfl)(kE:(apos.endLine==pos.line)=true:=by rfl):PE X (.Call (.Attribute o name apos) [] [] pos) (tM0 r to):=by
 intro ah s σ H Q I h;refine PySem.Call_method0 kF kE (lu (ho ah s σ H _ I h) fun v s1 x H1 I1 r1 q1=>?_);obtain⟨⟨a,rfl⟩,q1⟩:=q1;obtain⟨t,rfl⟩:=_root_.id r1;exact⟨"str",_,auX,slot,ty,typeIs_str _ _ _,(fun _ e=>nomatch e),ard rfl (aup (rule ah s1 σ H1 _ [] _ [] Q I1 r1 .nil q1))⟩
theorem X9{id:String}{name:Str}{apos pos:Pos}{r:V→List V→Hp→VK→Prop}(slot:Slot "str" name id)(ty:typeOf (.builtin id)=pure (.type "method_descriptor"))(rule:PQ X id r)(ho:PE X o to)(he:PE X e te)
  (hs:starEach [e] X.env=[(false,eval e X.env)]:=by rfl)(kF:attributeBase o name X.env (eval o X.env)=eval o X.env:=by rfl)(kE:(apos.endLine==pos.line)=true:=by rfl):
  PE X (.Call (.Attribute o name apos) [e] [] pos) (tM1 r to te):=by
 intro ah s σ H Q I h;refine PySem.Call_method1 kF hs kE (lu (ho ah s σ H _ I h) fun v s1 x H1 I1 r1 q1=>?_);obtain⟨⟨a,rfl⟩,q1⟩:=q1;obtain⟨t,rfl⟩:=_root_.id r1;refine⟨"str",_,auX,slot,ty,typeIs_str _ _ _,(fun _ e=>nomatch e),ard rfl (ar6 (arM ?_))⟩;exact lu (he ah s1 σ H1 _ I1 q1) fun u s2 y H2 I2 r2 q2=>asB (rule ah s2 σ H2 _ [y] _ [u] Q I2 r1 (.cons r2 .nil) q2)
theorem D0{apos pos:Pos}(ho:PE X o to)(he:PE X e te)(hs:starEach [e] X.env=[(false,eval e X.env)]:=by rfl)(kF:attributeBase o "split" X.env (eval o X.env)=eval o X.env:=by rfl)(kE:(apos.endLine==pos.line)=true:=by rfl):
  PE X (.Call (.Attribute o "split" apos) [e] [] pos) (tM1 (fun x xs H Q=>∃a b,x=.str a∧xs=[.str b]∧(b.length==0)=false∧a.length+2≤sizeLine∧sJ (arw a b) H Q) to te):=
 X9 asL F.type_str_split Vb ho he hs kF kE
theorem Jf{apos pos:Pos}(ho:PE X o to)(he:PE X e te)(hs:starEach [e] X.env=[(false,eval e X.env)]:=by rfl)(kF:attributeBase o "join" X.env (eval o X.env)=eval o X.env:=by rfl)(kE:(apos.endLine==pos.line)=true:=by rfl):
  PE X (.Call (.Attribute o "join" apos) [e] [] pos) (tM1 (fun x xs H Q=>∃a p,∃ys:List Str,x=.str a∧xs=[.ref p]∧(jH X.K H p (ys.map V.str)∨AK X.K H p (ys.map V.str))∧
   (ys.map (·.length)).sum+ys.length*a.length≤16777216∧Q (.str (atb a ys)) H) to te):=
 X9 F.slot_str_join F.type_str_join Xl ho he hs kF kE
end
def bq(s:Stmt)(j:Nat):Stmt:=match s with
 | .ClassDef _ _ _ body _ _ _ _ _ _ _=>body.getD j (.Pass ⟨0,0,0,0⟩)
 |_=>.Pass ⟨0,0,0,0⟩
def yx(s:Stmt):Arguments:=match s with
 | .FunctionDef _ a _ _ _ _ _ _ _ _=>a
 |_=>{posonlyargs:=[],args:=[],vararg:=none,kwonlyargs:=[],kw_defaults:=[],kwarg:=none,defaults:=[]}
def uQ(s:Stmt):List Stmt:=match s with
 | .FunctionDef _ _ b _ _ _ _ _ _ _=>b
 |_=>[]
def aC(s:Stmt):Scope:=match s with
 | .FunctionDef _ _ _ _ _ _ sc _ _ _=>sc
 |_=>{kind:=.function,names:=[],isGenerator:=false,isCoroutine:=false}
abbrev fU:Th:=fun _ _ _ _ _ _=>False
abbrev E0:XK:=fun _ _ _=>False
theorem aP{X:Cx}:uo fU X E0:=fun _ _ _ _ _ _ _ h=>h.elim
structure Fun(K:apw)(x qual:Str)(st:Stmt)(f:Addr)(fd:FuncData):Prop where
 ex:∃(oc:Value) (od:Option Addr) (kV doc pm:Value) (an:Option Addr) (yS ct:Value) (Xa:Array (Option Value)),
  fd=ar1 x qual (yx st) (uQ st) (aC st) .none kV doc pm an yS ct∧K.lookup f=some ⟨oc,od,.func fd,Xa⟩∧at8 K yS qual=true
 kp:ar0 K (.ref f)=true
section
variable{P:Program}{w:World}{K:apw}{mg:Str→Option Value}{base:Heap}
theorem Fun.ok{x qual:Str}{st:Stmt}{f:Addr}{fd:FuncData}{N ps:List Str}{k:Nat}{sp:Sp}(F:Fun K x qual st f fd)(S:aI N ps (aC st))(len:∀vs H Q E,sp vs H Q E→vs.length=ps.length)
  (VD:∀(yS:Value) (A:Around) (outer:List Env) (s:Shared) (H:Hp) (vs:List V) (Q:VK) (E:XK),gb k (A.deeper (envOfC qual (aC st) s.heap.objs.size f yS))→sp vs H Q E→
   ∃t,Te (Mz fU P w K mg base N qual (aC st) f yS A outer s H E).nox (uQ st) t∧t {nx:=fun _ H'=>Q .cx H',rt:=Q} (start N vs) H):bN P w K mg base fU (k+1) f fd ps sp:=by
 obtain⟨oc,od,kV,doc,pm,an,yS,ct,Xa,rfl,lk,Bi⟩:=F.ex;refine ac7 lk Bi S len fun A outer s H vs Q E hr QM=>?_;obtain⟨t,h,q⟩:=VD yS A outer s H vs Q E hr QM;exact⟨t,h.nox,q⟩
theorem Fun.binds{x qual:Str}{st:Stmt}{f:Addr}{fd:FuncData}{ps:List Str}(F:Fun K x qual st f fd)
  (h:∀(kV doc pm:Value) (an:Option Addr) (yS ct:Value) (us:List Value),us.length=ps.length→bindArgs (ar1 x qual (yx st) (uQ st) (aC st) .none kV doc pm an yS ct) ⟨us,[]⟩=pure (ps.zip us)):uu K fd ps []:=by
 obtain⟨oc,od,kV,doc,pm,an,yS,ct,Xa,rfl,lk,Bi⟩:=F.ex;exact .all (h kV doc pm an yS ct)
theorem VI{x qual:Str}{st:Stmt}{f:Addr}{oc:Value}{od an:Option Addr}{Xa:Array (Option Value)}{kV doc pm yS ct:Value}(l:K.lookup f=some ⟨oc,od,.func (ar1 x qual (yx st) (uQ st) (aC st) .none kV doc pm an yS ct),Xa⟩)
  (c:at8 K yS qual=true)(k:ar0 K (.ref f)=true):Fun K x qual st f (ar1 x qual (yx st) (uQ st) (aC st) .none kV doc pm an yS ct):=⟨⟨oc,od,kV,doc,pm,an,yS,ct,Xa,rfl,l,c⟩,k⟩
end
theorem iP{A:Around}{k:Nat}(hr:gb k A):A.units+1<cLine:=Nat.lt_of_le_of_lt (Nat.add_le_add_left (by decide:1≤64) _) hr.units
section
variable{X:Cx}
theorem pv(i:Nat){x:Str}{pos:Pos}(hN:X.N[i]? =some x:=by rfl)(hv:Vis X.env.scope x:=by first|exact apN rfl|exact aud (apN rfl)|exact aud (aud rfl))(hd:(x==("__debug__":Str))=false:=by decide)
  (Bi:(x==("__classdict__":Str))=false:=by decide):PE X (.Name x pos) (mR i):=Zm hN hv hd Bi
theorem SQ:rF X (.builtin "len") (fun xs H Q=>∃a kvs,xs=[V.ref a]∧H a=some (.dK kvs)∧Q (.int kvs.length) H):=by
 intro ah s σ H xs us Q I r h;obtain⟨a,kvs,rfl,ha,q⟩:=h;obtain⟨u,rfl,ru⟩:=vals1 r;cases ru;exact adh I (.inl ha) fun t s' I'=>⟨.int kvs.length,H,I',⟨t,rfl⟩,q⟩
end
theorem bW{c A B:Prop} [Decidable c] (h1:c→A)(h2:¬c→B):if c then A else B:=by
 by_cases h:c
 ·rw[if_pos h];exact h1 h
 ·rw[if_neg h];exact h2 h
def aV(H H':Hp):Prop:=∀b o,H b=some o→H' b=some o
theorem aV.refl(H:Hp):aV H H:=fun _ _ h=>h
theorem aV.trans{H H1 H2:Hp}(a:aV H H1)(b:aV H1 H2):aV H H2:=fun c o h=>b c o (a c o h)
theorem aV.free{H H':Hp}(e:aV H H'){l:Addr}(h:H' l=av8):H l=av8:=by
 cases q:H l with
 |none=>rfl
 |some o=>
  rw[e l o q]at h;cases h
theorem aV.seq{K:apw}{H H':Hp}{a:Addr}{xs:List V}(e:aV H H')(h:jH K H a xs):jH K H' a xs:=by
 rcases h with(h|⟨o,h⟩)|h
 ·exact .inl (.inl (e _ _ h))
 ·exact .inl (.inr ⟨o,e _ _ h⟩)
 ·exact .inr h
end L2.Internal
section
namespace L2.Internal
open PySem PySem.Spec PyProof.Rows
open PySem.W (WData Codec OpenSpec Well WellAll ReadsW ReadsAllW)
mutual
inductive Dw(K:apw)(H:Hp):V→WData→Prop
 |cx:Dw K H .cx .none
 |bl (b:Bool):Dw K H (.bl b) (.bool b)
 |int (i:Int):Dw K H (.int i) (.int i)
 |str (x:Str):Dw K H (.str x) (.str x)
 |M6 (b:Array UInt8):Dw K H (.M6 b) (.bytes b.toList)
 |aN {a:Addr} {xs:List V} {ds:List WData}:jH K H a xs→rE K H xs ds→Dw K H (.ref a) (.list ds)
 |fR {a:Addr} {xs:List V} {ds:List WData}:AK K H a xs→rE K H xs ds→Dw K H (.ref a) (.tuple ds)
inductive rE(K:apw)(H:Hp):List V→List WData→Prop
 |nil:rE K H [] []
 |cons {v:V} {vs:List V} {d:WData} {ds:List WData}:Dw K H v d→rE K H vs ds→rE K H (v::vs) (d::ds)
end
theorem Q8{K:apw}{H:Hp}:∀ns:List Int,rE K H (ns.map V.int) (ns.map WData.int)
 |[]=>.nil
 |n::r=>.cons (.int n) (Q8 r)
theorem QH{K:apw}{H:Hp}:∀(ns:List Int) (xs:List V),rE K H xs (ns.map WData.int)→xs=ns.map V.int
 |[],xs,h=>by
  cases h;rfl
 |n::r,xs,h=>by
  cases h with
  |cons h1 h2=>
   cases h1;rw[QH r _ h2]<;>rfl
section
variable{P:Program}{w:World}{K:apw}{H:Hp}{h:Heap}{R:auY}{cl:Str→Option Addr}
theorem Za{a:Addr}{xs:List V}(du:ur P w H h)(KX:K.In h)(q:jH K H a xs):∃(bX:List Value) (o:Obj) (n:Nat),cg xs bX∧h.get? a=some o∧o.cls=.type "list"∧o.data=.seq bX.toArray n:=by
 rcases q with q|⟨o,bX,n,e,hc,_,hd,_,hv⟩
 ·obtain⟨_,bX,n,hv,e⟩:=(show gK P w H h a (.aN xs)from q.ok du);exact⟨bX,_,n,hv,e,rfl,rfl⟩
 ·exact⟨bX.toList,o,n,hv,KX _ _ e,hc,by simp[hd]⟩
theorem Y9{a:Addr}{xs:List V}(du:ur P w H h)(KX:K.In h)(q:AK K H a xs):∃(bX:List Value) (o:Obj) (n:Nat),cg xs bX∧h.get? a=some o∧o.cls=.type "tuple"∧o.data=.seq bX.toArray n:=by
 rcases q with q|⟨o,bX,n,e,hc,hd,_,hv⟩
 ·obtain⟨_,bX,hv,o,e,hc,n,hd⟩:=(show gK P w H h a (.fR xs)from q.ok du);exact⟨bX,o,n,hv,e,hc,hd⟩
 ·exact⟨bX.toList,o,n,hv,KX _ _ e,hc,by simp[hd]⟩
mutual
theorem Dw.reads(du:ur P w H h)(KX:K.In h):∀(d:WData) (v:V) (u:Value),Dw K H v d→ck v u→∃as,ReadsW R cl h u d as
 | .none,_,_,x,r=>by
  cases x;cases r;exact⟨_,ReadsW.none⟩
 | .bool b,_,_,x,r=>by
  cases x;cases r;exact⟨_,ReadsW.bool b⟩
 | .int i,_,_,x,r=>by
  cases x;obtain⟨t,rfl⟩:=r;exact⟨_,ReadsW.int i t⟩
 | .str s,_,_,x,r=>by
  cases x;obtain⟨t,rfl⟩:=r;exact⟨_,ReadsW.str s t⟩
 | .bytes b,_,_,x,r=>by
  cases x;obtain⟨t,rfl⟩:=r;exact⟨_,ReadsW.bytes _ t⟩
 | .list ds,_,_,x,r=>by
  cases x with
  |aN hs ha=>
   cases r;obtain⟨bX,o,n,rv,ho,hc,hd⟩:=Za du KX hs;obtain⟨as,hr⟩:=Dw.readsAll du KX ds _ bX ha rv;exact⟨_,ReadsW.list ho hc hd hr⟩
 | .tuple ds,_,_,x,r=>by
  cases x with
  |fR hs ha=>
   cases r;obtain⟨bX,o,n,rv,ho,hc,hd⟩:=Y9 du KX hs;obtain⟨as,hr⟩:=Dw.readsAll du KX ds _ bX ha rv;exact⟨_,ReadsW.tuple ho hc hd hr⟩
 | .float _,_,_,x,_=>by cases x
 | .dict _,_,_,x,_=>by cases x
 | .bytearray _,_,_,x,_=>by cases x
 | .set _,_,_,x,_=>by cases x
 | .frozenset _,_,_,x,_=>by cases x
 | .obj _ _,_,_,x,_=>by cases x
theorem Dw.readsAll(du:ur P w H h)(KX:K.In h):∀(ds:List WData) (vs:List V) (us:List Value),rE K H vs ds→cg vs us→∃as,ReadsAllW R cl h us ds as
 |[],_,_,x,r=>by
  cases x;cases r;exact⟨_,ReadsAllW.nil⟩
 |d::ds,_,_,x,r=>by
  cases x with
  |cons h1 h2=>
   cases r with
   |cons r1 r2=>
    obtain⟨as,q1⟩:=Dw.reads du KX d _ _ h1 r1;obtain⟨bs,q2⟩:=Dw.readsAll du KX ds _ _ h2 r2;exact⟨_,ReadsAllW.cons q1 q2⟩
end
end
mutual
def Qn:WData→Bool
 | .none=>true
 | .bool _=>true
 | .int _=>true
 | .str _=>true
 | .bytes _=>true
 | .list xs=>BX xs
 | .tuple xs=>BX xs
 |_=>false
def BX:List WData→Bool
 |[]=>true
 |x::r=>Qn x&&BX r
end
theorem Lu{α:Type}{f:α→WData}(h:∀a,Qn (f a)=true):∀l:List α,BX (l.map f)=true
 |[]=>rfl
 |x::r=>by
  show(Qn (f x)&&BX (r.map f))=true;rw[h x,Lu h r]<;>rfl
theorem sP:∀(c:Codec) (a:c.denote),Qn (c.enc a)=true
 | .unit,_=>rfl
 | .bool,_=>rfl
 | .int _ _,_=>rfl
 | .nat _ _,_=>rfl
 | .u8,_=>rfl
 | .bytes _ _,_=>rfl
 | .text _ _ _ _,_=>rfl
 | .list _ _ c,a=>Lu (fun x=>sP c x) a
 | .pair c d,a=>by
  show(Qn (c.enc a.1)&&(Qn (d.enc a.2)&&true))=true;rw[sP c a.1,sP d a.2]<;>rfl
 | .triple c d e,a=>by
  show(Qn (c.enc a.1)&&(Qn (d.enc a.2.1)&&(Qn (e.enc a.2.2)&&true)))=true;rw[sP c a.1,sP d a.2.1,sP e a.2.2]<;>rfl
 | .option c,none=>rfl
 | .option c,some x=>sP c x
theorem Hv:∀(cs:List Codec) (a:Codec.denoteAll cs),BX (Codec.encAll cs a)=true
 |[],_=>rfl
 |c::cs,a=>by
  show(Qn (c.enc a.1)&&BX (Codec.encAll cs a.2))=true;rw[sP c a.1,Hv cs a.2]<;>rfl
theorem vU:∀{xs:List WData} {d:WData},d∈xs→d.weight≤WData.weightAll xs
 |[],d,h=>absurd h (by simp)
 |x::r,d,h=>by
  show d.weight≤x.weight+1+WData.weightAll r;rcases apA.mp h with e|m
  ·rw[e];omega
  ·have z:=vU m;omega
def KA:Value→V
 | .none=>.cx
 | .bool b=>.bl b
 | .int i _=>.int i
 | .str x _=>.str x
 | .bytes b _=>.M6 b
 | .ref a=>.ref a
 |_=>.cx
def Tf(A:List Addr):Value→Prop
 | .none=>True
 | .bool _=>True
 | .int _ _=>True
 | .str _ _=>True
 | .bytes _ _=>True
 | .ref a=>a∈A
 |_=>False
theorem Tf.x9{A B:List Addr}(h:∀a∈A,a∈B):∀{u:Value},Tf A u→Tf B u:=fun{u} x=>by
 cases u with
 |ref a=>exact h a x
 |none=>trivial
 |bool b=>trivial
 |int i t=>trivial
 |str s t=>trivial
 |bytes b t=>trivial
 |_=>exact aqW x
theorem UB{A:List Addr}{u:Value}(x:Tf A u):ck (KA u) u:=by
 cases u with
 |ref a=>rfl
 |none=>rfl
 |bool b=>rfl
 |int i t=>exact⟨t,rfl⟩
 |str s t=>exact⟨t,rfl⟩
 |bytes b t=>exact⟨t,rfl⟩
 |_=>exact aqW x
theorem oQ{A:List Addr}:∀{vs:List Value},(∀u∈vs,Tf A u)→cg (vs.map KA) vs
 |[],_=>.nil
 |u::r,h=>.cons (UB (h u (apD ..))) (oQ fun x hx=>h x (apy _ hx))
def rG(h:Heap)(A:List Addr)(a:Addr):Prop:=∃vs:List Value,vs.length≤sizeLine∧(∀u∈vs,Tf A u)∧
 (h.get? a=some {cls:=.type "list",data:=.seq vs.toArray}∨h.get? a=some {cls:=.type "tuple",data:=.seq vs.toArray})
theorem rG.x9{h:Heap}{A B:List Addr}{a:Addr}(k:∀a∈A,a∈B)(x:rG h A a):rG h B a:=by
 obtain⟨vs,h1,h2,h3⟩:=x;exact⟨vs,h1,fun u hu=>(h2 u hu).x9 k,h3⟩
theorem mT{P:Params}{h:Heap}:∀{vs:List Value} {ds:List WData},WellAll P h vs ds→vs.length=ds.length
 |_,_,.nil=>rfl
 |_,_,.cons _ b=>by
  show _+1=_+1;rw[mT b]
theorem G9{P:Params}{h:Heap}{v:Value}{ds:List WData}(x:Well P h v (.list ds)):∃(a:Addr) (vs:List Value),v=.ref a∧h.get? a=some {cls:=.type "list",data:=.seq vs.toArray}∧WellAll P h vs ds:=by
 cases x with
 |list ho ve=>exact⟨_,_,rfl,ho,ve⟩
theorem C3{P:Params}{h:Heap}{v:Value}{ds:List WData}(x:Well P h v (.tuple ds)):∃(a:Addr) (vs:List Value),v=.ref a∧h.get? a=some {cls:=.type "tuple",data:=.seq vs.toArray}∧WellAll P h vs ds:=by
 cases x with
 |tuple ho ve=>exact⟨_,_,rfl,ho,ve⟩
theorem Ha{P:Params}{h:Heap}{us:List Value}{d:WData}{ds:List WData}(x:WellAll P h us (d::ds)):∃(v:Value) (vs:List Value),us=v::vs∧Well P h v d∧WellAll P h vs ds:=by
 cases x with
 |cons a b=>exact⟨_,_,rfl,a,b⟩
theorem Qw{n:Nat}(h:n≤1048576):n≤sizeLine:=aqa h (by decide)
section
variable{P:Params}{h:Heap}
mutual
theorem We:∀(d:WData) (v:Value),Well P h v d→Qn d=true→d.weight≤1048576→∃A:List Addr,Tf A v∧∀a∈A,rG h A a
 | .none,_,x,_,_=>by
  cases x;exact⟨[],trivial,fun a m=>absurd m (by simp)⟩
 | .bool b,_,x,_,_=>by
  cases x;exact⟨[],trivial,fun a m=>absurd m (by simp)⟩
 | .int i,_,x,_,_=>by
  cases x;exact⟨[],trivial,fun a m=>absurd m (by simp)⟩
 | .str s,_,x,_,_=>by
  cases x;exact⟨[],trivial,fun a m=>absurd m (by simp)⟩
 | .bytes b,_,x,_,_=>by
  cases x;exact⟨[],trivial,fun a m=>absurd m (by simp)⟩
 | .list ds,_,x,p,z=>by
  obtain⟨a,vs,rfl,ho,ve⟩:=G9 x;have z2:WData.weightAll ds≤1048576:=z;obtain⟨A,h1,h2⟩:=yM ds _ ve p fun d hd=>aqa (vU hd) z2;have k:∀b∈A,b∈a::A:=fun b hb=>apy _ hb;refine⟨a::A,apD ..,fun b hb=>?_⟩;rcases apA.mp hb with e|m
  ·rw[e];exact⟨vs,Qw (by rw[mT ve];exact aqa (atc ds) z2),fun u hu=>(h1 u hu).x9 k,.inl ho⟩
  ·exact(h2 b m).x9 k
 | .tuple ds,_,x,p,z=>by
  obtain⟨a,vs,rfl,ho,ve⟩:=C3 x;have z2:WData.weightAll ds≤1048576:=z;obtain⟨A,h1,h2⟩:=yM ds _ ve p fun d hd=>aqa (vU hd) z2;have k:∀b∈A,b∈a::A:=fun b hb=>apy _ hb;refine⟨a::A,apD ..,fun b hb=>?_⟩;rcases apA.mp hb with e|m
  ·rw[e];exact⟨vs,Qw (by rw[mT ve];exact aqa (atc ds) z2),fun u hu=>(h1 u hu).x9 k,.inr ho⟩
  ·exact(h2 b m).x9 k
 | .float _,_,_,p,_=>aqB (show false=true from p)
 | .dict _,_,_,p,_=>aqB (show false=true from p)
 | .bytearray _,_,_,p,_=>aqB (show false=true from p)
 | .set _,_,_,p,_=>aqB (show false=true from p)
 | .frozenset _,_,_,p,_=>aqB (show false=true from p)
 | .obj _ _,_,_,p,_=>aqB (show false=true from p)
theorem yM:∀(ds:List WData) (vs:List Value),WellAll P h vs ds→BX ds=true→(∀d∈ds,d.weight≤1048576)→∃A:List Addr,(∀u∈vs,Tf A u)∧∀a∈A,rG h A a
 |[],_,x,_,_=>by
  cases x;exact⟨[],fun u m=>absurd m (by simp),fun a m=>absurd m (by simp)⟩
 |d::ds,_,x,p,z=>by
  obtain⟨v,vs,rfl,x1,x2⟩:=Ha x;have q:Qn d=true∧BX ds=true:=asZ.mp p;obtain⟨A,a1,a2⟩:=We d v x1 q.1 (z d (apD ..));obtain⟨B,b1,b2⟩:=yM ds vs x2 q.2 fun e he=>z e (apy _ he);have kA:∀b∈A,b∈A++B:=fun b hb=>apx.mpr (.inl hb);have kB:∀b∈B,b∈A++B:=fun b hb=>apx.mpr (.inr hb);refine⟨A++B,fun u hu=>?_,fun b hb=>?_⟩
  ·rcases apA.mp hu with e|m
   ·rw[e];exact a1.x9 kA
   ·exact(b1 u m).x9 kB
  ·rcases apx.mp hb with m|m
   ·exact(a2 b m).x9 kA
   ·exact(b2 b m).x9 kB
end
end
def XB(o:Obj):Option HO:=match o.data with
 | .seq vs _=>if(o.cls==arB "list")=true then some (.GD o (.aN (vs.toList.map KA)))else some (.GD o (.fR (vs.toList.map KA)))
 |_=>none
def qY(K:apw)(h:Heap)(A:List Addr):Hp:=fun b=>if b∈A then(if(K.lookup b).isNone=true then(h.get? b).bind XB else none)else none
def MX(H:Hp):Prop:=∀b,H b=none∨∃o u,H b=some (.GD o u)
theorem Md(vs:List Value):XB {cls:=.type "list",data:=.seq vs.toArray}=some (.GD {cls:=.type "list",data:=.seq vs.toArray} (.aN (vs.map KA))):=by
 show(if(arB "list"==arB "list")=true then some (HO.GD {cls:=.type "list",data:=.seq vs.toArray} (.aN (vs.toArray.toList.map KA)))else some (HO.GD {cls:=.type "list",data:=.seq vs.toArray} (.fR (vs.toArray.toList.map KA))))=_;rw[if_pos (beq_self_eq_true _)]
theorem Mc(vs:List Value):XB {cls:=.type "tuple",data:=.seq vs.toArray}=some (.GD {cls:=.type "tuple",data:=.seq vs.toArray} (.fR (vs.map KA))):=by
 show(if(arB "tuple"==arB "list")=true then some (HO.GD {cls:=.type "tuple",data:=.seq vs.toArray} (.aN (vs.toArray.toList.map KA)))else some (HO.GD {cls:=.type "tuple",data:=.seq vs.toArray} (.fR (vs.toArray.toList.map KA))))=_;rw[if_neg (by decide)]
section
variable{P:Program}{w:World}{K:apw}{h:Heap}{A:List Addr}
theorem C2{b:Addr}{o:Obj}(hb:b∈A)(hk:K.lookup b=none)(e:h.get? b=some o):qY K h A b=XB o:=by
 unfold qY;rw[if_pos hb,hk,if_pos (show(none:Option Obj).isNone=true from rfl),e]<;>rfl
theorem Xg{b:Addr}{u:HO}(q:qY K h A b=some u):b∈A∧K.lookup b=none:=by
 unfold qY at q;by_cases hb:b∈A
 ·rw[if_pos hb]at q;cases hk:K.lookup b with
  |none=>exact⟨hb,rfl⟩
  |some o=>
   rw[hk,if_neg (by simp)]at q;cases q
 ·rw[if_neg hb]at q;cases q
theorem C1(ar:∀a∈A,rG h A a){b:Addr}{u:HO}(q:qY K h A b=some u):K.lookup b=none∧∃vs:List Value,vs.length≤sizeLine∧(∀u∈vs,Tf A u)∧
  ((h.get? b=some {cls:=.type "list",data:=.seq vs.toArray}∧u=.GD {cls:=.type "list",data:=.seq vs.toArray} (.aN (vs.map KA)))∨
   (h.get? b=some {cls:=.type "tuple",data:=.seq vs.toArray}∧u=.GD {cls:=.type "tuple",data:=.seq vs.toArray} (.fR (vs.map KA)))):=by
 obtain⟨hb,hk⟩:=Xg q;obtain⟨vs,h1,h2,h3⟩:=ar b hb;refine⟨hk,vs,h1,h2,?_⟩;rcases h3 with e|e
 ·rw[C2 hb hk e,Md]at q;exact .inl ⟨e,(apC q).symm⟩
 ·rw[C2 hb hk e,Mc]at q;exact .inr ⟨e,(apC q).symm⟩
theorem SW(ar:∀a∈A,rG h A a):MX (qY K h A):=fun b=>by
 cases q:qY K h A b with
 |none=>exact .inl rfl
 |some u=>
  obtain⟨_,vs,_,_,⟨_,e⟩|⟨_,e⟩⟩:=C1 ar q
  ·exact .inr ⟨_,_,by rw[e]⟩
  ·exact .inr ⟨_,_,by rw[e]⟩
theorem XY(ar:∀a∈A,rG h A a):ur P w (qY K h A) h:=fun b u q=>by
 obtain⟨_,vs,h1,h2,⟨e,rfl⟩|⟨e,rfl⟩⟩:=C1 ar q
 ·exact⟨e,by rw[apt];exact h1,vs,_,oQ h2,e⟩
 ·exact⟨e,by rw[apt];exact h1,vs,oQ h2,_,e,rfl,_,rfl⟩
theorem CP{c c':Value}{vs us:List Value}(e:(some {cls:=c,data:=.seq vs.toArray}:Option Obj)=some {cls:=c',data:=.seq us.toArray}):c=c'∧vs=us:=by
 have e1:=apC e;have e2:c=c':=congrArg Obj.cls e1;have e3:auZ vs.toArray=auZ us.toArray:=congrArg Obj.data e1;injection e3 with e4;refine⟨e2,?_⟩;have e5:=congrArg auz e4;simpa using e5
theorem ain(KX:K.In h)(ar:∀a∈A,rG h A a){a:Addr}{vs:List Value}(ha:a∈A)(e:h.get? a=some {cls:=.type "list",data:=.seq vs.toArray}):(∀u∈vs,Tf A u)∧jH K (qY K h A) a (vs.map KA):=by
 obtain⟨us,h1,h2,h3⟩:=ar a ha;have hu:us=vs:=by
  rcases h3 with q|q
  ·rw[e]at q;exact(CP q).2.symm
  ·rw[e]at q;exact absurd (avi (CP q).1) (by decide)
 subst hu;refine⟨h2,?_⟩;cases hk:K.lookup a with
 |none=>exact .inl (.inr ⟨_,by rw[C2 ha hk e,Md]⟩)
 |some o=>
  have e2:=KX a o hk;rw[e]at e2;obtain rfl:=apC e2;exact .inr ⟨_,us.toArray,_,hk,rfl,rfl,rfl,by rw[apQ];exact h1,by simpa using oQ h2⟩
theorem aim(KX:K.In h)(ar:∀a∈A,rG h A a){a:Addr}{vs:List Value}(ha:a∈A)(e:h.get? a=some {cls:=.type "tuple",data:=.seq vs.toArray}):(∀u∈vs,Tf A u)∧AK K (qY K h A) a (vs.map KA):=by
 obtain⟨us,h1,h2,h3⟩:=ar a ha;have hu:us=vs:=by
  rcases h3 with q|q
  ·rw[e]at q;exact absurd (avi (CP q).1) (by decide)
  ·rw[e]at q;exact(CP q).2.symm
 subst hu;refine⟨h2,?_⟩;cases hk:K.lookup a with
 |none=>exact .inl (.inr ⟨_,by rw[C2 ha hk e,Mc]⟩)
 |some o=>
  have e2:=KX a o hk;rw[e]at e2;obtain rfl:=apC e2;exact .inr ⟨_,us.toArray,_,hk,rfl,rfl,by rw[apQ];exact h1,by simpa using oQ h2⟩
mutual
theorem aal{Pm:Params}(KX:K.In h)(ar:∀a∈A,rG h A a):∀(d:WData) (v:Value),Well Pm h v d→Qn d=true→Tf A v→Dw K (qY K h A) (KA v) d
 | .none,_,x,_,_=>by
  cases x;exact .cx
 | .bool b,_,x,_,_=>by
  cases x;exact .bl b
 | .int i,_,x,_,_=>by
  cases x;exact .int i
 | .str s,_,x,_,_=>by
  cases x;exact .str s
 | .bytes b,_,x,_,_=>by
  cases x;have z:=Dw.M6 (K:=K) (H:=qY K h A) b.toArray;exact z
 | .list ds,_,x,p,hu=>by
  obtain⟨a,vs,rfl,ho,ve⟩:=G9 x;obtain⟨h2,hs⟩:=ain KX ar hu ho;exact .aN hs (JZ KX ar ds _ ve p h2)
 | .tuple ds,_,x,p,hu=>by
  obtain⟨a,vs,rfl,ho,ve⟩:=C3 x;obtain⟨h2,hs⟩:=aim KX ar hu ho;exact .fR hs (JZ KX ar ds _ ve p h2)
 | .float _,_,_,p,_=>aqB (show false=true from p)
 | .dict _,_,_,p,_=>aqB (show false=true from p)
 | .bytearray _,_,_,p,_=>aqB (show false=true from p)
 | .set _,_,_,p,_=>aqB (show false=true from p)
 | .frozenset _,_,_,p,_=>aqB (show false=true from p)
 | .obj _ _,_,_,p,_=>aqB (show false=true from p)
theorem JZ{Pm:Params}(KX:K.In h)(ar:∀a∈A,rG h A a):∀(ds:List WData) (vs:List Value),WellAll Pm h vs ds→BX ds=true→(∀u∈vs,Tf A u)→rE K (qY K h A) (vs.map KA) ds
 |[],_,x,_,_=>by
  cases x;exact .nil
 |d::ds,_,x,p,hu=>by
  obtain⟨v,vs,rfl,x1,x2⟩:=Ha x;have q:Qn d=true∧BX ds=true:=asZ.mp p;exact .cons (aal KX ar d v x1 q.1 (hu _ (apD ..))) (JZ KX ar ds vs x2 q.2 fun u m=>hu u (apy _ m))
end
end
theorem Rv{P:Program}{w:World}{K:apw}{mg mb:Str→Option Value}{CX:Th}{k:Nat}{fa:Addr}{fd:FuncData}{ps:List Str}{sp:Sp}{s₁:Shared}{FW:List Value}{ds:List WData}{R:auY}{cl:Str→Option Addr}{d0:WData}
  (KX:K.In s₁.heap)(hns:s₁.heap.Ns mainGlobals mg)(hb:s₁.heap.Ns builtinsNs mb)(hbb:∀x:Str,x≠"__name__"→mb x=bootBuiltins x)(ahC:s₁.heap.NoLimit)(hg:s₁.gens= #[])
  (Vt:WellAll w.params s₁.heap FW ds)(Kp:BX ds=true)(hwt:∀d∈ds,d.weight≤1048576)(hr:gb k callerA)
  (F:∀base:Heap,K.In base→base.Ns mainGlobals mg→bN P w K mg base CX k fa fd ps sp)(ac0:∀(s:Shared) (us:List Value),us.length=ps.length→BindsTo s fd ⟨us,[]⟩ (ps.zip us))(hlen:ds.length=ps.length)
  (QM:∀(H:Hp) (xs:List V),MX H→rE K H xs ds→sp xs H (fun v H'=>Dw K H' v d0) fun _ _ _=>False)
  (hCX:∀H e s',CX [] H s₁ (fun _ _ _=>False) e s'→False):
  codeAny (model P w) callerA (.call (.ref fa) ⟨FW,[]⟩) (fun r s'=>∃u as,r=.ok (.ret u)∧ReadsW R cl s'.heap u d0 as∧OldK s₁.heap s'.heap∧s'.os=s₁.os∧AllBare s'.gens) s₁:=by
 obtain⟨A,ho,ar⟩:=yM ds FW Vt Kp hwt;have hO:MX (qY K s₁.heap A):=SW ar;have du:ur P w (qY K s₁.heap A) s₁.heap:=XY ar;have hS:=JZ KX ar ds FW Vt Kp ho;have hV:=oQ ho;have hK:∀b u,qY K s₁.heap A b=some u→K.lookup b=none:=fun b u q=>(C1 ar q).1;have noA:∀{b:Addr} {o:Obj} {es:Array DictEntry} {ep:Nat},s₁.heap.get? b=some o→o.data=.dict es ep→qY K s₁.heap A b=none:=fun{b o es ep} e d=>by
  cases q:qY K s₁.heap A b with
  |none=>rfl
  |some u=>
   obtain⟨_,vs,_,_,⟨e2,_⟩|⟨e2,_⟩⟩:=C1 ar q
   ·rw[e2]at e;cases e;have d':auZ vs.toArray _=Data.dict es ep:=d;cases d'
   ·rw[e2]at e;cases e;have d':auZ vs.toArray _=Data.dict es ep:=d;cases d'
 generalize qY K s₁.heap A=H at hO du hS hK noA;have Ri:∀{b:Addr} {o:Obj},s₁.heap.get? b=some o→H b=none→(JJ s₁.heap H).get? b=some o:=fun e n=>VB e n;have nsK:∀{b:Addr} {m:Str→Option Value},s₁.heap.Ns b m→(JJ s₁.heap H).Ns b m:=fun{b m} ⟨o,es,ep,e,d,r⟩=>⟨o,es,ep,Ri e (noA e d),d,r⟩;have nK:∀b o,K.lookup b=some o→H b=none:=fun b o e=>by
  cases q:H b with
  |none=>rfl
  |some u=>
   rw[hK b u q]at e;cases e
 have hKb:K.In (JJ s₁.heap H):=fun b o e=>Ri (KX b o e) (nK b o e);have hM:Mod K mg (JJ s₁.heap H):=⟨hKb,nsK hns,⟨mb,nsK hb,hbb⟩,let⟨mc,h1,h2⟩:=ahC;⟨mc,nsK h1,h2⟩⟩;have e0:PU P w K mg (JJ s₁.heap H) callerA [] s₁ H:=⟨rfl,hM,fun b o e=>Xf e,atx (Sn _ _),trivial,fun b hb=>absurd (show b∈([]:List Addr)from hb) (by simp),du,.of_eq hg⟩;have hl:FW.length=ps.length:=by rw[mT Vt];exact hlen
 refine codeAny_mono ((F _ hKb (nsK hns)).run callerA [] s₁ H ⟨FW,[]⟩ FW (FW.map KA) _ _ hr e0 (ac0 s₁ FW hl) hV (QM H _ hO hS)) fun r s' x=>?_;cases r with
 |error e=>exact(hCX H e s' x).elim
 |ok fl=>
  cases fl with
  |next=>exact aqW x
  |brk=>exact aqW x
  |cont=>exact aqW x
  |ret u=>
   obtain⟨v,H',os,qV,un,acK,r',q⟩:=x;have kept:∀b o,s₁.heap.get? b=some o→s'.heap.get? b=some o:=fun b o e=>by
    cases q2:H b with
    |none=>exact un.keep b o e q2 (by intro z;exact absurd (show b∈([]:List Addr)from z) (by simp)) (by simp)
    |some u2=>
     rcases hO b with z|⟨ob,u3,z⟩
     ·rw[q2]at z;cases z
     ·have z2:=un.JU b ob _ z;obtain⟨e1,_⟩:=du b _ z;obtain⟨e2,_⟩:=acK b _ z2;rw[e]at e1;cases e1;exact e2
   have KX':K.In s'.heap:=fun b o e=>kept b o (KX b o e);obtain⟨as,Xx⟩:=Dw.reads (R:=R) (cl:=cl) acK KX' d0 v u q r';exact⟨u,as,rfl,Xx,OldK.of_keep kept,os,qV⟩
theorem EB{ds:List WData}(h:WData.layableAll ds=true):∀d∈ds,d.weight≤1048576:=fun d hd=>
 (PySem.W.layableW_iff.mp (aqn.mp h d hd)).2.2
theorem E9:∀(cs:List Codec) (a:Codec.denoteAll cs),(Codec.encAll cs a).length=cs.length
 |[],_=>rfl
 |c::cs,a=>by
  show(Codec.encAll cs a.2).length+1=cs.length+1;rw[E9 cs a.2]
theorem Rn{r:OpenSpec}{k:Nat}{q:Program}{loose:List Str}{XP:(Str→Option Value)→Heap→Prop}{YP:World→Heap→Prop}{d:DefRec}{K:Params→apw}{CX:World→Th}{ps:List Str}{sp:World→Sp}
  (Vu:r.wellSaid=true)(hdf:d.params.defaults=[])(hlen:r.args.length=ps.length)(hr:gb k callerA)
  (hY:∀(w:World) (h:Heap),YP w h→(K w.params).In h)
  (F:∀(w:World) (mg:Str→Option Value) (fa:Addr) (h:Heap),YP w h→(K w.params).In h→h.Ns mainGlobals mg→mg d.name=some (.ref fa)→
   ∃fd:FuncData,(∀(s:Shared) (us:List Value),us.length=ps.length→BindsTo s fd ⟨us,[]⟩ (ps.zip us))∧
    ∀base:Heap,(K w.params).In base→base.Ns mainGlobals mg→bN r.prog w (K w.params) mg base (CX w) k fa fd ps (sp w))
  (QM:∀(w:World) (H:Hp) (xs:List V) (a:Codec.denoteAll r.args),MX H→Codec.withinAll r.args a=true→Codec.app r.args r.asked a=true→rE (K w.params) H xs (Codec.encAll r.args a)→
   sp w xs H (fun v H'=>Dw (K w.params) H' v (r.ret.enc (Codec.app r.args r.f a))) fun _ _ _=>False)
  (hCX:∀(w:World) (H:Hp) (s:Shared) (e:Value) (s':Shared),CX w [] H s (fun _ _ _=>False) e s'→False):
  avj q loose XP YP r d [] (fun f vs=>awg f vs):=by
 intro w Hq s₁ mg mb G Y fa o pm cd doc dV kV ho hd Bi hD hmg hg args FW as ahl ahD Xx Vt dP;obtain⟨a,e1,e2⟩:=PySem.W.os_pre_some ahl;obtain⟨e3,hwi⟩:=Codec.encAll_of_decAll r.args args a e1;subst e3;have KX:=hY w _ Y;obtain⟨fd,hb,hF⟩:=F w mg fa _ Y KX G.T.g hmg;refine PySem.W.enter_call (codeAny_mono (Rv (R:=[]) (cl:=classAt Hq.heap) (d0:=r.ret.enc (Codec.app r.args r.f a)) KX G.T.g G.T.b G.T.builtins G.T.nolimit hg Vt (Hv _ _) (EB ahD) hr hF hb (by rw[E9];exact hlen)
  (fun H xs hO hS=>QM w H xs a hO hwi e2 hS) fun H e s'=>hCX w H s₁ e s') fun r' s' hq=>?_)
 obtain⟨u,as',rfl,h1,h2,h3,h4⟩:=hq;exact⟨.inl ⟨u,_,as',rfl,fun _=>rfl,h1,(OpenSpec.post_iff Vu hwi _ _).mpr rfl,fun z=>aqB (show false=true from z)⟩,h2,h3,h4⟩
theorem M9{r:OpenSpec}{k:Nat}{q:Program}{loose:List Str}{XP:(Str→Option Value)→Heap→Prop}{YP:World→Heap→Prop}{d:DefRec}{K:Params→apw}{CX:Th}{ps:List Str}{sp:apw→Sp}
  (Vu:r.wellSaid=true)(hdf:d.params.defaults=[])(hlen:r.args.length=ps.length)(hr:gb k callerA)
  (hY:∀(w:World) (h:Heap),YP w h→(K w.params).In h)
  (F:∀(w:World) (mg:Str→Option Value) (fa:Addr) (h:Heap),YP w h→(K w.params).In h→h.Ns mainGlobals mg→mg d.name=some (.ref fa)→
   ∃fd:FuncData,(∀(s:Shared) (us:List Value),us.length=ps.length→BindsTo s fd ⟨us,[]⟩ (ps.zip us))∧
    ∀base:Heap,(K w.params).In base→base.Ns mainGlobals mg→bN r.prog w (K w.params) mg base CX k fa fd ps (sp (K w.params)))
  (QM:∀(K:apw) (H:Hp) (xs:List V) (a:Codec.denoteAll r.args),MX H→Codec.withinAll r.args a=true→Codec.app r.args r.asked a=true→rE K H xs (Codec.encAll r.args a)→
   sp K xs H (fun v H'=>Dw K H' v (r.ret.enc (Codec.app r.args r.f a))) fun _ _ _=>False)
  (hCX:∀(H:Hp) (s:Shared) (e:Value) (s':Shared),CX [] H s (fun _ _ _=>False) e s'→False):
  avj q loose XP YP r d [] (fun f vs=>awg f vs):=
 Rn (K:=K) (CX:=fun _=>CX) (sp:=fun w=>sp (K w.params)) Vu hdf hlen hr hY F (fun w H xs a h1 h2 h3 h4=>QM (K w.params) H xs a h1 h2 h3 h4) fun _ H s e s'=>hCX H s e s'
end L2.Internal
end
namespace Pb.Internal
open Po
theorem dC(c:UInt8):∀b:Bytes,cutAt c b≠[]
 |[]=>by simp[cutAt]
 |x::r=>by
  unfold cutAt;split
  ·simp
  ·split<;>simp
theorem fT(c:UInt8)(r:Bytes):cutAt c (c::r)=[]::cutAt c r:=by
 rw[cutAt,if_pos rfl]
theorem eD{c x:UInt8}(h:x≠c){r:Bytes}{w:Bytes}{l:List Bytes}(e:cutAt c r=w::l):cutAt c (x::r)=(x::w)::l:=by
 rw[cutAt,if_neg h,e]
theorem cI{w:Bytes}{l:List Bytes}(h:l≠[]):spaced (w::l)=w++32::spaced l:=by
 cases l with
 |nil=>exact absurd rfl h
 |cons a l=>rfl
theorem p8:∀b:Bytes,spaced (cutAt 32 b)=b
 |[]=>rfl
 |x::r=>by
  have ih:=p8 r;by_cases h:x=32
  ·subst h;rw[fT,cI (dC _ _),ih];rfl
  ·cases e:cutAt 32 r with
   |nil=>exact absurd e (dC _ _)
   |cons w l=>
    rw[eD h e];rw[e]at ih;cases l with
    |nil=>simp only[spaced]at ih ⊢;rw[ih]
    |cons a l=>simp only[spaced]at ih ⊢;rw[←ih];rfl
theorem HW(c:UInt8):∀(b:Bytes),c∉b→cutAt c b=[b]
 |[],_=>rfl
 |x::r,h=>by
  have hx:x≠c:=fun e=>h (by simp[e]);have hr:c∉r:=fun e=>h (by simp[e]);exact eD hx (HW c r hr)
theorem HX(c:UInt8):∀(w b:Bytes),c∉w→cutAt c (w++c::b)=w::cutAt c b
 |[],b,_=>fT c b
 |x::r,b,h=>by
  have hx:x≠c:=fun e=>h (by simp[e]);have hr:c∉r:=fun e=>h (by simp[e]);exact eD hx (HX c r b hr)
theorem yA:∀(l:List Bytes),l≠[]→(∀w∈l,(32:UInt8)∉w)→cutAt 32 (spaced l)=l
 |[],h,_=>absurd rfl h
 |[w],_,h=>HW 32 w (h w (by simp))
 |w::a::l,_,h=>by
  rw[cI (by simp),HX 32 w _ (h w (by simp)),yA (a::l) (by simp) fun x hx=>h x (apy _ hx)]
theorem sf:∀(b:Bytes),splitLines b=(if(cutAt 10 b).getLast? =some []then(cutAt 10 b).dropLast else cutAt 10 b)
 |[]=>rfl
 |x::r=>by
  have ih:=sf r;by_cases h:x=10
  ·subst h;rw[splitLines,if_pos rfl,fT,ih];cases e:cutAt 10 r with
   |nil=>exact absurd e (dC _ _)
   |cons v l=>
    rw[aqV];split
    ·simp
    ·rfl
  ·rw[splitLines,if_neg h,ih];cases e:cutAt 10 r with
   |nil=>exact absurd e (dC _ _)
   |cons v l=>
    rw[eD h e];cases l with
    |nil=>
     cases v with
     |nil=>simp
     |cons y v=>simp
    |cons a l=>
     rw[aqV,aqV];by_cases q:(a::l).getLast? =some []
     ·rw[if_pos q,if_pos q];rfl
     ·rw[if_neg q,if_neg q]
theorem MM:∀(b:Bytes),(!b.isEmpty&&b.getLast? != some 10)=decide ((cutAt 10 b).getLast? ≠some [])
 |[]=>rfl
 |x::r=>by
  have ih:=MM r;by_cases h:x=10
  ·subst h;rw[fT];cases r with
   |nil=>rfl
   |cons y r=>
    cases e:cutAt 10 (y::r)with
    |nil=>exact absurd e (dC _ _)
    |cons v l=>
     rw[e]at ih;rw[aqV,aqV,←ih];rfl
  ·cases r with
   |nil=>simp[cutAt,h]
   |cons y r=>
    cases e:cutAt 10 (y::r)with
    |nil=>exact absurd e (dC _ _)
    |cons v l=>
     rw[e]at ih;rw[eD h e,aqV];cases l with
     |nil=>
      have hv:v≠[]:=by
       intro hv;subst hv;have:=e;unfold cutAt at this;split at this
       ·rename_i q;have z:=(aqI this).2;exact dC _ _ z
       ·split at this<;>simp at this
      have:decide (([v]:List Bytes).getLast? ≠some [])=true:=by simp[hv]
      rw[this]at ih;simp at ih ⊢;exact ih
     |cons a l=>
      rw[aqV]at ih ⊢;rw[←ih];rfl
def bP:Nat→Dir→List Bytes→Except (Nat×Nat) Dir
 |_,d,[]=>.ok d
 |k,d,b::r=>match lineIn b with
  |none=>.error (k,1)
  |some x=>if wrongOf d x=0 then bP (k+1) (d++[x]) r else .error (k,wrongOf d x)
theorem vH:∀(l:List Bytes) (k:Nat) (d:Dir),dirFrom false k d l=bP k d l
 |[],_,_=>rfl
 |b::r,k,d=>by
  rw[dirFrom,bP];have e:(if(false&&r.isEmpty)=true then none else lineIn b)=lineIn b:=by simp
  rw[e];cases lineIn b with
  |none=>rfl
  |some x=>
   show(if wrongOf d x=0 then dirFrom false (k+1) (d++[x]) r else _)=(if wrongOf d x=0 then bP (k+1) (d++[x]) r else _);rw[vH r]
theorem yw:∀(l:List Bytes) (u:Bytes) (k:Nat) (d:Dir),dirFrom true k d (l++[u])=(match bP k d l with| .ok _=>.error (k+l.length,1)| .error e=>.error e)
 |[],u,k,d=>by simp[dirFrom,bP]
 |b::r,u,k,d=>by
  rw[aqx,dirFrom,bP];have e:(if(true&&(r++[u]).isEmpty)=true then none else lineIn b)=lineIn b:=by simp
  rw[e];cases lineIn b with
  |none=>rfl
  |some x=>
   show(if wrongOf d x=0 then dirFrom true (k+1) (d++[x]) (r++[u])else _)=(match(if wrongOf d x=0 then bP (k+1) (d++[x]) r else _)with| .ok _=>.error (k+(b::r).length,1)| .error e=>.error e);rw[yw r];by_cases q:wrongOf d x=0
   ·rw[if_pos q,if_pos q,apz];have e2:k+1+r.length=k+(r.length+1):=by omega
    rw[e2]
   ·rw[if_neg q,if_neg q]
theorem lx(b:Bytes)(rows:List Bytes)(u:Bytes)(e:cutAt 10 b=rows++[u]):
  readDir b=(match bP 0 [] rows with| .ok d=>if u=[]then .ok d else .error (rows.length,1)| .error e=>.error e):=by
 unfold readDir;rw[MM,sf,e,List.getLast?_append];by_cases h:u=[]
 ·subst h;simp only[atP,avk,ne_eq,not_true_eq_false,decide_false,if_true,auj];rw[vH];cases bP 0 [] rows<;>rfl
 ·have h':¬(some u:Option Bytes)=some []:=fun q=>h (apC q);simp only[atP,avk,ne_eq,h',not_false_eq_true,decide_true,if_neg,h];rw[yw];simp
theorem wW:∀(l m:List Bytes) (k:Nat) (d:Dir),bP k d (l++m)=(match bP k d l with| .ok d'=>bP (k+l.length) d' m| .error e=>.error e)
 |[],m,k,d=>by simp[bP]
 |b::r,m,k,d=>by
  rw[aqx,bP,bP];cases lineIn b with
  |none=>rfl
  |some x=>
   show(if wrongOf d x=0 then bP (k+1) (d++[x]) (r++m)else _)=(match(if wrongOf d x=0 then bP (k+1) (d++[x]) r else _)with| .ok d'=>bP (k+(b::r).length) d' m| .error e=>.error e);rw[wW r];by_cases q:wrongOf d x=0
   ·rw[if_pos q,if_pos q,apz];have e2:k+1+r.length=k+(r.length+1):=by omega
    rw[e2]
   ·rw[if_neg q,if_neg q]
theorem wV:∀(l:List Bytes) (k:Nat) (d d':Dir),bP k d l=.ok d'→d'.length=d.length+l.length
 |[],k,d,d',h=>by cases h;simp
 |b::r,k,d,d',h=>by
  rw[bP]at h;cases e:lineIn b with
  |none=>rw[e]at h;cases h
  |some x=>
   rw[e]at h;replace h:(if wrongOf d x=0 then bP (k+1) (d++[x]) r else .error (k,wrongOf d x))=asP d':=h;by_cases q:wrongOf d x=0
   ·rw[if_pos q]at h;have:=wV r _ _ _ h;simp at this ⊢;omega
   ·rw[if_neg q]at h;cases h
theorem nB{b:Bytes}{x:DLine}(h:lineIn b=some x):x.ok=true∧x.text=b:=by
 unfold lineIn at h;cases e:lineMaybe b with
 |none=>rw[e]at h;cases h
 |some y=>
  rw[e]at h;replace h:(if y.ok=true∧y.text=b then some y else none)=some x:=h;by_cases q:y.ok=true∧y.text=b
  ·rw[if_pos q]at h;cases h;exact q
  ·rw[if_neg q]at h;cases h
theorem J1(d:Dir)(x:DLine):dirText (d++[x])=dirText d++(x.text++[10]):=by
 unfold dirText;rw[aqR];simp
theorem Bj:∀(l:List Bytes) (k:Nat) (d d':Dir),bP k d l=.ok d'→dirText d'=dirText d++l.flatMap fun b=>b++[10]
 |[],k,d,d',h=>by cases h;simp
 |b::r,k,d,d',h=>by
  rw[bP]at h;cases e:lineIn b with
  |none=>rw[e]at h;cases h
  |some x=>
   rw[e]at h;replace h:(if wrongOf d x=0 then bP (k+1) (d++[x]) r else .error (k,wrongOf d x))=asP d':=h;by_cases q:wrongOf d x=0
   ·rw[if_pos q]at h;rw[Bj r _ _ _ h,J1,(nB e).2,aqK,aqF]
   ·rw[if_neg q]at h;cases h
theorem qR:∀(b:Bytes) (rows:List Bytes) (u:Bytes),cutAt 10 b=rows++[u]→(rows.flatMap fun x=>x++[10])++u=b
 |[],rows,u,e=>by
  have e':[[]]=rows++[u]:=e;cases rows with
  |nil=>simp at e';simp[←e']
  |cons a r=>simp at e'
 |x::r,rows,u,e=>by
  by_cases h:x=10
  ·subst h;rw[fT]at e;cases rows with
   |nil=>
    have:=(aqI e).2;exact absurd this (dC _ _)
   |cons a rows=>
    rw[aqx]at e;obtain⟨e1,e2⟩:=aqI e;rw[aqK,←e1,aqF,qR r rows u e2];rfl
  ·cases e1:cutAt 10 r with
   |nil=>exact absurd e1 (dC _ _)
   |cons w l=>
    rw[eD h e1]at e;cases rows with
    |nil=>
     obtain⟨q1,q2⟩:=aqI (show(x::w)::l=[u]from e);have:=qR r [] w (by rw[e1,q2];rfl);simp at this;simp[←q1,this]
    |cons a rows=>
     rw[aqx]at e;obtain⟨q1,q2⟩:=aqI e;have:=qR r (w::rows) u (by rw[e1,q2];rfl);rw[aqK]at this ⊢;rw[←q1,←this];simp
theorem xG{b:Bytes}{d:Dir}(h:readDir b=.ok d):dirText d=b:=by
 obtain⟨rows,u,e⟩:∃rows u,cutAt 10 b=rows++[u]:=⟨_,_,(aru (dC 10 b)).symm⟩;rw[lx b rows u e]at h;cases q:bP 0 [] rows with
 |error e=>rw[q]at h;cases h
 |ok d'=>
  rw[q]at h;replace h:(if u=[]then asP d' else .error (rows.length,1))=asP d:=h;by_cases hu:u=[]
  ·rw[if_pos hu]at h;cases h;have:=Bj rows 0 [] d q;rw[this,←qR b rows u e,hu];simp[dirText]
  ·rw[if_neg hu]at h;cases h
def ll(s:Bytes):Bool:= !s.isEmpty&&(s.all isDigit&&(s.length==1||s.head? != some 48))
theorem gQ{c:UInt8}:isDigit c=true↔48≤c.toNat∧c.toNat≤57:=by
 unfold isDigit;rw[apv,decide_eq_true_iff,decide_eq_true_iff,ap7,ap7];exact asu
theorem t7(d:Nat)(h:d<10):apM (atn d).toNat=apM (48+d):=by
 match d,h with
 |0,_=>rfl|1,_=>rfl|2,_=>rfl|3,_=>rfl|4,_=>rfl
 |5,_=>rfl|6,_=>rfl|7,_=>rfl|8,_=>rfl|9,_=>rfl
 |d+10,h=>exact absurd h (by omega)
theorem gI(n:Nat):decimal n=if n<10 then[apM (48+n)]else decimal (n / 10)++[apM (48+n % 10)]:=by
 unfold decimal;rw[Nat.toDigits_eq_if (by decide)];by_cases h:n<10
 ·rw[if_pos h,if_pos h,auF,t7 n h]
 ·rw[if_neg h,if_neg h,apB,auF,t7 _ (arP _ (by decide))]
theorem Eg(s:Bytes)(c:UInt8):natIn (s++[c])=10*natIn s+(c.toNat-48):=by
 unfold natIn;rw[ats];rfl
theorem Fl(n:Nat):decimal n≠[]:=by
 rw[gI];split<;>simp
theorem uc(d:Nat)(h:d<10):(apM (48+d)).toNat=48+d:=by
 rw[auG];omega
theorem cP(n:Nat):natIn (decimal n)=n:=by
 induction n using as0 with
 |ind n ih=>
  rw[gI];by_cases h:n<10
  ·rw[if_pos h];show 10*0+((apM (48+n)).toNat-48)=n;rw[uc n h];omega
  ·rw[if_neg h,Eg,ih (n / 10) (by omega),uc _ (arP _ (by decide))];omega
theorem kj(n:Nat):ll (decimal n)=true:=by
 have all:∀n,(decimal n).all isDigit=true:=by
  intro n
  induction n using as0 with
  |ind n ih=>
   rw[gI];have hd:∀d,d<10→isDigit (apM (48+d))=true:=fun d h=>by rw[gQ,uc d h];omega
   by_cases h:n<10
   ·rw[if_pos h,aqZ,hd n h];rfl
   ·rw[if_neg h,arQ,ih (n / 10) (by omega),aqZ,hd _ (arP n (by decide:10>0))];rfl
 have hd:∀n,0<n→(decimal n).head? ≠some 48:=by
  intro n
  induction n using as0 with
  |ind n ih=>
   intro hn;rw[gI];by_cases h:n<10
   ·rw[if_pos h];intro e;have e':apM (48+n)=48:=apC e;have:=congrArg av9 e';rw[uc n h]at this;have h48:(48:UInt8).toNat=48:=rfl;omega
   ·rw[if_neg h];cases q:decimal (n / 10)with
    |nil=>exact absurd q (Fl _)
    |cons a l=>
     have:=ih (n / 10) (by omega) (by omega);rw[q]at this;exact this
 unfold ll;have h1:(decimal n).isEmpty=false:=by
  cases q:decimal n with
  |nil=>exact absurd q (Fl n)
  |cons a l=>rfl
 rw[h1,all n];by_cases h:n<10
 ·have:decimal n=[apM (48+n)]:=by rw[gI,if_pos h]
  rw[this];rfl
 ·have:=hd n (by omega);simp[this]
theorem SO:∀(s:Bytes),ll s=true→s.head? ≠some 48→0<natIn s:=by
 have key:∀(r:Bytes) (a:Nat),0<a→0<r.foldl (fun(n:Nat) (c:UInt8)=>10*n+(c.toNat-48)) a:=by
  intro r
  induction r with
  |nil=>intro a h;exact h
  |cons x r ih=>intro a h;exact ih _ (ap9 (show 0<10*a by omega) (aqC _ _))
 intro s hc hh;cases s with
 |nil=>cases hc
 |cons x r=>
  have hx:isDigit x=true:=by
   unfold ll at hc;simp at hc;exact hc.1.1
  rw[gQ]at hx;have:x.toNat≠48:=fun e=>hh (by
   have:x=48:=arR.mp (by rw[e];rfl);rw[this];rfl)
  exact key r _ (ap9 (show 0<x.toNat-48 by omega) (aqz _ _))
theorem vK:∀(k:Nat) (s:Bytes),s.length=k→ll s=true→decimal (natIn s)=s
 |0,s,hk,hc=>by
  have:s=[]:=aqN.mp hk;subst this;cases hc
 |k+1,s,hk,hc=>by
  have Bf:s≠[]:=by intro e;subst e;cases hc
  obtain⟨t,c,rfl⟩:∃t c,s=t++[c]:=⟨_,_,(aru Bf).symm⟩;have hcc:=hc;unfold ll at hc;rw[apv,apv,arQ,apv]at hc;obtain⟨_,⟨ht,Bi⟩,hz⟩:=hc;have acY:isDigit c=true:=by simpa using Bi
  rw[gQ]at acY;have hc8:apM (48+(c.toNat-48))=c:=arR.mp (by rw[uc _ (by omega)];omega);rw[Eg];cases t with
  |nil=>
   show decimal (10*0+(c.toNat-48))=[c];rw[gI,if_pos (by omega),avU,ar2,hc8]
  |cons x r=>
   have hx:x≠48:=by
    intro e;subst e;simp at hz
   have ct:ll (x::r)=true:=by
    unfold ll;rw[ht];simp[hx]
   have hp:=SO (x::r) ct (by simp[hx]);have ih:=vK k (x::r) (by simpa using hk) ct;rw[gI,if_neg (by omega)];have e1:(10*natIn (x::r)+(c.toNat-48)) / 10=natIn (x::r):=by omega
   have e2:(10*natIn (x::r)+(c.toNat-48)) % 10=c.toNat-48:=by omega
   rw[e1,e2,ih,hc8]
theorem nM(s:Bytes):decimal (natIn s)=s↔ll s=true:=
 ⟨fun h=>by rw[←h];exact kj _,vK _ s rfl⟩
theorem t8(n k:Nat)(hk:0<k):(decimal n).length≤k↔n<10 ^ k:=by
 unfold decimal;rw[apt];exact Nat.length_toDigits_le_iff (by decide) hk
theorem J5{s:Bytes}(h:ll s=true)(k:Nat)(hk:0<k):s.length≤k↔natIn s<10 ^ k:=by
 rw[←t8 _ k hk,(nM s).mpr h]
def cw:List Name→List Bytes
 |[]=>[]
 |[w]=>w
 |w::r=>w++[124]::cw r
theorem eX{w:Name}{l:List Name}(h:l≠[]):cw (w::l)=w++[124]::cw l:=by
 cases l with
 |nil=>exact absurd rfl h
 |cons a l=>rfl
theorem wH:∀r:List Bytes,namesIn r≠[]
 |[]=>by simp[namesIn]
 |w::r=>by
  unfold namesIn;split
  ·simp
  ·split<;>simp
theorem ly{w:Bytes}{r:List Bytes}{n:Name}{l:List Name}(e:namesIn r=n::l):namesIn (w::r)=if w=[124]then[]::n::l else(w::n)::l:=by
 rw[namesIn,e]
theorem jb:∀r:List Bytes,cw (namesIn r)=r
 |[]=>rfl
 |w::r=>by
  have ih:=jb r;cases e:namesIn r with
  |nil=>exact absurd e (wH r)
  |cons n l=>
   rw[ly e];rw[e]at ih;by_cases h:w=[124]
   ·rw[if_pos h,eX (by simp),ih,h];rfl
   ·rw[if_neg h];cases l with
    |nil=>simp only[cw]at ih ⊢;rw[ih]
    |cons a l=>rw[eX (by simp)]at ih ⊢;rw[aqx,ih]
theorem sV:∀(w:Name) (r:List Bytes) (n:Name) (l:List Name),(∀x∈w,x≠[124])→namesIn r=n::l→namesIn (w++r)=(w++n)::l
 |[],r,n,l,_,e=>e
 |x::w,r,n,l,h,e=>by
  rw[aqx,ly (sV w r n l (fun y hy=>h y (apy _ hy)) e),if_neg (h x (by simp))];rfl
theorem fX:∀(l:List Name),l≠[]→(∀n∈l,∀x∈n,x≠[124])→namesIn (cw l)=l
 |[],h,_=>absurd rfl h
 |[n],_,h=>by
  show namesIn n=[n];have:=sV n [] [] [] (h n (by simp)) rfl;simpa using this
 |n::a::l,_,h=>by
  rw[eX (by simp)];have ih:=fX (a::l) (by simp) fun m hm=>h m (apy _ hm);have e1:namesIn ([124]::cw (a::l))=[]::a::l:=by
   rw[ly ih,if_pos rfl]
  have:=sV n _ _ _ (h n (by simp)) e1;simpa using this
theorem v8:∀(u v:List Bytes),u≠[]→v≠[]→spaced (u++v)=spaced u++32::spaced v
 |[],_,h,_=>absurd rfl h
 |[w],v,_,hv=>by rw[asQ,cI hv];rfl
 |w::a::u,v,_,hv=>by
  rw[aqx,cI (l:=(a::u)++v) (by simp),v8 (a::u) v (by simp) hv,cI (w:=w) (l:=a::u) (by simp),aqF];rfl
theorem qo:∀{l:List Name},l≠[]→(∀n∈l,n≠[])→cw l≠[]
 |[],h,_=>absurd rfl h
 |[n],_,h=>h n (by simp)
 |n::a::l,_,_=>by rw[eX (by simp)];simp
theorem ic:∀(l:List Name),(∀n∈l,n≠[])→namesText l=spaced (cw l)
 |[],_=>rfl
 |[n],_=>rfl
 |n::a::l,h=>by
  have hn:n≠[]:=h n (by simp);have hr:∀m∈a::l,m≠[]:=fun m hm=>h m (apy _ hm);rw[eX (by simp),v8 n _ hn (by simp),cI (qo (by simp) hr),←ic (a::l) hr];show spaced n++(ascii " | "++namesText (a::l))=_;rfl
def wordsOf:DLine→List Bytes
 | .town l=>ascii "town"::cw l
 | .code c=>[ascii "code",c]
 | .street l=>ascii "street"::cw l
 | .span s=>ascii "span"::([SIDES.getD s.side [],decimal s.a,decimal s.b,s.code,decimal s.walk,decimal s.first]++(if s.back=true then[ascii "back"]else[]))
 | .letters n c d=>[ascii "letters",decimal n,[c],[d]]
 | .boxes x=>[ascii "boxes",decimal x.a,decimal x.b,x.code,decimal x.walk,decimal x.first]
theorem dH{l:List Name}(h:namesOk l=true):l≠[]∧∀n∈l,1≤n.length∧n.length≤8∧∀w∈n,fullWord w=true:=by
 unfold namesOk at h;rw[apv]at h;refine⟨by rintro rfl;simp at h,fun n hn=>?_⟩;have:=aqn.mp h.2 n hn;unfold nameOk within at this;simp only[apv,decide_eq_true_eq]at this;exact⟨this.1.1,this.1.2,fun w hw=>aqn.mp this.2 w hw⟩
theorem lD{c:UInt8}(h:isLetter c=true):c≠32∧c≠124∧c≠10:=by
 refine⟨?_,?_,?_⟩<;>(rintro rfl;revert h;decide)
theorem dQ{w:Bytes}(h:fullWord w=true):w≠[]∧w.length≤32∧∀c∈w,isLetter c=true:=by
 unfold fullWord wordOk LONG at h;simp only[apv,decide_eq_true_eq,arX,List.isEmpty_eq_false_iff]at h;exact⟨h.2,h.1.1,fun c hc=>aqn.mp h.1.2 c hc⟩
theorem Mn{w:Bytes}(h:fullWord w=true):(32:UInt8)∉w:=fun q=>(lD ((dQ h).2.2 _ q)).1 rfl
theorem qE{w:Bytes}(h:fullWord w=true):w≠[124]:=by
 rintro rfl;exact(lD ((dQ h).2.2 124 (by simp))).2.1 rfl
theorem Aw{w:Bytes}(h:codeOk w=true):(32:UInt8)∉w:=fun q=>by
 unfold codeOk at h;rw[apv]at h;exact(lD (aqn.mp h.2 _ q)).1 rfl
theorem EK{c:UInt8}(h:isDigit c=true):isLetter c=true:=by unfold isLetter;rw[h];rfl
theorem fC(n:Nat):(32:UInt8)∉decimal n:=fun q=>by
 have h:=kj n;unfold ll at h;rw[apv,apv]at h;exact(lD (EK (aqn.mp h.2.1 _ q))).1 rfl
theorem vv:∀{l:List Name} {w:Bytes},w∈cw l→w=[124]∨∃n∈l,w∈n
 |[],w,h=>by simp[cw]at h
 |[n],w,h=>.inr ⟨n,by simp,h⟩
 |n::a::l,w,h=>by
  rw[eX (by simp)]at h;rcases apx.mp h with h|h
  ·exact .inr ⟨n,by simp,h⟩
  ·rcases apA.mp h with h|h
   ·exact .inl h
   ·rcases vv h with h|⟨m,hm,h⟩
    ·exact .inl h
    ·exact .inr ⟨m,apy _ hm,h⟩
theorem A0{k:Nat}(h:k≤2):(k=0∧SIDES.getD k []=ascii "all")∨(k=1∧SIDES.getD k []=ascii "odd")∨(k=2∧SIDES.getD k []=ascii "even"):=by
 match k,h with
 |0,_=>exact .inl ⟨rfl,rfl⟩
 |1,_=>exact .inr (.inl ⟨rfl,rfl⟩)
 |2,_=>exact .inr (.inr ⟨rfl,rfl⟩)
 |k+3,h=>omega
theorem sh{c:UInt8}(h:smallLetter c=true):(32:UInt8)∉[c]:=by
 intro q;have:c=32:=(ap2.mp q).symm;subst this;revert h;decide
theorem M7{x:DLine}(h:x.ok=true):∀w∈wordsOf x,(32:UInt8)∉w:=by
 have names:∀{l:List Name},namesOk l=true→∀w∈cw l,(32:UInt8)∉w:=fun{l} h w hw=>by
  rcases vv hw with rfl|⟨n,hn,hw⟩
  ·decide
  ·exact Mn (((dH h).2 n hn).2.2 w hw)
 cases x with
 |town l=>
  intro w hw;rcases apA.mp hw with rfl|hw
  ·decide
  ·exact names h w hw
 |street l=>
  intro w hw;rcases apA.mp hw with rfl|hw
  ·decide
  ·exact names h w hw
 |code c=>
  intro w hw;simp only[wordsOf,apA,arF,or_false]at hw;rcases hw with rfl|rfl
  ·decide
  ·exact Aw h
 |span s=>
  simp only[DLine.ok,apv,decide_eq_true_eq]at h;intro w hw;have hs:(32:UInt8)∉SIDES.getD s.side []:=by
   rcases A0 h.1 with⟨_,e⟩|⟨_,e⟩|⟨_,e⟩<;>rw[e]<;>decide
  simp only[wordsOf,apA,apx,arF,or_false]at hw;rcases hw with rfl|(rfl|rfl|rfl|rfl|rfl|rfl)|hw
  ·decide
  ·exact hs
  ·exact fC _
  ·exact fC _
  ·exact Aw h.2.2.2.2.2.1
  ·exact fC _
  ·exact fC _
  ·split at hw
   ·simp at hw;subst hw;decide
   ·simp at hw
 |letters n c d=>
  simp only[DLine.ok,apv,decide_eq_true_eq]at h;intro w hw;simp only[wordsOf,apA,arF,or_false]at hw;rcases hw with rfl|rfl|rfl|rfl
  ·decide
  ·exact fC _
  ·exact sh h.2.1
  ·exact sh h.2.2.1
 |boxes y=>
  simp only[DLine.ok,apv,decide_eq_true_eq]at h;intro w hw;simp only[wordsOf,apA,arF,or_false]at hw;rcases hw with rfl|rfl|rfl|rfl|rfl|rfl
  ·decide
  ·exact fC _
  ·exact fC _
  ·exact Aw h.2.2.1
  ·exact fC _
  ·exact fC _
theorem C6{x:DLine}(h:x.ok=true):x.text=spaced (wordsOf x):=by
 cases x with
 |town l=>
  obtain⟨h1,h2⟩:=dH h;have h3:∀n∈l,n≠[]:=fun n hn e=>by have:=(h2 n hn).1;rw[e]at this;simp at this
  show ascii "town "++namesText l=spaced (ascii "town"::cw l);rw[cI (qo h1 h3),ic l h3];rfl
 |street l=>
  obtain⟨h1,h2⟩:=dH h;have h3:∀n∈l,n≠[]:=fun n hn e=>by have:=(h2 n hn).1;rw[e]at this;simp at this
  show ascii "street "++namesText l=spaced (ascii "street"::cw l);rw[cI (qo h1 h3),ic l h3];rfl
 |code c=>rfl
 |span s=>
  show ascii "span "++(spaced [SIDES.getD s.side [],decimal s.a,decimal s.b,s.code,decimal s.walk,decimal s.first]++(if s.back=true then ascii " back" else[]))=spaced (ascii "span"::([SIDES.getD s.side [],decimal s.a,decimal s.b,s.code,decimal s.walk,decimal s.first]++(if s.back=true then[ascii "back"]else[])));rw[cI (w:=ascii "span") (by simp)];cases s.back with
  |false=>simp only[aqb,if_false,apK];rfl
  |true=>
   simp only[if_true];rw[v8 _ _ (by simp) (by simp)];rfl
 |letters n c d=>rfl
 |boxes y=>rfl
theorem VN{k:Nat}(h:k≤2):SIDES.findIdx? (fun(x:Bytes)=>x==SIDES.getD k [])=some k:=by
 match k,h with
 |0,_=>decide
 |1,_=>decide
 |2,_=>decide
 |k+3,h=>omega
theorem Co{b:Bytes}{x:DLine}(h:x.ok=true)(e:cutAt 32 b=wordsOf x):lineMaybe b=some x:=by
 unfold lineMaybe;rw[e];cases x with
 |town l=>
  obtain⟨h1,h2⟩:=dH h;show(if ascii "town"=ascii "town" then some (DLine.town (namesIn (cw l)))else _)=_;rw[if_pos rfl,fX l h1 fun n hn x hx=>qE ((h2 n hn).2.2 x hx)]
 |street l=>
  obtain⟨h1,h2⟩:=dH h;show(if ascii "street"=ascii "town" then _ else if ascii "street"=ascii "code" then _ else if ascii "street"=ascii "street" then some (DLine.street (namesIn (cw l)))else _)=_;rw[if_neg (by decide),if_neg (by decide),if_pos rfl,fX l h1 fun n hn x hx=>qE ((h2 n hn).2.2 x hx)]
 |code c=>
  show(if ascii "code"=ascii "town" then _ else if ascii "code"=ascii "code" then some (DLine.code c)else _)=_;rw[if_neg (by decide),if_pos rfl]
 |span s=>
  have h':=h;simp only[DLine.ok,apv,decide_eq_true_eq]at h;have hf:=VN h.1;have n1:=cP s.a;have n2:=cP s.b;have n3:=cP s.walk;have n4:=cP s.first;obtain⟨side,a,bb,code,walk,first,back⟩:=s;dsimp only at hf n1 n2 n3 n4;show(if ascii "span"=ascii "town" then _ else if ascii "span"=ascii "code" then _ else if ascii "span"=ascii "street" then _ else if ascii "span"=ascii "span" then
   (SIDES.findIdx? fun(x:Bytes)=>x==SIDES.getD side []).map (fun(k:Nat)=>DLine.span ⟨k,natIn (decimal a),natIn (decimal bb),code,natIn (decimal walk),natIn (decimal first),decide (6<([SIDES.getD side [],decimal a,decimal bb,code,decimal walk,decimal first]++(if back=true then[ascii "back"]else[])).length)⟩)else _)=_
  rw[if_neg (by decide),if_neg (by decide),if_neg (by decide),if_pos rfl,hf,n1,n2,n3,n4];cases back<;>rfl
 |letters n c d=>
  show(if ascii "letters"=ascii "town" then _ else if ascii "letters"=ascii "code" then _ else if ascii "letters"=ascii "street" then _ else if ascii "letters"=ascii "span" then _ else if ascii "letters"=ascii "letters" then some (DLine.letters (natIn (decimal n)) c d)else _)=_;rw[if_neg (by decide),if_neg (by decide),if_neg (by decide),if_neg (by decide),if_pos rfl,cP]
 |boxes y=>
  obtain⟨a,bb,code,walk,first⟩:=y;show(if ascii "boxes"=ascii "town" then _ else if ascii "boxes"=ascii "code" then _ else if ascii "boxes"=ascii "street" then _ else if ascii "boxes"=ascii "span" then _ else if ascii "boxes"=ascii "letters" then _ else if ascii "boxes"=ascii "boxes" then some (DLine.boxes ⟨natIn (decimal a),natIn (decimal bb),code,natIn (decimal walk),natIn (decimal first)⟩)else _)=_;rw[if_neg (by decide),if_neg (by decide),if_neg (by decide),if_neg (by decide),if_neg (by decide),if_pos rfl,cP,cP,cP,cP]
theorem Ey{b:Bytes}{x:DLine}:lineIn b=some x↔x.ok=true∧cutAt 32 b=wordsOf x:=by
 constructor
 ·intro h;obtain⟨h1,h2⟩:=nB h;refine⟨h1,?_⟩;rw[←h2,C6 h1];refine yA _ ?_ (M7 h1);cases x<;>simp[wordsOf]
 ·rintro⟨h1,h2⟩;unfold lineIn;rw[Co h1 h2];show(if x.ok=true∧x.text=b then some x else none)=some x;exact if_pos ⟨h1,by rw[C6 h1,←h2,p8]⟩
theorem cZ(d:Dir)(x:DLine):lastTown (d++[x])=if isTown x=true then some [x]else(lastTown d).map (·++[x]):=by
 unfold lastTown;rw[aut,at5,asQ,atk];cases h:isTown x with
 |true=>simp
 |false=>
  simp only[aqb,if_false];cases e:d.reverse.findIdx? isTown with
  |none=>simp
  |some i=>
   have hi:i<d.reverse.length:=by
    have:=arE.mp e;exact this.1
   rw[auu]at hi;simp only[as1,apr,ap5,att];rw[as6 (by omega)];congr 2;omega
theorem yt{p:DLine→Bool}(t:Dir)(x:DLine):((t++[x]).reverse.findIdx? p).map (fun(i:Nat)=>(t++[x]).drop ((t++[x]).length-1-i))=if p x=true then some [x]else((t.reverse.findIdx? p).map fun(i:Nat)=>t.drop (t.length-1-i)).map (·++[x]):=by
 rw[aut,at5,asQ,atk];cases h:p x with
 |true=>simp
 |false=>
  simp only[aqb,if_false];cases e:t.reverse.findIdx? p with
  |none=>simp
  |some i=>
   have hi:i<t.reverse.length:=by
    have:=arE.mp e;exact this.1
   rw[auu]at hi;simp only[as1,apr,ap5,att];rw[as6 (by omega)];congr 2;omega
theorem bT(d:Dir)(x:DLine):lastStreet (d++[x])=if isTown x=true then none else if isStreet x=true then(lastTown d).map (fun _=>[x])else(lastStreet d).map (·++[x]):=by
 unfold lastStreet;rw[cZ];cases h:isTown x with
 |true=>
  have hs:isStreet x=false:=by cases x<;>simp_all [isTown,isStreet]
  simp[hs,atk]
 |false=>
  simp only[aqb,if_false];cases e:lastTown d with
  |none=>simp
  |some t=>
   simp only[as1,Option.bind_some];rw[yt]
def eU(d:Dir):List Bytes:=codesIn ((lastTown d).getD [])
def da(d:Dir):List Boxes:=boxesIn ((lastTown d).getD [])
def bA(d:Dir):List Span:=spansIn ((lastStreet d).getD [])
def fE(d:Dir)(n:Nat):List (UInt8×UInt8):=lettersIn ((lastStreet d).getD []) n
theorem Bq(l m:Dir):codesIn (l++m)=codesIn l++codesIn m:=aqp
theorem KW(l m:Dir):spansIn (l++m)=spansIn l++spansIn m:=aqp
theorem MG(l m:Dir):boxesIn (l++m)=boxesIn l++boxesIn m:=aqp
theorem Gw(l m:Dir)(n:Nat):lettersIn (l++m) n=lettersIn l n++lettersIn m n:=aqp
theorem iE(l m:Dir):rowsOf (l++m)=rowsOf l++rowsOf m:=aqp
theorem gg(l m:Dir):townsIn (l++m)=townsIn l+townsIn m:=by simp[townsIn]
theorem ej(l m:Dir):streetsIn (l++m)=streetsIn l+streetsIn m:=by simp[streetsIn]
theorem KC(d:Dir)(l:List Name):eU (d++[.town l])=[]:=by unfold eU;rw[cZ];rfl
theorem AS(d:Dir)(l:List Name):da (d++[.town l])=[]:=by unfold da;rw[cZ];rfl
theorem km{d:Dir}{x:DLine}(h:isTown x=false)(ht:(lastTown d).isSome=true):eU (d++[x])=eU d++codesIn [x]:=by
 unfold eU;rw[cZ,h];cases e:lastTown d with
 |none=>rw[e]at ht;cases ht
 |some t=>simp[Bq]
theorem gi{d:Dir}{x:DLine}(h:isTown x=false)(ht:(lastTown d).isSome=true):da (d++[x])=da d++boxesIn [x]:=by
 unfold da;rw[cZ,h];cases e:lastTown d with
 |none=>rw[e]at ht;cases ht
 |some t=>simp[MG]
theorem KO(d:Dir)(l:List Name):bA (d++[.town l])=[]:=by unfold bA;rw[bT];rfl
theorem FY(d:Dir)(l:List Name):bA (d++[.street l])=[]:=by
 unfold bA;rw[bT];cases lastTown d<;>rfl
theorem Dr(d:Dir)(l:List Name)(n:Nat):fE (d++[.town l]) n=[]:=by unfold fE;rw[bT];rfl
theorem xx(d:Dir)(l:List Name)(n:Nat):fE (d++[.street l]) n=[]:=by
 unfold fE;rw[bT];cases lastTown d<;>rfl
theorem mV{d:Dir}{x:DLine}(h:isTown x=false)(h2:isStreet x=false)(hs:(lastStreet d).isSome=true∨spansIn [x]=[]):bA (d++[x])=bA d++spansIn [x]:=by
 unfold bA;rw[bT,h,h2];cases e:lastStreet d with
 |none=>
  rw[e]at hs;rcases hs with hs|hs
  ·cases hs
  ·rw[hs];rfl
 |some t=>simp[KW]
theorem iD{d:Dir}{x:DLine}(n:Nat)(h:isTown x=false)(h2:isStreet x=false)(hs:(lastStreet d).isSome=true∨lettersIn [x] n=[]):fE (d++[x]) n=fE d n++lettersIn [x] n:=by
 unfold fE;rw[bT,h,h2];cases e:lastStreet d with
 |none=>
  rw[e]at hs;rcases hs with hs|hs
  ·cases hs
  ·rw[hs];rfl
 |some t=>simp[Gw]
theorem sM:∀(l m:Dir) (d:Dir),pointsFrom d (l++m)=pointsFrom d l++pointsFrom (d++l) m
 |[],m,d=>by simp[pointsFrom]
 |x::r,m,d=>by
  rw[aqx,pointsFrom,pointsFrom,sM r m (d++[x])];simp
theorem bG(d:Dir)(x:DLine):pointsOf (d++[x])=pointsOf d++pointsAt d x:=by
 unfold pointsOf;rw[sM];simp[pointsFrom]
inductive ib:Dir→Prop
 |nil:ib []
 |snoc {d:Dir} {x:DLine}:ib d→x.ok=true→wrongOf d x=0→ib (d++[x])
theorem yo:∀(l:List Bytes) (k:Nat) (d d':Dir),ib d→bP k d l=.ok d'→ib d'
 |[],_,_,_,h,e=>by cases e;exact h
 |b::r,k,d,d',h,e=>by
  rw[bP]at e;cases q:lineIn b with
  |none=>rw[q]at e;cases e
  |some x=>
   rw[q]at e;replace e:(if wrongOf d x=0 then bP (k+1) (d++[x]) r else .error (k,wrongOf d x))=asP d':=e;by_cases z:wrongOf d x=0
   ·rw[if_pos z]at e;exact yo r _ _ _ (.snoc h (Ey.mp q).1 z) e
   ·rw[if_neg z]at e;cases e
theorem Gh{b:Bytes}{d:Dir}(h:readDir b=.ok d):ib d:=by
 obtain⟨rows,u,e⟩:∃rows u,cutAt 10 b=rows++[u]:=⟨_,_,(aru (dC 10 b)).symm⟩;rw[lx b rows u e]at h;cases q:bP 0 [] rows with
 |error e=>rw[q]at h;cases h
 |ok d'=>
  rw[q]at h;replace h:(if u=[]then asP d' else .error (rows.length,1))=asP d:=h;by_cases hu:u=[]
  ·rw[if_pos hu]at h;cases h;exact yo rows 0 [] d .nil q
  ·rw[if_neg hu]at h;cases h
theorem yT{d:Dir}{x:DLine}:wrongOf d x=0↔stands d x=true∧clashes d x=false∧tooMany d x=false:=by
 unfold wrongOf;cases stands d x<;>cases clashes d x<;>cases tooMany d x<;>simp
theorem gc{lo hi n:Nat}:within lo hi n=true↔lo≤n∧n≤hi:=by
 unfold within;simp only[apv,decide_eq_true_eq]
theorem Vw:HOUSES=99999:=rfl
theorem XW:BOXNUMS=999999:=rfl
structure dt(s:Span):Prop where
 side:s.side≤2
 a1:1≤s.a
 ab:s.a≤s.b
 b1:s.b≤99999
 sa:sideHas s.side s.a=true
 sb:sideHas s.side s.b=true
 code:codeOk s.code=true
 walk:s.walk≤9999
 first:s.first≤900000
theorem fz{s:Span}:(DLine.span s).ok=true↔dt s:=by
 simp only[DLine.ok,gc,apv,decide_eq_true_eq];rw[Vw];constructor
 ·rintro⟨h1,⟨h2,h3⟩,⟨h4,h5⟩,h6,h7,h8,h9,Ww⟩;exact⟨h1,h2,h4,h5,h6,h7,h8,h9,Ww⟩
 ·rintro⟨h1,h2,h4,h5,h6,h7,h8,h9,Ww⟩;exact⟨h1,⟨h2,by omega⟩,⟨h4,h5⟩,h6,h7,h8,h9,Ww⟩
structure nZ(x:Boxes):Prop where
 a1:1≤x.a
 ab:x.a≤x.b
 b1:x.b≤999999
 code:codeOk x.code=true
 walk:x.walk≤9999
 first:x.first≤900000
theorem gJ{x:Boxes}:(DLine.boxes x).ok=true↔nZ x:=by
 simp only[DLine.ok,gc,apv,decide_eq_true_eq];rw[XW];constructor
 ·rintro⟨⟨h1,h2⟩,⟨h3,h4⟩,h5,h6,h7⟩;exact⟨h1,h3,h4,h5,h6,h7⟩
 ·rintro⟨h1,h3,h4,h5,h6,h7⟩;exact⟨⟨h1,by omega⟩,⟨h3,h4⟩,h5,h6,h7⟩
theorem dY{k n:Nat}:sideHas k n=true↔k=0∨(k=1∧n % 2=1)∨(k≠0∧k≠1∧n % 2=0):=by
 unfold sideHas;by_cases h0:k=0
 ·simp[h0]
 ·by_cases h1:k=1
  ·simp[h1]
  ·simp[h0,h1]
theorem gj(s:Span):(s.side=0∧s.step=1)∨(s.side≠0∧s.step=2):=by
 unfold Span.step;by_cases h:s.side=0
 ·exact .inl ⟨h,if_pos h⟩
 ·exact .inr ⟨h,if_neg h⟩
theorem nJ{s:Span}(ok:dt s)(n:Nat):s.has n=true↔∃i,i<s.many∧n=s.a+s.step*i:=by
 have h0:s.has n=true↔(s.a≤n∧n≤s.b)∧sideHas s.side n=true:=by
  unfold Span.has within;simp only[apv,decide_eq_true_eq]
 rw[h0];have ha:=dY.mp ok.sa;have hb:=dY.mp ok.sb;have hab:=ok.ab;unfold Span.many;rcases gj s with⟨e,st⟩|⟨e,st⟩
 ·rw[st,dY];constructor
  ·rintro⟨⟨h1,h2⟩,_⟩;exact⟨n-s.a,by omega,by omega⟩
  ·rintro⟨i,h1,h2⟩;exact⟨⟨by omega,by omega⟩,.inl e⟩
 ·rw[st,dY];constructor
  ·rintro⟨⟨h1,h2⟩,h3⟩;exact⟨(n-s.a) / 2,by omega,by omega⟩
  ·rintro⟨i,h1,h2⟩;exact⟨⟨by omega,by omega⟩,by omega⟩
theorem iM{s:Span}(ok:dt s)(n:Nat):n∈s.numbers↔s.has n=true:=by
 rw[nJ ok];unfold Span.numbers;rw[apW];constructor
 ·rintro⟨i,hi,e⟩;exact⟨i,apP.mp hi,e.symm⟩
 ·rintro⟨i,hi,e⟩;exact⟨i,apP.mpr hi,e.symm⟩
theorem Ei(s:Span):1≤s.many:=by unfold Span.many;exact aqz _ _
theorem oV{s:Span}(ok:dt s){i:Nat}(hi:i<s.many):s.placeOf (s.a+s.step*i)=s.first+(if s.back=true then s.many-1-i else i):=by
 have hab:=ok.ab;unfold Span.placeOf;unfold Span.many at hi ⊢;congr 1;rcases gj s with⟨e,st⟩|⟨e,st⟩
 ·rw[st]at hi ⊢;cases s.back<;>simp only[aqb,if_false,if_true]<;>omega
 ·rw[st]at hi ⊢;cases s.back<;>simp only[aqb,if_false,if_true]<;>omega
theorem i8{s:Span}(ok:dt s){n:Nat}(h:s.has n=true):s.first≤s.placeOf n∧s.placeOf n<s.first+s.many:=by
 obtain⟨i,hi,rfl⟩:=(nJ ok n).mp h;rw[oV ok hi];split<;>omega
theorem placeOf_inj{s:Span}(ok:dt s){n m:Nat}(h:s.has n=true)(h':s.has m=true)(e:s.placeOf n=s.placeOf m):n=m:=by
 obtain⟨i,hi,rfl⟩:=(nJ ok n).mp h;obtain⟨j,hj,rfl⟩:=(nJ ok m).mp h';rw[oV ok hi,oV ok hj]at e;have:i=j:=by
  split at e<;>omega
 rw[this]
theorem Gm(s:Span):s.numbers.Nodup:=by
 unfold Span.numbers;rw[List.Nodup,aq7];refine aq8 ?_ (ar7 (n:=s.many));intro i j hij e;have:s.step*i=s.step*j:=by omega
 rcases gj s with⟨_,st⟩|⟨_,st⟩<;>rw[st]at this<;>omega
theorem tI(s:Span):s.numbers.length=s.many:=by unfold Span.numbers;simp
theorem jJ{c:UInt8}:smallLetter c=true↔97≤c.toNat∧c.toNat≤122:=by
 unfold smallLetter;rw[apv,decide_eq_true_iff,decide_eq_true_iff,ap7,ap7];exact asu
structure rD(n:Nat)(c d:UInt8):Prop where
 n1:1≤n
 n2:n≤99999
 c1:97≤c.toNat
 cd:c.toNat≤d.toNat
 d2:d.toNat≤122
theorem e9{n:Nat}{c d:UInt8}:(DLine.letters n c d).ok=true↔rD n c d:=by
 simp only[DLine.ok,gc,apv,jJ,decide_eq_true_eq,ap7];rw[Vw];constructor
 ·rintro⟨⟨h1,h2⟩,⟨h3,h4⟩,⟨h5,h6⟩,h7⟩;exact⟨h1,h2,h3,h7,h6⟩
 ·rintro⟨h1,h2,h3,h7,h6⟩;exact⟨⟨h1,h2⟩,⟨h3,by omega⟩,⟨by omega,h6⟩,h7⟩
theorem cJ{k:Nat}(h:k<256):(apM k).toNat=k:=by rw[auG];omega
def wZ(x:Boxes)(n:Nat):Prop:=x.a≤n∧n≤x.b
structure iR(d:Dir):Prop where
 town:∀p∈pointsOf d,p.town<townsIn d∧∀s,p.street=some s→s<streetsIn d
 T5:∀s∈bA d,dt s
 MF:∀x∈da d,nZ x
 str:∀p∈pointsOf d,(lastStreet d).isSome=true→p.street=some (streetsIn d-1)→p.town=townsIn d-1∧∃s∈bA d,s.has p.number=true∧p.code=s.code∧p.walk=s.walk∧p.place=s.placeOf p.number∧(p.letter=0∨∃q∈fE d p.number,q.1.toNat≤p.letter.toNat∧p.letter.toNat≤q.2.toNat)
 box:∀p∈pointsOf d,p.town=townsIn d-1→p.street=none→∃x∈da d,wZ x p.number∧p.letter=0
 row:∀p∈pointsOf d,∃r∈rowsOf d,r.1=p.walk∧r.2.1≤p.place∧p.place<r.2.1+r.2.2
 there:∀s∈bA d,∀n,s.has n=true→(⟨townsIn d-1,some (streetsIn d-1),n,0,s.code,s.walk,s.placeOf n⟩:Point)∈pointsOf d
 one:(pointsOf d).Pairwise fun p q=>¬(p.town=q.town∧p.street=q.street∧p.number=q.number∧p.letter=q.letter)
 place:∀p∈pointsOf d,∀q∈pointsOf d,p.walk=q.walk→p.place=q.place→p.town=q.town∧p.street=q.street∧p.number=q.number
 letter:∀p∈pointsOf d,p.letter=0∨(97≤p.letter.toNat∧p.letter.toNat≤122∧p.street≠none)
 two:(lastTown d).isSome=true→1≤townsIn d
 str1:(lastStreet d).isSome=true→1≤streetsIn d∧(lastTown d).isSome=true
theorem sE{l:Dir}{w f m:Nat}(h:rowTaken l w f m=false):∀r∈rowsOf l,r.1=w→∀k,r.2.1≤k→k<r.2.1+r.2.2→f≤k→k<f+m→False:=by
 intro r hr e k h1 h2 h3 h4;unfold rowTaken at h;have:=arA.mp h r hr;apply this;unfold meet;simp only[apv,beq_iff_eq,decide_eq_true_eq];exact⟨e,by omega,by omega⟩
theorem Nh{d:Dir}{x:DLine}(f:iR d)(hx:isStreet x=true)(hs:(lastTown d).isSome=true):iR (d++[x]):=by
 cases x with
 |street l=>
  have e0:pointsOf (d++[.street l])=pointsOf d:=by rw[bG];simp[pointsAt]
  have e1:townsIn (d++[.street l])=townsIn d:=by rw[gg];rfl
  have e2:streetsIn (d++[.street l])=streetsIn d+1:=by rw[ej];rfl
  have e3:bA (d++[.street l])=[]:=FY d l;have e4:da (d++[.street l])=da d:=by rw[gi rfl hs];simp[boxesIn]
  have e5:rowsOf (d++[.street l])=rowsOf d:=by rw[iE];simp[rowsOf]
  refine⟨?_,?_,?_,?_,?_,?_,?_,?_,?_,?_,?_,?_⟩
  ·rw[e0,e1,e2];intro p hp;refine⟨(f.town p hp).1,fun s e=>?_⟩;have:=(f.town p hp).2 s e;omega
  ·rw[e3];intro s h;cases h
  ·rw[e4];exact f.MF
  ·rw[e0,e2];intro p hp _ e;have:=(f.town p hp).2 _ e;omega
  ·rw[e0,e1,e4];exact f.box
  ·rw[e0,e5];exact f.row
  ·rw[e3];intro s h;cases h
  ·rw[e0];exact f.one
  ·rw[e0];exact f.place
  ·rw[e0];exact f.letter
  ·rw[e1];intro _;exact f.two hs
  ·rw[e2];intro _;exact⟨by omega,by rw[cZ];cases q:lastTown d<;>simp_all [isTown]⟩
 |_=>cases hx
theorem TM{d:Dir}{l:List Name}(f:iR d):iR (d++[.town l]):=by
 have e0:pointsOf (d++[.town l])=pointsOf d:=by rw[bG];simp[pointsAt]
 have e1:townsIn (d++[.town l])=townsIn d+1:=by rw[gg];rfl
 have e2:streetsIn (d++[.town l])=streetsIn d:=by rw[ej];rfl
 have e3:bA (d++[.town l])=[]:=KO d l;have e4:da (d++[.town l])=[]:=AS d l;have e5:rowsOf (d++[.town l])=rowsOf d:=by rw[iE];simp[rowsOf]
 have e6:lastStreet (d++[.town l])=none:=by rw[bT];rfl
 refine⟨?_,?_,?_,?_,?_,?_,?_,?_,?_,?_,?_,?_⟩
 ·rw[e0,e1,e2];intro p hp;have:=f.town p hp;exact⟨by omega,this.2⟩
 ·rw[e3];intro s h;cases h
 ·rw[e4];intro s h;cases h
 ·rw[e6];intro p _ h;cases h
 ·rw[e0,e1];intro p hp e;have:=(f.town p hp).1;omega
 ·rw[e0,e5];exact f.row
 ·rw[e3];intro s h;cases h
 ·rw[e0];exact f.one
 ·rw[e0];exact f.place
 ·rw[e0];exact f.letter
 ·rw[e1];intro _;omega
 ·rw[e6];intro h;cases h
theorem V1{d:Dir}{c:Bytes}(f:iR d)(hs:(lastTown d).isSome=true):iR (d++[.code c]):=by
 have e0:pointsOf (d++[.code c])=pointsOf d:=by rw[bG];simp[pointsAt]
 have e1:townsIn (d++[.code c])=townsIn d:=by rw[gg];rfl
 have e2:streetsIn (d++[.code c])=streetsIn d:=by rw[ej];rfl
 have e3:bA (d++[.code c])=bA d:=by rw[mV rfl rfl (.inr rfl)];simp[spansIn]
 have e4:da (d++[.code c])=da d:=by rw[gi rfl hs];simp[boxesIn]
 have e5:rowsOf (d++[.code c])=rowsOf d:=by rw[iE];simp[rowsOf]
 have e6:(lastStreet (d++[.code c])).isSome=(lastStreet d).isSome:=by rw[bT];simp[isTown,isStreet]
 have e7:(lastTown (d++[.code c])).isSome=(lastTown d).isSome:=by rw[cZ];simp[isTown]
 have e8:∀n,fE (d++[.code c]) n=fE d n:=fun n=>by rw[iD n rfl rfl (.inr rfl)];simp[lettersIn]
 refine⟨?_,?_,?_,?_,?_,?_,?_,?_,?_,?_,?_,?_⟩
 ·rw[e0,e1,e2];exact f.town
 ·rw[e3];exact f.T5
 ·rw[e4];exact f.MF
 ·rw[e0,e1,e2,e3,e6];simp only[e8];exact f.str
 ·rw[e0,e1,e4];exact f.box
 ·rw[e0,e5];exact f.row
 ·rw[e0,e1,e2,e3];exact f.there
 ·rw[e0];exact f.one
 ·rw[e0];exact f.place
 ·rw[e0];exact f.letter
 ·rw[e1,e7];exact f.two
 ·rw[e2,e6,e7];exact f.str1
theorem cK{d:Dir}{x:DLine}(h:isTown x=false):(lastTown (d++[x])).isSome=(lastTown d).isSome:=by
 rw[cZ,h];simp
theorem cH{d:Dir}{x:DLine}(h:isTown x=false)(h2:isStreet x=false):(lastStreet (d++[x])).isSome=(lastStreet d).isSome:=by
 rw[bT,h,h2];simp
theorem Uc{d:Dir}{s:Span}(f:iR d)(ok:dt s)(hs:(lastStreet d).isSome=true)
  (c1:∀t∈bA d,∀n,s.has n=true→t.has n=true→False)(c2:rowTaken d s.walk s.first s.many=false):iR (d++[.span s]):=by
 have ht:=(f.str1 hs).2;have hs1:=(f.str1 hs).1;have ZX:=f.two ht;have e0:pointsOf (d++[.span s])=pointsOf d++s.numbers.map (fun(n:Nat)=>(⟨townsIn d-1,some (streetsIn d-1),n,0,s.code,s.walk,s.placeOf n⟩:Point)):=bG _ _;have e1:townsIn (d++[.span s])=townsIn d:=by rw[gg];rfl
 have e2:streetsIn (d++[.span s])=streetsIn d:=by rw[ej];rfl
 have e3:bA (d++[.span s])=bA d++[s]:=by rw[mV rfl rfl (.inl hs)];rfl
 have e4:da (d++[.span s])=da d:=by rw[gi rfl ht];simp[boxesIn]
 have e5:rowsOf (d++[.span s])=rowsOf d++[(s.walk,s.first,s.many)]:=by rw[iE];rfl
 have e6:(lastStreet (d++[.span s])).isSome=(lastStreet d).isSome:=cH rfl rfl;have e7:(lastTown (d++[.span s])).isSome=(lastTown d).isSome:=cK rfl;have e8:∀n,fE (d++[.span s]) n=fE d n:=fun n=>by rw[iD n rfl rfl (.inr rfl)];simp[lettersIn]
 have new:∀p,p∈s.numbers.map (fun(n:Nat)=>(⟨townsIn d-1,some (streetsIn d-1),n,0,s.code,s.walk,s.placeOf n⟩:Point))↔∃n,s.has n=true∧p=⟨townsIn d-1,some (streetsIn d-1),n,0,s.code,s.walk,s.placeOf n⟩:=fun p=>by
  rw[apW];constructor
  ·rintro⟨n,hn,e⟩;exact⟨n,(iM ok n).mp hn,e.symm⟩
  ·rintro⟨n,hn,e⟩;exact⟨n,(iM ok n).mpr hn,e.symm⟩
 have apart:∀p∈pointsOf d,∀n,s.has n=true→p.walk=s.walk→p.place=s.placeOf n→False:=fun p hp n hn hw Kp=>by
  obtain⟨r,hr,r1,r2,r3⟩:=f.row p hp;have b:=i8 ok hn;exact sE c2 r hr (r1.trans hw) p.place r2 r3 (by omega) (by omega)
 refine⟨?_,?_,?_,?_,?_,?_,?_,?_,?_,?_,?_,?_⟩
 ·rw[e0,e1,e2];intro p hp;rcases apx.mp hp with hp|hp
  ·exact f.town p hp
  ·obtain⟨n,_,rfl⟩:=(new p).mp hp;exact⟨by show townsIn d-1<townsIn d;omega,fun k e=>by have e':streetsIn d-1=k:=apC e;omega⟩
 ·rw[e3];intro t h;rcases apx.mp h with h|h
  ·exact f.T5 t h
  ·rw[ap2]at h;subst h;exact ok
 ·rw[e4];exact f.MF
 ·rw[e0,e1,e2,e3];simp only[e8];intro p hp _ e;rcases apx.mp hp with hp|hp
  ·obtain⟨h1,t,ht,h2⟩:=f.str p hp hs e;exact⟨h1,t,aqr _ ht,h2⟩
  ·obtain⟨n,hn,rfl⟩:=(new p).mp hp;exact⟨rfl,s,by simp,hn,rfl,rfl,rfl,.inl rfl⟩
 ·rw[e0,e1,e4];intro p hp e e';rcases apx.mp hp with hp|hp
  ·exact f.box p hp e e'
  ·obtain⟨n,hn,rfl⟩:=(new p).mp hp;cases e'
 ·rw[e0,e5];intro p hp;rcases apx.mp hp with hp|hp
  ·obtain⟨r,hr,h⟩:=f.row p hp;exact⟨r,aqr _ hr,h⟩
  ·obtain⟨n,hn,rfl⟩:=(new p).mp hp;exact⟨_,ap3 _ (atQ _),rfl,(i8 ok hn).1,(i8 ok hn).2⟩
 ·rw[e0,e1,e2,e3];intro t h n hn;rcases apx.mp h with h|h
  ·exact aqr _ (f.there t h n hn)
  ·rw[ap2]at h;subst h;exact ap3 _ ((new _).mpr ⟨n,hn,rfl⟩)
 ·rw[e0,ar8];refine⟨f.one,?_,?_⟩
  ·rw[aq7];exact aq8 (fun h z=>h z.2.2.1) (Gm s)
  ·rintro p hp q hq ⟨z1,z2,z3,z4⟩;obtain⟨n,hn,rfl⟩:=(new q).mp hq;obtain⟨_,t,ht,h2,_⟩:=f.str p hp hs z2;exact c1 t ht n hn (by rw[←show p.number=n from z3];exact h2)
 ·rw[e0];intro p hp q hq ew ep;rcases apx.mp hp with hp|hp
  ·rcases apx.mp hq with hq|hq
   ·exact f.place p hp q hq ew ep
   ·obtain⟨n,hn,rfl⟩:=(new q).mp hq;exact(apart p hp n hn ew ep).elim
  ·obtain⟨m,hm,rfl⟩:=(new p).mp hp;rcases apx.mp hq with hq|hq
   ·exact(apart q hq m hm ew.symm ep.symm).elim
   ·obtain⟨n,hn,rfl⟩:=(new q).mp hq;have:m=n:=placeOf_inj ok hm hn ep;subst this;exact⟨rfl,rfl,rfl⟩
 ·rw[e0];intro p hp;rcases apx.mp hp with hp|hp
  ·exact f.letter p hp
  ·obtain⟨n,hn,rfl⟩:=(new p).mp hp;exact .inl rfl
 ·rw[e1,e7];exact f.two
 ·rw[e2,e6,e7];exact f.str1
theorem SR{d:Dir}{x:Boxes}(f:iR d)(ok:nZ x)(ht:(lastTown d).isSome=true)
  (c1:∀y∈da d,∀n,wZ x n→wZ y n→False)(c2:rowTaken d x.walk x.first x.many=false):iR (d++[.boxes x]):=by
 have ZX:=f.two ht;have hab:=ok.ab;have e0:pointsOf (d++[.boxes x])=pointsOf d++(ap4 x.many).map (fun(i:Nat)=>(⟨townsIn d-1,none,x.a+i,0,x.code,x.walk,x.first+i⟩:Point)):=bG _ _;have e1:townsIn (d++[.boxes x])=townsIn d:=by rw[gg];rfl
 have e2:streetsIn (d++[.boxes x])=streetsIn d:=by rw[ej];rfl
 have e3:bA (d++[.boxes x])=bA d:=by rw[mV rfl rfl (.inr rfl)];simp[spansIn]
 have e4:da (d++[.boxes x])=da d++[x]:=by rw[gi rfl ht];rfl
 have e5:rowsOf (d++[.boxes x])=rowsOf d++[(x.walk,x.first,x.many)]:=by rw[iE];rfl
 have e6:(lastStreet (d++[.boxes x])).isSome=(lastStreet d).isSome:=cH rfl rfl;have e7:(lastTown (d++[.boxes x])).isSome=(lastTown d).isSome:=cK rfl;have e8:∀n,fE (d++[.boxes x]) n=fE d n:=fun n=>by rw[iD n rfl rfl (.inr rfl)];simp[lettersIn]
 have new:∀p,p∈(ap4 x.many).map (fun(i:Nat)=>(⟨townsIn d-1,none,x.a+i,0,x.code,x.walk,x.first+i⟩:Point))↔∃i,i<x.many∧p=⟨townsIn d-1,none,x.a+i,0,x.code,x.walk,x.first+i⟩:=fun p=>by
  rw[apW];constructor
  ·rintro⟨n,hn,e⟩;exact⟨n,apP.mp hn,e.symm⟩
  ·rintro⟨n,hn,e⟩;exact⟨n,apP.mpr hn,e.symm⟩
 have apart:∀p∈pointsOf d,∀i,i<x.many→p.walk=x.walk→p.place=x.first+i→False:=fun p hp i hi hw Kp=>by
  obtain⟨r,hr,r1,r2,r3⟩:=f.row p hp;exact sE c2 r hr (r1.trans hw) p.place r2 r3 (by omega) (by omega)
 have acZ:∀i,i<x.many→wZ x (x.a+i):=fun i hi=>by
  unfold Boxes.many at hi;unfold wZ;omega
 refine⟨?_,?_,?_,?_,?_,?_,?_,?_,?_,?_,?_,?_⟩
 ·rw[e0,e1,e2];intro p hp;rcases apx.mp hp with hp|hp
  ·exact f.town p hp
  ·obtain⟨n,_,rfl⟩:=(new p).mp hp;exact⟨by show townsIn d-1<townsIn d;omega,fun k e=>nomatch e⟩
 ·rw[e3];exact f.T5
 ·rw[e4];intro t h;rcases apx.mp h with h|h
  ·exact f.MF t h
  ·rw[ap2]at h;subst h;exact ok
 ·rw[e0,e1,e2,e3,e6];simp only[e8];intro p hp hs e;rcases apx.mp hp with hp|hp
  ·exact f.str p hp hs e
  ·obtain⟨n,hn,rfl⟩:=(new p).mp hp;cases e
 ·rw[e0,e1,e4];intro p hp e e';rcases apx.mp hp with hp|hp
  ·obtain⟨y,hy,h⟩:=f.box p hp e e';exact⟨y,aqr _ hy,h⟩
  ·obtain⟨n,hn,rfl⟩:=(new p).mp hp;exact⟨x,by simp,acZ n hn,rfl⟩
 ·rw[e0,e5];intro p hp;rcases apx.mp hp with hp|hp
  ·obtain⟨r,hr,h⟩:=f.row p hp;exact⟨r,aqr _ hr,h⟩
  ·obtain⟨n,hn,rfl⟩:=(new p).mp hp;exact⟨_,ap3 _ (atQ _),rfl,by show x.first≤x.first+n;omega,by show x.first+n<x.first+x.many;omega⟩
 ·rw[e0,e1,e2,e3];intro t h n hn;exact aqr _ (f.there t h n hn)
 ·rw[e0,ar8];refine⟨f.one,?_,?_⟩
  ·rw[aq7];refine aq8 ?_ (ar7 (n:=x.many));rintro i j h ⟨_,_,z,_⟩;have z':x.a+i=x.a+j:=z;omega
  ·rintro p hp q hq ⟨z1,z2,z3,z4⟩;obtain⟨n,hn,rfl⟩:=(new q).mp hq;obtain⟨y,hy,h2,_⟩:=f.box p hp z1 z2;exact c1 y hy _ (acZ n hn) (by rw[←show p.number=x.a+n from z3];exact h2)
 ·rw[e0];intro p hp q hq ew ep;rcases apx.mp hp with hp|hp
  ·rcases apx.mp hq with hq|hq
   ·exact f.place p hp q hq ew ep
   ·obtain⟨n,hn,rfl⟩:=(new q).mp hq;exact(apart p hp n hn ew ep).elim
  ·obtain⟨m,hm,rfl⟩:=(new p).mp hp;rcases apx.mp hq with hq|hq
   ·exact(apart q hq m hm ew.symm ep.symm).elim
   ·obtain⟨n,hn,rfl⟩:=(new q).mp hq;have e':x.first+m=x.first+n:=ep;have:m=n:=by omega
    subst this;exact⟨rfl,rfl,rfl⟩
 ·rw[e0];intro p hp;rcases apx.mp hp with hp|hp
  ·exact f.letter p hp
  ·obtain⟨n,hn,rfl⟩:=(new p).mp hp;exact .inl rfl
 ·rw[e1,e7];exact f.two
 ·rw[e2,e6,e7];exact f.str1
theorem LW{d:Dir}{n:Nat}{c e:UInt8}(f:iR d)(ok:rD n c e)(hs:(lastStreet d).isSome=true)(j7:∃s∈bA d,s.has n=true)
  (c1:∀q∈fE d n,∀k:Nat,c.toNat≤k→k≤e.toNat→q.1.toNat≤k→k≤q.2.toNat→False):iR (d++[.letters n c e]):=by
 have ht:=(f.str1 hs).2;have hs1:=(f.str1 hs).1;have ZX:=f.two ht;have k1:=ok.c1;have k2:=ok.cd;have k3:=ok.d2;obtain⟨s,hss,hn⟩:∃s,(bA d).find? (fun(s:Span)=>s.has n)=some s∧s.has n=true:=by
  obtain⟨s,h1,h2⟩:=j7;cases q:(bA d).find? (fun(s:Span)=>s.has n)with
  |none=>exact absurd h2 (by simpa using arS.mp q s h1)
  |some t=>exact⟨t,rfl,as2 (p:=fun(s:Span)=>s.has n) q⟩
 have Yl:s∈bA d:=arn hss;have e0:pointsOf (d++[.letters n c e])=pointsOf d++(ap4 (e.toNat-c.toNat+1)).map (fun(i:Nat)=>(⟨townsIn d-1,some (streetsIn d-1),n,apM (c.toNat+i),s.code,s.walk,s.placeOf n⟩:Point)):=by
  rw[bG];show pointsOf d++(match(bA d).find? (fun(s:Span)=>s.has n)with|some s=>_|none=>[])=_;rw[hss]
 have e1:townsIn (d++[.letters n c e])=townsIn d:=by rw[gg];rfl
 have e2:streetsIn (d++[.letters n c e])=streetsIn d:=by rw[ej];rfl
 have e3:bA (d++[.letters n c e])=bA d:=by rw[mV rfl rfl (.inr rfl)];simp[spansIn]
 have e4:da (d++[.letters n c e])=da d:=by rw[gi rfl ht];simp[boxesIn]
 have e5:rowsOf (d++[.letters n c e])=rowsOf d:=by rw[iE];simp[rowsOf]
 have e6:(lastStreet (d++[.letters n c e])).isSome=(lastStreet d).isSome:=cH rfl rfl;have e7:(lastTown (d++[.letters n c e])).isSome=(lastTown d).isSome:=cK rfl;have e8:∀m,fE (d++[.letters n c e]) m=fE d m++(if n=m then[(c,e)]else[]):=fun m=>by
  rw[iD m rfl rfl (.inl hs)];congr 1;unfold lettersIn;by_cases h:n=m<;>simp[h]
 have new:∀p,p∈(ap4 (e.toNat-c.toNat+1)).map (fun(i:Nat)=>(⟨townsIn d-1,some (streetsIn d-1),n,apM (c.toNat+i),s.code,s.walk,s.placeOf n⟩:Point))↔∃k:Nat,c.toNat≤k∧k≤e.toNat∧p=⟨townsIn d-1,some (streetsIn d-1),n,apM k,s.code,s.walk,s.placeOf n⟩:=fun p=>by
  rw[apW];constructor
  ·rintro⟨i,hi,rfl⟩;have:=apP.mp hi;exact⟨c.toNat+i,by omega,by omega,rfl⟩
  ·rintro⟨k,h1,h2,rfl⟩;exact⟨k-c.toNat,apP.mpr (by omega),by rw[show c.toNat+(k-c.toNat)=k by omega]⟩
 have base:=f.there s Yl n hn;refine⟨?_,?_,?_,?_,?_,?_,?_,?_,?_,?_,?_,?_⟩
 ·rw[e0,e1,e2];intro p hp;rcases apx.mp hp with hp|hp
  ·exact f.town p hp
  ·obtain⟨k,_,_,rfl⟩:=(new p).mp hp;exact⟨by show townsIn d-1<townsIn d;omega,fun k e=>by have e':streetsIn d-1=k:=apC e;omega⟩
 ·rw[e3];exact f.T5
 ·rw[e4];exact f.MF
 ·rw[e0,e1,e2,e3,e6];intro p hp _ e';rcases apx.mp hp with hp|hp
  ·obtain⟨h1,t,ht,h2,h3,h4,h5,h6⟩:=f.str p hp hs e';refine⟨h1,t,ht,h2,h3,h4,h5,?_⟩;rcases h6 with h6|⟨q,hq,h6⟩
   ·exact .inl h6
   ·exact .inr ⟨q,by rw[e8];exact aqr _ hq,h6⟩
  ·obtain⟨k,g1,g2,rfl⟩:=(new p).mp hp;refine⟨rfl,s,Yl,hn,rfl,rfl,rfl,.inr ⟨(c,e),by rw[e8,if_pos rfl];simp,?_⟩⟩;show c.toNat≤(apM k).toNat∧(apM k).toNat≤_;rw[cJ (by omega)];exact⟨g1,g2⟩
 ·rw[e0,e1,e4];intro p hp e e';rcases apx.mp hp with hp|hp
  ·exact f.box p hp e e'
  ·obtain⟨n,_,_,rfl⟩:=(new p).mp hp;cases e'
 ·rw[e0,e5];intro p hp;rcases apx.mp hp with hp|hp
  ·exact f.row p hp
  ·obtain⟨k,_,_,rfl⟩:=(new p).mp hp;obtain⟨r,hr,h⟩:=f.row _ base;exact⟨r,hr,h⟩
 ·rw[e0,e1,e2,e3];intro t h n hn;exact aqr _ (f.there t h n hn)
 ·rw[e0,ar8];refine⟨f.one,?_,?_⟩
  ·rw[aq7];have hr:(ap4 (e.toNat-c.toNat+1)).Pairwise fun i j=>i≠j∧i<26∧j<26:=by
    rw[asM];intro i j h;have hi:i∈ap4 (e.toNat-c.toNat+1):=h.subset (by simp);have hj:j∈ap4 (e.toNat-c.toNat+1):=h.subset (by simp);have hn:=asM.mp (ar7 (n:=e.toNat-c.toNat+1)) h;have:=apP.mp hi;have:=apP.mp hj;exact⟨hn,by omega,by omega⟩
   refine aq8 ?_ hr;rintro i j ⟨h,hi,hj⟩ ⟨_,_,_,z⟩;have z':apM (c.toNat+i)=apM (c.toNat+j):=z;have:=congrArg av9 z';rw[cJ (by omega),cJ (by omega)]at this;omega
  ·rintro p hp q hq ⟨z1,z2,z3,z4⟩;obtain⟨k,g1,g2,rfl⟩:=(new q).mp hq;obtain⟨_,t,ht,h2,_,_,_,h6⟩:=f.str p hp hs z2;have z4':p.letter=apM k:=z4;have hk:p.letter.toNat=k:=by rw[z4',cJ (by omega)]
   rcases h6 with h6|⟨r,hr,h6,h7⟩
   ·rw[h6]at hk;have:(0:UInt8).toNat=0:=rfl;omega
   ·rw[show p.number=n from z3]at hr;exact c1 r hr k g1 g2 (by omega) (by omega)
 ·rw[e0];have old:∀q∈pointsOf d,q.walk=s.walk→q.place=s.placeOf n→q.town=townsIn d-1∧q.street=some (streetsIn d-1)∧q.number=n:=fun q hq ew ep=>f.place q hq _ base ew ep;intro p hp q hq ew ep;rcases apx.mp hp with hp|hp
  ·rcases apx.mp hq with hq|hq
   ·exact f.place p hp q hq ew ep
   ·obtain⟨k,_,_,rfl⟩:=(new q).mp hq;exact old p hp ew ep
  ·obtain⟨m,_,_,rfl⟩:=(new p).mp hp;rcases apx.mp hq with hq|hq
   ·obtain⟨a1,a2,a3⟩:=old q hq ew.symm ep.symm;exact⟨a1.symm,a2.symm,a3.symm⟩
   ·obtain⟨n,_,_,rfl⟩:=(new q).mp hq;exact⟨rfl,rfl,rfl⟩
 ·rw[e0];intro p hp;rcases apx.mp hp with hp|hp
  ·exact f.letter p hp
  ·obtain⟨k,g1,g2,rfl⟩:=(new p).mp hp;refine .inr ⟨?_,?_,fun h=>nomatch h⟩
   ·show 97≤(apM k).toNat;rw[cJ (by omega)];omega
   ·show(apM k).toNat≤122;rw[cJ (by omega)];omega
 ·rw[e1,e7];exact f.two
 ·rw[e2,e6,e7];exact f.str1
theorem Sr:iR []:=by
 refine⟨?_,?_,?_,?_,?_,?_,?_,?_,?_,?_,?_,?_⟩
 ·intro p h;cases h
 ·intro p h;cases h
 ·intro p h;cases h
 ·intro p h;cases h
 ·intro p h;cases h
 ·intro p h;cases h
 ·intro p h;cases h
 ·exact .nil
 ·intro p h;cases h
 ·intro p h;cases h
 ·intro h;cases h
 ·intro h;cases h
theorem j2{d:Dir}{n:Nat}(h:(bA d).any (fun(s:Span)=>s.has n)=true):(lastStreet d).isSome=true:=by
 unfold bA at h;cases q:lastStreet d with
 |none=>rw[q]at h;cases h
 |some t=>rfl
theorem nE{d:Dir}(h:ib d):iR d:=by
 induction h with
 |nil=>exact Sr
 | @snoc d x _ ok w f=>
  obtain⟨st,cl,_⟩:=yT.mp w;cases x with
  |town l=>exact TM f
  |street l=>exact Nh f rfl st
  |code c=>exact V1 f st
  |span s=>
   have oN:((lastStreet d).isSome&&(eU d).contains s.code)=true:=st;rw[apv]at oN;have J4:((bA d).any (fun(t:Span)=>s.numbers.any fun(n:Nat)=>t.has n)||rowTaken d s.walk s.first s.many)=false:=cl;rw[arC]at J4;have CN:=fz.mp ok;refine Uc f CN oN.1 (fun t ht n hn hm=>?_) J4.2;have:=arA.mp J4.1 t ht;exact this (aqs.mpr ⟨n,(iM CN n).mpr hn,hm⟩)
  |letters n c e=>
   have oN:(bA d).any (fun(s:Span)=>s.has n)=true:=st;have J4:(fE d n).any (fun(p:UInt8×UInt8)=>decide (p.1≤e)&&decide (c≤p.2))=false:=cl;refine LW f (e9.mp ok) (j2 oN) (by simpa using aqs.mp oN) (fun q hq k h1 h2 h3 h4=>?_);have:=arA.mp J4 q hq;apply this;rw[apv,decide_eq_true_iff,decide_eq_true_iff,ap7,ap7];omega
  |boxes x=>
   have Rf:=gJ.mp ok;have oN:(eU d).contains x.code=true:=st;have J4:((da d).any (fun(y:Boxes)=>meet x.a x.many y.a y.many)||rowTaken d x.walk x.first x.many)=false:=cl;rw[arC]at J4;have ht:(lastTown d).isSome=true:=by
    unfold eU at oN;cases q:lastTown d with
    |none=>rw[q]at oN;cases oN
    |some t=>rfl
   refine SR f Rf ht (fun y hy n h1 h2=>?_) J4.2;have:=arA.mp J4.1 y hy;apply this;have y1:=(f.MF y hy).ab;have x1:=Rf.ab;unfold meet Boxes.many;unfold wZ at h1 h2;simp only[apv,decide_eq_true_eq];omega
theorem Gx{a b:UInt8}(ha:a=0∨(97≤a.toNat∧a.toNat≤122))(hb:b=0∨(97≤b.toNat∧b.toNat≤122))(h:aqt a=aqt b):a=b:=by
 unfold aqt at h;have nz:∀c:UInt8,97≤c.toNat→c≠0:=fun c hc e=>by
  subst e;have:(0:UInt8).toNat=0:=rfl;omega
 rcases ha with rfl|⟨a1,a2⟩
 ·rcases hb with rfl|⟨b1,b2⟩
  ·rfl
  ·rw[if_pos rfl,if_neg (nz b b1)]at h;omega
 ·rcases hb with rfl|⟨b1,b2⟩
  ·rw[if_pos rfl,if_neg (nz a a1)]at h;omega
  ·rw[if_neg (nz a a1),if_neg (nz b b1)]at h;exact arR.mp (by omega)
theorem kz{t:Nat}{s:Option Nat}{n c:Nat}{q:Point}:asH t s n c q=true↔q.town=t∧q.street=s∧q.number=n∧aqt q.letter=c:=by
 unfold asH;simp only[apv,beq_iff_eq]
theorem Vm{d:Dir}(f:iR d){p:Point}(hp:p∈pointsOf d):p.letter=0∨(97≤p.letter.toNat∧p.letter.toNat≤122):=by
 rcases f.letter p hp with h|h
 ·exact .inl h
 ·exact .inr ⟨h.1,h.2.1⟩
theorem wX{d:Dir}(f:iR d){i:Nat}{p:Point}{t:Nat}{s:Option Nat}{n c:Nat}(hi:(pointsOf d)[i]? =some p)(h:asH t s n c p=true):
  aqv d t s n c=atg (i:Int):=by
 unfold aqv;have gX:i<(pointsOf d).length:=(apu.mp hi).1;have hpi:(pointsOf d)[i]=p:=(apu.mp hi).2;have e:(pointsOf d).findIdx? (asH t s n c)=some i:=by
  rw[arE];refine⟨gX,by rw[hpi];exact h,fun j hj=>?_⟩;intro hq;have pw:=aqH.mp f.one j i (by omega) gX hj;apply pw;rw[kz]at hq h;rw[hpi];refine⟨hq.1.trans h.1.symm,hq.2.1.trans h.2.1.symm,hq.2.2.1.trans h.2.2.1.symm,?_⟩;exact Gx (Vm f (au0 _)) (Vm f (aps hi)) (hq.2.2.2.trans h.2.2.2.symm)
 rw[e];rfl
theorem qF{d:Dir}{t:Nat}{s:Option Nat}{n c:Nat}(h:∀p∈pointsOf d,asH t s n c p=false):aqv d t s n c=asv:=by
 unfold aqv;rw[List.findIdx?_eq_none_iff.mpr h]
theorem iJ{p q:Point}:walkBefore p q=true↔p.place<q.place∨(p.place=q.place∧p.letter.toNat<q.letter.toNat):=by
 unfold walkBefore;simp only[aqU,apv,decide_eq_true_eq,beq_iff_eq,UInt8.lt_iff_toNat_lt]
theorem Iu{α:Type}(l:List α):l.zipIdx.Pairwise fun x y=>x.2≠y.2:=by
 rw[aqH];intro i j hi hj h e;simp at e;omega
theorem Ro{d:Dir}(f:iR d){w:Nat}{L:List Nat}(hm:∀i,i∈L↔∃p,(pointsOf d)[i]? =some p∧p.walk=w)
  (hs:L.Pairwise fun i j=>∀p q,(pointsOf d)[i]? =some p→(pointsOf d)[j]? =some q→walkBefore p q=true):walkOf d w=L:=by
 let RS:=pointsOf d;let le:Point×Nat→Point×Nat→Bool:=fun x y=> !walkBefore y.1 x.1;let A:=RS.zipIdx.filter fun(x:Point×Nat)=>x.1.walk==w;let B:=L.filterMap fun i=>(RS[i]?).map fun p=>(p,i);have le_iff:∀x y:Point×Nat,le x y=true↔¬(y.1.place<x.1.place∨(y.1.place=x.1.place∧y.1.letter.toNat<x.1.letter.toNat)):=fun x y=>by
  show(!walkBefore y.1 x.1)=true↔_;rw[arX,←iJ];cases walkBefore y.1 x.1<;>simp
 have ach:∀x,x∈A↔RS[x.2]? =some x.1∧x.1.walk=w:=fun x=>by
  show x∈RS.zipIdx.filter _↔_;rw[ash,beq_iff_eq];have:x∈RS.zipIdx↔RS[x.2]? =some x.1:=by
   obtain⟨p,i⟩:=x;exact List.mem_zipIdx_iff_getElem?
  rw[this]
 have acg:∀x,x∈B↔RS[x.2]? =some x.1∧x.1.walk=w:=fun x=>by
  show x∈L.filterMap _↔_;rw[aqu];constructor
  ·rintro⟨i,hi,e⟩;obtain⟨p,hp,hw⟩:=(hm i).mp hi;rw[show RS[i]? =some p from hp]at e;cases e;exact⟨hp,hw⟩
  ·rintro⟨h1,h2⟩;exact⟨x.2,(hm _).mpr ⟨x.1,h1,h2⟩,by rw[h1];rfl⟩
 have ndA:A.Nodup:=by
  refine awh _ ?_;exact aq8 (fun h e=>h (by rw[e])) (Iu RS)
 have strict:B.Pairwise fun x y=>walkBefore x.1 y.1=true:=by
  rw[atR];refine aq8 ?_ hs;intro i j h x hx y hy;cases e1:RS[i]? with
  |none=>rw[e1]at hx;cases hx
  |some p=>
   cases e2:RS[j]? with
   |none=>rw[e2]at hy;cases hy
   |some q=>
    rw[e1]at hx;rw[e2]at hy;cases hx;cases hy;exact h p q e1 e2
 have ndB:B.Nodup:=aq8 (fun{x y} h e=>by
  subst e;rw[iJ]at h;omega) strict
 have perm:(A.mergeSort le).Perm B:=(List.mergeSort_perm A le).trans ((asd ndA ndB).mpr fun x=>by rw[ach,acg]);have sA:(A.mergeSort le).Pairwise fun x y=>le x y=true:=List.pairwise_mergeSort (fun a b c h1 h2=>by
  rw[le_iff]at h1 h2 ⊢;omega) (fun a b=>by
  rw[aqU,le_iff,le_iff];omega) A
 have sB:B.Pairwise fun x y=>le x y=true:=aq8 (fun{x y} h=>by
  rw[iJ]at h;rw[le_iff];omega) strict
 have eq:A.mergeSort le=B:=by
  refine atF (le:=fun x y=>le x y=true) ?_ sA sB perm;intro x y hx hy h1 h2;have hx':=(ach x).mp (List.mem_mergeSort.mp hx);have hy':=(acg y).mp hy;rw[le_iff]at h1 h2;have e1:x.1.place=y.1.place:=by omega
  have e2:x.1.letter=y.1.letter:=arR.mp (by omega);have mx:x.1∈pointsOf d:=aps hx'.1;have my:y.1∈pointsOf d:=aps hy'.1;obtain⟨f1,f2,f3⟩:=f.place x.1 mx y.1 my (hx'.2.trans hy'.2.symm) e1;have hij:x.2=y.2:=by
   obtain⟨l1,g1⟩:=apu.mp hx'.1;obtain⟨l2,g2⟩:=apu.mp hy'.1;have pw:=aqH.mp f.one;rcases asE x.2 y.2 with h|h|h
   ·exact(pw x.2 y.2 l1 l2 h (by rw[show(pointsOf d)[x.2]=x.1 from g1,show(pointsOf d)[y.2]=y.1 from g2];exact⟨f1,f2,f3,e2⟩)).elim
   ·exact h
   ·exact(pw y.2 x.2 l2 l1 h (by rw[show(pointsOf d)[x.2]=x.1 from g1,show(pointsOf d)[y.2]=y.1 from g2];exact⟨f1.symm,f2.symm,f3.symm,e2.symm⟩)).elim
  have hp:x.1=y.1:=by
   have a:=hx'.1;rw[hij,hy'.1]at a;exact(apC a).symm
  exact Prod.ext hp hij
 have fin:walkOf d w=B.map fun(x:Point×Nat)=>x.2:=by
  rw[←eq];rfl
 rw[fin];show(L.filterMap _).map _=L;rw[List.map_filterMap];have:∀(M:List Nat),(∀i∈M,∃p,RS[i]? =some p)→M.filterMap (fun i=>((RS[i]?).map fun p=>(p,i)).map fun(x:Point×Nat)=>x.2)=M:=by
  intro M
  induction M with
  |nil=>intro _;rfl
  |cons i M ih=>
   intro h;obtain⟨p,hp⟩:=h i (by simp);rw[asf,hp];simp only[as1];rw[ih fun j hj=>h j (apy _ hj)]
 exact this L fun i hi=>by
  obtain⟨p,hp,_⟩:=(hm i).mp hi;exact⟨p,hp⟩
theorem rB{α:Type} [BEq α] [LawfulBEq α]:∀(k:Nat) (l:List α),l.length≤k→l.eraseDups.Nodup
 |0,l,h=>by
  have:l=[]:=aqN.mp (by omega);subst this;simp
 |k+1,l,h=>by
  cases l with
  |nil=>simp
  |cons a l=>
   rw[List.eraseDups_cons,aqP];refine⟨?_,rB k _ (aqa (asR _ _) (by simpa using h))⟩;rw[auH];intro hm;have:=(ash.mp hm).2;simp at this
theorem M8{d:Dir}{L:List Nat}(nd:L.Nodup)(hm:∀w,w∈L↔∃p∈pointsOf d,p.walk=w):walksOf d=L.length:=by
 unfold walksOf;refine List.Perm.length_eq ((asd (rB _ _ (apE _)) nd).mpr fun w=>?_);rw[auH,apW,hm]
theorem BW{d:Dir}{x:DLine}(h:stands d x=true):(pointsAt d x).length=x.points:=by
 cases x with
 |span s=>simp[pointsAt,DLine.points,tI]
 |letters n c e=>
  have h':(spansIn ((lastStreet d).getD [])).any (fun(s:Span)=>s.has n)=true:=h;cases q:(spansIn ((lastStreet d).getD [])).find? (fun(s:Span)=>s.has n)with
  |none=>
   obtain⟨s,h1,h2⟩:=aqs.mp h';exact absurd h2 (by simpa using arS.mp q s h1)
  |some s=>
   show(match(spansIn ((lastStreet d).getD [])).find? (fun(s:Span)=>s.has n)with|some s=>_|none=>[]).length=_;rw[q];simp[DLine.points]
 |boxes x=>simp[pointsAt,DLine.points]
 |_=>rfl
theorem fF{d:Dir}(h:ib d):(pointsOf d).length=(d.map DLine.points).sum:=by
 induction h with
 |nil=>rfl
 |snoc _ _ w ih=>
  rw[bG,apr,ih,BW (yT.mp w).1];simp
end Pb.Internal
namespace Pb.Internal
open Po PyWqatcm
theorem op{G:Prop}(f:∀R:Prop,(G→R)→R):G:=f G id
theorem abV(P:Nat→Prop)(h0:P 0)(h1:P 1)(h2:P 2)(h3:P 3)(h4:P 4)(h5:P 5)(h6:P 6)(h7:P 7)(h8:P 8)(h9:P 9)(h:∀n,P (n+10)):∀n,P n
 |0=>h0|1=>h1|2=>h2|3=>h3|4=>h4|5=>h5|6=>h6|7=>h7|8=>h8|9=>h9|n+10=>h n
theorem TC(c:List (List Int)):whole c=c:=by
 rcases c with _|⟨r,t⟩
 ·rfl
 rcases r with _|⟨p,u⟩
 ·rcases t with _|⟨s,t⟩<;>rfl
 cases p with
 |negSucc n=>rcases u with _|⟨a,u⟩<;>rcases t with _|⟨s,_|⟨_,_⟩⟩<;>rfl
 |ofNat n=>
  revert n;refine abV _ ?_ ?_ ?_ ?_ ?_ ?_ ?_ ?_ ?_ ?_ fun n=>?_<;>rcases u with _|⟨a,_|⟨b,_|⟨c,_|⟨d,_|⟨e,u⟩⟩⟩⟩⟩<;>rcases t with _|⟨s,_|⟨_,_⟩⟩<;>rfl
theorem V6(l:List Int):calls l=arG shape l.length l:=by
 unfold calls;cases arG shape l.length l with
 |none=>rfl
 |some cs=>
  have:cs.map whole=cs:=by
   rw[show whole=id from funext TC,asI]
  simp only[this]
def MO(p:Int):Nat:=if p=4∨p=7∨p=9 then 1 else if p=5 then 4 else if p=6 then 2 else if p=8 then 3 else 0
inductive BF:List Int→List (List Int)→List Int→Prop
 |text (p n:Int) (u t:List Int):(p=0∨p=1)→n=u.length→BF (p::n::(u++t)) [[p],u] t
 |nums (p:Int) (u t:List Int):(2≤p∧p≤9)→u.length=MO p→BF (p::(u++t)) [p::u] t
theorem Np{p:Int}{n k:Nat}(h:shape p=some (n,k)):((p=0∨p=1)∧n=0∧k=1)∨((2≤p∧p≤9)∧n=MO p∧k=0):=by
 unfold shape at h;unfold MO
 repeat' split at h
 all_goals (first|(cases h;done)|skip)
 all_goals (injection h with h;injection h with h1 h2;subst h1 h2)
 all_goals (try subst p)
 all_goals (first|(left;exact⟨by decide,rfl,rfl⟩)|(right;exact⟨by decide,by decide,rfl⟩))
theorem Pn{m:List Int}{c:List (List Int)}{t:List Int}(h:auS shape m=some (c,t)):BF m c t:=by
 cases m with
 |nil=>cases h
 |cons p r=>
  rw[auS]at h;cases e:shape p with
  |none=>rw[e]at h;cases h
  |some nk=>
   obtain⟨n,k⟩:=nk;rw[e]at h;dsimp only at h;by_cases hl:r.length<n
   ·rw[if_pos hl]at h;cases h
   ·rw[if_neg hl]at h;rcases Np e with⟨hp,rfl,rfl⟩|⟨hp,hn,rfl⟩
    ·cases r with
     |nil=>cases h
     |cons x r=>
      have h':(match(match(if 0≤x∧x.toNat≤r.length then some (r.take x.toNat,r.drop x.toNat)else none:Option (List Int×List Int))with
        |none=>none
        |some (y,s)=>some ([y],s):Option (List (List Int)×List Int))with
       |none=>none
       |some (xs,t)=>some ([p]::xs,t))=some (c,t):=by
       rw[←h];show _=(match auT 1 (x::r)with|none=>none|some (xs,t)=>some ((p::List.take 0 (x::r))::xs,t));unfold auT PyFlat.row;by_cases q:0≤x∧x.toNat≤r.length
       ·simp only[if_pos q,auT,aub]
       ·simp only[if_neg q]
      by_cases q:0≤x∧x.toNat≤r.length
      ·rw[if_pos q]at h';cases h';have e1:r=r.take x.toNat++r.drop x.toNat:=(arl _ _).symm;have:=BF.text p x (r.take x.toNat) (r.drop x.toNat) hp (by rw[aqm,asj q.2];omega);rw[←e1]at this;exact this
      ·rw[if_neg q]at h';cases h'
    ·have h':some ([p::r.take n],r.drop n)=some (c,t):=h;cases h';have e1:r=r.take n++r.drop n:=(arl _ _).symm;have:=BF.nums p (r.take n) (r.drop n) hp (by rw[aqm,asj (by omega)];exact hn);rw[←e1]at this;exact this
theorem Br{f:Nat}{m:List Int}{cs:List (List (List Int))}(h:arG shape f m=some cs):
  (m=[]∧cs=[])∨∃c t Yq f',BF m c t∧arG shape f' t=some Yq∧cs=c::Yq:=by
 cases m with
 |nil=>
  left;cases f<;>(cases h;exact⟨rfl,rfl⟩)
 |cons p r=>
  right;cases f with
  |zero=>cases h
  |succ f=>
   rw[arG]at h;cases e:auS shape (p::r)with
   |none=>rw[e]at h;cases h
   |some ct=>
    obtain⟨c,t⟩:=ct;rw[e]at h;dsimp only at h;cases e2:arG shape f t with
    |none=>rw[e2]at h;cases h
    |some Yq=>
     rw[e2]at h;cases h;exact⟨c,t,Yq,f,Pn e,e2,rfl⟩
def after(s:as3)(cs:List (List (List Int))):as3:=cs.foldl (fun s c=>(aqc s c).1) s
theorem wB:∀(cs ds:List (List (List Int))) (s:as3),aqO aqc s (cs++ds)=aqO aqc s cs++aqO aqc (after s cs) ds
 |[],ds,s=>rfl
 |c::cs,ds,s=>by
  rw[aqx,aqO,aqO,wB cs ds,aqx];rfl
theorem Kz(a b:List (List Int)):aqA (a++b)=aqA a++aqA b:=by
 unfold aqA;rw[aqR]
theorem S4(s:as3)(a b:List (List (List Int))):after s (a++b)=after (after s a) b:=ats
structure Yx(l:List Int)(cs:List (List (List Int))):Prop where
 calls:arG shape l.length l=some cs
 many:cs.length≤400
 each:∀c∈cs,aqY c=true
 one:1≤cs.length
 all:cs.length*(aqf cs+1000)+66000*arx 7 cs≤1000000
theorem Wd{l:List Int}(h:answers_asked l=true):∃cs,Yx l cs∧answers l=aqA (aqO aqc art cs):=by
 unfold answers_asked at h;unfold answers;cases e:calls l with
 |none=>rw[e]at h;cases h
 |some cs=>
  rw[e]at h;dsimp only at h;rw[apv]at h;obtain⟨h1,h2⟩:=h;unfold awk at h2;simp only[apv,decide_eq_true_eq]at h2;obtain⟨⟨⟨h3,h4⟩,h5⟩,h6⟩:=h2;refine⟨cs,⟨by rw[←V6];exact e,h5,fun c hc=>aqn.mp h3 c hc,h4,h6⟩,rfl⟩
end Pb.Internal
namespace Pb.Internal
open Po
structure Iv(α:Type) where
 lo:Int
 hi:Int
 at_:α
variable{α:Type}
def cC(L:List (Iv α))(n:Int):Nat:=(L.takeWhile fun x=>decide (x.lo≤n)).length
structure j4(L:List (Iv α)):Prop where
 apart:L.Pairwise fun x y=>x.hi<y.lo
 le:∀x∈L,x.lo≤x.hi
theorem j4.DR{L:List (Iv α)}(h:j4 L):L.Pairwise fun x y=>x.lo<y.lo:=by
 have a:=h.apart;have l:=h.le;clear h
 induction a with
 |nil=>exact .nil
 | @cons x r hx _ ih=>
  refine .cons (fun y hy=>?_) (ih fun z hz=>l z (apy _ hz));have:=hx y hy;have:=l x (by simp);omega
theorem pY(L:List (Iv α))(n:Int):cC L n≤L.length:=by
 unfold cC;exact(List.takeWhile_sublist _).length_le
theorem mO{L:List (Iv α)}(h:L.Pairwise fun x y=>x.lo<y.lo)(n:Int):
  (∀i x,L[i]? =some x→i<cC L n→x.lo≤n)∧(∀i x,L[i]? =some x→cC L n≤i→n<x.lo):=by
 induction h with
 |nil=>exact⟨fun i x e=>by simp at e,fun i x e=>by simp at e⟩
 | @cons y r hy _ ih=>
  unfold cC at ih ⊢;rw[List.takeWhile_cons];by_cases q:y.lo≤n
  ·rw[if_pos (by simpa using q),apz];refine⟨fun i x e hi=>?_,fun i x e hi=>?_⟩
   ·cases i with
    |zero=>simp at e;subst e;exact q
    |succ i=>exact ih.1 i x (by simpa using e) (by omega)
   ·cases i with
    |zero=>omega
    |succ i=>exact ih.2 i x (by simpa using e) (by omega)
  ·rw[if_neg (by simpa using q)];refine⟨fun i x e hi=>absurd hi (by simp),fun i x e _=>?_⟩;cases i with
   |zero=>simp at e;subst e;omega
   |succ i=>
    have hm:x∈r:=aps (by simpa using e);have:=hy x hm;omega
theorem Ke{L:List (Iv α)}(h:L.Pairwise fun x y=>x.lo<y.lo){n:Int}{k:Nat}(hk:k≤L.length)
  (h1:∀i x,L[i]? =some x→i<k→x.lo≤n)(h2:∀i x,L[i]? =some x→k≤i→n<x.lo):k=cC L n:=by
 obtain⟨s1,s2⟩:=mO h n;have hb:=pY L n;rcases asE k (cC L n)with q|q|q
 ·obtain⟨x,hx⟩:∃x,L[k]? =some x:=⟨_,apO (by omega)⟩;have a:=h2 k x hx (apE _);have b:=s1 k x hx q;omega
 ·exact q
 ·obtain⟨x,hx⟩:∃x,L[cC L n]? =some x:=⟨_,apO (by omega)⟩;have a:=s2 _ x hx (apE _);have b:=h1 _ x hx q;omega
def d5(L:List (Iv α))(low high:Int):Bool:=L.any fun x=>decide (x.lo≤high)&&decide (low≤x.hi)
theorem gN{L:List (Iv α)}{low high:Int}:d5 L low high=true↔∃x∈L,x.lo≤high∧low≤x.hi:=by
 unfold d5;simp only[aqs,apv,decide_eq_true_eq]
theorem Qz{L:List (Iv α)}(h:j4 L){n:Int}{x y:Iv α}{i:Nat}(hx:L[cC L n-1]? =some x)(hb:0<cC L n)(hy:L[i]? =some y)(hn:y.lo≤n):i≤cC L n-1∧y.hi≤x.hi:=by
 obtain⟨s1,s2⟩:=mO h.DR n;have hi:i<cC L n:=by
  rcases avV i (cC L n)with q|q
  ·exact q
  ·have:=s2 i y hy q;omega
 refine⟨by omega,?_⟩;rcases avV i (cC L n-1)with q|q
 ·obtain⟨l1,e1⟩:=apu.mp hy;obtain⟨l2,e2⟩:=apu.mp hx;have:=aqH.mp h.apart i (cC L n-1) l1 l2 q;rw[e1,e2]at this;have:=h.le x (aps hx);omega
 ·have e:i=cC L n-1:=by omega
  subst e;rw[hx]at hy;cases hy;exact Int.le_refl _
theorem Ve{L:List (Iv α)}(h:j4 L)(low high:Int):
  d5 L low high=(decide (0<cC L high)&&(match L[cC L high-1]? with|some x=>decide (low≤x.hi)|none=>false)):=by
 obtain⟨s1,s2⟩:=mO h.DR high;have hb:=pY L high;rw[aqe,gN];by_cases q:0<cC L high
 ·obtain⟨x,hx⟩:∃x,L[cC L high-1]? =some x:=⟨_,apO (by omega)⟩;rw[hx];simp only[q,decide_true,ase,decide_eq_true_eq];constructor
  ·rintro⟨y,hy,h1,h2⟩;obtain⟨i,hi,e⟩:=arb hy;have:=(Qz h hx q (apu.mpr ⟨hi,e⟩) h1).2;omega
  ·intro hl;exact⟨x,aps hx,s1 _ x hx (by omega),hl⟩
 ·simp only[q,decide_false,at6,aqb,iff_false];rintro⟨y,hy,h1,_⟩;obtain⟨i,hi,e⟩:=arb hy;have:=s2 i y (apu.mpr ⟨hi,e⟩) (by omega);omega
def cW(L:List (Iv α))(n:Int):Option (Iv α):=L.find? fun x=>decide (x.lo≤n)&&decide (n≤x.hi)
theorem nI{L:List (Iv α)}(h:j4 L){n:Int}{x:Iv α}(hx:x∈L)(h1:x.lo≤n)(h2:n≤x.hi):cW L n=some x:=by
 have a:=h.apart;clear h;unfold cW
 induction a with
 |nil=>cases hx
 | @cons y r hy hr ih=>
  rw[aq9];by_cases q:y.lo≤n∧n≤y.hi
  ·have:(decide (y.lo≤n)&&decide (n≤y.hi))=true:=by simp[q]
   rw[this];rcases apA.mp hx with rfl|hx
   ·rfl
   ·have:=hy x hx;omega
  ·have:(decide (y.lo≤n)&&decide (n≤y.hi))=false:=by
    rw[aqL];simpa using q
   rw[this];rcases apA.mp hx with rfl|hx
   ·exact absurd ⟨h1,h2⟩ q
   ·exact ih hx
theorem kC{L:List (Iv α)}{n:Int}:cW L n=none↔∀x∈L,¬(x.lo≤n∧n≤x.hi):=by
 unfold cW;rw[arS];simp
theorem qD{L:List (Iv α)}{n:Int}{x:Iv α}(h:cW L n=some x):x∈L∧x.lo≤n∧n≤x.hi:=by
 refine⟨arn h,?_⟩;have:=as2 h;simpa using this
theorem Sm{L:List (Iv α)}(h:j4 L)(n:Int):
  cW L n=(if cC L n=0 then none else match L[cC L n-1]? with|some x=>if x.hi<n then none else some x|none=>none):=by
 obtain⟨s1,s2⟩:=mO h.DR n;have hb:=pY L n;by_cases q:cC L n=0
 ·rw[if_pos q,kC];rintro y hy ⟨h1,_⟩;obtain⟨i,hi,e⟩:=arb hy;have:=s2 i y (apu.mpr ⟨hi,e⟩) (by omega);omega
 ·rw[if_neg q];obtain⟨x,hx⟩:∃x,L[cC L n-1]? =some x:=⟨_,apO (by omega)⟩;rw[hx];by_cases z:x.hi<n
  ·simp only[if_pos z];rw[kC];rintro y hy ⟨h1,h2⟩;obtain⟨i,hi,e⟩:=arb hy;have:=(Qz h hx (by omega) (apu.mpr ⟨hi,e⟩) h1).2;omega
  ·simp only[if_neg z];exact nI h (aps hx) (s1 _ x hx (by omega)) (by omega)
def bE(L:List (Iv α))(x:Iv α):List (Iv α):=L.take (cC L x.lo)++x::L.drop (cC L x.lo)
theorem w6(L:List (Iv α))(x:Iv α):(bE L x).Perm (x::L):=by
 unfold bE;exact List.perm_middle.trans (by rw[arl])
theorem yO{L:List (Iv α)}(h:j4 L){x:Iv α}(hx:x.lo≤x.hi)(hm:d5 L x.lo x.hi=false):j4 (bE L x):=by
 obtain⟨s1,s2⟩:=mO h.DR x.lo;have Vy:∀y∈L,¬(y.lo≤x.hi∧x.lo≤y.hi):=fun y hy q=>by
  have:d5 L x.lo x.hi=true:=gN.mpr ⟨y,hy,q⟩;rw[hm]at this;cases this
 refine⟨?_,fun y hy=>?_⟩
 ·unfold bE;rw[ar8];refine⟨h.apart.sublist (auM _ _),?_,?_⟩
  ·refine .cons (fun y hy=>?_) (h.apart.sublist (List.drop_sublist _ _));obtain⟨i,hi,e⟩:=arb hy;rw[auN]at e;have OS:cC L x.lo+i<L.length:=by rw[aqX]at hi;omega
   have g:=apu.mpr ⟨OS,e⟩;have a:=s2 _ y g (by omega);have b:=Vy y (aps g);have c:=h.le y (aps g);omega
  ·intro y hy z hz;obtain⟨i,hi,e⟩:=arb hy;rw[aqm]at hi;rw[List.getElem_take]at e;have OS:i<L.length:=by omega
   have g:=apu.mpr ⟨OS,e⟩;have a:=s1 _ y g (by omega);have b:=Vy y (aps g);rcases apA.mp hz with rfl|hz
   ·omega
   ·obtain⟨j,hj,e'⟩:=arb hz;rw[auN]at e';have XG:cC L x.lo+j<L.length:=by rw[aqX]at hj;omega
    have:=aqH.mp h.apart i (cC L x.lo+j) OS XG (by omega);rw[e,e']at this;exact this
 ·rcases apA.mp ((w6 L x).mem_iff.mp hy)with rfl|hy
  ·exact hx
  ·exact h.le y hy
def num?(lo hi:Nat)(w:Bytes):Option Nat:=if ll w=true∧lo≤natIn w∧natIn w≤hi then some (natIn w)else none
theorem jR{lo hi:Nat}{w:Bytes}{n:Nat}:num? lo hi w=some n↔w=decimal n∧lo≤n∧n≤hi:=by
 unfold num?;constructor
 ·intro h;split at h
  ·rename_i q
   cases h;exact⟨((nM w).mpr q.1).symm,q.2⟩
  ·cases h
 ·rintro⟨rfl,h1,h2⟩;rw[cP,if_pos ⟨kj n,h1,h2⟩]
def dw(most:Nat)(a b c w f:Bytes):Option (Nat×Nat×Bytes×Nat×Nat):=
 match num? 1 most a,num? 1 most b,num? 0 9999 w,num? 0 900000 f with
 |some a',some b',some w',some f'=>if a'≤b'∧codeOk c=true then some (a',b',c,w',f')else none
 |_,_,_,_=>none
theorem fS{most:Nat}{a b c w f:Bytes}{x:Nat×Nat×Bytes×Nat×Nat}:dw most a b c w f=some x↔
  a=decimal x.1∧b=decimal x.2.1∧c=x.2.2.1∧w=decimal x.2.2.2.1∧f=decimal x.2.2.2.2∧1≤x.1∧x.1≤x.2.1∧x.2.1≤most∧codeOk x.2.2.1=true∧x.2.2.2.1≤9999∧x.2.2.2.2≤900000:=by
 obtain⟨xa,xb,xc,xw,xf⟩:=x;unfold dw;constructor
 ·intro h;cases e1:num? 1 most a with
  |none=>rw[e1]at h;cases h
  |some a'=>
   cases e2:num? 1 most b with
   |none=>rw[e1,e2]at h;cases h
   |some b'=>
    cases e3:num? 0 9999 w with
    |none=>rw[e1,e2,e3]at h;cases h
    |some w'=>
     cases e4:num? 0 900000 f with
     |none=>rw[e1,e2,e3,e4]at h;cases h
     |some f'=>
      rw[e1,e2,e3,e4]at h;dsimp only at h;split at h
      ·rename_i q
       cases h;rw[jR]at e1 e2 e3 e4;exact⟨e1.1,e2.1,rfl,e3.1,e4.1,e1.2.1,q.1,e2.2.2,q.2,e3.2.2,e4.2.2⟩
      ·cases h
 ·rintro⟨h1,h2,h3,h4,h5,h6,h7,h8,h9,Ww,h11⟩;dsimp only at h1 h2 h3 h4 h5 h6 h7 h8 h9 Ww h11;rw[jR.mpr ⟨h1,h6,by omega⟩,jR.mpr ⟨h2,by omega,h8⟩,jR.mpr ⟨h4,by omega,Ww⟩,jR.mpr ⟨h5,by omega,h11⟩];dsimp only;rw[if_pos ⟨h7,by rw[h3];exact h9⟩,h3]
def oT(w:Bytes):Option Nat:=if w=ascii "all" then some 0 else if w=ascii "odd" then some 1 else if w=ascii "even" then some 2 else none
theorem Du{w:Bytes}{k:Nat}:oT w=some k↔k≤2∧w=SIDES.getD k []:=by
 unfold oT;constructor
 ·intro h;split at h
  ·cases h;rename_i q;exact⟨by decide,q⟩
  ·split at h
   ·cases h;rename_i q;exact⟨by decide,q⟩
   ·split at h
    ·cases h;rename_i q;exact⟨by decide,q⟩
    ·cases h
 ·rintro⟨h1,h2⟩;rcases A0 h1 with⟨e,q⟩|⟨e,q⟩|⟨e,q⟩<;>subst e<;>rw[h2]
  ·rw[if_pos q]
  ·rw[if_neg (by rw[q];decide),if_pos q]
  ·rw[if_neg (by rw[q];decide),if_neg (by rw[q];decide),if_pos q]
def oe(back:Bool)(sd a b c w f:Bytes):Option Span:=
 match oT sd,dw 99999 a b c w f with
 |some k,some x=>if sideHas k x.1=true∧sideHas k x.2.1=true then some ⟨k,x.1,x.2.1,x.2.2.1,x.2.2.2.1,x.2.2.2.2,back⟩else none
 |_,_=>none
theorem mY{back:Bool}{sd a b c w f:Bytes}{s:Span}:oe back sd a b c w f=some s↔
  dt s∧s.back=back∧[sd,a,b,c,w,f]=[SIDES.getD s.side [],decimal s.a,decimal s.b,s.code,decimal s.walk,decimal s.first]:=by
 unfold oe;constructor
 ·intro h;cases e1:oT sd with
  |none=>rw[e1]at h;cases h
  |some k=>
   cases e2:dw 99999 a b c w f with
   |none=>rw[e1,e2]at h;cases h
   |some x=>
    rw[e1,e2]at h;dsimp only at h;split at h
    ·rename_i q
     cases h;rw[Du]at e1;rw[fS]at e2;obtain⟨h1,h2,h3,h4,h5,h6,h7,h8,h9,Ww,h11⟩:=e2;refine⟨⟨e1.1,h6,h7,h8,q.1,q.2,h9,Ww,h11⟩,rfl,?_⟩;rw[e1.2,h1,h2,h3,h4,h5]
    ·cases h
 ·rintro⟨ok,hb,e⟩;simp only[as4,and_true]at e;obtain⟨e1,e2,e3,e4,e5,e6⟩:=e;rw[Du.mpr ⟨ok.side,e1⟩,fS (x:=(s.a,s.b,s.code,s.walk,s.first)).mpr ⟨e2,e3,e4,e5,e6,ok.a1,ok.ab,ok.b1,ok.code,ok.walk,ok.first⟩];dsimp only;rw[if_pos ⟨ok.sa,ok.sb⟩];subst hb;rfl
def span? :List Bytes→Option Span
 |[sd,a,b,c,w,f]=>oe false sd a b c w f
 |[sd,a,b,c,w,f,k]=>if k=ascii "back" then oe true sd a b c w f else none
 |_=>none
theorem Dh{r:List Bytes}{s:Span}:span? r=some s↔dt s∧r=[SIDES.getD s.side [],decimal s.a,decimal s.b,s.code,decimal s.walk,decimal s.first]++(if s.back=true then[ascii "back"]else[]):=by
 constructor
 ·intro h
  match r,h with
  |[sd,a,b,c,w,f],h=>
   obtain⟨h1,h2,h3⟩:=mY.mp h;exact⟨h1,by rw[h2];simpa using h3⟩
  |[sd,a,b,c,w,f,k],h=>
   replace h:(if k=ascii "back" then oe true sd a b c w f else none)=some s:=h;split at h
   ·rename_i q
    obtain⟨h1,h2,h3⟩:=mY.mp h;refine⟨h1,?_⟩;rw[h2,←h3,q];rfl
   ·cases h
  |[],h=>cases h
  |[_],h=>cases h
  |[_,_],h=>cases h
  |[_,_,_],h=>cases h
  |[_,_,_,_],h=>cases h
  |[_,_,_,_,_],h=>cases h
  |_::_::_::_::_::_::_::_::_,h=>cases h
 ·rintro⟨ok,rfl⟩;cases hb:s.back with
  |false=>
   simp only[aqb,if_false,apK];exact mY.mpr ⟨ok,hb,rfl⟩
  |true=>
   simp only[if_true];show(if ascii "back"=ascii "back" then oe true (SIDES.getD s.side []) (decimal s.a) (decimal s.b) s.code (decimal s.walk) (decimal s.first)else none)=some s;rw[if_pos rfl];exact mY.mpr ⟨ok,hb,rfl⟩
def Fv :List Bytes→Option Boxes
 |[a,b,c,w,f]=>(dw 999999 a b c w f).map fun x=>⟨x.1,x.2.1,x.2.2.1,x.2.2.2.1,x.2.2.2.2⟩
 |_=>none
theorem Bu{r:List Bytes}{x:Boxes}:Fv r=some x↔nZ x∧r=[decimal x.a,decimal x.b,x.code,decimal x.walk,decimal x.first]:=by
 constructor
 ·intro h
  match r,h with
  |[a,b,c,w,f],h=>
   replace h:(dw 999999 a b c w f).map (fun x=>(⟨x.1,x.2.1,x.2.2.1,x.2.2.2.1,x.2.2.2.2⟩:Boxes))=some x:=h;cases e:dw 999999 a b c w f with
   |none=>rw[e]at h;cases h
   |some y=>
    rw[e]at h;cases h;obtain⟨h1,h2,h3,h4,h5,h6,h7,h8,h9,Ww,h11⟩:=fS.mp e;exact⟨⟨h6,h7,h8,h9,Ww,h11⟩,by rw[h1,h2,h3,h4,h5]⟩
  |[],h=>cases h
  |[_],h=>cases h
  |[_,_],h=>cases h
  |[_,_,_],h=>cases h
  |[_,_,_,_],h=>cases h
  |_::_::_::_::_::_::_,h=>cases h
 ·rintro⟨ok,rfl⟩;show(dw 999999 (decimal x.a) (decimal x.b) x.code (decimal x.walk) (decimal x.first)).map (fun x=>(⟨x.1,x.2.1,x.2.2.1,x.2.2.2.1,x.2.2.2.2⟩:Boxes))=some x;rw[fS (x:=(x.a,x.b,x.code,x.walk,x.first)).mpr ⟨rfl,rfl,rfl,rfl,rfl,ok.a1,ok.ab,ok.b1,ok.code,ok.walk,ok.first⟩];rfl
def cz(w:Bytes):Option UInt8:=match w with
 |[c]=>if smallLetter c=true then some c else none
 |_=>none
theorem lA{w:Bytes}{c:UInt8}:cz w=some c↔w=[c]∧smallLetter c=true:=by
 unfold cz;constructor
 ·intro h;split at h
  ·split at h
   ·cases h;exact⟨rfl,by assumption⟩
   ·cases h
  ·cases h
 ·rintro⟨rfl,h⟩;simp[h]
def tG :List Bytes→Option (Nat×UInt8×UInt8)
 |[n,c,d]=>match num? 1 99999 n,cz c,cz d with
  |some n',some c',some d'=>if c'≤d' then some (n',c',d')else none
  |_,_,_=>none
 |_=>none
theorem vz{r:List Bytes}{x:Nat×UInt8×UInt8}:tG r=some x↔rD x.1 x.2.1 x.2.2∧r=[decimal x.1,[x.2.1],[x.2.2]]:=by
 obtain⟨n,c,d⟩:=x;constructor
 ·intro h
  match r,h with
  |[a,b,e],h=>
   replace h:(match num? 1 99999 a,cz b,cz e with
    |some n',some c',some d'=>if c'≤d' then some (n',c',d')else none
    |_,_,_=>none)=some (n,c,d):=h
   cases e1:num? 1 99999 a with
   |none=>rw[e1]at h;cases h
   |some n'=>
    cases e2:cz b with
    |none=>rw[e1,e2]at h;cases h
    |some c'=>
     cases e3:cz e with
     |none=>rw[e1,e2,e3]at h;cases h
     |some d'=>
      rw[e1,e2,e3]at h;dsimp only at h;split at h
      ·rename_i q
       cases h;rw[jR]at e1;rw[lA]at e2 e3;rw[jJ]at e2 e3;rw[ap7]at q;exact⟨⟨e1.2.1,e1.2.2,e2.2.1,q,e3.2.2⟩,by rw[e1.1,e2.1,e3.1]⟩
      ·cases h
  |[],h=>cases h
  |[_],h=>cases h
  |[_,_],h=>cases h
  |_::_::_::_::_,h=>cases h
 ·rintro⟨ok,rfl⟩;have k1:=ok.n1;have k2:=ok.n2;have k3:=ok.c1;have k4:=ok.cd;have k5:=ok.d2;dsimp only at k1 k2 k3 k4 k5;show(match num? 1 99999 (decimal n),cz [c],cz [d]with
    |some n',some c',some d'=>if c'≤d' then some (n',c',d')else none
    |_,_,_=>none)=some (n,c,d)
  rw[jR.mpr ⟨rfl,k1,k2⟩,lA.mpr ⟨rfl,jJ.mpr ⟨k3,by omega⟩⟩,lA.mpr ⟨rfl,jJ.mpr ⟨by omega,k5⟩⟩];dsimp only;rw[if_pos (ap7.mpr k4)]
def code? :List Bytes→Option Bytes
 |[c]=>if codeOk c=true then some c else none
 |_=>none
theorem Fm{r:List Bytes}{c:Bytes}:code? r=some c↔codeOk c=true∧r=[c]:=by
 constructor
 ·intro h
  match r,h with
  |[a],h=>
   replace h:(if codeOk a=true then some a else none)=some c:=h;split at h
   ·cases h;exact⟨by assumption,rfl⟩
   ·cases h
  |[],h=>cases h
  |_::_::_,h=>cases h
 ·rintro⟨h,rfl⟩;exact if_pos h
def jS:Nat→List Bytes→Bool
 |k,[]=>decide (0<k)
 |k,w::r=>if w=[124]∧0<k then jS 0 r else if fullWord w=true∧k<8 then jS (k+1) r else false
theorem zX:∀(r:List Bytes) (k:Nat) (n:Name) (l:List Name),namesIn r=n::l→jS k r=(decide (1≤k+n.length)&&(decide (k+n.length≤8∨n.length=0)&&(n.all fullWord&&l.all nameOk)))
 |[],k,n,l,e=>by
  cases e;simp[jS];omega
 |w::r,k,n,l,e=>by
  cases q:namesIn r with
  |nil=>exact absurd q (wH r)
  |cons m t=>
   rw[ly q]at e;rw[jS];by_cases h:w=[124]
   ·rw[if_pos h]at e;obtain⟨e1,e2⟩:=aqI e;subst e1 e2;have nf:¬fullWord w=true:=by rw[h];decide
    by_cases hk:0<k
    ·rw[if_pos ⟨h,hk⟩,zX r 0 m t q];simp only[arO,atB,List.all_nil,ase,aqZ];have:decide (1≤k)=true:=decide_eq_true hk;rw[this];have:decide (k≤8∨True)=true:=by simp
     rw[this];unfold nameOk;rw[show within 1 8 m.length=(decide (1≤m.length)&&decide (m.length≤8))from rfl];have e3:decide (0+m.length≤8∨m.length=0)=decide (m.length≤8):=by
      rw[decide_eq_decide];omega
     rw[e3,ar2];simp[ar3]
    ·rw[if_neg (fun z=>hk z.2),if_neg (fun z=>nf z.1)];simp;omega
   ·rw[if_neg h]at e;obtain⟨e1,e2⟩:=aqI e;subst e1 e2;rw[if_neg (fun z=>h z.1)];by_cases hf:fullWord w=true
    ·by_cases hk:k<8
     ·rw[if_pos ⟨hf,hk⟩,zX r (k+1) m t q,aqZ,hf,apz];have e3:decide (1≤k+1+m.length)=decide (1≤k+(m.length+1)):=by rw[decide_eq_decide];omega
      have e4:decide (k+1+m.length≤8∨m.length=0)=decide (k+(m.length+1)≤8∨m.length+1=0):=by rw[decide_eq_decide];omega
      rw[e3,e4,ase]
     ·rw[if_neg (fun z=>hk z.2)];have e4:decide (k+(w::m).length≤8∨(w::m).length=0)=false:=by
       rw[decide_eq_false_iff_not,apz];omega
      rw[e4];simp
    ·rw[if_neg (fun z=>hf z.1),aqZ];have:fullWord w=false:=by simpa using hf
     rw[this];simp
theorem HB(r:List Bytes):jS 0 r=namesOk (namesIn r):=by
 cases q:namesIn r with
 |nil=>exact absurd q (wH r)
 |cons n l=>
  rw[zX r 0 n l q];unfold namesOk;rw[aqZ];unfold nameOk;rw[show within 1 8 n.length=(decide (1≤n.length)&&decide (n.length≤8))from rfl];have e3:(decide (1≤0+n.length)&&decide (0+n.length≤8∨n.length=0))=(decide (1≤n.length)&&decide (n.length≤8)):=by
   rw[ar2,aqe];simp only[apv,decide_eq_true_eq];omega
  rw[←ar3,e3];simp[ar3]
def ml(r:List Bytes):Option (List Name):=if jS 0 r=true then some (namesIn r)else none
theorem ng{r:List Bytes}{l:List Name}:ml r=some l↔namesOk l=true∧r=cw l:=by
 unfold ml;rw[HB];constructor
 ·intro h;split at h
  ·cases h;exact⟨by assumption,(jb r).symm⟩
  ·cases h
 ·rintro⟨h,rfl⟩;obtain⟨h1,h2⟩:=dH h;have:=fX l h1 fun n hn x hx=>qE ((h2 n hn).2.2 x hx);rw[this,if_pos h]
def Ex(w:Bytes)(r:List Bytes):Option DLine:=if w=ascii "town" then(ml r).map .town else if w=ascii "street" then(ml r).map .street
  else if w=ascii "code" then(code? r).map .code else if w=ascii "span" then(span? r).map .span
  else if w=ascii "letters" then(tG r).map fun x=>.letters x.1 x.2.1 x.2.2 else if w=ascii "boxes" then(Fv r).map .boxes else none
def acn:List Bytes→Option DLine
 |[]=>none
 |w::r=>Ex w r
theorem gO{α β:Type}{o:Option α}{f:α→β}{y:β}:o.map f=some y↔∃x,o=some x∧f x=y:=by
 cases o<;>simp
theorem Jq(b:Bytes):lineIn b=acn (cutAt 32 b):=by
 refine Option.ext fun x=>?_;rw[Ey];cases e:cutAt 32 b with
 |nil=>exact absurd e (dC _ _)
 |cons w r=>
  show _↔Ex w r=some x;unfold Ex;constructor
  ·rintro⟨ok,h⟩;cases x with
   |town l=>
    obtain⟨rfl,rfl⟩:=aqI h;rw[if_pos rfl,ng.mpr ⟨ok,rfl⟩];rfl
   |street l=>
    obtain⟨rfl,rfl⟩:=aqI h;rw[if_neg (by decide),if_pos rfl,ng.mpr ⟨ok,rfl⟩];rfl
   |code c=>
    obtain⟨rfl,rfl⟩:=aqI h;rw[if_neg (by decide),if_neg (by decide),if_pos rfl,Fm.mpr ⟨ok,rfl⟩];rfl
   |span s=>
    obtain⟨rfl,rfl⟩:=aqI h;rw[if_neg (by decide),if_neg (by decide),if_neg (by decide),if_pos rfl,Dh.mpr ⟨fz.mp ok,rfl⟩];rfl
   |letters n c d=>
    obtain⟨rfl,rfl⟩:=aqI h;rw[if_neg (by decide),if_neg (by decide),if_neg (by decide),if_neg (by decide),if_pos rfl,vz (x:=(n,c,d)).mpr ⟨e9.mp ok,rfl⟩];rfl
   |boxes y=>
    obtain⟨rfl,rfl⟩:=aqI h;rw[if_neg (by decide),if_neg (by decide),if_neg (by decide),if_neg (by decide),if_neg (by decide),if_pos rfl,Bu.mpr ⟨gJ.mp ok,rfl⟩];rfl
  ·intro h;split at h
   ·rename_i q;subst q
    obtain⟨l,h1,rfl⟩:=gO.mp h;obtain⟨h2,rfl⟩:=ng.mp h1;exact⟨h2,rfl⟩
   ·split at h
    ·rename_i q;subst q
     obtain⟨l,h1,rfl⟩:=gO.mp h;obtain⟨h2,rfl⟩:=ng.mp h1;exact⟨h2,rfl⟩
    ·split at h
     ·rename_i q;subst q
      obtain⟨l,h1,rfl⟩:=gO.mp h;obtain⟨h2,rfl⟩:=Fm.mp h1;exact⟨h2,rfl⟩
     ·split at h
      ·rename_i q;subst q
       obtain⟨l,h1,rfl⟩:=gO.mp h;obtain⟨h2,rfl⟩:=Dh.mp h1;exact⟨fz.mpr h2,rfl⟩
      ·split at h
       ·rename_i q;subst q
        obtain⟨l,h1,rfl⟩:=gO.mp h;obtain⟨h2,rfl⟩:=vz.mp h1;exact⟨e9.mpr h2,rfl⟩
       ·split at h
        ·rename_i q;subst q
         obtain⟨l,h1,rfl⟩:=gO.mp h;obtain⟨h2,rfl⟩:=Bu.mp h1;exact⟨gJ.mpr h2,rfl⟩
        ·cases h
def cE(b:UInt8):Bool:=b==10||b==32||b==124||isLetter b
def sg(b:UInt8):Nat:=if cE b=true then b.toNat else 63
theorem qC{c:UInt8}:isLetter c=true↔(48≤c.toNat∧c.toNat≤57)∨(97≤c.toNat∧c.toNat≤122):=by
 unfold isLetter;rw[aqU,gQ,apv,decide_eq_true_iff,decide_eq_true_iff,ap7,ap7];exact asu
theorem dM{c:UInt8}:cE c=true↔c.toNat=10∨c.toNat=32∨c.toNat=124∨(48≤c.toNat∧c.toNat≤57)∨(97≤c.toNat∧c.toNat≤122):=by
 unfold cE;simp only[aqU,beq_iff_eq,qC,←arR];have h1:(10:UInt8).toNat=10:=rfl;have h2:(32:UInt8).toNat=32:=rfl;have h3:(124:UInt8).toNat=124:=rfl;rw[h1,h2,h3];omega
theorem Uu{b c:UInt8}(hc:cE c=true):sg b=c.toNat↔b=c:=by
 unfold sg;constructor
 ·intro h;by_cases q:cE b=true
  ·rw[if_pos q]at h;exact arR.mp h
  ·rw[if_neg q]at h;rw[dM]at hc;omega
 ·rintro rfl;rw[if_pos hc]
theorem CO{b:UInt8}(h:cE b=true):sg b=b.toNat:=if_pos h
theorem uL:∀{w v:Bytes},v.all cE=true→(w.map sg=v.map (fun c=>c.toNat)↔w=v)
 |[],[],_=>by simp
 |[],_::_,_=>by simp
 |_::_,[],_=>by simp
 |b::w,c::v,h=>by
  rw[aqZ,apv]at h;rw[apG,apG,as4,as4,Uu h.1,uL h.2]
theorem lz{w:Bytes}(h:w.all isLetter=true):w.all cE=true:=by
 rw[aqn]at h ⊢;intro c hc;have:=h c hc;unfold cE;rw[this];simp
theorem ny{w:Bytes}(h:w.all cE=true):w.map sg=w.map fun c=>c.toNat:=(uL h).mpr rfl
theorem K8{w v:Bytes}(hv:v.all cE=true)(h:w.map sg=v.map sg):w=v:=by
 rw[ny hv]at h;exact(uL hv).mp h
def MC(c:Nat):List Nat→List (List Nat)
 |[]=>[[]]
 |x::r=>if x=c then[]::MC c r else match MC c r with
  |[]=>[[x]]
  |w::l=>(x::w)::l
theorem MB{c:UInt8}(hc:cE c=true):∀b:Bytes,MC c.toNat (b.map sg)=(cutAt c b).map fun w=>w.map sg
 |[]=>rfl
 |x::r=>by
  have ih:=MB hc r;rw[apG,MC,cutAt];by_cases h:x=c
  ·rw[if_pos h,if_pos ((Uu hc).mpr h),ih];rfl
  ·rw[if_neg h,if_neg (fun q=>h ((Uu hc).mp q)),ih];cases e:cutAt c r with
   |nil=>exact absurd e (dC _ _)
   |cons w l=>rfl
def bh(s:Span)(o:Nat):Option (Nat×Nat):=
 if(s.a+1-o) / 2≤(s.b-o) / 2∧(s.step=1∨s.a % 2=o)then some ((s.a+1-o) / 2,(s.b-o) / 2)else none
theorem yn{s:Span}(ok:dt s)(n:Nat):s.has n=true↔∃x,bh s (n % 2)=some x∧x.1≤n / 2∧n / 2≤x.2:=by
 have h0:s.has n=true↔(s.a≤n∧n≤s.b)∧sideHas s.side n=true:=by
  unfold Span.has;rw[apv,gc]
 have ha:=dY.mp ok.sa;have hb:=dY.mp ok.sb;have a1:=ok.a1;have ab:=ok.ab;have sd:=ok.side;rw[h0,dY];unfold bh;constructor
 ·rintro⟨⟨h1,h2⟩,h3⟩;have c1:(s.a+1-n % 2) / 2≤n / 2:=by omega
  have c2:n / 2≤(s.b-n % 2) / 2:=by omega
  have c3:s.step=1∨s.a % 2=n % 2:=by
   rcases gj s with⟨_,st⟩|⟨e,_⟩
   ·exact .inl st
   ·right;omega
  exact⟨_,if_pos ⟨by omega,c3⟩,c1,c2⟩
 ·rintro⟨x,hx,h1,h2⟩;split at hx
  ·rename_i q
   cases hx;dsimp only at h1 h2;refine⟨⟨by omega,by omega⟩,?_⟩;rcases gj s with⟨e,_⟩|⟨e,st⟩
   ·exact .inl e
   ·rcases q.2 with q2|q2
    ·omega
    ·omega
  ·cases hx
theorem JM{s:Span}{o:Nat}{x:Nat×Nat}(h:bh s o=some x):x.1≤x.2:=by
 unfold bh at h;split at h
 ·rename_i q;cases h;exact q.1
 ·cases h
abbrev gW:=aqc
def cf(b:Bytes):List Int:=b.map fun(c:UInt8)=>((c.toNat:Nat):Int)
theorem vM{t:List Int}(h:∀z∈t,0≤z∧z≤255):cf (aqj t)=t:=by
 unfold cf aqj;rw[apJ];have:∀z∈t,((fun(c:UInt8)=>((c.toNat:Nat):Int))∘fun(z:Int)=>apM z.toNat) z=z:=fun z hz=>by
  have:=h z hz;show(((apM z.toNat).toNat:Nat):Int)=z;rw[cJ (by omega)];omega
 rw[aqk this,List.map_id''];intro x;rfl
theorem Pp(a b:Bytes):cf (a++b)=cf a++cf b:=apB
theorem eF(b:Bytes):(cf b).length=b.length:=apt _
theorem xY(b:Bytes):(aq4 b).map arh=cf b:=by
 unfold aq4 cf;rw[apJ];rfl
def iQ(a:Wqatcm.Ans):List Int:=a.ret::a.nums
theorem step_take(d:Dir)(t:List Int):gW d [[0],t]=((aqw d (aqj t)).1,iQ (aqw d (aqj t)).2):=rfl
theorem y9(d:Dir)(t:List Int):gW d [[1],t]=((aqw d (dirText d++aqj t)).1,iQ (aqw d (dirText d++aqj t)).2):=rfl
theorem yY(d:Dir):gW d [[2]]=(d,((dirText d).length:Int)::cf (dirText d)):=by
 show(d,arh (aq4 (dirText d)).length::(aq4 (dirText d)).map arh)=_;rw[xY];unfold aq4 arh;rw[apt]
theorem vZ(d:Dir):gW d [[3]]=(d,0::(asw d).map arh):=rfl
theorem step_point(d:Dir)(i:Int):gW d [[4,i]]=(d,match(pointsOf d)[i.toNat]? with|some p=>0::arj p|none=>[-4]):=by
 show(d,iQ (atd d i.toNat fun p=>Wqatcm.tells (arj p)))=_;unfold atd;cases(pointsOf d)[i.toNat]? <;>rfl
theorem za(d:Dir)(t s n c:Int):gW d [[5,t,s,n,c]]=(d,if 26<c.toNat then[-1]else iQ (aqv d t.toNat (some s.toNat) n.toNat c.toNat)):=by
 show(d,iQ (if 26<c.toNat then awi else aqv d t.toNat (some s.toNat) n.toNat c.toNat))=_;split<;>rfl
theorem Dc(d:Dir)(t n:Int):gW d [[6,t,n]]=(d,iQ (aqv d t.toNat none n.toNat 0)):=rfl
theorem yX(d:Dir)(w:Int):gW d [[7,w]]=(d,((walkOf d w.toNat).length:Int)::(walkOf d w.toNat).map fun(i:Nat)=>(i:Int)):=rfl
theorem yZ(d:Dir)(w i j:Int):gW d [[8,w,i,j]]=(d,if 1<w.toNat then[-1]else match ari d w.toNat i.toNat j.toNat with|some n=>((spaced n).length:Int)::cf (spaced n)|none=>[-4]):=by
 show(d,iQ (if 1<w.toNat then awi else match ari d w.toNat i.toNat j.toNat with
  |some n=>avs (aq4 (spaced n))
  |none=>Wqatcm.NO))=_
 split
 ·rfl
 ·cases ari d w.toNat i.toNat j.toNat with
  |none=>rfl
  |some n=>
   show(d,arh (aq4 (spaced n)).length::(aq4 (spaced n)).map arh)=_;rw[xY];unfold aq4 arh;rw[apt]
theorem v3(d:Dir)(i:Int):gW d [[9,i]]=(d,match(pointsOf d)[i.toNat]? with|some p=>((partsText (pointParts d p)).length:Int)::cf (partsText (pointParts d p))|none=>[-4]):=by
 show(d,iQ (atd d i.toNat fun p=>avs (aq4 (partsText (pointParts d p)))))=_;unfold atd;cases(pointsOf d)[i.toNat]? with
 |none=>rfl
 |some p=>
  show(d,arh (aq4 (partsText (pointParts d p))).length::(aq4 (partsText (pointParts d p))).map arh)=_;rw[xY];unfold aq4 arh;rw[apt]
theorem xM(p:Point):arj p=[(p.town:Int),au1 p.street,(p.number:Int),(aqt p.letter:Int),(p.walk:Int),(p.place:Int),(p.code.length:Int)]++cf p.code:=by
 unfold arj;rw[xY];rfl
def Km(d:Dir):Prop:=ib d∧readDir (dirText d)=.ok d
theorem Mf:Km []:=⟨.nil,rfl⟩
theorem TN{d e:Dir}{t:Bytes}(hl:t.length≤65536)(h:readDir t=.ok e):aqw d t=(e,atg 0):=by
 unfold aqw aue;rw[if_neg (by omega),h]
theorem Rt{d:Dir}{t:Bytes}{x:Nat×Nat}(hl:t.length≤65536)(h:readDir t=.error x):aqw d t=(d,Wqatcm.faultAt x):=by
 unfold aqw aue;rw[if_neg (by omega),h]
theorem Nd{d:Dir}{t:Bytes}(hl:65536<t.length):aqw d t=(d,Wqatcm.MUCH):=by
 unfold aqw aue;rw[if_pos hl]
theorem QO{t:Bytes}{e:Dir}(h:readDir t=.ok e):Km e∧dirText e=t:=⟨⟨Gh h,by rw[xG h];exact h⟩,xG h⟩
def L5:DLine→Bytes
 | .code c=>c
 | .span s=>s.code
 | .boxes x=>x.code
 |_=>[]
def ZH:DLine→List Name
 | .town l=>l
 | .street l=>l
 |_=>[]
def acq:DLine→Nat
 | .letters n _ _=>n
 |_=>0
def fB:DLine→Nat
 | .span s=>s.a
 | .letters _ c _=>c.toNat-96
 | .boxes x=>x.a
 |_=>0
def QA:DLine→Nat
 | .span s=>s.b
 | .letters _ _ e=>e.toNat-96
 | .boxes x=>x.b
 |_=>0
def eG:DLine→Nat
 | .span s=>s.step
 |_=>1
def bD:DLine→Nat
 | .span s=>s.walk
 | .boxes x=>x.walk
 |_=>0
def bM:DLine→Nat
 | .span s=>s.first
 | .boxes x=>x.first
 |_=>0
def Yh:DLine→Bool
 | .span s=>s.back
 |_=>false
structure fD where
 line:DLine
 town:Nat
 street:Option Nat
 jD:Nat
 src:Option Nat
structure dk where
 names:List Name
 bj:List Bytes
 boxes:List (Iv Nat)
structure aQ where
 names:List Name
 town:Nat
 tZ:List (Iv Nat)
 odd:List (Iv Nat)
 aU:List (Nat×List (Nat×Nat))
structure Bk where
 aF:Dir
 ao:List dk
 ae:List aQ
 aY:Bool
 az:List (Nat×List (Iv Nat))
 bS:List (Iv Nat)
 aK:List fD
 points:Nat
def Bk.empty:Bk:=⟨[],[],[],false,[],[],[],0⟩
def dq(x:DLine)(j:Nat):Nat:=if Yh x=true then x.points-1-j else j
def i7(r:fD)(j:Nat):Point:=⟨r.town,r.street,fB r.line+j*eG r.line,0,L5 r.line,bD r.line,bM r.line+dq r.line j⟩
def gu(x:DLine)(n:Nat):Nat:=(n-fB x) / eG x
def hv(S:aQ)(o:Nat):List (Iv Nat):=if o=0 then S.tZ else S.odd
def aS(S:aQ)(n:Nat):List (Nat×Nat):=(S.aU.lookup n).getD []
def c9(M:Bk)(w:Nat):List (Iv Nat):=(M.az.lookup w).getD []
def cD(S:aQ)(n:Nat):Option Nat:=(cW (hv S (n % 2)) ((n / 2:Nat):Int)).map Iv.at_
def bU{α:Type}(l:List (Nat×α))(k:Nat)(z:α)(f:α→α):List (Nat×α):=
 if(l.lookup k).isSome=true then l.map (fun p=>if p.1=k then(p.1,f p.2)else p)else l++[(k,f z)]
def iA(L:List (Iv Nat))(h:Option (Nat×Nat))(k:Nat):List (Iv Nat):=match h with
 |some x=>bE L ⟨(x.1:Int),(x.2:Int),k⟩
 |none=>L
def eg(s:Span)(k:Nat)(S:aQ):aQ:={S with tZ:=iA S.tZ (bh s 0) k,odd:=iA S.odd (bh s 1) k}
def d3(lo hi b:Nat):List (Nat×Nat):=(ap4 (hi+1-lo)).map fun i=>(lo+i,b+i)
def cU(n lo hi b:Nat)(S:aQ):aQ:={S with aU:=bU S.aU n [] (·++d3 lo hi b)}
def fm(x:Boxes)(k:Nat)(T:dk):dk:={T with boxes:=bE T.boxes ⟨(x.a:Int),(x.b:Int),k⟩}
def cV(c:Bytes)(T:dk):dk:={T with bj:=T.bj++[c]}
def bp(M:Bk):Nat:=M.ae.length-1
def aO(M:Bk):Nat:=M.ao.length-1
def FH(M:Bk)(x:DLine)(st:Option Nat)(src:Option Nat):Bk:=
 {M with aF:=M.aF++[x],bS:=bE M.bS ⟨(M.points:Int),(M.points:Int)+x.points-1,M.aK.length⟩,aK:=M.aK++[⟨x,aO M,st,M.points,src⟩],points:=M.points+x.points}
def jC(M:Bk)(x:DLine):List (Nat×List (Iv Nat)):=bU M.az (bD x) [] fun L=>bE L ⟨(bM x:Int),(bM x:Int)+x.points-1,M.aK.length⟩
def Bk.add(M:Bk)(x:DLine):Bk:=match x with
 | .town l=>{M with aF:=M.aF++[x],ao:=M.ao++[⟨l,[],[]⟩],aY:=false}
 | .code c=>{M with aF:=M.aF++[x],ao:=M.ao.modify (aO M) (cV c)}
 | .street l=>{M with aF:=M.aF++[x],ae:=M.ae++[⟨l,aO M,[],[],[]⟩],aY:=true}
 | .span s=>{FH M x (some (bp M)) none with ae:=M.ae.modify (bp M) (eg s M.aK.length),az:=jC M x}
 | .letters n c e=>{FH M x (some (bp M)) ((M.ae[bp M]?).bind fun S=>cD S n)with ae:=M.ae.modify (bp M) (cU n (c.toNat-96) (e.toNat-96) M.points)}
 | .boxes y=>{FH M x none none with ao:=M.ao.modify (aO M) (fm y M.aK.length),az:=jC M x}
theorem vx{α:Type}(k:Nat)(f:α→α):∀(l:List (Nat×α)) (j:Nat),(l.map (fun p=>if p.1=k then(p.1,f p.2)else p)).lookup j=if j=k then(l.lookup k).map f else l.lookup j
 |[],j=>by simp[aro]
 |(a,v)::l,j=>by
  rw[apG];have ih:=vx k f l j;by_cases ha:a=k
  ·subst ha;rw[if_pos rfl];by_cases hj:j=a
   ·subst hj;simp
   ·have hb:(j==a)=false:=by simpa using hj
    rw[ap6,hb,if_neg hj,ap6,hb];simpa[hj]using ih
  ·rw[if_neg ha];by_cases hj:j=a
   ·subst hj;rw[if_neg ha];simp
   ·have hb:(j==a)=false:=by simpa using hj
    rw[ap6,hb,ap6,ap6,hb];have hka:(k==a)=false:=by simpa using fun q=>ha q.symm
    rw[hka];exact ih
theorem gw{α:Type}:∀(l:List (Nat×α)) (k:Nat) (v:α) (j:Nat),l.lookup k=none→(l++[(k,v)]).lookup j=if j=k then some v else l.lookup j
 |[],k,v,j,_=>by
  by_cases hj:j=k
  ·subst hj;simp
  ·have hb:(j==k)=false:=by simpa using hj
   simp[aro,hb,hj]
 |(a,u)::l,k,v,j,h=>by
  rw[ap6]at h;by_cases ha:k=a
  ·subst ha;simp at h
  ·have hb:(k==a)=false:=by simpa using ha
   rw[hb]at h;have ih:=gw l k v j h;rw[aqx,ap6,ap6];by_cases hj:j=a
   ·subst hj;rw[if_neg (fun q=>ha q.symm)];simp
   ·have hc:(j==a)=false:=by simpa using hj
    rw[hc];exact ih
theorem dE{α:Type}(l:List (Nat×α))(k:Nat)(z:α)(f:α→α)(j:Nat):(bU l k z f).lookup j=if j=k then some (f ((l.lookup k).getD z))else l.lookup j:=by
 unfold bU;cases h:l.lookup k with
 |none=>
  rw[if_neg (by simp)];rw[gw l k (f z) j h];rfl
 |some v=>
  rw[if_pos (show(some v).isSome=true from rfl),vx,h];rfl
theorem mQ{α:Type}(l:List (Nat×α))(k:Nat)(z:α)(f:α→α):(bU l k z f).map (·.1)=if(l.lookup k).isSome=true then l.map (·.1)else l.map (·.1)++[k]:=by
 unfold bU;by_cases h:(l.lookup k).isSome=true
 ·rw[if_pos h,if_pos h,apJ];apply aqk;intro p _;show(if p.1=k then(p.1,f p.2)else p).1=p.1;by_cases q:p.1=k
  ·rw[if_pos q]
  ·rw[if_neg q]
 ·rw[if_neg h,if_neg h];simp
theorem bK{α:Type}:∀(l:List (Nat×α)) (k:Nat),l.lookup k=none↔k∉l.map (·.1)
 |[],k=>by simp
 |(a,v)::l,k=>by
  rw[ap6];by_cases h:k=a
  ·subst h;simp
  ·have hb:(k==a)=false:=by simpa using h
   rw[hb];have:=bK l k;simp[h,this]
theorem mw{α:Type}:∀{l:List (Nat×α)} {k:Nat} {v:α},l.lookup k=some v→(k,v)∈l
 |[],k,v,h=>by simp at h
 |(a,u)::l,k,v,h=>by
  rw[ap6]at h;by_cases q:k=a
  ·subst q;simp at h;subst h;exact apD
  ·have hb:(k==a)=false:=by simpa using q
   rw[hb]at h;exact apy _ (mw h)
theorem eB{α:Type}:∀{l:List (Nat×α)} {k:Nat} {v:α},(l.map (·.1)).Nodup→(k,v)∈l→l.lookup k=some v
 |(a,u)::l,k,v,nd,h=>by
  rw[apG,aqP]at nd;rw[ap6];rcases apA.mp h with e|h
  ·cases e;simp
  ·have:k≠a:=fun q=>nd.1 (by rw[←q];exact apW.mpr ⟨(k,v),h,rfl⟩);have hb:(k==a)=false:=by simpa using this
   rw[hb];exact eB nd.2 h
theorem dW{α:Type}{L:List (Iv α)}{x y:Iv α}:y∈bE L x↔y=x∨y∈L:=by
 rw[(w6 L x).mem_iff,apA]
theorem aA{α:Type}(l:List α)(i:Nat)(f:α→α)(j:Nat):(l.modify i f)[j]? =if j=i then(l[j]?).map f else l[j]? :=by
 rw[List.getElem?_modify];by_cases h:j=i
 ·subst h;simp
 ·rw[if_neg h];have:¬i=j:=fun q=>h q.symm;simp[this]
theorem Ig{α:Type}{l:List (Nat×α)}{k:Nat}{z:α}{f:α→α}{p:Nat×α}(h:p∈bU l k z f):p∈l∨p=(k,f z)∨∃v,(k,v)∈l∧p=(k,f v):=by
 unfold bU at h;split at h
 ·obtain⟨q,hq,e⟩:=apW.mp h;by_cases z:q.1=k
  ·rw[if_pos z]at e;subst e;exact .inr (.inr ⟨q.2,by rw[←z];exact hq,by rw[z]⟩)
  ·rw[if_neg z]at e;subst e;exact .inl hq
 ·rcases apx.mp h with h|h
  ·exact .inl h
  ·exact .inr (.inl (ap2.mp h))
structure adt(d:Dir):Prop where
 aU:∀n q,q∈fE d n→∀k:Nat,q.1.toNat≤k→k≤q.2.toNat→∃p∈pointsOf d,p.street=some (streetsIn d-1)∧p.number=n∧p.letter.toNat=k
 bxs:∀x∈da d,∀n,wZ x n→∃p∈pointsOf d,p.town=townsIn d-1∧p.street=none∧p.number=n
 rows:∀r∈rowsOf d,∀k,r.2.1≤k→k<r.2.1+r.2.2→∃p∈pointsOf d,p.walk=r.1∧p.place=k∧p.letter=0
 sib:∀p∈pointsOf d,p.street≠none→({p with letter:=0}:Point)∈pointsOf d
 xi:∀n q,q∈fE d n→q.1.toNat≤q.2.toNat∧97≤q.1.toNat∧q.2.toNat≤122
theorem iK(d:Dir)(x:DLine):rowsOf (d++[x])=rowsOf d++rowsOf [x]:=iE _ _
theorem lJ{d:Dir}{x:DLine}{n:Nat}{q:UInt8×UInt8}(ht:isTown x=false)(hs:isStreet x=false)(hl:lettersIn [x] n=[])(h:q∈fE (d++[x]) n):q∈fE d n:=by
 rw[iD n ht hs (.inr hl),hl,apK]at h;exact h
theorem p0{d:Dir}{x:DLine}{q:Boxes}(ht:isTown x=false)(hT:(lastTown d).isSome=true)(hl:boxesIn [x]=[])(h:q∈da (d++[x])):q∈da d:=by
 rw[gi ht hT,hl,apK]at h;exact h
theorem fu(d:Dir)(x:DLine):townsIn (d++[x])=townsIn d+if isTown x=true then 1 else 0:=by
 rw[gg];cases h:isTown x<;>simp[townsIn,h]
theorem eW(d:Dir)(x:DLine):streetsIn (d++[x])=streetsIn d+if isStreet x=true then 1 else 0:=by
 rw[ej];cases h:isStreet x<;>simp[streetsIn,h]
theorem r4{d:Dir}(h:ib d):adt d:=by
 induction h with
 |nil=>exact⟨(by intro n q h;cases h),(by intro x h;cases h),(by intro r h;cases h),(by intro p h;cases h),(by intro n q h;cases h)⟩
 | @snoc d x hd ok w T=>
  have f:=nE hd;have f':=nE (ib.snoc hd ok w);obtain⟨st,cl,_⟩:=yT.mp w;have up:∀p,p∈pointsOf d→p∈pointsOf (d++[x]):=fun p hp=>by rw[bG];exact aqr _ hp
  have RN:(∀p∈pointsAt d x,p.street≠none→({p with letter:=0}:Point)∈pointsOf (d++[x]))→∀p∈pointsOf (d++[x]),p.street≠none→({p with letter:=0}:Point)∈pointsOf (d++[x]):=fun k p hp hs=>by
   rw[bG]at hp;rcases apx.mp hp with hp|hp
   ·exact up _ (T.sib p hp hs)
   ·exact k p hp hs
  cases x with
  |town l=>
   refine⟨fun n q h=>?_,fun x h=>?_,fun r h k h1 h2=>?_,RN (fun p hp=>by cases hp),fun n q h=>by rw[Dr]at h;cases h⟩
   ·rw[Dr]at h;cases h
   ·rw[AS]at h;cases h
   ·rw[iK]at h;obtain⟨p,hp,e⟩:=T.rows r (by simpa[rowsOf]using h) k h1 h2;exact⟨p,up p hp,e⟩
  |street l=>
   refine⟨fun n q h=>?_,fun x h n hn=>?_,fun r h k h1 h2=>?_,RN (fun p hp=>by cases hp),fun n q h=>by rw[xx]at h;cases h⟩
   ·rw[xx]at h;cases h
   ·obtain⟨p,hp,e⟩:=T.bxs x (p0 rfl st rfl h) n hn;exact⟨p,up p hp,by rw[fu];exact e⟩
   ·rw[iK]at h;obtain⟨p,hp,e⟩:=T.rows r (by simpa[rowsOf]using h) k h1 h2;exact⟨p,up p hp,e⟩
  |code c=>
   refine⟨fun n q h k h1 h2=>?_,fun x h n hn=>?_,fun r h k h1 h2=>?_,RN (fun p hp=>by cases hp),fun n q h=>T.xi n q (lJ rfl rfl rfl h)⟩
   ·obtain⟨p,hp,e⟩:=T.aU n q (lJ rfl rfl rfl h) k h1 h2;exact⟨p,up p hp,by rw[eW];exact e⟩
   ·obtain⟨p,hp,e⟩:=T.bxs x (p0 rfl st rfl h) n hn;exact⟨p,up p hp,by rw[fu];exact e⟩
   ·rw[iK]at h;obtain⟨p,hp,e⟩:=T.rows r (by simpa[rowsOf]using h) k h1 h2;exact⟨p,up p hp,e⟩
  |span s=>
   have CN:=fz.mp ok;have oN:((lastStreet d).isSome&&(eU d).contains s.code)=true:=st;rw[apv]at oN;have hT:=(f.str1 oN.1).2;refine⟨fun n q h k h1 h2=>?_,fun x h n hn=>?_,fun r h k h1 h2=>?_,RN (fun p hp hs=>?_),fun n q h=>T.xi n q (lJ rfl rfl rfl h)⟩
   ·obtain⟨p,hp,e⟩:=T.aU n q (lJ rfl rfl rfl h) k h1 h2;exact⟨p,up p hp,by rw[eW];exact e⟩
   ·obtain⟨p,hp,e⟩:=T.bxs x (p0 rfl hT rfl h) n hn;exact⟨p,up p hp,by rw[fu];exact e⟩
   ·rw[iK]at h;rcases apx.mp h with h|h
    ·obtain⟨p,hp,e⟩:=T.rows r h k h1 h2;exact⟨p,up p hp,e⟩
    ·have er:r=(s.walk,s.first,s.many):=by simpa[rowsOf]using h
     subst er;simp only at h1 h2;let i:=if s.back=true then s.many-1-(k-s.first)else k-s.first
     have hi:i<s.many:=by show(if s.back=true then _ else _)<_;split<;>omega
     refine⟨⟨townsIn d-1,some (streetsIn d-1),s.a+s.step*i,0,s.code,s.walk,s.placeOf (s.a+s.step*i)⟩,?_,rfl,?_,rfl⟩
     ·rw[bG];refine ap3 _ (apW.mpr ⟨_,?_,rfl⟩);exact apW.mpr ⟨i,apP.mpr hi,rfl⟩
     ·show s.placeOf (s.a+s.step*i)=k;rw[oV CN hi];show s.first+(if s.back=true then s.many-1-(if s.back=true then _ else _)else(if s.back=true then _ else _))=k;split<;>omega
   ·obtain⟨n,hn,e⟩:=apW.mp hp;subst e;rw[bG];exact ap3 _ hp
  |letters m c e=>
   have xi:=e9.mp ok;have oN:(bA d).any (fun(s:Span)=>s.has m)=true:=st;have hS:=j2 oN;have hT:=(f.str1 hS).2;obtain⟨s,hs⟩:∃s,(bA d).find? (fun(s:Span)=>s.has m)=some s:=by
    cases q:(bA d).find? (fun(s:Span)=>s.has m)with
    |some s=>exact⟨s,rfl⟩
    |none=>
     obtain⟨t,ht,h2⟩:=aqs.mp oN;have:=arS.mp q t ht;exact absurd h2 this
   have hp0:pointsAt d (.letters m c e)=(ap4 (e.toNat-c.toNat+1)).map fun(i:Nat)=>(⟨townsIn d-1,some (streetsIn d-1),m,apM (c.toNat+i),s.code,s.walk,s.placeOf m⟩:Point):=by
    show(match(bA d).find? _ with|some s=>_|none=>_)=_;rw[hs]
   refine⟨fun n q h k h1 h2=>?_,fun x h n hn=>?_,fun r h k h1 h2=>?_,RN (fun p hp Sj=>?_),fun n q h=>?_⟩
   ·rw[iD n rfl rfl (.inl hS)]at h;rcases apx.mp h with h|h
    ·obtain⟨p,hp,e⟩:=T.aU n q h k h1 h2;exact⟨p,up p hp,by rw[eW];exact e⟩
    ·have:m=n∧q=(c,e):=by
      by_cases z:m=n
      ·have:lettersIn [DLine.letters m c e] n=[(c,e)]:=by simp[lettersIn,z]
       rw[this]at h;exact⟨z,ap2.mp h⟩
      ·have:lettersIn [DLine.letters m c e] n=[]:=by simp[lettersIn,z]
       rw[this]at h;cases h
     obtain⟨rfl,rfl⟩:=this;simp only at h1 h2;have:=xi.cd;have hc:=e.toNat_lt;refine⟨⟨townsIn d-1,some (streetsIn d-1),m,apM (c.toNat+(k-c.toNat)),s.code,s.walk,s.placeOf m⟩,?_,?_,rfl,?_⟩
     ·rw[bG,hp0];exact ap3 _ (apW.mpr ⟨k-c.toNat,apP.mpr (by omega),rfl⟩)
     ·rw[eW];rfl
     ·show(apM (c.toNat+(k-c.toNat))).toNat=k;rw[cJ (by omega)];omega
   ·obtain⟨p,hp,e⟩:=T.bxs x (p0 rfl hT rfl h) n hn;exact⟨p,up p hp,by rw[fu];exact e⟩
   ·rw[iK]at h;obtain⟨p,hp,e⟩:=T.rows r (by simpa[rowsOf]using h) k h1 h2;exact⟨p,up p hp,e⟩
   ·rw[hp0]at hp;obtain⟨i,_,e⟩:=apW.mp hp;subst e;exact up _ (f.there s (arn hs) m (by simpa using as2 hs))
   ·rw[iD n rfl rfl (.inl hS)]at h;rcases apx.mp h with h|h
    ·exact T.xi n q h
    ·have:q=(c,e):=by
      by_cases z:m=n
      ·have:lettersIn [DLine.letters m c e] n=[(c,e)]:=by simp[lettersIn,z]
       rw[this]at h;exact ap2.mp h
      ·have:lettersIn [DLine.letters m c e] n=[]:=by simp[lettersIn,z]
       rw[this]at h;cases h
     subst this;have h1:=xi.cd;have h2:=xi.c1;have h3:=xi.d2;exact⟨h1,by omega,by omega⟩
  |boxes x=>
   have Rf:=gJ.mp ok;have oN:(eU d).contains x.code=true:=st;have hT:(lastTown d).isSome=true:=by
    unfold eU at oN;cases q:lastTown d with
    |none=>rw[q]at oN;cases oN
    |some t=>rfl
   have hab:=Rf.ab;refine⟨fun n q h k h1 h2=>?_,fun y h n hn=>?_,fun r h k h1 h2=>?_,RN (fun p hp hs=>?_),fun n q h=>T.xi n q (lJ rfl rfl rfl h)⟩
   ·obtain⟨p,hp,e⟩:=T.aU n q (lJ rfl rfl rfl h) k h1 h2;exact⟨p,up p hp,by rw[eW];exact e⟩
   ·rw[gi rfl hT]at h;rcases apx.mp h with h|h
    ·obtain⟨p,hp,e⟩:=T.bxs y h n hn;exact⟨p,up p hp,by rw[fu];exact e⟩
    ·have ey:y=x:=by simpa[boxesIn]using h
     subst ey;obtain⟨n1,n2⟩:=hn;refine⟨⟨townsIn d-1,none,y.a+(n-y.a),0,y.code,y.walk,y.first+(n-y.a)⟩,?_,?_,rfl,?_⟩
     ·rw[bG];refine ap3 _ (apW.mpr ⟨n-y.a,apP.mpr ?_,rfl⟩);unfold Boxes.many;omega
     ·rw[fu];rfl
     ·show y.a+(n-y.a)=n;omega
   ·rw[iK]at h;rcases apx.mp h with h|h
    ·obtain⟨p,hp,e⟩:=T.rows r h k h1 h2;exact⟨p,up p hp,e⟩
    ·have er:r=(x.walk,x.first,x.many):=by simpa[rowsOf]using h
     subst er;simp only at h1 h2;refine⟨⟨townsIn d-1,none,x.a+(k-x.first),0,x.code,x.walk,x.first+(k-x.first)⟩,?_,rfl,?_,rfl⟩
     ·rw[bG];exact ap3 _ (apW.mpr ⟨k-x.first,apP.mpr (by omega),rfl⟩)
     ·show x.first+(k-x.first)=k;omega
   ·obtain⟨n,hn,e⟩:=apW.mp hp;subst e;exact absurd rfl hs
theorem cM{α:Type}{l m:List α}{i:Nat}{x:α}(h:l[i]? =some x):(l++m)[i]? =some x:=by
 rw[aql (apu.mp h).1];exact h
theorem eC{α:Type}{l:List α}{y:α}{i:Nat}{x:α}(h:(l++[y])[i]? =some x):l[i]? =some x∨(i=l.length∧x=y):=by
 by_cases q:i<l.length
 ·rw[aql q]at h;exact .inl h
 ·rw[aqh (by omega)]at h;have:i-l.length=0:=by
   have:=(apu.mp h).1;simp at this;omega
  rw[this]at h;exact .inr ⟨by omega,(apC h).symm⟩
theorem EY{α:Type}{l m:List α}{i:Nat}{x:α}(h:(l++m)[i]? =some x):l[i]? =some x∨(l.length≤i∧m[i-l.length]? =some x):=by
 by_cases q:i<l.length
 ·rw[aql q]at h;exact .inl h
 ·rw[aqh (by omega)]at h;exact .inr ⟨by omega,h⟩
theorem JO{α:Type}{l m:List α}{j:Nat}{x:α}(h:m[j]? =some x):(l++m)[l.length+j]? =some x:=by
 rw[aqh (by omega)];have:l.length+j-l.length=j:=by omega
 rw[this];exact h
structure G7(P:List Point)(bS:List (Iv Nat))(aK:List fD):Prop where
 ok:j4 bS
 rr:∀iv∈bS,∃r,aK[iv.at_]? =some r∧iv.lo=(r.jD:Int)∧iv.hi=(r.jD:Int)+r.line.points-1
 rc:∀i:Nat,i<P.length→∃iv∈bS,iv.lo≤i∧(i:Int)≤iv.hi
 rlt:∀iv∈bS,iv.hi<P.length
 Uz:∀(k:Nat) r,aK[k]? =some r→1≤r.line.points∧r.jD+r.line.points≤P.length
 rp:∀(k:Nat) r,aK[k]? =some r→r.src=none→(∀n c e,r.line≠.letters n c e)∧∀j,j<r.line.points→P[r.jD+j]? =some (i7 r j)
 rl:∀(k:Nat) r,aK[k]? =some r→∀k',r.src=some k'→∃n c e r' s,r.line=.letters n c e∧rD n c e∧aK[k']? =some r'∧r'.src=none∧r'.line=.span s∧dt s∧s.has n=true∧
  ∀j,j<r.line.points→P[r.jD+j]? =some {i7 r' (gu r'.line n)with letter:=apM (c.toNat+j)}
theorem G7.nil:G7 [] [] []:=⟨⟨.nil,fun x h=>(by cases h)⟩,fun _ h=>(by cases h),fun i h=>(by simp at h),fun _ h=>(by cases h),fun _ _ h=>(by simp at h),fun _ _ h=>(by simp at h),fun _ _ h=>(by simp at h)⟩
theorem G7.add{P Q:List Point}{bS:List (Iv Nat)}{aK:List fD}(R:G7 P bS aK){r:fD}(hb:r.jD=P.length)(hq:Q.length=r.line.points)(h1:1≤r.line.points)
  (h2:r.src=none→(∀n c e,r.line≠.letters n c e)∧∀j,j<r.line.points→Q[j]? =some (i7 r j))
  (h3:∀k',r.src=some k'→∃n c e r' s,r.line=.letters n c e∧rD n c e∧aK[k']? =some r'∧r'.src=none∧r'.line=.span s∧dt s∧s.has n=true∧∀j,j<r.line.points→Q[j]? =some {i7 r' (gu r'.line n)with letter:=apM (c.toNat+j)}):
  G7 (P++Q) (bE bS ⟨(P.length:Int),(P.length:Int)+r.line.points-1,aK.length⟩) (aK++[r]):=by
 have hl:(P++Q).length=P.length+r.line.points:=by rw[apr,hq]
 refine⟨yO R.ok (by simp only;omega) ?_,fun iv h=>?_,fun i hi=>?_,fun iv h=>?_,fun k r0 h=>?_,fun k r0 h hs=>?_,fun k r0 h k' hs=>?_⟩
 ·rw[aqL];intro q;obtain⟨x,hx,_,q2⟩:=gN.mp q;have:=R.rlt x hx;simp only at q2;omega
 ·rcases dW.mp h with rfl|h
  ·exact⟨r,by simp,by simp[hb],by simp[hb]⟩
  ·obtain⟨r0,h1,h2⟩:=R.rr iv h;exact⟨r0,cM h1,h2⟩
 ·by_cases q:i<P.length
  ·obtain⟨iv,h,h'⟩:=R.rc i q;exact⟨iv,dW.mpr (.inr h),h'⟩
  ·exact⟨_,dW.mpr (.inl rfl),by simp only;omega,by simp only;omega⟩
 ·rcases dW.mp h with rfl|h
  ·simp only;omega
  ·have:=R.rlt iv h;omega
 ·rcases eC h with h|⟨_,rfl⟩
  ·have:=R.Uz k r0 h;omega
  ·omega
 ·rcases eC h with h|⟨_,rfl⟩
  ·exact⟨(R.rp k r0 h hs).1,fun j hj=>cM ((R.rp k r0 h hs).2 j hj)⟩
  ·refine⟨(h2 hs).1,fun j hj=>?_⟩;rw[hb];exact JO ((h2 hs).2 j hj)
 ·rcases eC h with h|⟨_,rfl⟩
  ·obtain⟨n,c,e,r',s,a1,a2,a3,a4,a5,a6,a7,a8⟩:=R.rl k r0 h k' hs;exact⟨n,c,e,r',s,a1,a2,cM a3,a4,a5,a6,a7,fun j hj=>cM (a8 j hj)⟩
  ·obtain⟨n,c,e,r',s,a1,a2,a3,a4,a5,a6,a7,a8⟩:=h3 k' hs;refine⟨n,c,e,r',s,a1,a2,cM a3,a4,a5,a6,a7,fun j hj=>?_⟩;rw[hb];exact JO (a8 j hj)
def CL(az:List (Nat×List (Iv Nat)))(w:Nat):List (Iv Nat):=(az.lookup w).getD []
structure Walks(P:List Point)(az:List (Nat×List (Iv Nat)))(aK:List fD):Prop where
 ok:∀p∈az,j4 p.2
 nd:(az.map (·.1)).Nodup
 wi:∀w,∀iv∈CL az w,∃r,aK[iv.at_]? =some r∧r.src=none∧bD r.line=w∧iv.lo=(bM r.line:Int)∧iv.hi=(bM r.line:Int)+r.line.points-1
 wc:∀p∈P,∃iv∈CL az p.walk,iv.lo≤p.place∧(p.place:Int)≤iv.hi
 ne:∀p∈az,p.2≠[]
theorem Walks.nil:Walks [] [] []:=⟨fun _ h=>(by cases h),(by simp),fun w iv h=>(by simp[CL]at h),fun _ h=>(by cases h),fun _ h=>(by cases h)⟩
theorem Walks.Xd{P:List Point}{az:List (Nat×List (Iv Nat))}{aK:List fD}(W:Walks P az aK)(w:Nat):j4 (CL az w):=by
 unfold CL;cases h:az.lookup w with
 |none=>exact⟨.nil,fun x h=>by cases h⟩
 |some L=>exact W.ok _ (mw h)
theorem Walks.keep{P Q:List Point}{az:List (Nat×List (Iv Nat))}{aK R:List fD}(W:Walks P az aK)(h:∀q∈Q,∃p∈P,p.walk=q.walk∧p.place=q.place):Walks (P++Q) az (aK++R):=by
 refine⟨W.ok,W.nd,fun w iv hi=>?_,fun p hp=>?_,W.ne⟩
 ·obtain⟨r,a,b⟩:=W.wi w iv hi;exact⟨r,cM a,b⟩
 ·rcases apx.mp hp with hp|hp
  ·exact W.wc p hp
  ·obtain⟨q,hq,e1,e2⟩:=h p hp;rw[←e1,←e2];exact W.wc q hq
theorem Hb(az:List (Nat×List (Iv Nat)))(k:Nat)(f:List (Iv Nat)→List (Iv Nat))(w:Nat):CL (bU az k [] f) w=if w=k then f (CL az k)else CL az w:=by
 unfold CL;rw[dE];by_cases h:w=k
 ·rw[if_pos h,if_pos h];rfl
 ·rw[if_neg h,if_neg h]
theorem Walks.add{P Q:List Point}{az:List (Nat×List (Iv Nat))}{aK:List fD}(W:Walks P az aK){r:fD}(hs:r.src=none)(h1:1≤r.line.points)
  (hm:d5 (CL az (bD r.line)) (bM r.line:Int) ((bM r.line:Int)+r.line.points-1)=false)
  (hQ:∀q∈Q,q.walk=bD r.line∧bM r.line≤q.place∧q.place<bM r.line+r.line.points):
  Walks (P++Q) (bU az (bD r.line) [] fun L=>bE L ⟨(bM r.line:Int),(bM r.line:Int)+r.line.points-1,aK.length⟩) (aK++[r]):=by
 have Xd:=W.Xd (bD r.line);have okn:j4 (bE (CL az (bD r.line)) ⟨(bM r.line:Int),(bM r.line:Int)+r.line.points-1,aK.length⟩):=yO Xd (by simp only;omega) hm;have ne0:∀(L:List (Iv Nat)) (x:Iv Nat),bE L x≠[]:=fun L x q=>by
  have:x∈bE L x:=dW.mpr (.inl rfl);rw[q]at this;cases this
 refine⟨fun p hp=>?_,?_,fun w iv hi=>?_,fun p hp=>?_,fun p hp=>?_⟩
 ·have:(bU az (bD r.line) [] fun L=>bE L ⟨(bM r.line:Int),(bM r.line:Int)+r.line.points-1,aK.length⟩).lookup p.1=some p.2:=by
   refine eB ?_ hp;rw[mQ];split
   ·exact W.nd
   ·rename_i q
    have:(az.lookup (bD r.line))=none:=by cases z:az.lookup (bD r.line)with|none=>rfl|some v=>rw[z]at q;simp at q
    have:=(bK _ _).mp this;rw[asF];refine⟨W.nd,by simp,?_⟩;intro a ha b hb;rw[ap2]at hb;rw[hb];exact fun q=>this (q▸ha)
  rw[dE]at this;by_cases z:p.1=bD r.line
  ·rw[if_pos z]at this;rw[←apC this];exact okn
  ·rw[if_neg z]at this;exact W.ok _ (mw this)
 ·rw[mQ];split
  ·exact W.nd
  ·rename_i q
   have:(az.lookup (bD r.line))=none:=by cases z:az.lookup (bD r.line)with|none=>rfl|some v=>rw[z]at q;simp at q
   have:=(bK _ _).mp this;rw[asF];refine⟨W.nd,by simp,?_⟩;intro a ha b hb;rw[ap2]at hb;rw[hb];exact fun q=>this (q▸ha)
 ·rw[Hb]at hi;by_cases z:w=bD r.line
  ·rw[if_pos z]at hi;rcases dW.mp hi with rfl|hi
   ·exact⟨r,by simp,hs,z.symm,rfl,rfl⟩
   ·rw[←z]at hi;obtain⟨r0,a,b⟩:=W.wi w iv hi;exact⟨r0,cM a,b⟩
  ·rw[if_neg z]at hi;obtain⟨r0,a,b⟩:=W.wi w iv hi;exact⟨r0,cM a,b⟩
 ·rw[Hb];rcases apx.mp hp with hp|hp
  ·obtain⟨iv,a,b⟩:=W.wc p hp;by_cases z:p.walk=bD r.line
   ·rw[if_pos z];rw[z]at a;exact⟨iv,dW.mpr (.inr a),b⟩
   ·rw[if_neg z];exact⟨iv,a,b⟩
  ·obtain⟨a,b,c⟩:=hQ p hp;rw[if_pos a];exact⟨_,dW.mpr (.inl rfl),by simp only;omega,by simp only;omega⟩
 ·rcases Ig hp with h|h|⟨v,_,h⟩
  ·exact W.ne p h
  ·rw[h];exact ne0 _ _
  ·rw[h];exact ne0 _ _
theorem qm(lo hi b:Nat):(d3 lo hi b).map (·.1)=(ap4 (hi+1-lo)).map fun i=>lo+i:=by
 unfold d3;rw[apJ];rfl
theorem oC(lo hi b:Nat):((d3 lo hi b).map (·.1)).Nodup:=by
 rw[qm];show avt (·≠ ·) _;rw[aq7];exact ar7.imp (fun h q=>h (by omega))
theorem mj(lo hi b l:Nat):(d3 lo hi b).lookup l=if lo≤l∧l≤hi then some (b+(l-lo))else none:=by
 by_cases h:lo≤l∧l≤hi
 ·rw[if_pos h];refine eB (oC lo hi b) ?_;exact apW.mpr ⟨l-lo,apP.mpr (by omega),by simp only[Prod.mk.injEq,and_true];omega⟩
 ·rw[if_neg h,bK,qm];intro q;obtain⟨i,hi,e⟩:=apW.mp q;have:=apP.mp hi;omega
theorem qu{α:Type}(l m:List (Nat×α))(k:Nat):(l++m).lookup k=(l.lookup k).or (m.lookup k):=by
 induction l with
 |nil=>simp
 |cons p l ih=>
  obtain⟨a,v⟩:=p;rw[aqx,ap6,ap6];by_cases h:k=a
  ·subst h;simp
  ·have hb:(k==a)=false:=by simpa using h
   rw[hb];exact ih
structure dF(P:List Point)(ae:List aQ)(aK:List fD):Prop where
 ok:∀S∈ae,j4 S.tZ∧j4 S.odd
 hi:∀(s:Nat) S,ae[s]? =some S→∀o,o<2→∀iv∈hv S o,∃r sp x,aK[iv.at_]? =some r∧r.line=.span sp∧dt sp∧r.src=none∧r.street=some s∧r.town=S.town∧bh sp o=some x∧iv.lo=(x.1:Int)∧iv.hi=(x.2:Int)
 lp:∀(s:Nat) S,ae[s]? =some S→∀n l i,(aS S n).lookup l=some i→∃p,P[i]? =some p∧p.street=some s∧p.town=S.town∧p.number=n∧1≤l∧l≤26∧p.letter.toNat=l+96
 ln:∀S∈ae,(S.aU.map (·.1)).Nodup∧∀q∈S.aU,(q.2.map (·.1)).Nodup∧q.2≠[]
 hc:∀p∈P,∀s,p.street=some s→∃S,ae[s]? =some S∧S.town=p.town∧∃iv∈hv S (p.number % 2),iv.lo≤((p.number / 2:Nat):Int)∧((p.number / 2:Nat):Int)≤iv.hi
 lc:∀(i:Nat) p,P[i]? =some p→∀s,p.street=some s→p.letter≠0→∃S,ae[s]? =some S∧(aS S p.number).lookup (p.letter.toNat-96)=some i
theorem dF.nil:dF [] [] []:=⟨fun _ h=>(by cases h),fun _ _ h=>(by simp at h),fun _ _ h=>(by simp at h),fun _ h=>(by cases h),fun _ h=>(by cases h),fun _ _ h=>(by simp at h)⟩
theorem dF.Xe{P:List Point}{ae:List aQ}{aK:List fD}(T:dF P ae aK){s:Nat}{S:aQ}(h:ae[s]? =some S)(o:Nat):j4 (hv S o):=by
 have:=T.ok S (aps h);unfold hv;split
 ·exact this.1
 ·exact this.2
theorem dF.more{P Q:List Point}{ae:List aQ}{aK R:List fD}(T:dF P ae aK)(hq:∀q∈Q,q.street=none):dF (P++Q) ae (aK++R):=by
 refine⟨T.ok,fun s S h o ho iv hi=>?_,fun s S h n l i hl=>?_,T.ln,fun p hp s hs=>?_,fun i p hp s hs hl=>?_⟩
 ·obtain⟨r,sp,x,a,b⟩:=T.hi s S h o ho iv hi;exact⟨r,sp,x,cM a,b⟩
 ·obtain⟨p,a,b⟩:=T.lp s S h n l i hl;exact⟨p,cM a,b⟩
 ·rcases apx.mp hp with hp|hp
  ·exact T.hc p hp s hs
  ·rw[hq p hp]at hs;cases hs
 ·rcases EY hp with hp|⟨_,hp⟩
  ·exact T.lc i p hp s hs hl
  ·rw[hq p (aps hp)]at hs;cases hs
theorem dF.street{P:List Point}{ae:List aQ}{aK:List fD}(T:dF P ae aK)(l:List Name)(t:Nat):dF P (ae++[⟨l,t,[],[],[]⟩]) aK:=by
 refine⟨fun S hS=>?_,fun s S h o ho iv hi=>?_,fun s S h n k i hl=>?_,fun S hS=>?_,fun p hp s hs=>?_,fun i p hp s hs hl=>?_⟩
 ·rcases apx.mp hS with hS|hS
  ·exact T.ok S hS
  ·rw[ap2.mp hS];exact⟨⟨.nil,fun x h=>(by cases h)⟩,⟨.nil,fun x h=>(by cases h)⟩⟩
 ·rcases eC h with h|⟨_,rfl⟩
  ·exact T.hi s S h o ho iv hi
  ·unfold hv at hi;split at hi<;>cases hi
 ·rcases eC h with h|⟨_,rfl⟩
  ·exact T.lp s S h n k i hl
  ·simp[aS]at hl
 ·rcases apx.mp hS with hS|hS
  ·exact T.ln S hS
  ·rw[ap2.mp hS];exact⟨by simp,fun q h=>(by cases h)⟩
 ·obtain⟨S,a,b⟩:=T.hc p hp s hs;exact⟨S,cM a,b⟩
 ·obtain⟨S,a,b⟩:=T.lc i p hp s hs hl;exact⟨S,cM a,b⟩
theorem JI(s:Span)(k:Nat)(S:aQ){o:Nat}(ho:o<2):hv (eg s k S) o=iA (hv S o) (bh s o) k:=by
 unfold hv eg
 match o,ho with
 |0,_=>rfl
 |1,_=>rfl
theorem sY{L:List (Iv Nat)}{h:Option (Nat×Nat)}{k:Nat}{iv:Iv Nat}:iv∈iA L h k↔iv∈L∨∃x,h=some x∧iv=⟨(x.1:Int),(x.2:Int),k⟩:=by
 unfold iA;cases h with
 |none=>simp
 |some x=>
  show iv∈bE L _↔_;rw[dW];constructor
  ·rintro(h|h)
   ·exact .inr ⟨x,rfl,h⟩
   ·exact .inl h
  ·rintro(h|⟨y,e,h⟩)
   ·exact .inr h
   ·cases e;exact .inl h
theorem FI{L:List (Iv Nat)}(h:j4 L){s:Span}{o k:Nat}(hm:∀x,bh s o=some x→d5 L (x.1:Int) (x.2:Int)=false):j4 (iA L (bh s o) k):=by
 unfold iA;cases q:bh s o with
 |none=>exact h
 |some x=>
  have:=JM q;exact yO h (by simp only;omega) (hm x q)
theorem dF.span{P Q:List Point}{ae:List aQ}{aK:List fD}(T:dF P ae aK){i t:Nat}{S:aQ}{s:Span}(hS:ae[i]? =some S)(ht:S.town=t)(ok:dt s)
  (hm:∀o,o<2→∀x,bh s o=some x→d5 (hv S o) (x.1:Int) (x.2:Int)=false)
  (hQ:∀(j:Nat) q,Q[j]? =some q→q.street=some i∧q.town=t∧q.letter=0∧s.has q.number=true)(b:Nat):
  dF (P++Q) (ae.modify i (eg s aK.length)) (aK++[⟨.span s,t,some i,b,none⟩]):=by
 have at_:∀(s':Nat) S',(ae.modify i (eg s aK.length))[s']? =some S'→(s'≠i∧ae[s']? =some S')∨(s'=i∧S'=eg s aK.length S):=fun s' S' h=>by
  rw[aA]at h;by_cases q:s'=i
  ·rw[if_pos q,q,hS]at h;exact .inr ⟨q,(apC h).symm⟩
  ·rw[if_neg q]at h;exact .inl ⟨q,h⟩
 have to_:∀(s':Nat) S',ae[s']? =some S'→∃MW,(ae.modify i (eg s aK.length))[s']? =some MW∧MW.town=S'.town∧MW.aU=S'.aU∧∀o,o<2→∀iv∈hv S' o,iv∈hv MW o:=fun s' S' h=>by
  rw[aA];by_cases q:s'=i
  ·rw[if_pos q,h];exact⟨_,rfl,rfl,rfl,fun o ho iv hi=>by rw[JI _ _ _ ho];exact sY.mpr (.inl hi)⟩
  ·rw[if_neg q];exact⟨S',h,rfl,rfl,fun _ _ _ hi=>hi⟩
 refine⟨fun S' CY=>?_,fun s' S' h o ho iv hi=>?_,fun s' S' h n l i' hl=>?_,fun S' CY=>?_,fun p hp s' hs=>?_,fun i' p hp s' hs hl=>?_⟩
 ·obtain⟨s',Sj⟩:=apR CY;rcases at_ s' S' Sj with⟨_,h⟩|⟨_,rfl⟩
  ·exact T.ok S' (aps h)
  ·exact⟨FI (T.Xe hS 0) (hm 0 (by decide)),FI (T.Xe hS 1) (hm 1 (by decide))⟩
 ·rcases at_ s' S' h with⟨_,h⟩|⟨rfl,rfl⟩
  ·obtain⟨r,sp,x,a,b⟩:=T.hi s' S' h o ho iv hi;exact⟨r,sp,x,cM a,b⟩
  ·rw[JI _ _ _ ho]at hi;rcases sY.mp hi with hi|⟨x,hx,rfl⟩
   ·obtain⟨r,sp,x,a,b⟩:=T.hi s' S hS o ho iv hi;exact⟨r,sp,x,cM a,b⟩
   ·exact⟨⟨.span s,t,some s',b,none⟩,s,x,by simp,rfl,ok,rfl,rfl,ht.symm,hx,rfl,rfl⟩
 ·rcases at_ s' S' h with⟨_,h⟩|⟨rfl,rfl⟩
  ·obtain⟨p,a,b⟩:=T.lp s' S' h n l i' hl;exact⟨p,cM a,b⟩
  ·obtain⟨p,a,b⟩:=T.lp s' S hS n l i' hl;exact⟨p,cM a,b⟩
 ·obtain⟨s',Sj⟩:=apR CY;rcases at_ s' S' Sj with⟨_,h⟩|⟨_,rfl⟩
  ·exact T.ln S' (aps h)
  ·exact T.ln S (aps hS)
 ·rcases apx.mp hp with hp|hp
  ·obtain⟨S',a,b,iv,c,d⟩:=T.hc p hp s' hs;obtain⟨MW,a',b',_,c'⟩:=to_ s' S' a;exact⟨MW,a',b'.trans b,iv,c' _ (arP _ (by decide)) iv c,d⟩
  ·obtain⟨j,hj⟩:=apR hp;obtain⟨e1,e2,e3,e4⟩:=hQ j p hj;rw[e1]at hs;cases hs;obtain⟨x,h1,h2,h3⟩:=(yn ok p.number).mp e4;refine⟨eg s aK.length S,by rw[aA,if_pos rfl,hS];rfl,by rw[e2];exact ht,⟨(x.1:Int),(x.2:Int),aK.length⟩,?_,by simp only;omega,by simp only;omega⟩;rw[JI _ _ _ (arP _ (by decide))];exact sY.mpr (.inr ⟨x,h1,rfl⟩)
 ·rcases EY hp with hp|⟨_,hp⟩
  ·obtain⟨S',a,b⟩:=T.lc i' p hp s' hs hl;obtain⟨MW,a',_,b',_⟩:=to_ s' S' a;exact⟨MW,a',by unfold aS at b ⊢;rw[b'];exact b⟩
  ·exact absurd (hQ _ p hp).2.2.1 hl
theorem wL(n lo hi b:Nat)(S:aQ)(m:Nat):aS (cU n lo hi b S) m=if m=n then aS S n++d3 lo hi b else aS S m:=by
 unfold aS cU;rw[dE];by_cases h:m=n
 ·rw[if_pos h,if_pos h];rfl
 ·rw[if_neg h,if_neg h]
theorem dF.letters{P Q:List Point}{ae:List aQ}{aK R:List fD}(T:dF P ae aK){i t:Nat}{S:aQ}{n lo hi:Nat}(hS:ae[i]? =some S)(ht:S.town=t)(dP:1≤lo)(hlh:lo≤hi)(hhi:hi≤26)
  (M4:∀l,lo≤l→l≤hi→(aS S n).lookup l=none)(ahN:∃iv∈hv S (n % 2),iv.lo≤((n / 2:Nat):Int)∧((n / 2:Nat):Int)≤iv.hi)
  (hl:Q.length=hi+1-lo)(hQ:∀(j:Nat) q,Q[j]? =some q→q.street=some i∧q.town=t∧q.number=n∧q.letter.toNat=lo+j+96):
  dF (P++Q) (ae.modify i (cU n lo hi P.length)) (aK++R):=by
 have at_:∀(s':Nat) S',(ae.modify i (cU n lo hi P.length))[s']? =some S'→(s'≠i∧ae[s']? =some S')∨(s'=i∧S'=cU n lo hi P.length S):=fun s' S' h=>by
  rw[aA]at h;by_cases q:s'=i
  ·rw[if_pos q,q,hS]at h;exact .inr ⟨q,(apC h).symm⟩
  ·rw[if_neg q]at h;exact .inl ⟨q,h⟩
 have to_:∀(s':Nat) S',ae[s']? =some S'→∃MW,(ae.modify i (cU n lo hi P.length))[s']? =some MW∧MW.town=S'.town∧(∀o,hv MW o=hv S' o)∧∀m l k,(aS S' m).lookup l=some k→(aS MW m).lookup l=some k:=fun s' S' h=>by
  rw[aA];by_cases q:s'=i
  ·rw[if_pos q,h];refine⟨_,rfl,rfl,fun _=>rfl,fun m l k hk=>?_⟩;rw[wL];by_cases z:m=n
   ·rw[if_pos z,qu,←z,hk];rfl
   ·rw[if_neg z];exact hk
  ·rw[if_neg q];exact⟨S',h,rfl,fun _=>rfl,fun _ _ _ hk=>hk⟩
 refine⟨fun S' CY=>?_,fun s' S' h o ho iv hi=>?_,fun s' S' h m l i' tN=>?_,fun S' CY=>?_,fun p hp s' hs=>?_,fun i' p hp s' hs tN=>?_⟩
 ·obtain⟨s',Sj⟩:=apR CY;rcases at_ s' S' Sj with⟨_,h⟩|⟨_,rfl⟩
  ·exact T.ok S' (aps h)
  ·exact T.ok S (aps hS)
 ·rcases at_ s' S' h with⟨_,h⟩|⟨rfl,rfl⟩
  ·obtain⟨r,sp,x,a,b⟩:=T.hi s' S' h o ho iv hi;exact⟨r,sp,x,cM a,b⟩
  ·obtain⟨r,sp,x,a,b⟩:=T.hi s' S hS o ho iv hi;exact⟨r,sp,x,cM a,b⟩
 ·rcases at_ s' S' h with⟨_,h⟩|⟨rfl,rfl⟩
  ·obtain⟨p,a,b⟩:=T.lp s' S' h m l i' tN;exact⟨p,cM a,b⟩
  ·rw[wL]at tN;have old:∀m,(aS S m).lookup l=some i'→∃p,(P++Q)[i']? =some p∧p.street=some s'∧p.town=(cU n lo hi P.length S).town∧p.number=m∧1≤l∧l≤26∧p.letter.toNat=l+96:=fun m hk=>by
    obtain⟨p,a,b⟩:=T.lp s' S hS m l i' hk;exact⟨p,cM a,b⟩
   by_cases z:m=n
   ·rw[if_pos z,qu]at tN;cases q:(aS S n).lookup l with
    |some k=>
     rw[q]at tN;cases tN;rw[z];exact old n q
    |none=>
     rw[q,avl,mj]at tN;by_cases y:lo≤l∧l≤hi
     ·rw[if_pos y]at tN;cases tN;obtain⟨pt,hp⟩:∃pt,Q[l-lo]? =some pt:=⟨_,apO (by omega)⟩;obtain⟨e1,e2,e3,e4⟩:=hQ _ pt hp;exact⟨pt,JO hp,e1,e2.trans ht.symm,e3.trans z.symm,by omega,by omega,by omega⟩
     ·rw[if_neg y]at tN;cases tN
   ·rw[if_neg z]at tN;exact old m tN
 ·obtain⟨s',Sj⟩:=apR CY;rcases at_ s' S' Sj with⟨_,h⟩|⟨_,rfl⟩
  ·exact T.ln S' (aps h)
  ·obtain⟨n1,n2⟩:=T.ln S (aps hS);have ne0:d3 lo hi P.length≠[]:=fun q=>by
    have:=congrArg arD q;simp[d3]at this;omega
   have hL:(cU n lo hi P.length S).aU=bU S.aU n [] (fun v=>v++d3 lo hi P.length):=rfl;rw[hL];refine⟨?_,fun q hq=>?_⟩
   ·rw[mQ];split
    ·exact n1
    ·rename_i q
     have:S.aU.lookup n=none:=by cases z:S.aU.lookup n with|none=>rfl|some v=>rw[z]at q;simp at q
     have:=(bK _ _).mp this;rw[asF];refine⟨n1,by simp,?_⟩;intro a ha b hb;rw[ap2]at hb;rw[hb];exact fun q=>this (q▸ha)
   ·rcases Ig hq with h|h|⟨v,Xu,h⟩
    ·exact n2 q h
    ·rw[h];exact⟨oC _ _ _,by simpa using ne0⟩
    ·have hk:aS S n=v:=by unfold aS;rw[eB n1 Xu];rfl
     rw[h];refine⟨?_,fun q=>ne0 (List.append_eq_nil_iff.mp q).2⟩;rw[apB,asF];refine⟨(n2 _ Xu).1,oC _ _ _,?_⟩;intro a ha b hb e;subst e;rw[qm]at hb;obtain⟨j,hj,e⟩:=apW.mp hb;have:=apP.mp hj;have hn:=M4 a (by omega) (by omega);rw[hk]at hn;exact(bK _ _).mp hn ha
 ·rcases apx.mp hp with hp|hp
  ·obtain⟨S',a,b,iv,c,d⟩:=T.hc p hp s' hs;obtain⟨MW,a',b',c',_⟩:=to_ s' S' a;exact⟨MW,a',b'.trans b,iv,by rw[c'];exact c,d⟩
  ·obtain⟨j,hj⟩:=apR hp;obtain⟨e1,e2,e3,e4⟩:=hQ j p hj;rw[e1]at hs;cases hs;rw[e3];exact⟨cU n lo hi P.length S,by rw[aA,if_pos rfl,hS];rfl,by rw[e2];exact ht,ahN⟩
 ·rcases EY hp with hp|⟨hle,hp⟩
  ·obtain⟨S',a,b⟩:=T.lc i' p hp s' hs tN;obtain⟨MW,a',_,_,b'⟩:=to_ s' S' a;exact⟨MW,a',b' _ _ _ b⟩
  ·obtain⟨e1,e2,e3,e4⟩:=hQ _ p hp;rw[e1]at hs;cases hs;have hj:=(apu.mp hp).1;refine⟨cU n lo hi P.length S,by rw[aA,if_pos rfl,hS];rfl,?_⟩;rw[wL,if_pos e3,qu,M4 _ (by omega) (by omega),avl,mj,if_pos (by omega)];congr 1;omega
structure lr(P:List Point)(ao:List dk)(aK:List fD):Prop where
 ok:∀T∈ao,j4 T.boxes
 bi:∀(t:Nat) T,ao[t]? =some T→∀iv∈T.boxes,∃r x,aK[iv.at_]? =some r∧r.line=.boxes x∧nZ x∧r.src=none∧r.street=none∧r.town=t∧iv.lo=(x.a:Int)∧iv.hi=(x.b:Int)
 bc:∀p∈P,p.street=none→∃T,ao[p.town]? =some T∧∃iv∈T.boxes,iv.lo≤p.number∧(p.number:Int)≤iv.hi
theorem lr.nil:lr [] [] []:=⟨fun _ h=>(by cases h),fun _ _ h=>(by simp at h),fun _ h=>(by cases h)⟩
theorem lr.more{P Q:List Point}{ao:List dk}{aK R:List fD}(T:lr P ao aK)(hq:∀q∈Q,q.street≠none):lr (P++Q) ao (aK++R):=by
 refine⟨T.ok,fun t T' h iv hi=>?_,fun p hp hs=>?_⟩
 ·obtain⟨r,x,a,b⟩:=T.bi t T' h iv hi;exact⟨r,x,cM a,b⟩
 ·rcases apx.mp hp with hp|hp
  ·exact T.bc p hp hs
  ·exact absurd hs (hq p hp)
theorem lr.town{P:List Point}{ao:List dk}{aK:List fD}(T:lr P ao aK)(l:List Name):lr P (ao++[⟨l,[],[]⟩]) aK:=by
 refine⟨fun S hS=>?_,fun t T' h iv hi=>?_,fun p hp hs=>?_⟩
 ·rcases apx.mp hS with hS|hS
  ·exact T.ok S hS
  ·rw[ap2.mp hS];exact⟨.nil,fun x h=>(by cases h)⟩
 ·rcases eC h with h|⟨_,rfl⟩
  ·exact T.bi t T' h iv hi
  ·cases hi
 ·obtain⟨S,a,b⟩:=T.bc p hp hs;exact⟨S,cM a,b⟩
theorem lr.code{P:List Point}{ao:List dk}{aK:List fD}(T:lr P ao aK)(i:Nat)(c:Bytes):lr P (ao.modify i (cV c)) aK:=by
 have at_:∀(t:Nat) T',(ao.modify i (cV c))[t]? =some T'→∃T0,ao[t]? =some T0∧T0.boxes=T'.boxes:=fun t T' h=>by
  rw[aA]at h;by_cases q:t=i
  ·rw[if_pos q]at h;cases z:ao[t]? with
   |none=>rw[z]at h;cases h
   |some T0=>rw[z]at h;cases h;exact⟨T0,rfl,rfl⟩
  ·rw[if_neg q]at h;exact⟨T',h,rfl⟩
 refine⟨fun S hS=>?_,fun t T' h iv hi=>?_,fun p hp hs=>?_⟩
 ·obtain⟨t,ht⟩:=apR hS;obtain⟨T0,a,b⟩:=at_ t S ht;rw[←b];exact T.ok T0 (aps a)
 ·obtain⟨T0,a,b⟩:=at_ t T' h;exact T.bi t T0 a iv (by rw[b];exact hi)
 ·obtain⟨S,a,b⟩:=T.bc p hp hs;rw[aA];by_cases q:p.town=i
  ·rw[if_pos q,a];exact⟨_,rfl,b⟩
  ·rw[if_neg q];exact⟨S,a,b⟩
theorem lr.boxes{P Q:List Point}{ao:List dk}{aK:List fD}(T:lr P ao aK){i:Nat}{S:dk}{x:Boxes}(hS:ao[i]? =some S)(ok:nZ x)
  (hm:d5 S.boxes (x.a:Int) (x.b:Int)=false)(hQ:∀q∈Q,q.town=i∧q.street=none∧x.a≤q.number∧q.number≤x.b)(b:Nat):
  lr (P++Q) (ao.modify i (fm x aK.length)) (aK++[⟨.boxes x,i,none,b,none⟩]):=by
 have hab:=ok.ab;have at_:∀(t:Nat) T',(ao.modify i (fm x aK.length))[t]? =some T'→(t≠i∧ao[t]? =some T')∨(t=i∧T'=fm x aK.length S):=fun s' S' h=>by
  rw[aA]at h;by_cases q:s'=i
  ·rw[if_pos q,q,hS]at h;exact .inr ⟨q,(apC h).symm⟩
  ·rw[if_neg q]at h;exact .inl ⟨q,h⟩
 refine⟨fun S' CY=>?_,fun t T' h iv hi=>?_,fun p hp hs=>?_⟩
 ·obtain⟨s',Sj⟩:=apR CY;rcases at_ s' S' Sj with⟨_,h⟩|⟨_,rfl⟩
  ·exact T.ok S' (aps h)
  ·exact yO (T.ok S (aps hS)) (by simp only;omega) hm
 ·rcases at_ t T' h with⟨_,h⟩|⟨rfl,rfl⟩
  ·obtain⟨r,x,a,b⟩:=T.bi t T' h iv hi;exact⟨r,x,cM a,b⟩
  ·rcases dW.mp hi with rfl|hi
   ·exact⟨⟨.boxes x,t,none,b,none⟩,x,by simp,rfl,ok,rfl,rfl,rfl,rfl,rfl⟩
   ·obtain⟨r,x,a,b⟩:=T.bi t S hS iv hi;exact⟨r,x,cM a,b⟩
 ·rcases apx.mp hp with hp|hp
  ·obtain⟨T',a,iv,c,d⟩:=T.bc p hp hs;rw[aA];by_cases q:p.town=i
   ·rw[if_pos q,a];exact⟨_,rfl,iv,dW.mpr (.inr c),d⟩
   ·rw[if_neg q];exact⟨T',a,iv,c,d⟩
  ·obtain⟨e1,e2,e3,e4⟩:=hQ p hp;rw[e1,aA,if_pos rfl,hS];exact⟨_,rfl,_,dW.mpr (.inl rfl),by simp only;omega,by simp only;omega⟩
structure cX(d:Dir)(M:Bk):Prop where
 dA:ib d
 aF:M.aF=d
 tn:M.ao.map dk.names=townNames d
 sn:M.ae.map aQ.names=streetNames d
 JH:(lastTown d).isSome=true↔M.ao≠[]
 Ko:(lastStreet d).isSome=true↔M.aY=true
 BH:M.aY=true→M.ae≠[]∧M.ao≠[]
 tc:∀T,M.ao[aO M]? =some T→T.bj=eU d
 Wn:M.aY=true→∀S,M.ae[bp M]? =some S→S.town=aO M
 np:M.points=(pointsOf d).length
 R:G7 (pointsOf d) M.bS M.aK
 W:Walks (pointsOf d) M.az M.aK
 S:dF (pointsOf d) M.ae M.aK
 T:lr (pointsOf d) M.ao M.aK
theorem Qt:cX [] Bk.empty where
 dA:=.nil
 aF:=rfl
 tn:=rfl
 sn:=rfl
 JH:=by simp[lastTown,Bk.empty]
 Ko:=by simp[lastStreet,lastTown,Bk.empty]
 BH:=by simp[Bk.empty]
 tc:=by simp[Bk.empty]
 Wn:=by simp[Bk.empty]
 np:=rfl
 R:=G7.nil
 W:=Walks.nil
 S:=dF.nil
 T:=lr.nil
theorem jI(d:Dir):(townNames d).length=townsIn d:=by
 unfold townNames townsIn
 induction d with
 |nil=>rfl
 |cons x r ih=>cases x<;>simp[isTown,atG,ih]
theorem iC(d:Dir):(streetNames d).length=streetsIn d:=by
 unfold streetNames streetsIn
 induction d with
 |nil=>rfl
 |cons x r ih=>cases x<;>simp[isStreet,atG,ih]
section
variable{d:Dir}{M:Bk}
theorem cX.Jr(m:cX d M):M.ao.length=townsIn d:=by rw[←jI,←m.tn,apt]
theorem cX.Js(m:cX d M):M.ae.length=streetsIn d:=by rw[←iC,←m.sn,apt]
theorem cX.lT(m:cX d M):aO M=townsIn d-1:=by unfold aO;rw[m.Jr]
theorem cX.lS(m:cX d M):bp M=streetsIn d-1:=by unfold bp;rw[m.Js]
theorem cX.tW(m:cX d M):iR d:=nE m.dA
theorem L1{α:Type}{l:List α}(h:l≠[]):∃x,l[l.length-1]? =some x:=by
 have:l.length≠0:=fun q=>h (aqN.mp q);exact⟨_,apO (by omega)⟩
theorem cX.town(m:cX d M)(h:M.ao≠[]):∃T,M.ao[aO M]? =some T∧T.bj=eU d:=by
 obtain⟨T,hT⟩:=L1 h;exact⟨T,hT,m.tc T hT⟩
theorem cX.street(m:cX d M)(h:M.aY=true):∃S,M.ae[bp M]? =some S∧S.town=aO M:=by
 obtain⟨S,hS⟩:=L1 (m.BH h).1;exact⟨S,hS,m.Wn h S hS⟩
theorem NR(x:DLine)(h:pointsAt [] x≠[]∨(∃s,x=.span s)∨(∃n c e,x=.letters n c e)∨∃b,x=.boxes b):1≤x.points:=by
 rcases h with h|⟨s,rfl⟩|⟨n,c,e,rfl⟩|⟨b,rfl⟩
 ·cases x with
  |town l=>exact absurd rfl h
  |code l=>exact absurd rfl h
  |street l=>exact absurd rfl h
  |span s=>exact aqz _ _
  |letters n c e=>exact aqz _ _
  |boxes b=>exact aqz _ _
 ·exact aqz _ _
 ·exact aqz _ _
 ·exact aqz _ _
theorem cX.wU(m:cX d M){s:Nat}{S:aQ}(hS:M.ae[s]? =some S){o n:Nat}{iv:Iv Nat}(ho:n % 2=o)(hi:iv∈hv S o)(h1:iv.lo≤((n / 2:Nat):Int))(h2:((n / 2:Nat):Int)≤iv.hi):
  ∃r sp j,M.aK[iv.at_]? =some r∧r.line=.span sp∧dt sp∧sp.has n=true∧r.src=none∧r.street=some s∧r.town=S.town∧j<r.line.points∧n=fB r.line+j*eG r.line∧gu r.line n=j∧(pointsOf d)[r.jD+j]? =some (i7 r j):=by
 obtain⟨r,sp,x,a1,a2,a3,a4,a5,a6,a7,a8,a9⟩:=m.S.hi s S hS o (by omega) iv hi;have hh:sp.has n=true:=(yn a3 n).mpr ⟨x,by rw[ho];exact a7,by omega,by omega⟩;obtain⟨j,hj,e⟩:=(nJ a3 n).mp hh;have XG:j<r.line.points:=by rw[a2];exact hj
 have e':n=fB r.line+j*eG r.line:=by rw[a2];show n=sp.a+j*sp.step;rw[e,auI]
 have Tq:gu r.line n=j:=by
  unfold gu;rw[e'];have:0<eG r.line:=by rw[a2];show 0<sp.step;rcases gj sp with h|h<;>omega
  rw[asz,Nat.mul_div_cancel _ this]
 exact⟨r,sp,j,a1,a2,a3,hh,a4,a5,a6,XG,e',Tq,(m.R.rp _ r a1 a4).2 j XG⟩
theorem cX.uv(m:cX d M)(h:M.aY=true){S:aQ}(hS:M.ae[bp M]? =some S)(n:Nat):
  (∃t∈bA d,t.has n=true)↔∃iv∈hv S (n % 2),iv.lo≤((n / 2:Nat):Int)∧((n / 2:Nat):Int)≤iv.hi:=by
 have f:=m.tW;constructor
 ·rintro⟨t,ht,hn⟩;have hp:=f.there t ht n hn;obtain⟨S',a,b,c⟩:=m.S.hc _ hp _ rfl;rw[←m.lS]at a;rw[hS]at a;cases a;exact c
 ·rintro⟨iv,hi,h1,h2⟩;obtain⟨r,sp,j,a1,a2,a3,a4,a5,a6,a7,a8,a9,_,a10⟩:=m.wU hS rfl hi h1 h2;obtain⟨_,s,hs,hh,_⟩:=f.str _ (aps a10) (m.Ko.mpr h) (by show r.street=_;rw[a6,m.lS]);exact⟨s,hs,by rw[a9];exact hh⟩
theorem cX.De(m:cX d M)(h:M.aY=true){S:aQ}(hS:M.ae[bp M]? =some S){s:Span}(ok:dt s):
  (bA d).any (fun(t:Span)=>s.numbers.any fun(n:Nat)=>t.has n)=true↔∃o,o<2∧∃x,bh s o=some x∧d5 (hv S o) (x.1:Int) (x.2:Int)=true:=by
 rw[aqs];constructor
 ·rintro⟨t,ht,hq⟩;obtain⟨n,hn,hh⟩:=aqs.mp hq;obtain⟨iv,hi,h1,h2⟩:=(m.uv h hS n).mp ⟨t,ht,hh⟩;obtain⟨x,e,h3,h4⟩:=(yn ok n).mp ((iM ok n).mp hn);exact⟨n % 2,arP _ (by decide),x,e,gN.mpr ⟨iv,hi,by omega,by omega⟩⟩
 ·rintro⟨o,ho,x,e,hm⟩;obtain⟨iv,hi,h1,h2⟩:=gN.mp hm;have hle:=JM e;obtain⟨_,_,y,_,_,_,_,_,_,a7,a8,a9⟩:=m.S.hi _ S hS o ho iv hi;have hly:=JM a7;let k:=max x.1 y.1;have hk:k=x.1∨k=y.1:=by show max _ _=_∨_;omega
  have hk1:x.1≤k∧y.1≤k:=⟨at0 ..,au2 ..⟩;have n2:(2*k+o) % 2=o:=by omega
  have n3:(2*k+o) / 2=k:=by omega
  obtain⟨t,ht,hh⟩:=(m.uv h hS (2*k+o)).mpr ⟨iv,by rw[n2];exact hi,by rw[n3];omega,by rw[n3];omega⟩;refine⟨t,ht,aqs.mpr ⟨2*k+o,(iM ok _).mpr ((yn ok _).mpr ⟨x,by rw[n2];exact e,by omega,by omega⟩),hh⟩⟩
theorem UA(d:Dir):∀r∈rowsOf d,1≤r.2.2:=by
 intro r hr;obtain⟨x,hx,e⟩:=aqu.mp hr;cases x with
 |span s=>cases e;exact Ei s
 |boxes b=>cases e;exact aqz _ _
 |town l=>cases e
 |code l=>cases e
 |street l=>cases e
 |letters n c e'=>cases e
theorem xm{x:DLine}{j:Nat}(h:j<x.points):dq x j<x.points:=by unfold dq;split<;>omega
theorem rY{x:DLine}{j:Nat}(h:j<x.points):dq x (dq x j)=j:=by unfold dq;split<;>omega
theorem cX.vV(m:cX d M){w k:Nat}{iv:Iv Nat}(hi:iv∈c9 M w)(h1:iv.lo≤(k:Int))(h2:(k:Int)≤iv.hi):
  ∃r j,M.aK[iv.at_]? =some r∧r.src=none∧bD r.line=w∧j<r.line.points∧k=bM r.line+dq r.line j∧iv.lo=(bM r.line:Int)∧iv.hi=(bM r.line:Int)+r.line.points-1∧(pointsOf d)[r.jD+j]? =some (i7 r j):=by
 obtain⟨r,a1,a2,a3,a4,a5⟩:=m.W.wi w iv hi;have hl:k-bM r.line<r.line.points:=by omega
 refine⟨r,dq r.line (k-bM r.line),a1,a2,a3,xm hl,?_,a4,a5,(m.R.rp _ r a1 a2).2 _ (xm hl)⟩;rw[rY hl];omega
theorem cX.ux(m:cX d M)(w f k:Nat)(hk:1≤k):rowTaken d w f k=true↔d5 (c9 M w) (f:Int) ((f:Int)+k-1)=true:=by
 have F:=m.tW;unfold rowTaken;rw[aqs];constructor
 ·rintro⟨r,hr,q⟩;rw[apv,beq_iff_eq]at q;obtain⟨q1,q2⟩:=q;unfold meet at q2;simp only[apv,decide_eq_true_eq]at q2;have:=UA d r hr;obtain⟨p,hp,e1,e2,_⟩:=(r4 m.dA).rows r hr (max r.2.1 f) (by omega) (by omega);obtain⟨iv,hi,h1,h2⟩:=m.W.wc p hp;rw[e1,q1]at hi;exact gN.mpr ⟨iv,hi,by omega,by omega⟩
 ·intro q;obtain⟨iv,hi,h1,h2⟩:=gN.mp q;obtain⟨r0,b1,b2,b3,b4,b5⟩:=m.W.wi w iv hi;have hp0:=(m.R.Uz _ r0 b1).1;obtain⟨r,j,a1,a2,a3,a4,a5,a6,a7,a8⟩:=m.vV hi (k:=max (bM r0.line) f) (by omega) (by omega);obtain⟨Lk,OO,e1,e2,e3⟩:=F.row _ (aps a8);have e4:(i7 r j).place=max (bM r0.line) f:=a5.symm;have e5:(i7 r j).walk=w:=a3;rw[e4]at e2 e3;rw[e5]at e1;refine⟨Lk,OO,?_⟩;rw[apv,beq_iff_eq];refine⟨e1,?_⟩;unfold meet;simp only[apv,decide_eq_true_eq];omega
theorem cX.vy(m:cX d M)(h:M.aY=true){S:aQ}(hS:M.ae[bp M]? =some S){n:Nat}{c e:UInt8}(ok:rD n c e):
  (fE d n).any (fun(p:UInt8×UInt8)=>decide (p.1≤e)&&decide (c≤p.2))=true↔∃l,c.toNat-96≤l∧l≤e.toNat-96∧((aS S n).lookup l).isSome=true:=by
 have F:=m.tW;obtain⟨_,_,ok3,ok4,ok5⟩:=ok;rw[aqs];constructor
 ·rintro⟨q,hq,z⟩;simp only[apv,decide_eq_true_eq,ap7]at z;obtain⟨l1,l2,l3⟩:=(r4 m.dA).xi n q hq;obtain⟨p,hp,e1,e2,e3⟩:=(r4 m.dA).aU n q hq (max q.1.toNat c.toNat) (by omega) (by omega);obtain⟨i,hi⟩:=apR hp;obtain⟨S',a,b⟩:=m.S.lc i p hi _ e1 (fun q0=>by rw[q0]at e3;have:(0:UInt8).toNat=0:=rfl;omega);rw[←m.lS,hS]at a;cases a;rw[e2,e3]at b;exact⟨max q.1.toNat c.toNat-96,by omega,by omega,by rw[b];rfl⟩
 ·rintro⟨l,h1,h2,h3⟩;obtain⟨i,hi⟩:=apZ.mp h3;obtain⟨p,a1,a2,a3,a4,a5,a6,a7⟩:=m.S.lp _ S hS n l i hi;obtain⟨_,s,hs,_,_,_,_,hl⟩:=F.str p (aps a1) (m.Ko.mpr h) (by rw[a2,m.lS]);rcases hl with hl|⟨q,hq,q1,q2⟩
  ·rw[hl]at a7;have:(0:UInt8).toNat=0:=rfl;omega
  ·rw[a4]at hq;refine⟨q,hq,?_⟩;simp only[apv,decide_eq_true_eq,ap7];omega
theorem cX.HZ(m:cX d M){t:Nat}{T:dk}(hT:M.ao[t]? =some T){n:Nat}{iv:Iv Nat}(hi:iv∈T.boxes)(h1:iv.lo≤(n:Int))(h2:(n:Int)≤iv.hi):
  ∃r x,M.aK[iv.at_]? =some r∧r.line=.boxes x∧r.src=none∧r.street=none∧r.town=t∧n-x.a<r.line.points∧gu r.line n=n-x.a∧(i7 r (n-x.a)).number=n∧(pointsOf d)[r.jD+(n-x.a)]? =some (i7 r (n-x.a)):=by
 obtain⟨r,x,a1,a2,a3,a4,a5,a6,a7,a8⟩:=m.T.bi t T hT iv hi;have hl:n-x.a<r.line.points:=by rw[a2];show n-x.a<x.b-x.a+1;omega
 refine⟨r,x,a1,a2,a4,a5,a6,hl,?_,?_,(m.R.rp _ r a1 a4).2 _ hl⟩
 ·rw[a2];show(n-x.a) / 1=n-x.a;omega
 ·show fB r.line+(n-x.a)*eG r.line=n;rw[a2];show x.a+(n-x.a)*1=n;omega
theorem cX.Bt(m:cX d M){T:dk}(hT:M.ao[aO M]? =some T){x:Boxes}(ok:nZ x):
  (da d).any (fun(y:Boxes)=>meet x.a x.many y.a y.many)=true↔d5 T.boxes (x.a:Int) (x.b:Int)=true:=by
 have F:=m.tW;have hab:=ok.ab;rw[aqs];constructor
 ·rintro⟨y,hy,q⟩;have hy1:=(F.MF y hy).ab;unfold meet Boxes.many at q;simp only[apv,decide_eq_true_eq]at q;obtain⟨p,hp,e1,e2,e3⟩:=(r4 m.dA).bxs y hy (max x.a y.a) ⟨by omega,by omega⟩;obtain⟨T',a,iv,hi,b1,b2⟩:=m.T.bc p hp e2;rw[e1,←m.lT,hT]at a;cases a;exact gN.mpr ⟨iv,hi,by omega,by omega⟩
 ·intro q;obtain⟨iv,hi,h1,h2⟩:=gN.mp q;obtain⟨_,y,_,_,y3,_,_,_,y7,y8⟩:=m.T.bi _ T hT iv hi;have hyb:=y3.ab;obtain⟨r,z,a1,a2,a3,a4,a5,a6,a7,a8,a9⟩:=m.HZ hT (n:=max x.a y.a) hi (by omega) (by omega);obtain⟨b,hb,e1,_⟩:=F.box _ (aps a9) (by show r.town=_;rw[a5,m.lT]) a4;rw[a8]at e1;have:=(F.MF b hb).ab;obtain⟨e2,e3⟩:=e1;refine⟨b,hb,?_⟩;unfold meet Boxes.many;simp only[apv,decide_eq_true_eq];omega
end
def eu(M:Bk):DLine→Bool
 | .town _=>true
 | .code _=> !M.ao.isEmpty
 | .street _=> !M.ao.isEmpty
 | .span s=>match M.ao[aO M]? with
  |some T=>M.aY&&T.bj.contains s.code
  |none=>false
 | .letters n _ _=>match M.ae[bp M]? with
  |some S=>M.aY&&(cD S n).isSome
  |none=>false
 | .boxes x=>match M.ao[aO M]? with
  |some T=>T.bj.contains x.code
  |none=>false
section
variable{d:Dir}{M:Bk}
theorem cX.Xj(m:cX d M)(h:M.ao=[]):lastTown d=none:=by
 cases q:lastTown d with
 |none=>rfl
 |some t=>exact absurd h (m.JH.mp (by rw[q];rfl))
theorem cX.R0(m:cX d M)(h:M.aY=false):lastStreet d=none:=by
 cases q:lastStreet d with
 |none=>rfl
 |some t=>have:=m.Ko.mp (by rw[q];rfl);rw[h]at this;cases this
theorem gP{α:Type}{o:Option α}{b:Bool}(h:o.isSome=true↔b=true):o.isSome=b:=by
 cases b with
 |true=>exact h.mpr rfl
 |false=>cases q:o.isSome with
  |false=>rfl
  |true=>exact absurd (h.mp q) (by simp)
theorem cX.T4(m:cX d M)(x:DLine):eu M x=stands d x:=by
 have eT:(lastTown d).isSome= !M.ao.isEmpty:=gP (by
  rw[m.JH];cases M.ao<;>simp)
 cases x with
 |town l=>rfl
 |code c=>exact eT.symm
 |street l=>exact eT.symm
 |span s=>
  show(match M.ao[aO M]? with|some T=>M.aY&&T.bj.contains s.code|none=>false)=((lastStreet d).isSome&&(eU d).contains s.code);have eS:(lastStreet d).isSome=M.aY:=gP m.Ko;by_cases h:M.ao=[]
  ·have:M.ao[aO M]? =none:=by rw[h];rfl
   rw[this,eS];cases q:M.aY with
   |false=>rfl
   |true=>exact absurd h (m.BH q).2
  ·obtain⟨T,hT,e⟩:=m.town h;rw[hT,eS,←e]
 |letters n c e=>
  show(match M.ae[bp M]? with|some S=>M.aY&&(cD S n).isSome|none=>false)=(bA d).any (fun(s:Span)=>s.has n);cases q:M.aY with
  |false=>
   have e1:bA d=[]:=by unfold bA;rw[m.R0 q];rfl
   rw[e1];cases M.ae[bp M]? <;>rfl
  |true=>
   obtain⟨S,hS,_⟩:=m.street q;rw[hS];show(true&&(cD S n).isSome)=_;rw[ase];have hi:=m.uv q hS n;refine gP ?_;rw[aqs,hi];unfold cD;rw[apX];constructor
   ·intro h;obtain⟨iv,e⟩:=apZ.mp h;obtain⟨a,b,c⟩:=qD e;exact⟨iv,a,b,c⟩
   ·rintro⟨iv,a,b,c⟩;rw[nI (m.S.Xe hS _) a b c];rfl
 |boxes x=>
  show(match M.ao[aO M]? with|some T=>T.bj.contains x.code|none=>false)=(eU d).contains x.code;by_cases h:M.ao=[]
  ·have:M.ao[aO M]? =none:=by rw[h];rfl
   rw[this];have e1:eU d=[]:=by unfold eU;rw[m.Xj h];rfl
   rw[e1];rfl
  ·obtain⟨T,hT,e⟩:=m.town h;rw[hT,←e]
theorem eQ(d:Dir)(x:DLine):townNames (d++[x])=townNames d++townNames [x]:=aqp
theorem dJ(d:Dir)(x:DLine):streetNames (d++[x])=streetNames d++streetNames [x]:=aqp
theorem ie{α β:Type}(g:α→β)(f:α→α)(h:∀a,g (f a)=g a)(l:List α)(i:Nat):(l.modify i f).map g=l.map g:=by
 apply arY;intro j;rw[apH,apH,aA];split
 ·cases l[j]? with
  |none=>rfl
  |some a=>show some (g (f a))=some (g a);rw[h]
 ·rfl
theorem lM{α:Type}{l:List α}{i:Nat}{f:α→α}:l.modify i f≠[]↔l≠[]:=by
 rw[←aq1,←aq1,aqg]
theorem cX.step(m:cX d M){x:DLine}(ok:x.ok=true)(w:wrongOf d x=0):cX (d++[x]) (M.add x):=by
 have lg:=ib.snoc m.dA ok w;obtain⟨st,cl,_⟩:=yT.mp w;have f:=m.tW;have pe:pointsOf (d++[x])=pointsOf d++pointsAt d x:=bG d x;cases x with
 |town l=>
  have Ly:pointsOf (d++[.town l])=pointsOf d:=by rw[pe];exact apK _
  exact{
   dA:=lg
   aF:=by show M.aF++_=_;rw[m.aF]
   tn:=by show(M.ao++[_]).map _=_;rw[apB,m.tn,eQ];rfl
   sn:=by show M.ae.map _=_;rw[m.sn,dJ];exact(apK _).symm
   JH:=by rw[cZ];show true=true↔(M.ao++[_])≠[];simp
   Ko:=by rw[bT];show(none:Option Dir).isSome=true↔false=true;simp
   BH:=fun h=>by cases h
   tc:=fun T h=>by
    have h':(M.ao++[⟨l,[],[]⟩])[(M.ao++[(⟨l,[],[]⟩:dk)]).length-1]? =some T:=h;simp at h';subst h';rw[KC]
   Wn:=fun h=>by cases h
   np:=by rw[Ly];exact m.np
   R:=by rw[Ly];exact m.R
   W:=by rw[Ly];exact m.W
   S:=by rw[Ly];exact m.S
   T:=by rw[Ly];exact m.T.town l}
 |code c=>
  have hT:=m.JH.mp st;have Ly:pointsOf (d++[.code c])=pointsOf d:=by rw[pe];exact apK _
  exact{
   dA:=lg
   aF:=by show M.aF++_=_;rw[m.aF]
   tn:=by show(M.ao.modify _ _).map _=_;rw[ie dk.names (cV c) (fun _=>rfl),m.tn,eQ];exact(apK _).symm
   sn:=by show M.ae.map _=_;rw[m.sn,dJ];exact(apK _).symm
   JH:=by rw[cK rfl,m.JH];show _↔M.ao.modify _ _≠[];rw[lM]
   Ko:=by rw[cH rfl rfl,m.Ko];exact asu
   BH:=fun h=>⟨(m.BH h).1,lM.mpr (m.BH h).2⟩
   tc:=fun T h=>by
    have h':(M.ao.modify (aO M) (cV c))[(M.ao.modify (aO M) (cV c)).length-1]? =some T:=h;rw[aqg,aA,if_pos (show M.ao.length-1=aO M from rfl)]at h';obtain⟨T0,h0,e0⟩:=m.town hT;have h0':M.ao[M.ao.length-1]? =some T0:=h0;rw[h0']at h';cases h';rw[km rfl st,←e0];rfl
   Wn:=fun h S hS=>by
    have:=m.Wn h S hS;rw[this];show M.ao.length-1=(M.ao.modify _ _).length-1;rw[aqg]
   np:=by rw[Ly];exact m.np
   R:=by rw[Ly];exact m.R
   W:=by rw[Ly];exact m.W
   S:=by rw[Ly];exact m.S
   T:=by rw[Ly];exact m.T.code _ c}
 |street l=>
  have hT:=m.JH.mp st;have Ly:pointsOf (d++[.street l])=pointsOf d:=by rw[pe];exact apK _
  exact{
   dA:=lg
   aF:=by show M.aF++_=_;rw[m.aF]
   tn:=by show M.ao.map _=_;rw[m.tn,eQ];exact(apK _).symm
   sn:=by show(M.ae++[_]).map _=_;rw[apB,m.sn,dJ];rfl
   JH:=by rw[cK rfl,m.JH];exact asu
   Ko:=by
    rw[bT];show((lastTown d).map fun _=>[DLine.street l]).isSome=true↔true=true;rw[apX];simp only[iff_true];exact st
   BH:=fun _=>⟨by show M.ae++[_]≠[];simp,hT⟩
   tc:=fun T h=>by
    have:=m.tc T h;rw[this,km rfl st];exact(apK _).symm
   Wn:=fun _ S hS=>by
    have h':(M.ae++[⟨l,aO M,[],[],[]⟩])[(M.ae++[(⟨l,aO M,[],[],[]⟩:aQ)]).length-1]? =some S:=hS;simp at h';subst h';rfl
   np:=by rw[Ly];exact m.np
   R:=by rw[Ly];exact m.R
   W:=by rw[Ly];exact m.W
   S:=by rw[Ly];exact m.S.street l _
   T:=by rw[Ly];exact m.T}
 |span s=>
  have CN:=fz.mp ok;have oN:((lastStreet d).isSome&&(eU d).contains s.code)=true:=st;rw[apv]at oN;have j7:=m.Ko.mp oN.1;have hT0:=(m.BH j7).2;have hTd:=m.JH.mpr hT0;have J4:((bA d).any (fun(t:Span)=>s.numbers.any fun(n:Nat)=>t.has n)||rowTaken d s.walk s.first s.many)=false:=cl;rw[arC]at J4;obtain⟨S0,OU,eS0⟩:=m.street j7;have Tp:pointsAt d (.span s)=s.numbers.map fun(n:Nat)=>(⟨townsIn d-1,some (streetsIn d-1),n,0,s.code,s.walk,s.placeOf n⟩:Point):=rfl;have hlen:(pointsAt d (.span s)).length=(DLine.span s).points:=by rw[Tp,apt,tI];rfl
  have hj:∀(j:Nat) q,(pointsAt d (.span s))[j]? =some q→j<s.many∧q=⟨townsIn d-1,some (streetsIn d-1),s.a+s.step*j,0,s.code,s.walk,s.placeOf (s.a+s.step*j)⟩:=fun j q h=>by
   have hl:=(apu.mp h).1;rw[hlen]at hl;have tN:j<s.many:=hl;refine⟨tN,?_⟩;rw[Tp,apH]at h;unfold Span.numbers at h;rw[apH,arc tN]at h;exact(apC h).symm
  have XG:∀j,j<s.many→(pointsAt d (.span s))[j]? =some (i7 ⟨.span s,aO M,some (bp M),M.points,none⟩ j):=fun j h=>by
   rw[Tp,apH];unfold Span.numbers;rw[apH,arc h];show some _=some _;congr 1;unfold i7;show(⟨_,_,_,_,_,_,_⟩:Point)=⟨aO M,some (bp M),s.a+j*s.step,0,s.code,s.walk,s.first+(if s.back=true then s.many-1-j else j)⟩;rw[oV CN h,m.lT,m.lS,auI]
  have EO:1≤(DLine.span s).points:=Ei s;have hm1:∀o,o<2→∀x,bh s o=some x→d5 (hv S0 o) (x.1:Int) (x.2:Int)=false:=fun o ho x hx=>by
   rw[aqL];intro q;have:=(m.De j7 OU CN).mpr ⟨o,ho,x,hx,q⟩;rw[J4.1]at this;cases this
  have hm2:d5 (CL M.az s.walk) (s.first:Int) ((s.first:Int)+s.many-1)=false:=by
   rw[aqL];intro q;have:=(m.ux s.walk s.first s.many (Ei s)).mpr q;rw[J4.2]at this;cases this
  exact{
   dA:=lg
   aF:=by show M.aF++_=_;rw[m.aF]
   tn:=by show M.ao.map _=_;rw[m.tn,eQ];exact(apK _).symm
   sn:=by show(M.ae.modify _ _).map _=_;rw[ie aQ.names (eg s M.aK.length) (fun _=>rfl),m.sn,dJ];exact(apK _).symm
   JH:=by rw[cK rfl,m.JH];exact asu
   Ko:=by rw[cH rfl rfl,m.Ko];exact asu
   BH:=fun h=>⟨lM.mpr (m.BH h).1,(m.BH h).2⟩
   tc:=fun T h=>by
    have:=m.tc T h;rw[this,km rfl hTd];exact(apK _).symm
   Wn:=fun h S hS=>by
    have CY:(M.ae.modify (bp M) (eg s M.aK.length))[(M.ae.modify (bp M) (eg s M.aK.length)).length-1]? =some S:=hS;rw[aqg,aA,if_pos (show M.ae.length-1=bp M from rfl)]at CY;have h0':M.ae[M.ae.length-1]? =some S0:=OU;rw[h0']at CY;cases CY;exact eS0
   np:=by show M.points+_=_;rw[pe,apr,hlen,m.np]
   R:=by
    rw[pe];show G7 _ (bE M.bS ⟨(M.points:Int),(M.points:Int)+(DLine.span s).points-1,M.aK.length⟩) (M.aK++[_]);rw[m.np];exact m.R.add (r:=⟨.span s,aO M,some (bp M),(pointsOf d).length,none⟩) rfl hlen EO (fun _=>⟨fun _ _ _ q=>(by cases q),fun j h=>by rw[XG j h,m.np]⟩) (fun _ q=>by cases q)
   W:=by
    rw[pe];exact m.W.add (r:=⟨.span s,aO M,some (bp M),M.points,none⟩) rfl EO hm2 (fun q hq=>by
     obtain⟨j,h⟩:=apR hq;obtain⟨h1,rfl⟩:=hj j q h;have hb:=i8 CN (n:=s.a+s.step*j) ((nJ CN _).mpr ⟨j,h1,rfl⟩);exact⟨rfl,hb.1,hb.2⟩)
   S:=by
    rw[pe];refine m.S.span OU eS0 CN hm1 (fun j q h=>?_) M.points;obtain⟨h1,rfl⟩:=hj j q h;exact⟨by rw[m.lS],by rw[m.lT],rfl,(nJ CN _).mpr ⟨j,h1,rfl⟩⟩
   T:=by
    rw[pe];exact m.T.more (fun q hq=>by
     obtain⟨j,h⟩:=apR hq;obtain⟨h1,rfl⟩:=hj j q h;simp)}
 |letters n c e=>
  have xi:=e9.mp ok;have Bi:=xi.cd;have Z8:=xi.c1;have hd2:=xi.d2;have oN:(bA d).any (fun(s:Span)=>s.has n)=true:=st;have j7:=m.Ko.mp (j2 oN);have hT0:=(m.BH j7).2;have hTd:=m.JH.mpr hT0;have J4:(fE d n).any (fun(p:UInt8×UInt8)=>decide (p.1≤e)&&decide (c≤p.2))=false:=cl;obtain⟨S0,OU,eS0⟩:=m.street j7;obtain⟨s,hs⟩:∃s,(bA d).find? (fun(s:Span)=>s.has n)=some s:=by
   cases q:(bA d).find? (fun(s:Span)=>s.has n)with
   |some s=>exact⟨s,rfl⟩
   |none=>
    obtain⟨t,ht,h2⟩:=aqs.mp oN;exact absurd h2 (arS.mp q t ht)
  have Yl:s∈bA d:=arn hs;have hsh:s.has n=true:=by simpa using as2 hs
  have Tp:pointsAt d (.letters n c e)=(ap4 (e.toNat-c.toNat+1)).map fun(i:Nat)=>(⟨townsIn d-1,some (streetsIn d-1),n,apM (c.toNat+i),s.code,s.walk,s.placeOf n⟩:Point):=by
   show(match(bA d).find? _ with|some s=>_|none=>_)=_;rw[hs]
  have hlen:(pointsAt d (.letters n c e)).length=(DLine.letters n c e).points:=by rw[Tp,apt,arZ];rfl
  have hj:∀(j:Nat) q,(pointsAt d (.letters n c e))[j]? =some q→j<e.toNat-c.toNat+1∧q=⟨townsIn d-1,some (streetsIn d-1),n,apM (c.toNat+j),s.code,s.walk,s.placeOf n⟩:=fun j q h=>by
   have hl:=(apu.mp h).1;rw[hlen]at hl;have tN:j<e.toNat-c.toNat+1:=hl;refine⟨tN,?_⟩;rw[Tp,apH,arc tN]at h;exact(apC h).symm
  obtain⟨iv,Tr,iv1,iv2⟩:=(m.uv j7 OU n).mp ⟨s,Yl,hsh⟩;obtain⟨r',sp,j',b1,b2,b3,b4,b5,b6,b7,b8,b9,b10,b11⟩:=m.wU OU rfl Tr iv1 iv2;have ZY:(M.ae[bp M]?).bind (fun S=>cD S n)=some iv.at_:=by
   rw[OU];show(cW _ _).map _=_;rw[nI (m.S.Xe OU _) Tr iv1 iv2];rfl
  have Mb:i7 r' j'=⟨townsIn d-1,some (streetsIn d-1),n,0,s.code,s.walk,s.placeOf n⟩:=by
   obtain⟨t1,s',Sj,hh,e1,e2,e3,_⟩:=f.str _ (aps b11) (m.Ko.mpr j7) (by show r'.street=_;rw[b6,m.lS]);have hn:(i7 r' j').number=n:=b9.symm;rw[hn]at hh e3;have h1:=f.there s' Sj n hh;have h2:=f.there s Yl n hsh;obtain⟨i1,hi1⟩:=apR h1;obtain⟨i2,Z6⟩:=apR h2;have same:i1=i2:=by
    have pw:=aqH.mp f.one;obtain⟨l1,g1⟩:=apu.mp hi1;obtain⟨l2,g2⟩:=apu.mp Z6;rcases asE i1 i2 with z|z|z
    ·exact absurd ⟨by rw[g1,g2],by rw[g1,g2],by rw[g1,g2],by rw[g1,g2]⟩ (pw i1 i2 l1 l2 z)
    ·exact z
    ·exact absurd ⟨by rw[g1,g2],by rw[g1,g2],by rw[g1,g2],by rw[g1,g2]⟩ (pw i2 i1 l2 l1 z)
   rw[same,Z6]at hi1;have hpp:=apC hi1;have e0:i7 r' j'=⟨townsIn d-1,some (streetsIn d-1),n,0,s'.code,s'.walk,s'.placeOf n⟩:=by
    have q1:(i7 r' j').town=townsIn d-1:=t1;have q2:(i7 r' j').street=some (streetsIn d-1):=by show r'.street=_;rw[b6,m.lS]
    have q3:(i7 r' j').letter=0:=rfl;generalize i7 r' j'=P0 at*;cases P0;simp only at q1 q2 q3 e1 e2 e3 hn;subst q1 q2 q3 e1 e2 e3 hn;rfl
   rw[e0,hpp]
  have M4:∀l,c.toNat-96≤l→l≤e.toNat-96→(aS S0 n).lookup l=none:=fun l h1 h2=>by
   cases q:(aS S0 n).lookup l with
   |none=>rfl
   |some i=>
    have:=(m.vy j7 OU xi).mpr ⟨l,h1,h2,by rw[q];rfl⟩;rw[J4]at this;cases this
  have EO:1≤(DLine.letters n c e).points:=aqz _ _;exact{
   dA:=lg
   aF:=by show M.aF++_=_;rw[m.aF]
   tn:=by show M.ao.map _=_;rw[m.tn,eQ];exact(apK _).symm
   sn:=by show(M.ae.modify _ _).map _=_;rw[ie aQ.names (cU n (c.toNat-96) (e.toNat-96) M.points) (fun _=>rfl),m.sn,dJ];exact(apK _).symm
   JH:=by rw[cK rfl,m.JH];exact asu
   Ko:=by rw[cH rfl rfl,m.Ko];exact asu
   BH:=fun h=>⟨lM.mpr (m.BH h).1,(m.BH h).2⟩
   tc:=fun T h=>by
    have:=m.tc T h;rw[this,km rfl hTd];exact(apK _).symm
   Wn:=fun h S hS=>by
    have CY:(M.ae.modify (bp M) (cU n (c.toNat-96) (e.toNat-96) M.points))[(M.ae.modify (bp M) (cU n (c.toNat-96) (e.toNat-96) M.points)).length-1]? =some S:=hS;rw[aqg,aA,if_pos (show M.ae.length-1=bp M from rfl)]at CY;have h0':M.ae[M.ae.length-1]? =some S0:=OU;rw[h0']at CY;cases CY;exact eS0
   np:=by show M.points+_=_;rw[pe,apr,hlen,m.np]
   R:=by
    rw[pe];show G7 _ (bE M.bS ⟨(M.points:Int),(M.points:Int)+(DLine.letters n c e).points-1,M.aK.length⟩) (M.aK++[⟨_,_,_,_,(M.ae[bp M]?).bind fun S=>cD S n⟩]);rw[m.np,ZY];refine m.R.add (r:=⟨.letters n c e,aO M,some (bp M),(pointsOf d).length,some iv.at_⟩) rfl hlen EO (fun q=>by cases q) (fun k' q=>?_);cases q;refine⟨n,c,e,r',sp,rfl,xi,b1,b5,b2,b3,b4,fun j h=>?_⟩;have h':j<e.toNat-c.toNat+1:=h;rw[b10,Mb,Tp,apH,arc h'];rfl
   W:=by
    rw[pe];refine m.W.keep (fun q hq=>?_);obtain⟨j,h⟩:=apR hq;obtain⟨h1,rfl⟩:=hj j q h;exact⟨_,f.there s Yl n hsh,rfl,rfl⟩
   S:=by
    rw[pe];show dF _ (M.ae.modify (bp M) (cU n (c.toNat-96) (e.toNat-96) M.points)) _;rw[m.np];refine m.S.letters OU eS0 (by omega) (by omega) (by omega) M4 ⟨iv,Tr,iv1,iv2⟩ ?_ (fun j q h=>?_)
    ·rw[hlen];show e.toNat-c.toNat+1=_;omega
    ·obtain⟨h1,rfl⟩:=hj j q h;refine⟨by rw[m.lS],by rw[m.lT],rfl,?_⟩;show(apM (c.toNat+j)).toNat=_;rw[cJ (by omega)];omega
   T:=by
    rw[pe];exact m.T.more (fun q hq=>by
     obtain⟨j,h⟩:=apR hq;obtain⟨h1,rfl⟩:=hj j q h;simp)}
 |boxes x=>
  have Rf:=gJ.mp ok;have hab:=Rf.ab;have oN:(eU d).contains x.code=true:=st;have hTd:(lastTown d).isSome=true:=by
   unfold eU at oN;cases q:lastTown d with
   |none=>rw[q]at oN;cases oN
   |some t=>rfl
  have hT0:=m.JH.mp hTd;obtain⟨T0,hT,eT⟩:=m.town hT0;have J4:((da d).any (fun(y:Boxes)=>meet x.a x.many y.a y.many)||rowTaken d x.walk x.first x.many)=false:=cl;rw[arC]at J4;have EO:1≤(DLine.boxes x).points:=aqz _ _;have hlen:(pointsAt d (.boxes x)).length=(DLine.boxes x).points:=by show((ap4 x.many).map _).length=_;rw[apt,arZ];rfl
  have hj:∀(j:Nat) q,(pointsAt d (.boxes x))[j]? =some q→j<x.many∧q=⟨townsIn d-1,none,x.a+j,0,x.code,x.walk,x.first+j⟩:=fun j q h=>by
   have hl:=(apu.mp h).1;rw[hlen]at hl;have tN:j<x.many:=hl;refine⟨tN,?_⟩;have h':((ap4 x.many).map fun(i:Nat)=>(⟨townsIn d-1,none,x.a+i,0,x.code,x.walk,x.first+i⟩:Point))[j]? =some q:=h;rw[apH,arc tN]at h';exact(apC h').symm
  have XG:∀j,j<x.many→(pointsAt d (.boxes x))[j]? =some (i7 ⟨.boxes x,aO M,none,M.points,none⟩ j):=fun j h=>by
   show((ap4 x.many).map fun(i:Nat)=>(⟨townsIn d-1,none,x.a+i,0,x.code,x.walk,x.first+i⟩:Point))[j]? =_;rw[apH,arc h];show some _=some (⟨aO M,none,x.a+j*1,0,x.code,x.walk,x.first+j⟩:Point);rw[m.lT,Nat.mul_one]
  have hm1:d5 T0.boxes (x.a:Int) (x.b:Int)=false:=by
   rw[aqL];intro q;have:=(m.Bt hT Rf).mpr q;rw[J4.1]at this;cases this
  have hm2:d5 (CL M.az x.walk) (x.first:Int) ((x.first:Int)+x.many-1)=false:=by
   rw[aqL];intro q;have:=(m.ux x.walk x.first x.many (aqz _ _)).mpr q;rw[J4.2]at this;cases this
  exact{
   dA:=lg
   aF:=by show M.aF++_=_;rw[m.aF]
   tn:=by show(M.ao.modify _ _).map _=_;rw[ie dk.names (fm x M.aK.length) (fun _=>rfl),m.tn,eQ];exact(apK _).symm
   sn:=by show M.ae.map _=_;rw[m.sn,dJ];exact(apK _).symm
   JH:=by rw[cK rfl,m.JH];show _↔M.ao.modify _ _≠[];rw[lM]
   Ko:=by rw[cH rfl rfl,m.Ko];exact asu
   BH:=fun h=>⟨(m.BH h).1,lM.mpr (m.BH h).2⟩
   tc:=fun T h=>by
    have h':(M.ao.modify (aO M) (fm x M.aK.length))[(M.ao.modify (aO M) (fm x M.aK.length)).length-1]? =some T:=h;rw[aqg,aA,if_pos (show M.ao.length-1=aO M from rfl)]at h';have h0':M.ao[M.ao.length-1]? =some T0:=hT;rw[h0']at h';cases h';rw[km rfl hTd,←eT];exact(apK _).symm
   Wn:=fun h S hS=>by
    have:=m.Wn h S hS;rw[this];show M.ao.length-1=(M.ao.modify _ _).length-1;rw[aqg]
   np:=by show M.points+_=_;rw[pe,apr,hlen,m.np]
   R:=by
    rw[pe];show G7 _ (bE M.bS ⟨(M.points:Int),(M.points:Int)+(DLine.boxes x).points-1,M.aK.length⟩) (M.aK++[_]);rw[m.np];exact m.R.add (r:=⟨.boxes x,aO M,none,(pointsOf d).length,none⟩) rfl hlen EO (fun _=>⟨fun _ _ _ q=>(by cases q),fun j h=>by rw[XG j h,m.np]⟩) (fun _ q=>by cases q)
   W:=by
    rw[pe];exact m.W.add (r:=⟨.boxes x,aO M,none,M.points,none⟩) rfl EO hm2 (fun q hq=>by
     obtain⟨j,h⟩:=apR hq;obtain⟨h1,rfl⟩:=hj j q h;exact⟨rfl,aqC _ _,Nat.add_lt_add_left h1 _⟩)
   S:=by
    rw[pe];exact m.S.more (fun q hq=>by
     obtain⟨j,h⟩:=apR hq;obtain⟨h1,rfl⟩:=hj j q h;rfl)
   T:=by
    rw[pe];refine m.T.boxes hT Rf hm1 (fun q hq=>?_) M.points;obtain⟨j,h⟩:=apR hq;obtain⟨h1,rfl⟩:=hj j q h;unfold Boxes.many at h1;exact⟨by rw[m.lT],rfl,by simp only;omega,by simp only;omega⟩}
end
theorem d6{d:Dir}(h:ib d):d.length≤4096∧townsIn d≤512∧streetsIn d≤1024∧(codesIn d).length≤1024∧(d.map DLine.points).sum≤65536:=by
 cases h with
 |nil=>simp[townsIn,streetsIn,codesIn]
 | @snoc d x hd ok w=>
  have h3:=(yT.mp w).2.2;unfold tooMany at h3;simp only[arC]at h3;have k:∀{a b:Nat},decide (a<b)=false→b≤a:=fun h=>Nat.not_lt.mp (of_decide_eq_false h);exact⟨k h3.1,k h3.2.1,k h3.2.2.1,k h3.2.2.2.1,k h3.2.2.2.2⟩
def n9(M:Bk)(x:DLine):Bool:=(decide (4096≤M.aF.length)||decide (65536<M.points+x.points))||(match x with
 | .town _=>decide (512≤M.ao.length)
 | .street _=>decide (1024≤M.ae.length)
 | .code _=>decide (1024≤(codesIn M.aF).length)
 |_=>false)
section
variable{d:Dir}{M:Bk}
theorem cX.YR(m:cX d M)(x:DLine):n9 M x=tooMany d x:=by
 obtain⟨h1,h2,h3,h4,h5⟩:=d6 m.dA;have hs:(d.map DLine.points).sum=M.points:=by rw[m.np,fF m.dA]
 have e1:(d++[x]).length=d.length+1:=by simp
 have e5:((d++[x]).map DLine.points).sum=M.points+x.points:=by
  rw[apB,au7,hs];simp
 have e2:((d++[x]).filter isTown).length=townsIn d+if isTown x=true then 1 else 0:=fu d x
 have e3:((d++[x]).filter isStreet).length=streetsIn d+if isStreet x=true then 1 else 0:=eW d x
 have e4:(codesIn (d++[x])).length=(codesIn d).length+(codesIn [x]).length:=by rw[Bq,apr]
 rw[aqe];unfold n9 tooMany;simp only[e1,e2,e3,e4,e5,DLINES,TOWNS,STREETS,POINTS,aqU,decide_eq_true_eq,m.aF,m.Jr,m.Js];cases x with
 |town l=>rw[show(codesIn [DLine.town l]).length=0 from rfl,show isTown (DLine.town l)=true from rfl,show isStreet (DLine.town l)=false from rfl];simp only[aqb,if_true,if_false,decide_eq_true_eq,or_false];omega
 |code l=>rw[show(codesIn [DLine.code l]).length=1 from rfl,show isTown (DLine.code l)=false from rfl,show isStreet (DLine.code l)=false from rfl];simp only[aqb,if_true,if_false,decide_eq_true_eq,or_false];omega
 |street l=>rw[show(codesIn [DLine.street l]).length=0 from rfl,show isTown (DLine.street l)=false from rfl,show isStreet (DLine.street l)=true from rfl];simp only[aqb,if_true,if_false,decide_eq_true_eq,or_false];omega
 |span l=>rw[show(codesIn [DLine.span l]).length=0 from rfl,show isTown (DLine.span l)=false from rfl,show isStreet (DLine.span l)=false from rfl];simp only[aqb,if_true,if_false,decide_eq_true_eq,or_false];omega
 |letters l a b=>rw[show(codesIn [DLine.letters l a b]).length=0 from rfl,show isTown (DLine.letters l a b)=false from rfl,show isStreet (DLine.letters l a b)=false from rfl];simp only[aqb,if_true,if_false,decide_eq_true_eq,or_false];omega
 |boxes l=>rw[show(codesIn [DLine.boxes l]).length=0 from rfl,show isTown (DLine.boxes l)=false from rfl,show isStreet (DLine.boxes l)=false from rfl];simp only[aqb,if_true,if_false,decide_eq_true_eq,or_false];omega
theorem cX.NT(m:cX d M){i:Int}(h0:0≤i)(h:(pointsOf d)[i.toNat]? =none):cW M.bS i=none:=by
 rw[kC];rintro iv hi ⟨h1,h2⟩;have:=m.R.rlt iv hi;have:=asl.mp h;omega
theorem cX.NS(m:cX d M){i:Int}(h0:0≤i){p:Point}(h:(pointsOf d)[i.toNat]? =some p):
  ∃iv r,cW M.bS i=some iv∧M.aK[iv.at_]? =some r∧(r.jD:Int)≤i∧(i.toNat-r.jD)<r.line.points∧
   ((r.src=none∧p=i7 r (i.toNat-r.jD))∨∃k' n c e r' s,r.src=some k'∧r.line=.letters n c e∧rD n c e∧M.aK[k']? =some r'∧r'.src=none∧r'.line=.span s∧dt s∧s.has n=true∧p={i7 r' (gu r'.line n)with letter:=apM (c.toNat+(i.toNat-r.jD))}):=by
 have hl:=(apu.mp h).1;obtain⟨iv,hi,h1,h2⟩:=m.R.rc i.toNat hl;obtain⟨r,a1,a2,a3⟩:=m.R.rr iv hi;have ei:(i.toNat:Int)=i:=Int.toNat_of_nonneg h0;rw[ei]at h1 h2;have gX:i.toNat-r.jD<r.line.points:=by omega
 have Wu:r.jD+(i.toNat-r.jD)=i.toNat:=by omega
 refine⟨iv,r,nI m.R.ok hi h1 h2,a1,by omega,gX,?_⟩;cases q:r.src with
 |none=>
  left;have:=(m.R.rp _ r a1 q).2 _ gX;rw[Wu,h]at this;exact⟨rfl,apC this⟩
 |some k'=>
  right;obtain⟨n,c,e,r',s,b1,b2,b3,b4,b5,b6,b7,b8⟩:=m.R.rl _ r a1 k' q;have:=b8 _ gX;rw[Wu,h]at this;exact⟨k',n,c,e,r',s,rfl,b1,b2,b3,b4,b5,b6,b7,apC this⟩
theorem cX.tU(m:cX d M){t s n c:Nat}(h:∀S,M.ae[s]? =some S→S.town≠t):aqv d t (some s) n c=asv:=by
 refine qF fun p hp=>?_;rw[aqL];intro q;obtain⟨q1,q2,_⟩:=kz.mp q;obtain⟨S,a,b,_⟩:=m.S.hc p hp s q2;exact h S a (b.trans q1)
theorem cX.Mo(m:cX d M){t s n c:Nat}{S:aQ}(hS:M.ae[s]? =some S)(ht:S.town=t)(hc:c≠0):
  aqv d t (some s) n c=match(aS S n).lookup c with|some i=>atg (i:Int)|none=>asv:=by
 cases q:(aS S n).lookup c with
 |some i=>
  obtain⟨p,a1,a2,a3,a4,a5,a6,a7⟩:=m.S.lp s S hS n c i q;refine wX m.tW a1 (kz.mpr ⟨a3.trans ht,a2,a4,?_⟩);unfold aqt;rw[if_neg (fun z=>by rw[z]at a7;have:(0:UInt8).toNat=0:=rfl;omega),a7];omega
 |none=>
  refine qF fun p hp=>?_;rw[aqL];intro z;obtain⟨q1,q2,q3,q4⟩:=kz.mp z;have hl:p.letter≠0:=fun z=>by
   rw[z]at q4;exact hc q4.symm
  unfold aqt at q4;rw[if_neg hl]at q4;obtain⟨i,hi⟩:=apR hp;obtain⟨S',a,b⟩:=m.S.lc i p hi s q2 hl;rw[hS]at a;cases a;rw[q3,q4,q]at b;cases b
theorem cX.O2(m:cX d M){t s n:Nat}{S:aQ}(hS:M.ae[s]? =some S)(h:cW (hv S (n % 2)) ((n / 2:Nat):Int)=none):
  aqv d t (some s) n 0=asv:=by
 refine qF fun p hp=>?_;rw[aqL];intro z;obtain⟨q1,q2,q3,q4⟩:=kz.mp z;obtain⟨S',a,b,iv,c1,c2,c3⟩:=m.S.hc p hp s q2;rw[hS]at a;cases a;rw[q3]at c1 c2 c3;exact kC.mp h iv c1 ⟨c2,c3⟩
theorem cX.O1(m:cX d M){t s n:Nat}{S:aQ}(hS:M.ae[s]? =some S)(ht:S.town=t){iv:Iv Nat}(h:cW (hv S (n % 2)) ((n / 2:Nat):Int)=some iv):
  ∃r sp,M.aK[iv.at_]? =some r∧r.src=none∧r.line=.span sp∧dt sp∧fB r.line≤n∧aqv d t (some s) n 0=atg ((r.jD+gu r.line n:Nat):Int):=by
 obtain⟨h1,h2,h3⟩:=qD h;obtain⟨r,sp,j,a1,a2,a3,a4,a5,a6,a7,a8,a9,a10,a11⟩:=m.wU hS rfl h1 h2 h3;refine⟨r,sp,a1,a5,a2,a3,by omega,?_⟩;rw[a10];exact wX m.tW a11 (kz.mpr ⟨a7.trans ht,a6,a9.symm,rfl⟩)
theorem cX.MH(m:cX d M){t n:Nat}(h:∀T,M.ao[t]? =some T→cW T.boxes (n:Int)=none):aqv d t none n 0=asv:=by
 refine qF fun p hp=>?_;rw[aqL];intro z;obtain⟨q1,q2,q3,q4⟩:=kz.mp z;obtain⟨T,a,iv,b,c1,c2⟩:=m.T.bc p hp q2;rw[q1]at a;rw[q3]at c1 c2;exact kC.mp (h T a) iv b ⟨c1,c2⟩
theorem cX.V8(m:cX d M){t n:Nat}{T:dk}(hT:M.ao[t]? =some T){iv:Iv Nat}(h:cW T.boxes (n:Int)=some iv):
  ∃r x,M.aK[iv.at_]? =some r∧r.src=none∧r.line=.boxes x∧fB r.line≤n∧aqv d t none n 0=atg ((r.jD+gu r.line n:Nat):Int):=by
 obtain⟨h1,h2,h3⟩:=qD h;obtain⟨r,x,a1,a2,a3,a4,a5,a6,a7,a8,a9⟩:=m.HZ hT h1 h2 h3;obtain⟨r0,x0,b1,b2,_,_,_,_,b7,_⟩:=m.T.bi t T hT iv h1;rw[a1]at b1;cases b1;rw[a2]at b2;cases b2;refine⟨r,x,a1,a3,a2,by rw[a2];show x.a≤n;omega,?_⟩;rw[a7];exact wX m.tW a9 (kz.mpr ⟨a5,a4,a8,rfl⟩)
end
def de(S:aQ)(n:Nat):List Nat:=(ap4 27).filterMap fun l=>(aS S n).lookup l
def cell(M:Bk)(r:fD)(step:Nat):List Nat:=(r.jD+dq r.line step)::(match r.street with
 |none=>[]
 |some s=>match M.ae[s]? with
  |none=>[]
  |some S=>de S (fB r.line+dq r.line step*eG r.line))
def iZ(M:Bk)(r:fD):List Nat:=(ap4 r.line.points).flatMap (cell M r)
def AM(M:Bk)(w:Nat):List Nat:=(c9 M w).flatMap fun iv=>match M.aK[iv.at_]? with
 |none=>[]
 |some r=>iZ M r
section
variable{d:Dir}{M:Bk}
theorem U3(f:iR d){i j:Nat}{p q:Point}(hi:(pointsOf d)[i]? =some p)(hj:(pointsOf d)[j]? =some q)(h:p.town=q.town∧p.street=q.street∧p.number=q.number∧p.letter=q.letter):i=j:=by
 have pw:=aqH.mp f.one;obtain⟨l1,g1⟩:=apu.mp hi;obtain⟨l2,g2⟩:=apu.mp hj;rcases asE i j with z|z|z
 ·exact absurd (by rw[g1,g2];exact h) (pw i j l1 l2 z)
 ·exact z
 ·exact absurd (by rw[g1,g2];exact⟨h.1.symm,h.2.1.symm,h.2.2.1.symm,h.2.2.2.symm⟩) (pw j i l2 l1 z)
theorem Zp(f:iR d){p q:Point}(hp:p∈pointsOf d)(hq:q∈pointsOf d)(h:p.town=q.town∧p.street=q.street∧p.number=q.number∧p.letter=q.letter):p=q:=by
 obtain⟨i,hi⟩:=apR hp;obtain⟨j,hj⟩:=apR hq;have e:=U3 f hi hj h;subst e;rw[hi]at hj;exact apC hj
theorem cX.Az(m:cX d M){k:Nat}{r:fD}(hr:M.aK[k]? =some r)(hs:r.src=none){step:Nat}(h:step<r.line.points):
  ∃p,(pointsOf d)[r.jD+dq r.line step]? =some p∧p=i7 r (dq r.line step)∧p.walk=bD r.line∧p.place=bM r.line+step∧p.letter=0:=by
 refine⟨_,(m.R.rp k r hr hs).2 _ (xm h),rfl,rfl,?_,rfl⟩;show bM r.line+dq r.line (dq r.line step)=_;rw[rY h]
theorem cX.yD(m:cX d M){k:Nat}{r:fD}(hr:M.aK[k]? =some r)(hs:r.src=none){step:Nat}(h:step<r.line.points){s:Nat}{S:aQ}(j7:r.street=some s)(hS:M.ae[s]? =some S){l i:Nat}
  (hl:(aS S (fB r.line+dq r.line step*eG r.line)).lookup l=some i):∃p,(pointsOf d)[i]? =some p∧p.walk=bD r.line∧p.place=bM r.line+step∧p.letter.toNat=l+96∧1≤l∧l≤26:=by
 obtain⟨q,hq,eq,q1,q2,q3⟩:=m.Az hr hs h;obtain⟨p,a1,a2,a3,a4,a5,a6,a7⟩:=m.S.lp s S hS _ l i hl;have ahd:=(r4 m.dA).sib p (aps a1) (by rw[a2];simp);have hqs:q.street=some s:=by rw[eq];exact j7
 obtain⟨S',b1,b2,_⟩:=m.S.hc q (aps hq) s hqs;rw[hS]at b1;cases b1;have e:=Zp m.tW ahd (aps hq) ⟨by rw[←b2];exact a3,by rw[hqs];exact a2,by rw[eq];exact a4,by rw[q3]⟩;refine⟨p,a1,?_,?_,a7,a5,a6⟩
 ·rw[←q1,←e]
 ·rw[←q2,←e]
theorem Vd{r:fD}{step i:Nat}(h:i∈cell M r step):i=r.jD+dq r.line step∨∃s S l,r.street=some s∧M.ae[s]? =some S∧(aS S (fB r.line+dq r.line step*eG r.line)).lookup l=some i:=by
 unfold cell at h;rcases apA.mp h with h|h
 ·exact .inl h
 ·right;cases q:r.street with
  |none=>rw[q]at h;cases h
  |some s=>
   rw[q]at h;replace h:i∈(match M.ae[s]? with|none=>[]|some S=>de S (fB r.line+dq r.line step*eG r.line)):=h;cases z:M.ae[s]? with
   |none=>rw[z]at h;cases h
   |some S=>
    rw[z]at h;obtain⟨l,_,e⟩:=aqu.mp h;exact⟨s,S,l,rfl,z,e⟩
theorem cX.ub(m:cX d M){k:Nat}{r:fD}(hr:M.aK[k]? =some r)(hs:r.src=none){step i:Nat}(h:step<r.line.points)(hi:i∈cell M r step):
  ∃p,(pointsOf d)[i]? =some p∧p.walk=bD r.line∧p.place=bM r.line+step:=by
 rcases Vd hi with rfl|⟨s,S,l,a,b,c⟩
 ·obtain⟨p,h1,_,h2,h3,_⟩:=m.Az hr hs h;exact⟨p,h1,h2,h3⟩
 ·obtain⟨p,h1,h2,h3,_⟩:=m.yD hr hs h a b c;exact⟨p,h1,h2,h3⟩
theorem cX.PV(m:cX d M)(w:Nat):walkOf d w=AM M w:=by
 have F:=m.tW;have Xd:=m.W.Xd w;refine Ro F (fun i=>?_) ?_
 ·constructor
  ·intro h;obtain⟨iv,hi,h⟩:=arH.mp h;obtain⟨r,a1,a2,a3,a4,a5⟩:=m.W.wi w iv hi;rw[a1]at h;obtain⟨step,hs,h⟩:=arH.mp (show i∈iZ M r from h);obtain⟨p,b1,b2,b3⟩:=m.ub a1 a2 (apP.mp hs) h;exact⟨p,b1,b2.trans a3⟩
  ·rintro⟨p,hp,hw⟩;have hpm:=aps hp;obtain⟨iv,hi,h1,h2⟩:=m.W.wc p hpm;rw[hw]at hi;obtain⟨r,j,a1,a2,a3,a4,a5,a6,a7,a8⟩:=m.vV hi h1 h2;obtain⟨e1,e2,e3⟩:=F.place p hpm _ (aps a8) (by show p.walk=bD r.line;rw[hw,a3]) a5;refine arH.mpr ⟨iv,hi,?_⟩;rw[a1];refine arH.mpr ⟨dq r.line j,apP.mpr (xm a4),?_⟩;unfold cell;rw[rY a4];by_cases hl:p.letter=0
   ·have:=U3 F hp a8 ⟨e1,e2,e3,hl⟩;rw[this];exact apD
   ·rcases F.letter p hpm with z|⟨z1,z2,z3⟩
    ·exact absurd z hl
    ·cases q:p.street with
     |none=>exact absurd q z3
     |some s=>
      have hrs:r.street=some s:=by rw[←q];exact e2.symm
      obtain⟨S,b1,b2⟩:=m.S.lc i p hp s q hl;rw[hrs];refine apy _ ?_;show i∈(match M.ae[s]? with|none=>[]|some S=>de S (fB r.line+j*eG r.line));rw[b1];refine aqu.mpr ⟨p.letter.toNat-96,apP.mpr (by omega),?_⟩;have:p.number=fB r.line+j*eG r.line:=e3;rw[←this];exact b2
 ·unfold AM;rw[auf];constructor
  ·intro iv hi;obtain⟨r,a1,a2,a3,a4,a5⟩:=m.W.wi w iv hi;rw[a1];show(iZ M r).Pairwise _;unfold iZ;rw[auf];constructor
   ·intro step j7;have j7:=apP.mp j7;obtain⟨q,hq,_,_,q2,q3⟩:=m.Az a1 a2 j7;unfold cell;cases hrs:r.street with
    |none=>exact atU _ _
    |some s=>
     show avt _ (_::(match M.ae[s]? with|none=>[]|some S=>de S (fB r.line+dq r.line step*eG r.line)));cases hS:M.ae[s]? with
     |none=>exact atU _ _
     |some S=>
      rw[List.pairwise_cons];constructor
      ·intro i hi p p' h1 h2;obtain⟨l,_,e⟩:=aqu.mp hi;obtain⟨p2,c1,c2,c3,c4,c5,c6⟩:=m.yD a1 a2 j7 hrs hS e;rw[hq]at h1;rw[c1]at h2;cases h1;cases h2;rw[iJ];right;rw[q2,c3,q3,c4];exact⟨rfl,by show 0<_;omega⟩
      ·show(de S _).Pairwise _;unfold de;rw[atR];refine asJ.imp ?_;intro l l' hll i e i' e' p p' h1 h2;obtain⟨p1,b1,b2,b3,b4,_⟩:=m.yD a1 a2 j7 hrs hS e;obtain⟨p2,c1,c2,c3,c4,_⟩:=m.yD a1 a2 j7 hrs hS e';rw[b1]at h1;rw[c1]at h2;cases h1;cases h2;rw[iJ];right;exact⟨by rw[b3,c3],by omega⟩
   ·refine atH ?_ (asJ (n:=r.line.points));intro s1 s2 m1 m2 gX i hi j hj p q h1 h2;obtain⟨p1,b1,b2,b3⟩:=m.ub a1 a2 (apP.mp m1) hi;obtain⟨p2,c1,c2,c3⟩:=m.ub a1 a2 (apP.mp m2) hj;rw[b1]at h1;rw[c1]at h2;cases h1;cases h2;rw[iJ];left;omega
  ·refine atH ?_ Xd.apart;intro iv lN hi OS gX i hii j hjj p q h1 h2;obtain⟨r,a1,a2,a3,a4,a5⟩:=m.W.wi w iv hi;obtain⟨r',a1',a2',a3',a4',a5'⟩:=m.W.wi w lN OS;rw[a1]at hii;rw[a1']at hjj;obtain⟨st,j7,hii⟩:=arH.mp (show i∈iZ M r from hii);obtain⟨oN,ahc,hjj⟩:=arH.mp (show j∈iZ M r' from hjj);have:=apP.mp j7;obtain⟨p1,b1,b2,b3⟩:=m.ub a1 a2 (apP.mp j7) hii;obtain⟨p2,c1,c2,c3⟩:=m.ub a1' a2' (apP.mp ahc) hjj;rw[b1]at h1;rw[c1]at h2;cases h1;cases h2;rw[iJ];left;omega
theorem cX.TF(m:cX d M):walksOf d=M.az.length:=by
 rw[M8 (L:=M.az.map (·.1)) m.W.nd (fun w=>?_),apt];constructor
 ·intro h;obtain⟨q,hq,e⟩:=apW.mp h;obtain⟨w',L⟩:=q;have e':w'=w:=e;subst e';have hL:CL M.az w'=L:=by unfold CL;rw[eB m.W.nd hq];rfl
  obtain⟨iv,r,ahG⟩:=arz (m.W.ne _ hq);have hi:iv∈c9 M w':=by show iv∈CL M.az w';rw[hL];show iv∈L;rw[show L=iv::r from ahG];exact apD
  obtain⟨r,a1,a2,a3,a4,a5⟩:=m.W.wi w' iv hi;have:=(m.R.Uz _ r a1).1;obtain⟨r0,j,b1,b2,b3,b4,b5,b6,b7,b8⟩:=m.vV hi (k:=bM r.line) (by omega) (by omega);exact⟨_,aps b8,b3⟩
 ·rintro⟨p,hp,e⟩;obtain⟨iv,hi,_⟩:=m.W.wc p hp;rw[e]at hi;unfold CL at hi;cases q:M.az.lookup w with
  |none=>rw[q]at hi;cases hi
  |some L=>exact apW.mpr ⟨_,mw q,rfl⟩
theorem cX.sizes(m:cX d M):asw d=[M.ao.length,M.ae.length,(codesIn d).length,(spansIn d).length,(d.filter aqD).length,(boxesIn d).length,M.points,M.az.length]:=by
 unfold asw;rw[m.Jr,m.Js,m.np,m.TF]
theorem cX.HF(m:cX d M){s:Nat}{S:aQ}(hS:M.ae[s]? =some S)(n:Nat):((aS S n).map (·.1)).Nodup∧((aS S n).map (·.1)).Perm ((ap4 27).filter fun l=>((aS S n).lookup l).isSome):=by
 have nd:((aS S n).map (·.1)).Nodup:=by
  unfold aS;cases q:S.aU.lookup n with
  |none=>simp
  |some L=>exact((m.S.ln S (aps hS)).2 _ (mw q)).1
 refine⟨nd,?_⟩;rw[asd nd ((ar7).filter _)];intro l;rw[ash,apP];have:l∈(aS S n).map (·.1)↔((aS S n).lookup l).isSome=true:=by
  have:=bK (aS S n) l;cases q:(aS S n).lookup l with
  |none=>rw[q]at this;simpa using this.mp rfl
  |some v=>rw[q]at this;simp at this;simp;exact this
 rw[this];constructor
 ·intro h;obtain⟨i,hi⟩:=apZ.mp h;obtain⟨p,_,_,_,_,_,a6,_⟩:=m.S.lp s S hS n l i hi;exact⟨by omega,h⟩
 ·exact fun h=>h.2
theorem cX.Cp(m:cX d M){s:Nat}{S:aQ}(hS:M.ae[s]? =some S)(n:Nat){ks:List Nat}(hp:ks.Perm ((aS S n).map (·.1)))(hs:ks.Pairwise (·≤ ·)):
  ks.filterMap (fun l=>(aS S n).lookup l)=de S n:=by
 obtain⟨nd,pm⟩:=m.HF hS n;have e:ks=(ap4 27).filter fun l=>((aS S n).lookup l).isSome:=
  atF (le:=(·≤ ·)) (fun a b _ _ h1 h2=>Nat.le_antisymm h1 h2) hs ((asJ (n:=27)).imp (fun h=>asV h) |>.filter _) (hp.trans pm)
 rw[e];unfold de;rw[List.filterMap_filter];congr 1;funext l;cases(aS S n).lookup l<;>rfl
theorem cX.LX(m:cX d M){s:Nat}{S:aQ}(hS:M.ae[s]? =some S)(n:Nat):(aS S n).length≤27:=by
 have:=(m.HF hS n).2.length_eq;rw[apt]at this;rw[this];exact aqa (asR _ _) (by simp)
end
structure adv(p:Point):Prop where
 n1:1≤p.number
 n2:p.number≤999999
 c1:1≤p.code.length
 c2:p.code.length≤12
 c3:p.code.all isLetter=true
 w:p.walk≤9999
 l:p.letter=0∨(97≤p.letter.toNat∧p.letter.toNat≤122)
theorem qT{c:Bytes}(h:codeOk c=true):1≤c.length∧c.length≤12∧c.all isLetter=true:=by
 unfold codeOk at h;rw[apv,gc]at h;exact⟨h.1.1,h.1.2,h.2⟩
theorem aab{s:Span}{n:Nat}(h:s.has n=true):s.a≤n∧n≤s.b:=by
 unfold Span.has at h;rw[apv,gc]at h;exact h.1
theorem UH{d:Dir}(h:ib d):∀p∈pointsOf d,adv p:=by
 induction h with
 |nil=>intro p hp;cases hp
 | @snoc d x hd ok w ih=>
  have f:=nE hd;obtain⟨st,_,_⟩:=yT.mp w;intro p hp;rw[bG]at hp;rcases apx.mp hp with hp|hp
  ·exact ih p hp
  ·cases x with
   |town l=>cases hp
   |code l=>cases hp
   |street l=>cases hp
   |span s=>
    have CN:=fz.mp ok;obtain⟨n,hn,e⟩:=apW.mp hp;subst e;have hb:=aab ((iM CN n).mp hn);have h1:=CN.a1;have h2:=CN.b1;obtain⟨c1,c2,c3⟩:=qT CN.code;exact⟨by simp only;omega,by simp only;omega,c1,c2,c3,CN.walk,.inl rfl⟩
   |letters n c e=>
    have xi:=e9.mp ok;have Z8:=xi.c1;have Bi:=xi.cd;have hd2:=xi.d2;have hn1:=xi.n1;have hn2:=xi.n2;have OP:p∈(match(bA d).find? fun(s:Span)=>s.has n with
     |some s=>(ap4 (e.toNat-c.toNat+1)).map fun(i:Nat)=>(⟨townsIn d-1,some (streetsIn d-1),n,apM (c.toNat+i),s.code,s.walk,s.placeOf n⟩:Point)
     |none=>[]):=hp
    cases q:(bA d).find? (fun(s:Span)=>s.has n)with
    |none=>rw[q]at OP;cases OP
    |some s=>
     rw[q]at OP;obtain⟨i,hi,e'⟩:=apW.mp OP;have hi:=apP.mp hi;subst e';have CN:=f.T5 s (arn q);obtain⟨c1,c2,c3⟩:=qT CN.code;refine⟨hn1,by simp only;omega,c1,c2,c3,CN.walk,.inr ?_⟩;simp only;rw[cJ (by omega)];omega
   |boxes x=>
    have Rf:=gJ.mp ok;have OP:p∈(ap4 x.many).map fun(i:Nat)=>(⟨townsIn d-1,none,x.a+i,0,x.code,x.walk,x.first+i⟩:Point):=hp;obtain⟨i,hi,e'⟩:=apW.mp OP;have hi:=apP.mp hi;subst e';unfold Boxes.many at hi;have h1:=Rf.a1;have h2:=Rf.b1;have h3:=Rf.ab;obtain⟨c1,c2,c3⟩:=qT Rf.code;exact⟨by simp only;omega,by simp only;omega,c1,c2,c3,Rf.walk,.inl rfl⟩
theorem Qx{d:Dir}{x:DLine}(h:x∈d):x.text.length+1≤(dirText d).length:=by
 induction d with
 |nil=>cases h
 |cons y r ih=>
  have e:dirText (y::r)=(y.text++[10])++dirText r:=by unfold dirText;rw[aqK]
  rw[e,apr,apr];rcases apA.mp h with rfl|h
  ·simp only[ap5];omega
  ·have:=ih h;omega
theorem LM{l:List Name}{n:Name}(h:n∈l):(spaced n).length≤(namesText l).length:=by
 induction l with
 |nil=>cases h
 |cons w r ih=>
  cases r with
  |nil=>
   rcases apA.mp h with rfl|h
   ·exact apE _
   ·cases h
  |cons w' r'=>
   have e:namesText (w::w'::r')=spaced w++(ascii " | "++namesText (w'::r')):=rfl;rw[e,apr,apr];rcases apA.mp h with rfl|h
   ·omega
   ·have:=ih h;omega
theorem xn{d:Dir}{l:List Name}{n:Name}(h:l∈townNames d)(hn:n∈l):(spaced n).length≤(dirText d).length:=by
 obtain⟨x,hx,e⟩:=aqu.mp h;cases x with
 |town l'=>
  cases e;have h1:=Qx hx;have h2:=LM hn;have e2:(DLine.town l).text=ascii "town "++namesText l:=rfl;rw[e2,apr]at h1;omega
 |code c=>cases e
 |street l=>cases e
 |span s=>cases e
 |letters n c e'=>cases e
 |boxes x=>cases e
theorem r8{d:Dir}{l:List Name}{n:Name}(h:l∈streetNames d)(hn:n∈l):(spaced n).length≤(dirText d).length:=by
 obtain⟨x,hx,e⟩:=aqu.mp h;cases x with
 |street l'=>
  cases e;have h1:=Qx hx;have h2:=LM hn;have e2:(DLine.street l).text=ascii "street "++namesText l:=rfl;rw[e2,apr]at h1;omega
 |code c=>cases e
 |town l=>cases e
 |span s=>cases e
 |letters n c e'=>cases e
 |boxes x=>cases e
theorem QP(d:Dir)(L:List (List Name))(hL:∀l∈L,∀n∈l,(spaced n).length≤(dirText d).length)(i:Nat):(spaced ((L[i]?.bind awj).getD [])).length≤(dirText d).length:=by
 cases q:L[i]? with
 |none=>exact apV _
 |some l=>
  show(spaced (l.head?.getD [])).length≤_;cases l with
  |nil=>exact apV _
  |cons n r=>exact hL _ (aps q) n apD
theorem Bp{n:Nat}(h:n≤999999):(decimal n).length≤6:=(t8 n 6 (by decide)).mpr (by omega)
theorem Lz{d:Dir}(h:ib d){p:Point}(hp:p∈pointsOf d):(partsText (pointParts d p)).length≤2*(dirText d).length+60:=by
 have ok:=UH h p hp;have h1:=QP d (streetNames d) (fun l hl n hn=>r8 hl hn);have h2:=QP d (townNames d) (fun l hl n hn=>xn hl hn) p.town;have h3:=Bp ok.n2;have h4:=ok.c2;have hk:∀k,(KINDS.getD k []).length≤8:=by
  intro k;have:KINDS.length=9:=rfl;by_cases hk:k<9
  ·have:k=0∨k=1∨k=2∨k=3∨k=4∨k=5∨k=6∨k=7∨k=8:=by omega
   rcases this with rfl|rfl|rfl|rfl|rfl|rfl|rfl|rfl|rfl<;>decide
  ·rw[asa,aqJ (by omega)];exact apV _
 have k2:=hk 2;have k3:=hk NUMBER;have k5:=hk 5;have k6:=hk CODE;have k7:=hk BOX;have hl:(decimal p.number++(if p.letter=0 then[]else[p.letter])).length≤7:=by
  rw[apr];split<;>simp<;>omega
 unfold partsText pointParts;cases q:p.street with
 |none=>
  simp only[aqR,aqK,arI,apr,apz,arO,spaced]at h2 ⊢;have:(KINDS.getD BOX []).length≤3:=by decide
  have:(KINDS.getD 5 []).length≤4:=by decide
  have:(KINDS.getD CODE []).length≤4:=by decide
  omega
 |some s=>
  have h1:=h1 s;simp only[aqR,aqK,arI,apr,apz,arO,spaced]at h1 h2 hl ⊢;have:(KINDS.getD NUMBER []).length≤6:=by decide
  have:(KINDS.getD 2 []).length≤6:=by decide
  have:(KINDS.getD 5 []).length≤4:=by decide
  have:(KINDS.getD CODE []).length≤4:=by decide
  omega
theorem Iw(d:Dir)(w:Nat):(walkOf d w).length≤(pointsOf d).length:=by
 unfold walkOf;rw[apt,List.length_mergeSort];exact aqa (asR _ _) (by simp)
theorem Hu{d:Dir}(h:ib d):(pointsOf d).length≤65536:=by
 rw[fF h];exact(d6 h).2.2.2.2
theorem HP(d:Dir)(t:Nat)(s:Option Nat)(n c:Nat):(iQ (aqv d t s n c)).length=1:=by
 unfold aqv;cases(pointsOf d).findIdx? (asH t s n c)<;>rfl
theorem Hf(d:Dir)(t:Bytes):(iQ (aqw d t).2).length≤3:=by
 unfold aqw;split
 ·show 1≤3;decide
 ·split
  ·show 1≤3;decide
  ·show 3≤3;decide
theorem C7{d:Dir}(h:Km d)(t:Bytes):Km (aqw d t).1∧(dirText (aqw d t).1).length≤max (dirText d).length t.length:=by
 unfold aqw;split
 ·exact⟨h,at0 _ _⟩
 ·cases q:readDir t with
  |ok e=>
   obtain⟨h1,h2⟩:=QO q;exact⟨h1,by show(dirText e).length≤_;rw[h2];exact au2 _ _⟩
  |error e=>exact⟨h,at0 _ _⟩
def weight(c:List (List Int)):Nat:=(c.map fun(r:List Int)=>r.length).sum
def JF(c:List (List Int)):Bool:=(c.headD []).headD (-1)==7
theorem Pw{P:List (List Int)→Prop}(h0:∀t:List Int,t.all (fun(z:Int)=>apS z 8)=true→P [[0],t])(h1:∀t:List Int,t.all (fun(z:Int)=>apS z 8)=true→P [[1],t])(h2:P [[2]])(h3:P [[3]])(h4:∀i,apS i 32=true→P [[4,i]])(h5:∀t s n l,(apS t 32&&apS s 32&&apS n 32&&apS l 32)=true→P [[5,t,s,n,l]])(h6:∀t n,(apS t 32&&apS n 32)=true→P [[6,t,n]])(h7:∀w,apS w 32=true→P [[7,w]])(h8:∀w i j,(apS w 32&&apS i 32&&apS j 32)=true→P [[8,w,i,j]])(h9:∀i,apS i 32=true→P [[9,i]]):∀c,aqY c=true→P c:=by
 intro c h;rcases c with _|⟨r,t⟩
 ·exact absurd h apI
 rcases r with _|⟨p,u⟩
 ·rcases t with _|⟨s,t⟩<;>exact absurd h apI
 cases p with
 |negSucc n=>rcases u with _|⟨a,u⟩<;>rcases t with _|⟨s,_|⟨_,_⟩⟩<;>exact absurd h apI
 |ofNat n=>
  revert n;refine abV _ ?_ ?_ ?_ ?_ ?_ ?_ ?_ ?_ ?_ ?_ fun n=>?_<;>intro h<;>rcases u with _|⟨a,_|⟨b,_|⟨c,_|⟨d,_|⟨e,u⟩⟩⟩⟩⟩<;>rcases t with _|⟨s,_|⟨_,_⟩⟩<;>first|exact absurd h apI|exact h0 _ h|exact h1 _ h|exact h2|exact h3|exact h4 _ h|exact h5 _ _ _ _ h|exact h6 _ _ h|exact h7 _ h|exact h8 _ _ _ h|exact h9 _ h
theorem qX{c:List (List Int)}(h:aqY c=true):(∃t,c=[[0],t]∧∀z∈t,0≤z∧z≤255)∨(∃t,c=[[1],t]∧∀z∈t,0≤z∧z≤255)∨c=[[2]]∨c=[[3]]∨(∃i,c=[[4,i]]∧0≤i∧i≤4294967295)∨
  (∃t s n l,c=[[5,t,s,n,l]]∧0≤t∧0≤s∧0≤n∧0≤l)∨(∃t n,c=[[6,t,n]]∧0≤t∧0≤n)∨(∃w,c=[[7,w]]∧0≤w)∨(∃w i j,c=[[8,w,i,j]]∧0≤w∧0≤i∧0≤j)∨∃i,c=[[9,i]]∧0≤i∧i≤4294967295:=by
 have Gn:∀{z:Int} {b:Nat},apS z b=true→0≤z:=fun h=>by
  unfold apS at h;rw[apv,decide_eq_true_eq]at h;exact h.1
 have Ye:∀{z:Int},apS z 32=true→0≤z∧z≤4294967295:=fun h=>by
  unfold apS at h;rw[apv,decide_eq_true_eq,decide_eq_true_eq]at h;omega
 have abY:∀{t:List Int},t.all (fun(z:Int)=>apS z 8)=true→∀z∈t,0≤z∧z≤255:=fun h z hz=>by
  have:=aqn.mp h z hz;unfold apS at this;rw[apv,decide_eq_true_eq,decide_eq_true_eq]at this;omega
 have an:∀{a b:Bool},(a&&b)=true→a=true∧b=true:=fun h=>(apv _ _).mp h;revert c;apply Pw
 ·exact fun _ h=>.inl ⟨_,rfl,abY h⟩
 ·exact fun _ h=>(.inr (.inl ⟨_,rfl,abY h⟩))
 ·exact(.inr (.inr (.inl rfl)))
 ·exact(.inr (.inr (.inr (.inl rfl))))
 ·exact fun _ h=>(.inr (.inr (.inr (.inr (.inl ⟨_,rfl,Ye h⟩)))))
 ·exact fun _ _ _ _ h=>(.inr (.inr (.inr (.inr (.inr (.inl ⟨_,_,_,_,rfl,Gn (an (an (an h).1).1).1,Gn (an (an (an h).1).1).2,Gn (an (an h).1).2,Gn (an h).2⟩))))))
 ·exact fun _ _ h=>(.inr (.inr (.inr (.inr (.inr (.inr (.inl ⟨_,_,rfl,Gn (an h).1,Gn (an h).2⟩)))))))
 ·exact fun _ h=>(.inr (.inr (.inr (.inr (.inr (.inr (.inr (.inl ⟨_,rfl,Gn h⟩))))))))
 ·exact fun _ _ _ h=>(.inr (.inr (.inr (.inr (.inr (.inr (.inr (.inr (.inl ⟨_,_,_,rfl,Gn (an (an h).1).1,Gn (an (an h).1).2,Gn (an h).2⟩)))))))))
 ·exact fun _ h=>(.inr (.inr (.inr (.inr (.inr (.inr (.inr (.inr (.inr ⟨_,rfl,Ye h⟩)))))))))
theorem Hj{d:Dir}(h:Km d){c:List (List Int)}(hc:aqY c=true):Km (gW d c).1∧(dirText (gW d c).1).length≤(dirText d).length+weight c:=by
 rcases qX hc with⟨t,rfl,_⟩|⟨t,rfl,_⟩|rfl|rfl|⟨i,rfl,_⟩|⟨t,s,n,l,rfl,_⟩|⟨t,n,rfl,_⟩|⟨w,rfl,_⟩|⟨w,i,j,rfl,_⟩|⟨i,rfl,_⟩
 ·rw[step_take];have:=C7 h (aqj t);refine⟨this.1,aqa this.2 ?_⟩;have e:(aqj t).length=t.length:=apt _;have e2:weight [[0],t]=1+t.length:=by simp[weight]
  omega
 ·rw[y9];have:=C7 h (dirText d++aqj t);refine⟨this.1,aqa this.2 ?_⟩;have e:(aqj t).length=t.length:=apt _;have e2:weight [[1],t]=1+t.length:=by simp[weight]
  rw[apr];omega
 ·rw[yY];exact⟨h,aqC _ _⟩
 ·rw[vZ];exact⟨h,aqC _ _⟩
 ·rw[step_point];exact⟨h,aqC _ _⟩
 ·rw[za];exact⟨h,aqC _ _⟩
 ·rw[Dc];exact⟨h,aqC _ _⟩
 ·rw[yX];exact⟨h,aqC _ _⟩
 ·rw[yZ];exact⟨h,aqC _ _⟩
 ·rw[v3];exact⟨h,aqC _ _⟩
theorem T2{d:Dir}(h:Km d){c:List (List Int)}(hc:aqY c=true):(gW d c).2.length≤2*(dirText d).length+100+if JF c=true then 65537 else 0:=by
 rcases qX hc with⟨t,rfl,_⟩|⟨t,rfl,_⟩|rfl|rfl|⟨i,rfl,_⟩|⟨t,s,n,l,rfl,_⟩|⟨t,n,rfl,_⟩|⟨w,rfl,_⟩|⟨w,i,j,rfl,_⟩|⟨i,rfl,_⟩
 ·rw[step_take];have:=Hf d (aqj t);show(iQ _).length≤_;omega
 ·rw[y9];have:=Hf d (dirText d++aqj t);show(iQ _).length≤_;omega
 ·rw[yY];show(_::cf (dirText d)).length≤_;rw[apz,eF];omega
 ·rw[vZ];show 9≤_;omega
 ·rw[step_point];show(match(pointsOf d)[i.toNat]? with|some p=>0::arj p|none=>[-4]).length≤_;cases q:(pointsOf d)[i.toNat]? with
  |none=>show 1≤_;omega
  |some p=>
   have:=(UH h.1 p (aps q)).c2;show(0::arj p).length≤_;rw[xM,apz,apr,eF];show 7+_+1≤_;omega
 ·rw[za];show(if 26<l.toNat then[-1]else iQ _).length≤_;split
  ·show 1≤_;omega
  ·rw[HP];omega
 ·rw[Dc];show(iQ _).length≤_;rw[HP];omega
 ·rw[yX];show(_::(walkOf d w.toNat).map _).length≤_;rw[apz,apt];have h1:=Iw d w.toNat;have h2:=Hu h.1;have:JF [[7,w]]=true:=rfl;rw[this,if_pos rfl];omega
 ·rw[yZ];show(if 1<w.toNat then[-1]else match ari d w.toNat i.toNat j.toNat with|some n=>((spaced n).length:Int)::cf (spaced n)|none=>[-4]).length≤_;split
  ·show 1≤_;omega
  ·cases q:ari d w.toNat i.toNat j.toNat with
   |none=>show 1≤_;omega
   |some n=>
    show(_::cf (spaced n)).length≤_;rw[apz,eF];have:(spaced n).length≤(dirText d).length:=by
     unfold ari at q;obtain⟨l,hl,hn⟩:=atV.mp q;split at hl
     ·exact xn (aps hl) (aps hn)
     ·exact r8 (aps hl) (aps hn)
    omega
 ·rw[v3];show(match(pointsOf d)[i.toNat]? with|some p=>((partsText (pointParts d p)).length:Int)::cf (partsText (pointParts d p))|none=>[-4]).length≤_;cases q:(pointsOf d)[i.toNat]? with
  |none=>show 1≤_;omega
  |some p=>
   show(_::cf (partsText (pointParts d p))).length≤_;rw[apz,eF];have:=Lz h.1 (aps q);omega
theorem xZ(c:List (List Int))(cs:List (List (List Int))):aqf (c::cs)=weight c+aqf cs:=by
 unfold aqf weight;rw[List.flatten_cons,apB,au7]
theorem J6(c:List (List Int))(cs:List (List (List Int))):arx 7 (c::cs)=(if JF c=true then 1 else 0)+arx 7 cs:=by
 unfold arx;rw[atG];show(if JF c=true then _ else _:List _).length=_;split
 ·rw[apz];omega
 ·omega
theorem DY:∀(cs:List (List (List Int))) (d:Dir) (N:Nat),Km d→(∀c∈cs,aqY c=true)→(dirText d).length+aqf cs≤N→
  (aqA (aqO aqc d cs)).length≤cs.length*(2*N+101)+65537*arx 7 cs
 |[],_,_,_,_,_=>apV _
 |c::cs,d,N,h,ha,hn=>by
  rw[aqO];have e:aqA ((aqc d c).2::aqO aqc (aqc d c).1 cs)=(((aqc d c).2.length:Int)::(aqc d c).2)++aqA (aqO aqc (aqc d c).1 cs):=by
   unfold aqA;rw[aqK]
  rw[e,apr,apz];rw[xZ]at hn;have hc:=ha c apD;obtain⟨h1,h2⟩:=Hj h hc;have h3:=T2 h hc;have ih:=DY cs (gW d c).1 N h1 (fun c' hc'=>ha c' (apy _ hc')) (by omega);rw[apz,J6];have e3:(cs.length+1)*(2*N+101)=cs.length*(2*N+101)+(2*N+101):=by rw[Nat.add_mul,Nat.one_mul]
  show(gW d c).2.length+1+(aqA (aqO aqc (gW d c).1 cs)).length≤_;rw[e3,Nat.mul_add 65537];clear e3;generalize cs.length*(2*N+101)=Z at ih ⊢;split at h3<;>rename_i q
  ·rw[if_pos q];omega
  ·rw[if_neg q];omega
theorem Nc{l:List Int}{cs:List (List (List Int))}(h:Yx l cs):(aqA (aqO aqc art cs)).length≤4000000:=by
 have:=DY cs [] (aqf cs) Mf h.each (by show 0+_≤_;omega);have ha:=h.all;have hb:cs.length*(2*aqf cs+101)≤2*(cs.length*(aqf cs+1000)):=by
  have e:2*(cs.length*(aqf cs+1000))=cs.length*(2*(aqf cs+1000)):=Nat.mul_left_comm ..;rw[e];exact Nat.mul_le_mul_left cs.length (by omega)
 show(aqA (aqO aqc ([]:Dir) cs)).length≤_;omega
theorem LZ{d:Dir}(h:ib d):∀x∈d,x.ok=true:=by
 induction h with
 |nil=>intro x hx;cases hx
 |snoc _ ok _ ih=>
  intro x hx;rcases apx.mp hx with hx|hx
  ·exact ih x hx
  ·rw[ap2.mp hx];exact ok
theorem AZ:∀{n:List Bytes},(∀w∈n,w.all cE=true)→(spaced n).all cE=true
 |[],_=>rfl
 |[w],h=>h w apD
 |w::v::r,h=>by
  rw[cI (by simp),arQ,aqZ,h w apD,AZ (n:=v::r) fun u hu=>h u (apy _ hu)];rfl
theorem xu:∀{n:List Bytes},(∀w∈n,w.length≤32)→(spaced n).length≤33*n.length
 |[],_=>apV _
 |[w],h=>by
  have:=h w apD;show w.length≤33*1;omega
 |w::v::r,h=>by
  have h1:=xu (n:=v::r) fun u hu=>h u (apy _ hu);have h2:=h w apD;rw[cI (by simp),apr,apz,apz];omega
theorem Rm{w:Bytes}(h:fullWord w=true):w.all cE=true:=lz (aqn.mpr (dQ h).2.2)
def w8(l:List Name):Prop:=l≠[]∧∀n∈l,(spaced n).all cE=true∧(spaced n).length≤264
theorem Va{l:List Name}(h:namesOk l=true):w8 l:=by
 obtain⟨h1,h2⟩:=dH h;refine⟨h1,fun n hn=>?_⟩;obtain⟨_,a,b⟩:=h2 n hn;refine⟨AZ fun w hw=>Rm (b w hw),?_⟩;have:=xu (n:=n) fun w hw=>(dQ (b w hw)).2.1;omega
theorem Hd{d:Dir}(h:ib d){l:List Name}(hl:l∈townNames d):w8 l:=by
 obtain⟨x,hx,e⟩:=aqu.mp hl;have ok:=LZ h x hx;cases x with
 |town l'=>cases e;exact Va ok
 |_=>cases e
theorem AW{d:Dir}(h:ib d){l:List Name}(hl:l∈streetNames d):w8 l:=by
 obtain⟨x,hx,e⟩:=aqu.mp hl;have ok:=LZ h x hx;cases x with
 |street l'=>cases e;exact Va ok
 |_=>cases e
theorem qG(n:Nat):(decimal n).all cE=true:=by
 have h:=kj n;unfold ll at h;rw[apv,apv]at h;rw[aqn]at*;intro c hc;have:=gQ.mp (h.2.1 c hc);exact dM.mpr (by omega)
theorem OD(k:Nat):(KINDS.getD k []).all cE=true:=by
 by_cases hk:k<9
 ·have:k=0∨k=1∨k=2∨k=3∨k=4∨k=5∨k=6∨k=7∨k=8:=by omega
  rcases this with rfl|rfl|rfl|rfl|rfl|rfl|rfl|rfl|rfl<;>decide
 ·have:KINDS.length=9:=rfl;rw[asa,aqJ (by omega)];rfl
theorem D4{q:Parts}(h:∀x∈q,(spaced x.2).all cE=true):(partsText q).all cE=true:=by
 unfold partsText;rw[List.all_flatMap,aqn];intro x hx;rw[arQ,OD,aqZ,arQ,h x hx];rfl
theorem HL{L:List (List Name)}(hL:∀l∈L,w8 l)(i:Nat):(spaced ((L[i]?.bind awj).getD [])).all cE=true:=by
 cases q:L[i]? with
 |none=>rfl
 |some l=>
  show(spaced (l.head?.getD [])).all cE=true;cases l with
  |nil=>rfl
  |cons n r=>exact((hL _ (aps q)).2 n apD).1
theorem NV{d:Dir}(h:ib d){p:Point}(hp:p∈pointsOf d):(partsText (pointParts d p)).all cE=true:=by
 have ok:=UH h p hp;refine D4 fun x hx=>?_;unfold pointParts at hx;have hn:(decimal p.number++(if p.letter=0 then[]else[p.letter])).all cE=true:=by
  rw[arQ,qG];split
  ·rfl
  ·rename_i q
   rcases ok.l with z|z
   ·exact absurd z q
   ·rw[aqZ,show cE p.letter=true from dM.mpr (by omega)];rfl
 rcases apx.mp hx with hx|hx
 ·cases q:p.street with
  |none=>
   rw[q]at hx;rw[ap2.mp hx];exact qG _
  |some s=>
   rw[q]at hx;rcases apA.mp hx with hx|hx
   ·rw[hx];exact hn
   ·rw[ap2.mp hx];exact HL (fun l hl=>AW h hl) s
 ·rcases apA.mp hx with hx|hx
  ·rw[hx];exact HL (fun l hl=>Hd h hl) p.town
  ·rw[ap2.mp hx];exact lz ok.c3
end Pb.Internal
namespace Pb.Internal
open PySem PySem.Spec PyProof.Rows L2.Internal Po TL
variable{P:Program}{w:World}{K:apw}{mg:Str→Option Value}{base:Heap}{A:Ad}
local macro_rules|`(tactic|walk_at "c")=>`(tactic|exact⟨rfl,rfl,rfl,by decide +kernel,rfl,by decide +kernel,by decide +kernel⟩)
def gh(i:Nat):Stmt:=auk.main.body.getD i (.Pass ⟨0,0,0,0⟩)
abbrev zy:Stmt:=bq (gh 1) 0
theorem Ny:aI ["self"] ["self"] (aC zy):=by walk_at "c"
abbrev ou:Stmt:=bq (gh 1) 1
theorem DF:aI ["self","number","under","over","middle"] ["self","number"] (aC ou):=by walk_at "c"
abbrev wj:Stmt:=bq (gh 1) 2
theorem Le:aI ["self","low","high","begun"] ["self","low","high"] (aC wj):=by walk_at "c"
abbrev l0:Stmt:=bq (gh 1) 3
theorem BO:aI ["self","number","begun"] ["self","number"] (aC l0):=by walk_at "c"
abbrev DL:Stmt:=bq (gh 1) 4
theorem RQ:aI ["self","low","high","holder","begun"] ["self","low","high","holder"] (aC DL):=by walk_at "c"
abbrev zr:Stmt:=bq (gh 14) 0
theorem Nw:aI ["self","kind"] ["self","kind"] (aC zr):=by walk_at "c"
abbrev wb:Stmt:=gh 15
theorem La:aI ["text","signs","byte"] ["text"] (aC wb):=by walk_at "c"
abbrev wt:Stmt:=gh 16
theorem Lh:aI ["signs","sign"] ["signs"] (aC wt):=by walk_at "c"
abbrev su:Stmt:=gh 17
theorem IM:aI ["row","words","kind","told"] ["row"] (aC su):=by walk_at "c"
abbrev qc:Stmt:=gh 18
theorem Gb:aI ["kind","told","words_in_name","word","line"] ["kind","told"] (aC qc):=by walk_at "c"
abbrev sv:Stmt:=gh 19
theorem IP:aI ["told","line"] ["told"] (aC sv):=by walk_at "c"
abbrev sk:Stmt:=gh 20
theorem IL:aI ["told","back","side","line"] ["told"] (aC sk):=by walk_at "c"
abbrev qd:Stmt:=gh 21
theorem Gd:aI ["told","line"] ["told"] (aC qd):=by walk_at "c"
abbrev lY:Stmt:=gh 22
theorem BM:aI ["kind","told","most","line"] ["kind","told","most"] (aC lY):=by walk_at "c"
abbrev lZ:Stmt:=gh 23
theorem BN:aI ["told","line"] ["told"] (aC lZ):=by walk_at "c"
abbrev zA:Stmt:=gh 24
theorem Nz:aI ["word","most"] ["word","most"] (aC zA):=by walk_at "c"
abbrev qe:Stmt:=gh 25
theorem Ge:aI ["number","side"] ["number","side"] (aC qe):=by walk_at "c"
abbrev om:Stmt:=gh 26
theorem DC:aI ["word","least","most","number"] ["word","least","most"] (aC om):=by walk_at "c"
abbrev oo:Stmt:=gh 27
theorem DD:aI ["word"] ["word"] (aC oo):=by walk_at "c"
abbrev oq:Stmt:=gh 28
theorem DE:aI ["letter"] ["letter"] (aC oq):=by walk_at "c"
abbrev zo:Stmt:=bq (gh 31) 0
theorem Nu:aI ["self","line","town","street","begin"] ["self","line","town","street","begin"] (aC zo):=by walk_at "c"
abbrev zq:Stmt:=bq (gh 32) 0
theorem Nv:aI ["self","town","street","number"] ["self","town","street","number"] (aC zq):=by walk_at "c"
abbrev wd:Stmt:=gh 33
theorem Lb:aI ["run","i"] ["run","i"] (aC wd):=by walk_at "c"
abbrev we:Stmt:=gh 34
theorem Lc:aI ["run","offset","line","point"] ["run","offset"] (aC we):=by walk_at "c"
abbrev DK:Stmt:=gh 35
theorem RP:aI ["line","offset"] ["line","offset"] (aC DK):=by walk_at "c"
abbrev sx:Stmt:=gh 36
theorem IQ:aI ["line","number"] ["line","number"] (aC sx):=by walk_at "c"
abbrev wm:Stmt:=gh 37
theorem Lf:aI ["run","number"] ["run","number"] (aC wm):=by walk_at "c"
abbrev jM:Stmt:=gh 38
theorem xB:aI ["run","offset","number","point"] ["run","offset"] (aC jM):=by walk_at "c"
abbrev zk:Stmt:=bq (gh 40) 0
theorem Nr:aI ["self","names"] ["self","names"] (aC zk):=by walk_at "c"
abbrev oh:Stmt:=bq (gh 40) 1
theorem DA:aI ["self","number","run"] ["self","number"] (aC oh):=by walk_at "c"
abbrev zm:Stmt:=bq (gh 41) 0
theorem Nt:aI ["self","names","town"] ["self","names","town"] (aC zm):=by walk_at "c"
abbrev jK:Stmt:=bq (gh 41) 1
theorem xy:aI ["self","number"] ["self","number"] (aC jK):=by walk_at "c"
abbrev gn:Stmt:=bq (gh 41) 2
theorem rJ:aI ["self","line","half"] ["self","line"] (aC gn):=by walk_at "c"
abbrev oj:Stmt:=bq (gh 41) 3
theorem DB:aI ["self","line","run","half"] ["self","line","run"] (aC oj):=by walk_at "c"
abbrev gp:Stmt:=bq (gh 41) 4
theorem rK:aI ["self","line","there","letter"] ["self","line"] (aC gp):=by walk_at "c"
abbrev jL:Stmt:=bq (gh 41) 5
theorem xA:aI ["self","line","run","there","letter"] ["self","line","run"] (aC jL):=by walk_at "c"
abbrev kO:Stmt:=bq (gh 41) 6
theorem zb:aI ["self","number","letter","run"] ["self","number","letter"] (aC kO):=by walk_at "c"
abbrev gm:Stmt:=bq (gh 41) 7
theorem rH:aI ["self","number","there","letter"] ["self","number"] (aC gm):=by walk_at "c"
abbrev sC:Stmt:=gh 42
theorem IS:aI ["line","halves","odd","low","high"] ["line"] (aC sC):=by walk_at "c"
abbrev zF:Stmt:=bq (gh 52) 0
theorem NF:aI ["self"] ["self"] (aC zF):=by walk_at "c"
abbrev zG:Stmt:=bq (gh 52) 1
theorem NG:aI ["self","text","rows","unended","row","why"] ["self","text"] (aC zG):=by walk_at "c"
abbrev oy:Stmt:=bq (gh 52) 2
theorem DH:aI ["self","row","line"] ["self","row"] (aC oy):=by walk_at "c"
abbrev me:Stmt:=bq (gh 52) 3
theorem BV:aI ["self","line"] ["self","line"] (aC me):=by walk_at "c"
abbrev qg:Stmt:=bq (gh 52) 4
theorem Gf:aI ["self","line"] ["self","line"] (aC qg):=by walk_at "c"
abbrev gY:Stmt:=bq (gh 52) 5
theorem sj:aI ["self","line"] ["self","line"] (aC gY):=by walk_at "c"
abbrev jO:Stmt:=bq (gh 52) 6
theorem xD:aI ["self","line"] ["self","line"] (aC jO):=by walk_at "c"
abbrev oA:Stmt:=bq (gh 52) 7
theorem DJ:aI ["self","line"] ["self","line"] (aC oA):=by walk_at "c"
abbrev kU:Stmt:=bq (gh 52) 8
theorem zi:aI ["self","line","street","run"] ["self","line"] (aC kU):=by walk_at "c"
abbrev kW:Stmt:=bq (gh 52) 9
theorem zj:aI ["self","line","run","places"] ["self","line","run"] (aC kW):=by walk_at "c"
abbrev wu:Stmt:=bq (gh 52) 10
theorem Li:aI ["self","i","run"] ["self","i"] (aC wu):=by walk_at "c"
abbrev kT:Stmt:=bq (gh 52) 11
theorem zh:aI ["self","town","street","number","letter"] ["self","town","street","number","letter"] (aC kT):=by walk_at "c"
abbrev oz:Stmt:=bq (gh 52) 12
theorem DI:aI ["self","town","number"] ["self","town","number"] (aC oz):=by walk_at "c"
abbrev jN:Stmt:=bq (gh 52) 13
theorem xC:aI ["self","walk","found","run"] ["self","walk"] (aC jN):=by walk_at "c"
abbrev kS:Stmt:=bq (gh 52) 14
theorem zg:aI ["self","run","line","found","step","offset"] ["self","run"] (aC kS):=by walk_at "c"
abbrev wg:Stmt:=gh 54
theorem Ld:aI ["book","point","rows","number","row"] ["book","point"] (aC wg):=by walk_at "c"
abbrev zD:Stmt:=bq (gh 76) 0
theorem NC:aI ["self"] ["self"] (aC zD):=by walk_at "c"
abbrev zB:Stmt:=bq (gh 76) 1
theorem NA:aI ["self","text","book","why"] ["self","text"] (aC zB):=by walk_at "c"
abbrev zC:Stmt:=bq (gh 76) 2
theorem NB:aI ["self","text"] ["self","text"] (aC zC):=by walk_at "c"
abbrev l8:Stmt:=bq (gh 76) 3
theorem BQ:aI ["self"] ["self"] (aC l8):=by walk_at "c"
abbrev kP:Stmt:=bq (gh 76) 4
theorem zd:aI ["self","kinds","counts","kind"] ["self"] (aC kP):=by walk_at "c"
abbrev kQ:Stmt:=bq (gh 76) 5
theorem ze:aI ["self","i","point","told"] ["self","i"] (aC kQ):=by walk_at "c"
abbrev ma:Stmt:=bq (gh 76) 6
theorem BS:aI ["self","town","street","number","letter"] ["self","town","street","number","letter"] (aC ma):=by walk_at "c"
abbrev ox:Stmt:=bq (gh 76) 7
theorem DG:aI ["self","town","number"] ["self","town","number"] (aC ox):=by walk_at "c"
abbrev l7:Stmt:=bq (gh 76) 8
theorem BP:aI ["self","walk","found"] ["self","walk"] (aC l7):=by walk_at "c"
abbrev l9:Stmt:=bq (gh 76) 9
theorem BR:aI ["self","what","i","j","named"] ["self","what","i","j"] (aC l9):=by walk_at "c"
abbrev kR:Stmt:=bq (gh 76) 10
theorem zf:aI ["self","i","point"] ["self","i"] (aC kR):=by walk_at "c"
abbrev zE:Stmt:=gh 77
theorem ND:aI ["signs"] ["signs"] (aC zE):=by walk_at "c"
abbrev md:Stmt:=gh 78
theorem BU:aI ["i"] ["i"] (aC md):=by walk_at "c"
abbrev wo:Stmt:=gh 79
theorem Lg:aI ["calls","at","call","numbers_behind"] ["calls","at"] (aC wo):=by walk_at "c"
abbrev sD:Stmt:=gh 80
theorem IT:aI ["holder","call"] ["holder","call"] (aC sD):=by walk_at "c"
abbrev zH:Stmt:=gh 81
theorem NH:aI ["calls","holder","told","at","end","answer"] ["calls"] (aC zH):=by walk_at "c"
structure Df(K:apw)(x qual:Str)(st:Stmt)(ps:List Str)(f:Addr)(fd:FuncData):Prop where
 F:Fun K x qual st f fd
 b:uu K fd ps []
set_option genInjectivity false in
structure Ad where
 dR:Addr
 dU:Addr
 gZ:Addr
 jA:Addr
 jz:Addr
 eE:Addr
 cb:Addr
 f9:Addr
 pI:Addr
 uW:FuncData
 hU:Addr
 ke:FuncData
 mH:Addr
 qL:FuncData
 gB:Addr
 jq:FuncData
 tY:Addr
 yz:FuncData
 pH:Addr
 uV:FuncData
 mD:Addr
 qH:FuncData
 mK:Addr
 qO:FuncData
 kH:Addr
 nO:FuncData
 jj:Addr
 lE:FuncData
 kI:Addr
 nP:FuncData
 kG:Addr
 nN:FuncData
 jk:Addr
 lF:FuncData
 gz:Addr
 jn:FuncData
 gA:Addr
 jo:FuncData
 pJ:Addr
 uX:FuncData
 jl:Addr
 lG:FuncData
 hC:Addr
 ka:FuncData
 hE:Addr
 kb:FuncData
 hJ:Addr
 kc:FuncData
 pF:Addr
 uT:FuncData
 pG:Addr
 uU:FuncData
 mE:Addr
 qI:FuncData
 mF:Addr
 qJ:FuncData
 tX:Addr
 yy:FuncData
 kJ:Addr
 nQ:FuncData
 mI:Addr
 qM:FuncData
 fg:Addr
 gT:FuncData
 pD:Addr
 uR:FuncData
 g8:Addr
 j8:FuncData
 pE:Addr
 uS:FuncData
 fe:Addr
 gR:FuncData
 di:Addr
 d9:FuncData
 g9:Addr
 j9:FuncData
 dj:Addr
 ee:FuncData
 ff:Addr
 gS:FuncData
 fI:Addr
 ij:FuncData
 dh:Addr
 d8:FuncData
 kK:Addr
 nR:FuncData
 pO:Addr
 u5:FuncData
 pP:Addr
 u6:FuncData
 hX:Addr
 kg:FuncData
 gH:Addr
 jw:FuncData
 jm:Addr
 lH:FuncData
 dB:Addr
 eO:FuncData
 fk:Addr
 gV:FuncData
 ia:Addr
 ki:FuncData
 fO:Addr
 iy:FuncData
 fP:Addr
 iz:FuncData
 mL:Addr
 qP:FuncData
 fN:Addr
 iw:FuncData
 hZ:Addr
 kh:FuncData
 fj:Addr
 gU:FuncData
 fM:Addr
 iu:FuncData
 mG:Addr
 qK:FuncData
 pM:Addr
 u0:FuncData
 pK:Addr
 uY:FuncData
 pL:Addr
 uZ:FuncData
 gD:Addr
 js:FuncData
 fJ:Addr
 ik:FuncData
 fK:Addr
 ip:FuncData
 gF:Addr
 ju:FuncData
 hW:Addr
 kf:FuncData
 gC:Addr
 jr:FuncData
 gE:Addr
 jt:FuncData
 fL:Addr
 ir:FuncData
 pN:Addr
 u4:FuncData
 gG:Addr
 jv:FuncData
 mJ:Addr
 qN:FuncData
 kL:Addr
 nS:FuncData
 uP:Addr
 pQ:FuncData
 iB:Addr
section
variable(a b c d e f g h i j k y:V)
def rS(a b c:V):List (Str×V):=[("lows",a),("highs",b),("holders",c)]
theorem EG:(rS a b c).lookup ("lows":Str)=some a:=by rfl
theorem OG:cA ("lows":Str) y (rS a b c)=rS y b c:=by rfl
theorem Bd:(rS a b c).lookup ("highs":Str)=some b:=by rfl
theorem L9:cA ("highs":Str) y (rS a b c)=rS a y c:=by rfl
theorem vC:(rS a b c).lookup ("holders":Str)=some c:=by rfl
theorem Gy:cA ("holders":Str) y (rS a b c)=rS a b y:=by rfl
theorem tL:(rS a b c).lookup ("begun_by":Str)=none:=by rfl
theorem Bc:(rS a b c).lookup ("meets":Str)=none:=by rfl
theorem rh:(rS a b c).lookup ("holder_of":Str)=none:=by rfl
theorem HH:(rS a b c).lookup ("add":Str)=none:=by rfl
theorem QG:((rS a b c).length<1000)=True:=eq_true (by show 3<1000;decide)
def oO(a b c d e f g h i j k:V):List (Str×V):=[("kind",a),("names",b),("code",c),("number",d),("low",e),("high",f),("step",g),("walk",h),("first",i),("back",j),("point_count",k)]
theorem Es:(oO a b c d e f g h i j k).lookup ("kind":Str)=some a:=by rfl
theorem Ow:cA ("kind":Str) y (oO a b c d e f g h i j k)=oO y b c d e f g h i j k:=by rfl
theorem A8:(oO a b c d e f g h i j k).lookup ("names":Str)=some b:=by rfl
theorem LS:cA ("names":Str) y (oO a b c d e f g h i j k)=oO a y c d e f g h i j k:=by rfl
theorem Eu:(oO a b c d e f g h i j k).lookup ("code":Str)=some c:=by rfl
theorem Oy:cA ("code":Str) y (oO a b c d e f g h i j k)=oO a b y d e f g h i j k:=by rfl
theorem yd:(oO a b c d e f g h i j k).lookup ("number":Str)=some d:=by rfl
theorem Jp:cA ("number":Str) y (oO a b c d e f g h i j k)=oO a b c y e f g h i j k:=by rfl
theorem HE:(oO a b c d e f g h i j k).lookup ("low":Str)=some e:=by rfl
theorem Sa:cA ("low":Str) y (oO a b c d e f g h i j k)=oO a b c d y f g h i j k:=by rfl
theorem Et:(oO a b c d e f g h i j k).lookup ("high":Str)=some f:=by rfl
theorem Ox:cA ("high":Str) y (oO a b c d e f g h i j k)=oO a b c d e y g h i j k:=by rfl
theorem Er:(oO a b c d e f g h i j k).lookup ("step":Str)=some g:=by rfl
theorem Ov:cA ("step":Str) y (oO a b c d e f g h i j k)=oO a b c d e f y h i j k:=by rfl
theorem Ep:(oO a b c d e f g h i j k).lookup ("walk":Str)=some h:=by rfl
theorem Ou:cA ("walk":Str) y (oO a b c d e f g h i j k)=oO a b c d e f g y i j k:=by rfl
theorem A9:(oO a b c d e f g h i j k).lookup ("first":Str)=some i:=by rfl
theorem LU:cA ("first":Str) y (oO a b c d e f g h i j k)=oO a b c d e f g h y j k:=by rfl
theorem Ew:(oO a b c d e f g h i j k).lookup ("back":Str)=some j:=by rfl
theorem Oz:cA ("back":Str) y (oO a b c d e f g h i j k)=oO a b c d e f g h i y k:=by rfl
theorem nA:(oO a b c d e f g h i j k).lookup ("point_count":Str)=some k:=by rfl
theorem yc:cA ("point_count":Str) y (oO a b c d e f g h i j k)=oO a b c d e f g h i j y:=by rfl
theorem Qv:((oO a b c d e f g h i j k).length<1000)=True:=eq_true (by show 11<1000;decide)
def xh(a b c d e:V):List (Str×V):=[("line",a),("town",b),("street",c),("begin",d),("span_run",e)]
theorem DQ:(xh a b c d e).lookup ("line":Str)=some a:=by rfl
theorem NM:cA ("line":Str) y (xh a b c d e)=xh y b c d e:=by rfl
theorem DP:(xh a b c d e).lookup ("town":Str)=some b:=by rfl
theorem NL:cA ("town":Str) y (xh a b c d e)=xh a y c d e:=by rfl
theorem xF:(xh a b c d e).lookup ("street":Str)=some c:=by rfl
theorem IW:cA ("street":Str) y (xh a b c d e)=xh a b y d e:=by rfl
theorem A1:(xh a b c d e).lookup ("begin":Str)=some d:=by rfl
theorem Ln:cA ("begin":Str) y (xh a b c d e)=xh a b c y e:=by rfl
theorem sH:(xh a b c d e).lookup ("span_run":Str)=some e:=by rfl
theorem sG:cA ("span_run":Str) y (xh a b c d e)=xh a b c d y:=by rfl
theorem IX:((xh a b c d e).length<1000)=True:=eq_true (by show 5<1000;decide)
def zL(a b c d e f g:V):List (Str×V):=[("town",a),("street",b),("number",c),("letter",d),("code",e),("walk",f),("place",g)]
theorem DV:(zL a b c d e f g).lookup ("town":Str)=some a:=by rfl
theorem NP:cA ("town":Str) y (zL a b c d e f g)=zL y b c d e f g:=by rfl
theorem xI:(zL a b c d e f g).lookup ("street":Str)=some b:=by rfl
theorem Ja:cA ("street":Str) y (zL a b c d e f g)=zL a y c d e f g:=by rfl
theorem xJ:(zL a b c d e f g).lookup ("number":Str)=some c:=by rfl
theorem Jb:cA ("number":Str) y (zL a b c d e f g)=zL a b y d e f g:=by rfl
theorem xK:(zL a b c d e f g).lookup ("letter":Str)=some d:=by rfl
theorem Jc:cA ("letter":Str) y (zL a b c d e f g)=zL a b c y e f g:=by rfl
theorem DW:(zL a b c d e f g).lookup ("code":Str)=some e:=by rfl
theorem NQ:cA ("code":Str) y (zL a b c d e f g)=zL a b c d y f g:=by rfl
theorem DU:(zL a b c d e f g).lookup ("walk":Str)=some f:=by rfl
theorem NN:cA ("walk":Str) y (zL a b c d e f g)=zL a b c d e y g:=by rfl
theorem A2:(zL a b c d e f g).lookup ("place":Str)=some g:=by rfl
theorem Lq:cA ("place":Str) y (zL a b c d e f g)=zL a b c d e f y:=by rfl
theorem Qk:((zL a b c d e f g).length<1000)=True:=eq_true (by show 7<1000;decide)
def C5(a b c:V):List (Str×V):=[("names",a),("codes",b),("boxes",c)]
theorem AO:(C5 a b c).lookup ("names":Str)=some a:=by rfl
theorem Kt:cA ("names":Str) y (C5 a b c)=C5 y b c:=by rfl
theorem AQ:(C5 a b c).lookup ("codes":Str)=some b:=by rfl
theorem Ku:cA ("codes":Str) y (C5 a b c)=C5 a y c:=by rfl
theorem AR:(C5 a b c).lookup ("boxes":Str)=some c:=by rfl
theorem Kv:cA ("boxes":Str) y (C5 a b c)=C5 a b y:=by rfl
theorem rX:(C5 a b c).lookup ("find_box":Str)=none:=by rfl
theorem PY:((C5 a b c).length<1000)=True:=eq_true (by show 3<1000;decide)
def vn(a b c d:V):List (Str×V):=[("names",a),("town",b),("halves",c),("letters",d)]
theorem AY:(vn a b c d).lookup ("names":Str)=some a:=by rfl
theorem KP:cA ("names":Str) y (vn a b c d)=vn y b c d:=by rfl
theorem Dd:(vn a b c d).lookup ("town":Str)=some b:=by rfl
theorem Nk:cA ("town":Str) y (vn a b c d)=vn a y c d:=by rfl
theorem xq:(vn a b c d).lookup ("halves":Str)=some c:=by rfl
theorem IA:cA ("halves":Str) y (vn a b c d)=vn a b y d:=by rfl
theorem vm:(vn a b c d).lookup ("letters":Str)=some d:=by rfl
theorem FZ:cA ("letters":Str) y (vn a b c d)=vn a b c y:=by rfl
theorem mW:(vn a b c d).lookup ("span_run_of":Str)=none:=by rfl
theorem jF:(vn a b c d).lookup ("has_some_number":Str)=none:=by rfl
theorem se:(vn a b c d).lookup ("add_span":Str)=none:=by rfl
theorem jG:(vn a b c d).lookup ("has_some_letter":Str)=none:=by rfl
theorem mX:(vn a b c d).lookup ("add_letters":Str)=none:=by rfl
theorem oR:(vn a b c d).lookup ("find_point":Str)=none:=by rfl
theorem jE:(vn a b c d).lookup ("lettered_points":Str)=none:=by rfl
theorem Qa:((vn a b c d).length<1000)=True:=eq_true (by show 4<1000;decide)
def iV(a b c d e f g h i j:V):List (Str×V):=[("text",a),("line_count",b),("counts",c),("towns",d),("streets",e),("town",f),("street",g),("walks",h),("runs",i),("point_count",j)]
theorem FD:(iV a b c d e f g h i j).lookup ("text":Str)=some a:=by rfl
theorem Fy:cA ("text":Str) y (iV a b c d e f g h i j)=iV y b c d e f g h i j:=by rfl
theorem pX:(iV a b c d e f g h i j).lookup ("line_count":Str)=some b:=by rfl
theorem AA:cA ("line_count":Str) y (iV a b c d e f g h i j)=iV a y c d e f g h i j:=by rfl
theorem yK:(iV a b c d e f g h i j).lookup ("counts":Str)=some c:=by rfl
theorem Kc:cA ("counts":Str) y (iV a b c d e f g h i j)=iV a b y d e f g h i j:=by rfl
theorem BC:(iV a b c d e f g h i j).lookup ("towns":Str)=some d:=by rfl
theorem ML:cA ("towns":Str) y (iV a b c d e f g h i j)=iV a b c y e f g h i j:=by rfl
theorem vR:(iV a b c d e f g h i j).lookup ("streets":Str)=some e:=by rfl
theorem GR:cA ("streets":Str) y (iV a b c d e f g h i j)=iV a b c d y f g h i j:=by rfl
theorem FC:(iV a b c d e f g h i j).lookup ("town":Str)=some f:=by rfl
theorem Pq:cA ("town":Str) y (iV a b c d e f g h i j)=iV a b c d e y g h i j:=by rfl
theorem yJ:(iV a b c d e f g h i j).lookup ("street":Str)=some g:=by rfl
theorem Kb:cA ("street":Str) y (iV a b c d e f g h i j)=iV a b c d e f y h i j:=by rfl
theorem BB:(iV a b c d e f g h i j).lookup ("walks":Str)=some h:=by rfl
theorem MK:cA ("walks":Str) y (iV a b c d e f g h i j)=iV a b c d e f g y i j:=by rfl
theorem FE:(iV a b c d e f g h i j).lookup ("runs":Str)=some i:=by rfl
theorem Pr:cA ("runs":Str) y (iV a b c d e f g h i j)=iV a b c d e f g h y j:=by rfl
theorem nX:(iV a b c d e f g h i j).lookup ("point_count":Str)=some j:=by rfl
theorem yI:cA ("point_count":Str) y (iV a b c d e f g h i j)=iV a b c d e f g h i y:=by rfl
theorem FA:(iV a b c d e f g h i j).lookup ("fill":Str)=none:=by rfl
theorem uf:(iV a b c d e f g h i j).lookup ("take_row":Str)=none:=by rfl
theorem rC:(iV a b c d e f g h i j).lookup ("can_stand":Str)=none:=by rfl
theorem vQ:(iV a b c d e f g h i j).lookup ("clashes":Str)=none:=by rfl
theorem kM:(iV a b c d e f g h i j).lookup ("has_some_place":Str)=none:=by rfl
theorem nW:(iV a b c d e f g h i j).lookup ("is_too_much":Str)=none:=by rfl
theorem uh:(iV a b c d e f g h i j).lookup ("add_line":Str)=none:=by rfl
theorem pV:(iV a b c d e f g h i j).lookup ("add_points":Str)=none:=by rfl
theorem pW:(iV a b c d e f g h i j).lookup ("add_places":Str)=none:=by rfl
theorem BA:(iV a b c d e f g h i j).lookup ("point":Str)=none:=by rfl
theorem pU:(iV a b c d e f g h i j).lookup ("find_point":Str)=none:=by rfl
theorem ug:(iV a b c d e f g h i j).lookup ("find_box":Str)=none:=by rfl
theorem nV:(iV a b c d e f g h i j).lookup ("walk_points":Str)=none:=by rfl
theorem pT:(iV a b c d e f g h i j).lookup ("run_points":Str)=none:=by rfl
theorem u9:((iV a b c d e f g h i j).length<1000)=True:=eq_true (by show 10<1000;decide)
def JL(a:V):List (Str×V):=[("book",a)]
theorem ET:(JL a).lookup ("book":Str)=some a:=by rfl
theorem OT:cA ("book":Str) y (JL a)=JL y:=by rfl
theorem ER:(JL a).lookup ("take":Str)=none:=by rfl
theorem ES:(JL a).lookup ("more":Str)=none:=by rfl
theorem rn:(JL a).lookup ("tell_text":Str)=none:=by rfl
theorem pz:(JL a).lookup ("tell_sizes":Str)=none:=by rfl
theorem pA:(JL a).lookup ("tell_point":Str)=none:=by rfl
theorem rA:(JL a).lookup ("tell_find":Str)=none:=by rfl
theorem tO:(JL a).lookup ("tell_box":Str)=none:=by rfl
theorem rj:(JL a).lookup ("tell_walk":Str)=none:=by rfl
theorem rq:(JL a).lookup ("tell_name":Str)=none:=by rfl
theorem pB:(JL a).lookup ("tell_parts":Str)=none:=by rfl
theorem QS:((JL a).length<1000)=True:=eq_true (by show 1<1000;decide)
end
structure Tc(K:apw)(A:Ad):Prop where
 jx:AL K A.dR
 pd:aG K A.dR "lows"
 mr:aG K A.dR "highs"
 gL:aG K A.dR "holders"
 pR:AL K A.dU
 o8:aG K A.dU "kind"
 gv:aG K A.dU "names"
 o9:aG K A.dU "code"
 nu:aG K A.dU "number"
 o7:aG K A.dU "low"
 lK:aG K A.dU "high"
 uJ:aG K A.dU "step"
 uI:aG K A.dU "walk"
 qt:aG K A.dU "first"
 uK:aG K A.dU "back"
 eY:aG K A.dU "point_count"
 V4:AL K A.gZ
 uE:aG K A.gZ "line"
 uD:aG K A.gZ "town"
 ni:aG K A.gZ "street"
 qp:aG K A.gZ "begin"
 g4:aG K A.gZ "span_run"
 Yr:AL K A.jA
 uG:aG K A.jA "town"
 nj:aG K A.jA "street"
 nq:aG K A.jA "number"
 nr:aG K A.jA "letter"
 uH:aG K A.jA "code"
 uF:aG K A.jA "walk"
 qr:aG K A.jA "place"
 Fo:AL K A.jz
 jT:aG K A.jz "names"
 mm:aG K A.jz "codes"
 mq:aG K A.jz "boxes"
 lj:AL K A.eE
 jU:aG K A.eE "names"
 oZ:aG K A.eE "town"
 kr:aG K A.eE "halves"
 jc:aG K A.eE "letters"
 cO:AL K A.cb
 lL:aG K A.cb "text"
 fG:aG K A.cb "line_count"
 iL:aG K A.cb "counts"
 jW:aG K A.cb "towns"
 gM:aG K A.cb "streets"
 jX:aG K A.cb "town"
 d4:aG K A.cb "street"
 jV:aG K A.cb "walks"
 pk:aG K A.cb "runs"
 eZ:aG K A.cb "point_count"
 nU:AL K A.f9
 pj:aG K A.f9 "book"
structure Tx(K:apw)(mg:Str→Option Value)(A:Ad):Prop where
 c:Tc K A
 ab4:Mk K A.dR A.pI
 acd:mg "Intervals"=some (.ref A.dR)
 ab3:Mk K A.dU A.pH
 acb:mg "Line"=some (.ref A.dU)
 ab1:Mk K A.gZ A.pF
 ab9:mg "Run"=some (.ref A.gZ)
 ab2:Mk K A.jA A.pG
 aca:mg "Point"=some (.ref A.jA)
 abZ:Mk K A.jz A.pD
 ab7:mg "Town"=some (.ref A.jz)
 ab0:Mk K A.eE A.pE
 ab8:mg "Street"=some (.ref A.eE)
 ab6:Mk K A.cb A.pO
 acf:mg "Book"=some (.ref A.cb)
 ab5:Mk K A.f9 A.pM
 ace:mg "Holder"=some (.ref A.f9)
 QF:Df K "__init__" "Intervals.__init__" zy ["self"] A.pI A.uW
 nH:Df K "begun_by" "Intervals.begun_by" ou ["self","number"] A.hU A.ke
 oE:fo K A.dR "begun_by" A.hU
 yg:Df K "meets" "Intervals.meets" wj ["self","low","high"] A.mH A.qL
 wK:fo K A.dR "meets" A.mH
 lC:Df K "holder_of" "Intervals.holder_of" l0 ["self","number"] A.gB A.jq
 mv:fo K A.dR "holder_of" A.gB
 EF:Df K "add" "Intervals.add" DL ["self","low","high","holder"] A.tY A.yz
 yb:fo K A.dR "add" A.tY
 Qu:Df K "__init__" "Line.__init__" zr ["self","kind"] A.pH A.uV
 Ds:Df K "signs_of" "signs_of" wb ["text"] A.mD A.qH
 OW:mg "signs_of"=some (.ref A.mD)
 Fu:Df K "bytes_of" "bytes_of" wt ["signs"] A.mK A.qO
 O0:mg "bytes_of"=some (.ref A.mK)
 zJ:Df K "read_line" "read_line" su ["row"] A.kH A.nO
 Mj:mg "read_line"=some (.ref A.kH)
 wx:Df K "read_names" "read_names" qc ["kind","told"] A.jj A.lE
 JP:mg "read_names"=some (.ref A.jj)
 zK:Df K "read_code" "read_code" sv ["told"] A.kI A.nP
 Ml:mg "read_code"=some (.ref A.kI)
 zI:Df K "read_span" "read_span" sk ["told"] A.kG A.nN
 Mi:mg "read_span"=some (.ref A.kG)
 wy:Df K "read_boxes" "read_boxes" qd ["told"] A.jk A.lF
 JQ:mg "read_boxes"=some (.ref A.jk)
 i5:Df K "read_stretch" "read_stretch" lY ["kind","told","most"] A.gz A.jn
 tP:mg "read_stretch"=some (.ref A.gz)
 qh:Df K "read_letters" "read_letters" lZ ["told"] A.gA A.jo
 EZ:mg "read_letters"=some (.ref A.gA)
 qB:Df K "is_word" "is_word" zA ["word","most"] A.pJ A.uX
 An:mg "is_word"=some (.ref A.pJ)
 mC:Df K "is_of_side" "is_of_side" qe ["number","side"] A.jl A.lG
 yq:mg "is_of_side"=some (.ref A.jl)
 dc:Df K "read_number" "read_number" om ["word","least","most"] A.hC A.ka
 g7:mg "read_number"=some (.ref A.hC)
 ko:Df K "read_letter" "read_letter" oo ["word"] A.hE A.kb
 vG:mg "read_letter"=some (.ref A.hE)
 tH:Df K "letter_sign" "letter_sign" oq ["letter"] A.hJ A.kc
 GB:mg "letter_sign"=some (.ref A.hJ)
 Qh:Df K "__init__" "Run.__init__" zo ["self","line","town","street","begin"] A.pF A.uT
 Qj:Df K "__init__" "Point.__init__" zq ["self","town","street","number"] A.pG A.uU
 DX:Df K "point_of" "point_of" wd ["run","i"] A.mE A.qI
 OX:mg "point_of"=some (.ref A.mE)
 sO:Df K "point_at" "point_at" we ["run","offset"] A.mF A.qJ
 E1:mg "point_at"=some (.ref A.mF)
 gf:Df K "turned" "turned" DK ["line","offset"] A.tX A.yy
 Mh:mg "turned"=some (.ref A.tX)
 oY:Df K "offset_of" "offset_of" sx ["line","number"] A.kJ A.nQ
 Bl:mg "offset_of"=some (.ref A.kJ)
 tM:Df K "index_of" "index_of" wm ["run","number"] A.mI A.qM
 E2:mg "index_of"=some (.ref A.mI)
 mz:Df K "lettered_point" "lettered_point" jM ["run","offset"] A.fg A.gT
 Am:mg "lettered_point"=some (.ref A.fg)
 PX:Df K "__init__" "Town.__init__" zk ["self","names"] A.pD A.uR
 AN:Df K "find_box" "Town.find_box" oh ["self","number"] A.g8 A.j8
 Gp:fo K A.jz "find_box" A.g8
 P9:Df K "__init__" "Street.__init__" zm ["self","names","town"] A.pE A.uS
 iY:Df K "span_run_of" "Street.span_run_of" jK ["self","number"] A.fe A.gR
 j0:fo K A.eE "span_run_of" A.fe
 lU:Df K "has_some_number" "Street.has_some_number" gn ["self","line"] A.di A.d9
 tm:fo K A.eE "has_some_number" A.di
 AX:Df K "add_span" "Street.add_span" oj ["self","line","run"] A.g9 A.j9
 Gq:fo K A.eE "add_span" A.g9
 lV:Df K "has_some_letter" "Street.has_some_letter" gp ["self","line"] A.dj A.ee
 tD:fo K A.eE "has_some_letter" A.dj
 r9:Df K "add_letters" "Street.add_letters" jL ["self","line","run"] A.ff A.gS
 Ac:fo K A.eE "add_letters" A.ff
 vk:Df K "find_point" "Street.find_point" kO ["self","number","letter"] A.fI A.ij
 Cf:fo K A.eE "find_point" A.fI
 lR:Df K "lettered_points" "Street.lettered_points" gm ["self","number"] A.dh A.d8
 tj:fo K A.eE "lettered_points" A.dh
 pC:Df K "halves_of" "halves_of" sC ["line"] A.kK A.nR
 Bm:mg "halves_of"=some (.ref A.kK)
 Rg:Df K "__init__" "Book.__init__" zF ["self"] A.pO A.u5
 Rh:Df K "fill" "Book.fill" zG ["self","text"] A.pP A.u6
 R7:fo K A.cb "fill" A.pP
 Bw:Df K "take_row" "Book.take_row" oy ["self","row"] A.hX A.kg
 Gs:fo K A.cb "take_row" A.hX
 yH:Df K "can_stand" "Book.can_stand" me ["self","line"] A.gH A.jw
 Eo:fo K A.cb "can_stand" A.gH
 Fx:Df K "clashes" "Book.clashes" qg ["self","line"] A.jm A.lH
 Jo:fo K A.cb "clashes" A.jm
 jB:Df K "has_some_place" "Book.has_some_place" gY ["self","line"] A.dB A.eO
 k9:fo K A.cb "has_some_place" A.dB
 ue:Df K "is_too_much" "Book.is_too_much" jO ["self","line"] A.fk A.gV
 Af:fo K A.cb "is_too_much" A.fk
 Bz:Df K "add_line" "Book.add_line" oA ["self","line"] A.ia A.ki
 Gv:fo K A.cb "add_line" A.ia
 vP:Df K "add_points" "Book.add_points" kU ["self","line"] A.fO A.iy
 Cn:fo K A.cb "add_points" A.fO
 oM:Df K "add_places" "Book.add_places" kW ["self","line","run"] A.fP A.iz
 rg:fo K A.cb "add_places" A.fP
 Fw:Df K "point" "Book.point" wu ["self","i"] A.mL A.qP
 En:fo K A.cb "point" A.mL
 vO:Df K "find_point" "Book.find_point" kT ["self","town","street","number","letter"] A.fN A.iw
 Cm:fo K A.cb "find_point" A.fN
 Bx:Df K "find_box" "Book.find_box" oz ["self","town","number"] A.hZ A.kh
 Gu:fo K A.cb "find_box" A.hZ
 ud:Df K "walk_points" "Book.walk_points" jN ["self","walk"] A.fj A.gU
 Ae:fo K A.cb "walk_points" A.fj
 vN:Df K "run_points" "Book.run_points" kS ["self","run"] A.fM A.iu
 Ck:fo K A.cb "run_points" A.fM
 D3:Df K "parts_of" "parts_of" wg ["book","point"] A.mG A.qK
 OY:mg "parts_of"=some (.ref A.mG)
 QR:Df K "__init__" "Holder.__init__" zD ["self"] A.pM A.u0
 JK:Df K "take" "Holder.take" zB ["self","text"] A.pK A.uY
 HD:fo K A.f9 "take" A.pK
 QQ:Df K "more" "Holder.more" zC ["self","text"] A.pL A.uZ
 R6:fo K A.f9 "more" A.pL
 yk:Df K "tell_text" "Holder.tell_text" l8 ["self"] A.gD A.js
 Ek:fo K A.f9 "tell_text" A.gD
 vD:Df K "tell_sizes" "Holder.tell_sizes" kP ["self"] A.fJ A.ik
 Cg:fo K A.f9 "tell_sizes" A.fJ
 vE:Df K "tell_point" "Holder.tell_point" kQ ["self","i"] A.fK A.ip
 Ci:fo K A.f9 "tell_point" A.fK
 ym:Df K "tell_find" "Holder.tell_find" ma ["self","town","street","number","letter"] A.gF A.ju
 Em:fo K A.f9 "tell_find" A.gF
 Bh:Df K "tell_box" "Holder.tell_box" ox ["self","town","number"] A.hW A.kf
 Gr:fo K A.f9 "tell_box" A.hW
 yj:Df K "tell_walk" "Holder.tell_walk" l7 ["self","walk"] A.gC A.jr
 Ej:fo K A.f9 "tell_walk" A.gC
 yl:Df K "tell_name" "Holder.tell_name" l9 ["self","what","i","j"] A.gE A.jt
 El:fo K A.f9 "tell_name" A.gE
 vF:Df K "tell_parts" "Holder.tell_parts" kR ["self","i"] A.fL A.ir
 Cj:fo K A.f9 "tell_parts" A.fL
 qS:Df K "counted" "counted" zE ["signs"] A.pN A.u4
 Ao:mg "counted"=some (.ref A.pN)
 ji:Df K "found_or_not" "found_or_not" md ["i"] A.gG A.jv
 tQ:mg "found_or_not"=some (.ref A.gG)
 Ft:Df K "call_end" "call_end" wo ["calls","at"] A.mJ A.qN
 OZ:mg "call_end"=some (.ref A.mJ)
 AB:Df K "answer_of" "answer_of" sD ["holder","call"] A.kL A.nS
 Mm:mg "answer_of"=some (.ref A.kL)
 answers:Df K "answers" "answers" zH ["calls"] A.uP A.pQ
 aaO:mg "answers"=some (.ref A.uP)
 qx:∃t,mg "MOST_WORDS"=some (.int (8) t)
 je:∃t,mg "MOST_WORD_SIGNS"=some (.int (32) t)
 fY:∃t,mg "MOST_CODE_SIGNS"=some (.int (12) t)
 j6:∃t,mg "MOST_NUMBER"=some (.int (99999) t)
 wQ:∃t,mg "MOST_BOX"=some (.int (999999) t)
 tK:∃t,mg "MOST_WALK"=some (.int (9999) t)
 qz:∃t,mg "MOST_FIRST"=some (.int (900000) t)
 oJ:∃t,mg "MOST_DIGITS"=some (.int (6) t)
 gx:∃t,mg "NO_NUMBER"=some (.int (-1) t)
 iO:∃t,mg "NO_LETTER"=some (.int (0) t)
 uN:∃t,mg "LETTERS"=some (.str "abcdefghijklmnopqrstuvwxyz" t)
 ku:∃t,mg "NO_STREET"=some (.int (-1) t)
 qy:∃t,mg "MOST_LINES"=some (.int (4096) t)
 oH:∃t,mg "MOST_POINTS"=some (.int (65536) t)
 jf:mg "MOST_OF_KIND"=some (.ref A.iB)
 Aj:∃t,mg "FINE"=some (.int (0) t)
 lB:∃t,mg "NOT_FORMED"=some (.int (1) t)
 wN:∃t,mg "TOO_MUCH"=some (.int (2) t)
 mB:∃t,mg "CANNOT_STAND"=some (.int (3) t)
 Ak:∃t,mg "CLASHES"=some (.int (4) t)
 Jx:∃t,mg "TAKE"=some (.int (0) t)
 JA:∃t,mg "MORE"=some (.int (1) t)
 Jw:∃t,mg "TEXT"=some (.int (2) t)
 CT:∃t,mg "SIZES"=some (.int (3) t)
 CU:∃t,mg "POINT"=some (.int (4) t)
 JB:∃t,mg "FIND"=some (.int (5) t)
 QC:∃t,mg "BOX"=some (.int (6) t)
 Jv:∃t,mg "WALK"=some (.int (7) t)
 Jz:∃t,mg "NAME"=some (.int (8) t)
 Jy:∃t,mg "PARTS"=some (.int (9) t)
 jd:∃t,mg "OUT_OF_RANGE"=some (.int (-1) t)
 wO:∃t,mg "TOO_LONG"=some (.int (-2) t)
 tJ:∃t,mg "NOT_FOUND"=some (.int (-3) t)
 kx:∃t,mg "NOT_THERE"=some (.int (-4) t)
 ED:∃t,mg "FAULTY"=some (.int (-6) t)
 qA:∃t,mg "MOST_BYTES"=some (.int (65536) t)
 oI:∃t,mg "MOST_LETTER"=some (.int (26) t)
 nG:∃t,mg "TOWN_NAME"=some (.int (0) t)
 oG:∃t,mg "STREET_NAME"=some (.int (1) t)
 ft:mg "len"=none
 Rk:mg "any"=none
 FF:mg "sorted"=none
 MN:mg "ord"=none
 Wa:mg "int"=none
 Rj:mg "str"=none
 yL:mg "range"=none
 Pt:mg "list"=none
theorem P4{v:V}{r:L2.Internal.St}{H:Hp}{Q:VK}:mR 0 (some v::r) H Q=Q v H:=by
 unfold mR;simp
theorem PZ{i:Nat}{x:Option V}{r:L2.Internal.St}{H:Hp}{Q:VK}:mR (i+1) (x::r) H Q=mR i r H Q:=by
 unfold mR;simp
theorem VX{CX:Th}{P:Program}{w:World}{K:apw}{mg:Str→Option Value}{base:Heap}{N:List Str}{q:Str}{sc:Scope}{f:Addr}{cd:Value}{A:Around}{o:List Env}{s:Shared}{H:Hp}{E:XK}:
  (Mz CX P w K mg base N q sc f cd A o s H E).nox.K=K:=rfl
theorem My{CX:Th}{P:Program}{w:World}{K:apw}{mg:Str→Option Value}{base:Heap}{N:List Str}{q:Str}{sc:Scope}{f:Addr}{cd:Value}{A:Around}{o:List Env}{s:Shared}{H:Hp}{E:XK}:
  (Mz CX P w K mg base N q sc f cd A o s H E).K=K:=rfl
theorem sI{N:List Str}:avg N.length (none:Option V)=N.map fun _=>none:=(List.map_const' ..).symm
theorem BH{N:List Str}:L2.Internal.start N []=N.map (fun _=>none):=by rw[←sI];rfl
theorem st1{a:Str}{N:List Str}{x:V}:L2.Internal.start (a::N) [x]=some x::N.map (fun _=>none):=by rw[←sI];rfl
theorem st2{a b:Str}{N:List Str}{x y:V}:L2.Internal.start (a::b::N) [x,y]=some x::some y::N.map (fun _=>none):=by rw[←sI];rfl
theorem st3{a b c:Str}{N:List Str}{x y z:V}:L2.Internal.start (a::b::c::N) [x,y,z]=some x::some y::some z::N.map (fun _=>none):=by rw[←sI];rfl
theorem st4{a b c d:Str}{N:List Str}{x y z u:V}:L2.Internal.start (a::b::c::d::N) [x,y,z,u]=some x::some y::some z::some u::N.map (fun _=>none):=by rw[←sI];rfl
theorem afd{x y:Option V}{r:L2.Internal.St}:(x::r).set 0 y=y::r:=rfl
theorem afc{i:Nat}{x y:Option V}{r:L2.Internal.St}:(x::r).set (i+1) y=x::r.set i y:=rfl
theorem Tb{a:Addr}:(V.cx=V.ref a)=False:=by simp
theorem Ta{a:Addr}:(V.ref a=V.cx)=False:=by simp
theorem Td{a:Int}:(V.cx=V.int a)=False:=by simp
def Zf:List V→Hp→VK→Prop:=fun xs H Q=>∃p ys,xs=[.ref p]∧H p=some (.aN ys)∧Q (.int ys.length) H
def UE:R2:=fun x y H Q=>∃p i xs v,x=.ref p∧y=.int i∧H p=some (.aN xs)∧mP xs i=some v∧Q v H
def Zg:R2:=fun x y H Q=>∃p i xs v,x=.ref p∧y=.int i∧H p=some (.fR xs)∧mP xs i=some v∧Q v H
def Wr(P:Prop):Prop:=P
theorem YO{P:Prop}(h:Wr P):P:=h
def Zh:R2:=fun x y H Q=>∃p xs,y=.ref p∧H p=some (.fR xs)∧lb x=true∧xs.all lb=true∧Q (.bl (Wq x xs)) H
def IY:R2:=fun x y H Q=>∃p xs,y=.ref p∧H p=some (.fR xs)∧lb x=true∧xs.all lb=true∧Q (.bl (!Wq x xs)) H
def Zi:V→List V→Hp→VK→Prop:=fun x vs H Q=>∃l i y xs,x=.ref l∧vs=[.int i,y]∧H l=some (.aN xs)∧(0≤i∧i≤xs.length∧xs.length<sizeLine)∧Q .cx (aJ H l (.aN (xs.take i.toNat++y::xs.drop i.toNat)))
def Y4(r:V→List V→Hp→VK→Prop)(to:TE)(t:TA):TE:=fun σ H Q=>to σ H fun x H1=>(∃l xs,x=.ref l∧H1 l=some (.aN xs))∧t σ H1 fun xs H2=>r x xs H2 Q
def X4(r:V→List V→Hp→VK→Prop)(to:TE):TE:=fun σ H Q=>to σ H fun x H1=>(∃l xs,x=.ref l∧H1 l=some (.aN xs))∧r x [] H1 Q
def abK:V→Option Int→Option Int→Hp→VK→Prop:=fun x lo hi H Q=>∃a xs,x=.ref a∧H a=some (.aN xs)∧∀p,H p=none→Q (.ref p) (aJ H p (.aN (qQ xs lo hi)))
structure Nx(u R:L2.Internal.St→Hp→Prop):Prop where
 go:∀σ H,u σ H→R σ H
theorem bt{t u:TS}{D:w9}{σ:L2.Internal.St}{H:Hp}(h:∀R,Nx (u D) R→t {D with nx:=R} σ H):eV t u D σ H:=h (u D) ⟨fun _ _ h=>h⟩
def aby(t:TE):TE:=fun σ H Q=>∃Q0,t σ H Q0∧∀x H1,Q0 x H1→Q x H1
section
variable{X:Cx}{e o:Expr}{es:List Expr}{to te:TE}{t:TA}{name:Str}{id:String}{r:V→List V→Hp→VK→Prop}{apos eJ:Pos}
theorem cp(h:PE X e te):PE X e (aby te):=fun ah s σ H Q I ⟨Q0,q,k⟩=>rR (h ah s σ H Q0 I q) fun u s1 ⟨x,H1,I1,r1,q1⟩=>⟨x,H1,I1,r1,k x H1 q1⟩
theorem jP{t':TE}(h:PE X e te)(k:∀σ H Q,t' σ H Q→te σ H Q):PE X e t':=fun ah s σ H Q I q=>h ah s σ H Q I (k σ H Q q)
theorem bz{x:Str}{n:Int}{pos:Pos}(h:∃t,X.mg x=some (asn n t))(hg:Gl X x:=by rfl)(hd:(x==("__debug__":Str))=false:=by decide):PE X (.Name x pos) (tC (.int n)):=
 let⟨t,e⟩:=h
 Qp hg e ⟨t,rfl⟩ hd
theorem Ya{x:Str}{z:Str}{pos:Pos}(h:∃t,X.mg x=some (asN z t))(hg:Gl X x:=by rfl)(hd:(x==("__debug__":Str))=false:=by decide):PE X (.Name x pos) (tC (.str z)):=
 let⟨t,e⟩:=h
 Qp hg e ⟨t,rfl⟩ hd
theorem WX:SlR X abK:=fun ah s σ H x v vl vu lo hi sl Q I rx hs pl pu h=>by
 obtain⟨a,xs,e,h1,q⟩:=h;exact Qc ah s σ H x v vl vu lo hi sl Q I rx hs pl pu ⟨a,xs,e,jH.of h1,q⟩
theorem cv:rF X (.builtin "len") Zf:=fun ah s σ H xs us Q I r h=>by
 obtain⟨p,ys,e,h1,q⟩:=h;exact yG ah s σ H xs us Q I r ⟨p,ys,e,.inl (jH.of h1),q⟩
theorem dm:IxR X UE:=fun a b ah s σ H x y u v Q I rx ry h=>by
 obtain⟨p,i,xs,z,e1,e2,h1,h2,q⟩:=h;exact JC a b ah s σ H x y u v Q I rx ry ⟨p,xs,i,z,e1,e2,jH.of h1,h2,q⟩
theorem Se:IxR X Zg:=fun a b ah s σ H x y u v Q I rx ry h=>by
 obtain⟨p,i,xs,z,e1,e2,h1,h2,q⟩:=h;exact ZR a b ah s σ H x y u v Q I rx ry ⟨p,xs,i,z,e1,e2,AK.of h1,h2,q⟩
theorem CQ:BE X (compareOp .In) Zh:=fun ah s σ H x y u v Q I rx ry h=>by
 obtain⟨p,xs,e1,h1,h2,h3,q⟩:=h;exact RW ah s σ H x y u v Q I rx ry ⟨p,xs,e1,.inr (AK.of h1),h2,h3,q⟩
theorem NW:BE X (compareOp .NotIn) IY:=fun ah s σ H x y u v Q I rx ry h=>by
 obtain⟨p,xs,e1,h1,h2,h3,q⟩:=h;exact Ji ah s σ H x y u v Q I rx ry ⟨p,xs,e1,.inr (AK.of h1),h2,h3,q⟩
theorem jQ(slot:Slot "list" name id)(QK:typeOf (.builtin id)=pure (.type "method_descriptor"))(hm:PQ X id r)(ho:PE X o to)(ha:PA X (e::es) t)
  (kF:attributeBase o name X.env (eval o X.env)=eval o X.env:=by rfl)
  (VC:((backTo eJ (starEach (e::es) X.env)).all (fun x=> !x.1)&&(backToKw eJ (keywordEach [] X.env)).all (fun x=>x.1.isSome)
   &&decide ((e::es).length+([]:List Keyword).length+(if([]:List Keyword).isEmpty then 0 else 1)<30))=true:=by rfl)
  (kE:(apos.endLine==eJ.line)=true:=by rfl)(hs:starEach (e::es) X.env=(false,eval e X.env)::starEach es X.env:=by rfl)(EM:(backTo eJ (starEach es X.env)).any (·.1)=false:=by rfl):
  PE X (.Call (.Attribute o name apos) (e::es) [] eJ) (Y4 r to t):=
 jP (Yb atW slot QK hm (cp ho) ha kF VC kE hs EM) fun σ H Q h=>⟨_,h,fun x H1 ⟨⟨l,xs,ex,hl⟩,q⟩=>⟨by subst ex;exact .inl ⟨rfl,xs,jH.of hl⟩,q⟩⟩
theorem W9(slot:Slot "list" name id)(QK:typeOf (.builtin id)=pure (.type "method_descriptor"))(hm:PQ X id r)(ho:PE X o to)
  (kF:attributeBase o name X.env (eval o X.env)=eval o X.env:=by rfl)(kE:(apos.endLine==eJ.line)=true:=by rfl):PE X (.Call (.Attribute o name apos) [] [] eJ) (X4 r to):=
 jP (Zn atW slot QK hm (cp ho) kF kE) fun σ H Q h=>⟨_,h,fun x H1 ⟨⟨l,xs,ex,hl⟩,q⟩=>⟨by subst ex;exact .inl ⟨rfl,xs,jH.of hl⟩,q⟩⟩
theorem zY:PQ X "list.insert" Zi:=by
 intro ah s σ H x vs v us Q I rx rv h;obtain⟨l,i,y,xs,rfl,rfl,hH,⟨h1,h2,hz⟩,q⟩:=h;cases rx;obtain⟨u,u2,rfl,ru,ru2⟩:=rv.two;obtain⟨t,rfl⟩:=ru;obtain⟨z,bX,n,r,hl,e⟩:=I.Ot hH;have hs:=sizeLine_eq;refine call_meets arJ ⟨_,e,rfl⟩ PySem.F.entry_list_insert (PySem.F.args_list_insert_3 _ _ _) (auh l bX.toArray n i t u2 (by rw[fitsIndex_both (by omega) (by omega)];simp) (by rw[apQ];omega)) ⟨e,?_⟩;refine⟨.cx,_,I.Xm (EI:=bX.take i.toNat++u2::bX.drop i.toNat) hH e ?_ ((r.take _).append (.cons ru2 (r.drop _))) ?_,rfl,q⟩
 ·have hi:¬i<0:=by omega
  simp only[if_neg hi];have hm:min i.toNat bX.toArray.size=i.toNat:=by rw[apQ];omega
  rw[hm];apply auW.mp;simp;exact arV (by rw[aqX];omega)
 ·rw[apr,apz,aqm,aqX];omega
end
theorem _root_.L2.Internal.gb.mn{j k:Nat}{A:Around}(r:gb k A)(h:j≤k:=by decide):gb j A:=r.x9 h
abbrev SK:=L2.Internal.St→Hp→Prop
abbrev LK:=List V→Hp→Prop
abbrev BK:=Bool→Hp→Prop
section
variable{K:apw}{σ:L2.Internal.St}{H:Hp}{Q:VK}{D:w9}{t u:TS}{te ta tb:TE}{g:TG}{i:Nat}{v x y z:V}{r:R2}{f m:Str}{p dx:Addr}{C:Addr}{fs:List (Str×V)}{c c':TT}{B:BK}{b:Bool}{L:LK}{vs oP xs:List V}{sp:Sp}{E:XK}{tl:TA}{rl:List V→Hp→VK→Prop}{ru:V→Hp→VK→Prop}{rm:V→List V→Hp→VK→Prop}{a d:Int}{S S1 S2:SK}{R:Addr→Prop}{X:V→Prop}{W Y W' Y':Prop}
def bx(u:TS)(D:w9):SK:=u D
theorem Dz(h:t ⟨bx u D,D.rt,D.bk,D.ct⟩ σ H):eV t u D σ H:=h
theorem bQ(h:u D σ H):bx u D σ H:=h
def Xr(K:apw)(f:Str)(Q:VK):VK:=fun x H=>∃a C dx fs v,x=.ref a∧H a=some (.bR C dx fs)∧AL K C∧aG K C f∧fs.lookup f=some v∧Q v H
abbrev kCl(sp:Sp)(oP:List V)(E:XK)(Q:VK):LK:=fun vs H=>sp (vs++oP) H Q E
abbrev kM2(x:V)(sp:Sp)(oP:List V)(E:XK)(Q:VK):LK:=fun vs H=>sp (x::(vs++oP)) H Q E
def QD(C:Addr)(m:Str)(sp:Sp)(oP:List V)(E:XK)(t:TA)(σ:L2.Internal.St)(Q:VK):VK:=fun x H=>∃a dx fs,x=.ref a∧H a=some (.bR C dx fs)∧fs.lookup m=none∧t σ H (kM2 x sp oP E Q)
def kB(B:BK):VK:=fun x H=>∃k,x=.bl k∧B k H
def ZO(K:apw)(f:Str)(y:V)(σ:L2.Internal.St)(S:SK):VK:=fun x H=>∃a C dx fs,x=.ref a∧H a=some (.bR C dx fs)∧AL K C∧aG K C f∧fs.length<1000∧S σ (aJ H a (.bR C dx (cA f y fs)))
abbrev kSf(ta:TE)(K:apw)(f:Str)(σ:L2.Internal.St)(S:SK):VK:=fun y H=>ta σ H (ZO K f y σ S)
def ZP(Q:VK):LK:=fun xs H=>xs.length≤sizeLine∧∀p,H p=none→Q (.ref p) (aJ H p (.aN xs))
def ZN(Q:VK):LK:=fun xs H=>xs.length≤sizeLine∧∀p,H p=none→Q (.ref p) (aJ H p (.fR xs))
abbrev kRm(r:V→List V→Hp→VK→Prop)(x:V)(Q:VK):LK:=fun xs H=>r x xs H Q
def kBl(r:V→List V→Hp→VK→Prop)(t:TA)(σ:L2.Internal.St)(Q:VK):VK:=fun x H=>(∃l xs,x=.ref l∧H l=some (.aN xs))∧t σ H (kRm r x Q)
def Yi(C:Addr)(sp:Sp)(oP:List V)(E:XK)(Q:VK):LK:=fun vs H1=>∀x dx,H1 x=none→H1 dx=none→dx≠x→sp (.ref x::(vs++oP)) (aJ (aJ H1 dx (.own x)) x (.bR C dx [])) (fun v H2=>v=.cx∧Q (.ref x) H2) E
def kA2(C p:Addr)(f:Str)(σ:L2.Internal.St)(S:SK):VK:=fun z H=>∃vg E7,H p=some (.bR C vg E7)∧E7.length<1000∧S σ (aJ H p (.bR C vg (cA f z E7)))
abbrev kO2(r:R2)(x:V)(Q:VK):VK:=fun y H=>r x y H Q
abbrev kOp(r:R2)(tb:TE)(σ:L2.Internal.St)(Q:VK):VK:=fun x H=>tb σ H (kO2 r x Q)
def ZQ(K:apw)(f:Str)(te:TE)(r:R2)(σ:L2.Internal.St)(S:SK):VK:=fun x H=>∃a C dx fs v,x=.ref a∧H a=some (.bR C dx fs)∧AL K C∧aG K C f∧fs.lookup f=some v∧te σ H (kO2 r v (kA2 C a f σ S))
abbrev kAs(g:TG)(σ:L2.Internal.St)(S:SK):VK:=fun x H=>g x σ H S
abbrev kUn(r:V→Hp→VK→Prop)(Q:VK):VK:=fun x H=>r x H Q
abbrev kDr(σ:L2.Internal.St)(S:SK):VK:=fun _ H=>S σ H
abbrev kC2(x:V)(L:LK):LK:=fun xs H=>L (x::xs) H
abbrev kCn(tl:TA)(σ:L2.Internal.St)(L:LK):VK:=fun x H=>tl σ H (kC2 x L)
abbrev kCb(r:List V→Hp→VK→Prop)(Q:VK):LK:=fun vs H=>r vs H Q
abbrev kIf(t u:TS)(D:w9)(σ:L2.Internal.St):BK:=fun b H=>if b=true then t D σ H else u D σ H
abbrev kIe(t u:TE)(σ:L2.Internal.St)(Q:VK):BK:=fun b H=>if b=true then t σ H Q else u σ H Q
abbrev kNt(B:BK):BK:=fun b H=>B (!b) H
abbrev kAn(c:TT)(σ:L2.Internal.St)(B:BK):BK:=fun b H=>if b=true then c σ H B else B false H
abbrev kOr(c:TT)(σ:L2.Internal.St)(B:BK):BK:=fun b H=>if b=true then B true H else c σ H B
theorem X1(h:t ⟨u ⟨S,Q,S1,S2⟩,Q,S1,S2⟩ σ H):eV t u ⟨S,Q,S1,S2⟩ σ H:=h
theorem TB(h:S σ H):C8 ⟨S,Q,S1,S2⟩ σ H:=h
theorem abt(h:te σ H (kAs g σ S)):WK te g ⟨S,Q,S1,S2⟩ σ H:=h
theorem YD(h:S (σ.set i (some v)) H):HN i v σ H S:=h
theorem X0(e:σ[i]? =some (some v))(h:Q v H):mR i σ H Q:=⟨v,e,h⟩
theorem x_c(h:Q v H):tC v σ H Q:=h
theorem YA(h:ta σ H (kOp r tb σ Q)):Ru r ta tb σ H Q:=h
theorem abp(h:ta σ H (Xr K f Q)):Iz K ta f σ H Q:=h
theorem aeZ(h1:H p=some (.bR C dx fs))(h2:AL K C)(h3:aG K C f)(h4:fs.lookup f=some v)(h:Q v H):Xr K f Q (.ref p) H:=⟨p,_,dx,_,_,rfl,h1,h2,h3,h4,h⟩
theorem Yy(h:te σ H (kSf ta K f σ S)):Lj K ta te f ⟨S,Q,S1,S2⟩ σ H:=h
theorem Rl(h1:H p=some (.bR C dx fs))(h2:AL K C)(h3:aG K C f)(h4:fs.length<1000)(h:S σ (aJ H p (.bR C dx (cA f y fs)))):ZO K f y σ S (.ref p) H:=⟨p,_,dx,_,rfl,h1,h2,h3,h4,h⟩
theorem YE(h:ta σ H (QD C m sp oP E tl σ Q)):Hh C m sp oP E ta tl σ H Q:=h
theorem aeX(h1:H p=some (.bR C dx fs))(h2:fs.lookup m=none)(h:tl σ H (kM2 (.ref p) sp oP E Q)):QD C m sp oP E tl σ Q (.ref p) H:=⟨p,dx,fs,rfl,h1,h2,h⟩
theorem abo(h:c σ H (kIf t u D σ)):WI c t u D σ H:=h
theorem abn(h:c σ H (kIe ta tb σ Q)):tIf c ta tb σ H Q:=h
theorem Tz(h:te σ H (kB B)):Hg te σ H B:=h
theorem x_b(h:te σ H (kB B)):tB te σ H B:=h
theorem abe(h:B b H):kB B (.bl b) H:=⟨b,rfl,h⟩
theorem aa2(h:c σ H (kNt B)):YW c σ H B:=h
theorem abu(h:c σ H (kAn c' σ B)):Y5 c c' σ H B:=h
theorem aeU(h:c σ H (kOr c' σ B)):tOr c c' σ H B:=h
theorem YN(h:ta σ H (kB fun b H1=>if b=true then tb σ H1 Q else Q (.bl false) H1)):TZ ta tb σ H Q:=h
theorem aa0(h:ta σ H (kB fun b H1=>if b=true then Q (.bl true) H1 else tb σ H1 Q)):YV ta tb σ H Q:=h
theorem aaZ(h:te σ H Q):xo te ⟨S,Q,S1,S2⟩ σ H:=h
theorem YK(h:te σ H (kDr σ S)):KL te ⟨S,Q,S1,S2⟩ σ H:=h
theorem aa3(h:L [] H):TR σ H L:=h
theorem YM(h:ta σ H (kCn tl σ L)):TX ta tl σ H L:=h
theorem x_call(h:tl σ H (kCl sp oP E Q)):TY sp oP E tl σ H Q:=h
theorem ae2(h:tl σ H (kCb rl Q)):tCB rl tl σ H Q:=h
theorem abv(h:Q (.int (a+d)) H):Zj (.int a) (.int d) H Q:=⟨a,d,rfl,rfl,h⟩
theorem ae1{g:Int→Int→V}(h:Q (g a d) H):Qi g (.int a) (.int d) H Q:=⟨a,d,rfl,rfl,h⟩
theorem x_i{P:Int→Int→Prop}{g:Int→Int→V}(h0:P a d)(h:Q (g a d) H):rI P g (.int a) (.int d) H Q:=⟨a,d,rfl,rfl,h0,h⟩
theorem abq(e:Nq x y=true)(h:Q (.bl (decide (x=y))) H):rEq x y H Q:=⟨e,h⟩
theorem aeV(e:Nq x y=true)(h:Q (.bl (!decide (x=y))) H):rNe x y H Q:=⟨e,h⟩
theorem aa5(h1:H p=some (.aN xs))(h:Q (.int xs.length) H):Zf [.ref p] H Q:=⟨p,xs,rfl,h1,h⟩
theorem X2(h1:H p=some (.aN xs))(h2:mP xs a=some v)(h:Q v H):UE (.ref p) (.int a) H Q:=⟨p,a,xs,v,rfl,rfl,h1,h2,h⟩
theorem abg(h1:H p=some (.fR xs))(h2:mP xs a=some v)(h:Q v H):Zg (.ref p) (.int a) H Q:=⟨p,a,xs,v,rfl,rfl,h1,h2,h⟩
theorem abj(h1:H p=some (.fR xs))(h2:lb x=true)(h3:xs.all lb=true)(h:Q (.bl (Wq x xs)) H):Zh x (.ref p) H Q:=⟨p,xs,rfl,h1,h2,h3,h⟩
theorem YB(h1:H p=some (.fR xs))(h2:lb x=true)(h3:xs.all lb=true)(h:Q (.bl (!Wq x xs)) H):IY x (.ref p) H Q:=⟨p,xs,rfl,h1,h2,h3,h⟩
theorem abi(h:Q (.bl (decide (x=.cx))) H):kO2 (fun x y H Q=>y=V.cx∧Q (V.bl (decide (x=V.cx))) H) x Q .cx H:=⟨rfl,h⟩
theorem abE:Nq (.int a) (.int d)=true:=rfl
theorem abD:Nq (.str f) (.str m)=true:=rfl
theorem abF{b c:Bool}:Nq (.bl b) (.bl c)=true:=rfl
theorem aa4(h:tl σ H (ZP Q)):BG tl σ H Q:=h
theorem aaY(h:tl σ H (ZN Q)):YU tl σ H Q:=h
theorem YF(h:tl σ H (Yi C sp oP E Q)):vi C sp oP E tl σ H Q:=h
theorem aeY(h:∀p,Wr (R p)→Q (.ref p) (aJ H p (.aN xs)))(k:xs.length≤sizeLine∧∀p,H p=none→R p):ZP Q xs H:=⟨k.1,fun p hp=>h p (k.2 p hp)⟩
theorem aeW(h:∀p,Wr (R p)→Q (.ref p) (aJ H p (.fR xs)))(k:xs.length≤sizeLine∧∀p,H p=none→R p):ZN Q xs H:=⟨k.1,fun p hp=>h p (k.2 p hp)⟩
theorem abr(h:te σ H (kBl rm tl σ Q)):Y4 rm te tl σ H Q:=h
theorem abd(h1:H p=some (.aN xs))(h:tl σ H (kRm rm (.ref p) Q)):kBl rm tl σ Q (.ref p) H:=⟨⟨p,xs,rfl,h1⟩,h⟩
theorem YJ(h:ta σ H (ZQ K f te r σ S)):IU K ta te r f ⟨S,Q,S1,S2⟩ σ H:=h
theorem ae0(h1:H p=some (.bR C dx fs))(h2:AL K C)(h3:aG K C f)(h4:fs.lookup f=some v)(h:te σ H (kO2 r v (kA2 C p f σ S))):ZQ K f te r σ S (.ref p) H:=⟨p,_,dx,_,_,rfl,h1,h2,h3,h4,h⟩
theorem abf(h1:H p=some (.bR C dx fs))(h4:fs.length<1000)(h:S σ (aJ H p (.bR C dx (cA f z fs)))):kA2 C p f σ S z H:=⟨dx,fs,h1,h4,h⟩
theorem aaX{i:Decidable (true=true)}(h:W): @ite Prop (true=true) i W Y:=by rw[if_pos rfl];exact h
theorem YL{q:Prop}{i:Decidable q}(hq:¬q)(h:Y): @ite Prop q i W Y:=by rw[if_neg hq];exact h
theorem Yz{i:Decidable (decide (v=v)=true)}(h:W): @ite Prop (decide (v=v)=true) i W Y:=by rw[if_pos (decide_eq_true rfl)];exact h
theorem aeR{q:Prop}{i:Decidable q}(hq:q)(h:W): @ite Prop q i W Y:=by rw[if_pos hq];exact h
theorem aeT{i:Decidable (decide (V.ref p=V.cx)=true)}(h:Y): @ite Prop (decide (V.ref p=V.cx)=true) i W Y:=by rw[if_neg (fun z=>V.noConfusion (of_decide_eq_true z))];exact h
theorem aa1{i:Decidable ((!decide (v=v))=true)}(h:Y): @ite Prop ((!decide (v=v))=true) i W Y:=by rw[if_neg (by rw[decide_eq_true rfl];exact apI)];exact h
theorem aeS(h:Q v H):(w9.mk S Q S1 S2).rt v H:=h
theorem abh{q:Prop}{i:Decidable q}(h1:Wr W'→W)(h2:Wr Y'→Y)(k: @ite Prop q i W' Y'): @ite Prop q i W Y:=by
 by_cases z:q
 ·rw[if_pos z]at k ⊢;exact h1 k
 ·rw[if_neg z]at k ⊢;exact h2 k
theorem aeP(h:Wr W→tl σ H (kM2 (.ref p) sp oP E Q))(k:∃dx fs,H p=some (.bR C dx fs)∧fs.lookup m=none∧W):QD C m sp oP E tl σ Q (.ref p) H:=
 let⟨dx,fs,h1,h2,x⟩:=k
 ⟨p,dx,fs,rfl,h1,h2,h x⟩
theorem aeQ(h:∀v,Wr (X v)→Q v H)(k:∃C dx fs v,H p=some (.bR C dx fs)∧AL K C∧aG K C f∧fs.lookup f=some v∧X v):Xr K f Q (.ref p) H:=
 let⟨C,dx,fs,v,h1,h2,h3,h4,x⟩:=k
 ⟨p,C,dx,fs,v,rfl,h1,h2,h3,h4,h v x⟩
theorem aaW(h:∀v,Wr (X v)→Q v H)(k:∃xs v,H p=some (.aN xs)∧mP xs a=some v∧X v):UE (.ref p) (.int a) H Q:=
 let⟨xs,v,h1,h2,x⟩:=k
 ⟨p,a,xs,v,rfl,rfl,h1,h2,h v x⟩
end
@[reducible]def zzL:="eV WK HN tC Iz P4 PZ TX TR tCB Hg Ru Qi rI Zj ipI WI tIf Y5 tOr YW tB TZ YV xo KL Lj IU abB TY Hh C8 rEq rNe Zf UE Zg abL tM0 tM1 apJ Zi Zh IY abK tSl X3 P5 YU Y4 X4 VX My apG arv List.getElem?_cons_zero asA and_assoc aqb Bool.not_true Bool.not_false apt aqE Int.natCast_nonneg exists_eq' exists_eq exists_true_left implies_true BH st1 st2 st3 st4 afd afc apK asY aqx V.int.injEq V.ref.injEq V.bl.injEq V.str.injEq HO.bR.injEq HO.aN.injEq HO.fR.injEq HO.dK.injEq att as4 and_true true_and and_self exists_eq_left' exists_eq_left exists_eq_right exists_and_left exists_const au j5 abE abD abF decide_eq_true_eq Tb Ta Td arX decide_eq_false_iff_not Xr QD kB ZO ZP ZN kBl Yi ZQ kA2 EG OG Bd L9 vC Gy tL Bc rh HH QG Es Ow A8 LS Eu Oy yd Jp HE Sa Et Ox Er Ov Ep Ou A9 LU Ew Oz nA yc Qv DQ NM DP NL xF IW A1 Ln sH sG IX DV NP xI Ja xJ Jb xK Jc DW NQ DU NN A2 Lq Qk AO Kt AQ Ku AR Kv rX PY AY KP Dd Nk xq IA vm FZ mW jF se jG mX oR jE Qa FD Fy pX AA yK Kc BC ML vR GR FC Pq yJ Kb BB MK FE Pr nX yI FA uf rC vQ kM nW uh pV pW BA pU ug nV pT u9 ET OT ER ES rn pz pA rA tO rj rq pB QS Tc.jx Tc.pd Tc.mr Tc.gL Tc.pR Tc.o8 Tc.gv Tc.o9 Tc.nu Tc.o7 Tc.lK Tc.uJ Tc.uI Tc.qt Tc.uK Tc.eY Tc.V4 Tc.uE Tc.uD Tc.ni Tc.qp Tc.g4 Tc.Yr Tc.uG Tc.nj Tc.nq Tc.nr Tc.uH Tc.uF Tc.qr Tc.Fo Tc.jT Tc.mm Tc.mq Tc.lj Tc.jU Tc.oZ Tc.kr Tc.jc Tc.cO Tc.lL Tc.fG Tc.iL Tc.jW Tc.gM Tc.jX Tc.d4 Tc.jV Tc.pk Tc.eZ Tc.nU Tc.pj"
@[reducible]def zzS:="X1 TB abt YD x_c YA abp Yy YJ YE abo abn Tz x_b abe aa2 abu aeU YN aa0 aaZ YK aa3 YM x_call ae2 abv ae1 aa4 aaY YF abr aaX Yz aeS abi aeT aa1 abl YH abm YC abk YI YG"
@[reducible]def zzC:="Tc.jx Tc.pR Tc.V4 Tc.Yr Tc.Fo Tc.lj Tc.cO Tc.nU"
@[reducible]def zzD:="Tc.pd Tc.mr Tc.gL Tc.o8 Tc.gv Tc.o9 Tc.nu Tc.o7 Tc.lK Tc.uJ Tc.uI Tc.qt Tc.uK Tc.eY Tc.uE Tc.uD Tc.ni Tc.qp Tc.g4 Tc.uG Tc.nj Tc.nq Tc.nr Tc.uH Tc.uF Tc.qr Tc.jT Tc.mm Tc.mq Tc.jU Tc.oZ Tc.kr Tc.jc Tc.lL Tc.fG Tc.iL Tc.jW Tc.gM Tc.jX Tc.d4 Tc.jV Tc.pk Tc.eZ Tc.pj"
@[reducible]def zzG:="EG Bd vC Es A8 Eu yd HE Et Er Ep A9 Ew nA DQ DP xF A1 sH DV xI xJ xK DW DU A2 AO AQ AR AY Dd xq vm FD pX yK BC vR FC yJ BB FE nX ET"
@[reducible]def zzM:="tL Bc rh HH rX mW jF se jG mX oR jE FA uf rC vQ kM nW uh pV pW BA pU ug nV pT ER ES rn pz pA rA tO rj rq pB"
@[reducible]def zzE:="QG Qv IX Qk PY Qa u9 QS"
@[reducible]def zzH:="aa5 abd aa9 aa6 aa7 aa8 abb"
@[reducible]def zzI:="X2 abg abc aba"
@[reducible]def zzU:="kCl kM2 kSf kRm kO2 kOp kAs kUn kDr kC2 kCn kCb kIf kIe kNt kAn kOr"
@[reducible]def zzJ:="WC"
@[reducible]def zzK:="aeY aeW aeQ aaW"
@[reducible]def zzN (s : String) : List Lean.Ident := (s.splitOn " ").map fun x => Lean.mkIdent x.toName
@[reducible]def zzF (l : List Lean.Ident) (f : Lean.Ident → Lean.MacroM (Lean.TSyntax `tactic)) (z : Lean.MacroM (Lean.TSyntax `tactic)) : Lean.MacroM (Lean.TSyntax `tactic) := do
  let mut r ← z
  for s in l.reverse do
    let t ← f s
    r ← `(tactic| first | $t:tactic | $r:tactic)
  return r
@[reducible]def zzX (w : Bool) : Lean.MacroM (Lean.TSyntax `tactic) := do
  let C := Lean.mkIdent `C
  let hH ← `(tactic| with_reducible (first | assumption | exact au))
  let hi ← zzF (zzN "i0 i1 i2 i3 i4") (fun n => `(tactic| apply $n)) `(tactic| assumption)
  let hc ← zzF (zzN zzC) (fun n => `(tactic| exact $n $C)) `(tactic| assumption)
  let hn ← zzF (zzN zzD) (fun n => `(tactic| exact $n $C)) `(tactic| assumption)
  let hg ← zzF (zzN zzG) (fun n => `(tactic| apply $n)) `(tactic| fail)
  let hm ← zzF (zzN zzM) (fun n => `(tactic| apply $n)) `(tactic| fail)
  let mut hl ← `(tactic| fail)
  for k in [0:11] do
    hl ← `(tactic| first | exact (by decide : $(Lean.quote k) < 1000) | $hl:tactic)
  hl ← zzF (zzN zzE) (fun n => `(tactic| with_reducible exact of_eq_true ($n ..))) (pure hl)
  let go ← `(tactic| (walk_at "x"; (try walk_at "o"); exact YO zz))
  let hf ← `(tactic| ((case zv => $hH:tactic); (case zc => with_reducible $hc:tactic); (case zn => with_reducible $hn:tactic)))
  let st ← `(tactic| first
    | (with_reducible apply abq ?zv ?_); (case zv => with_unfolding_all rfl)
    | (with_reducible apply aeV ?zv ?_); (case zv => with_unfolding_all rfl)
    | (with_reducible apply aeR ?zv ?_); (case zv => decide)
    | (with_reducible apply YL ?zv ?_); (case zv => decide)
    | (with_reducible apply abj ?zv ?zw ?zx ?_); (case zv => $hH:tactic); (case zw => with_unfolding_all rfl); (case zx => with_unfolding_all rfl)
    | (with_reducible apply YB ?zv ?zw ?zx ?_); (case zv => $hH:tactic); (case zw => with_unfolding_all rfl); (case zx => with_unfolding_all rfl)
    | (with_reducible apply x_i ?zv ?_); (case zv => first | with_reducible assumption | decide)
    | (with_reducible apply abf ?zv ?zl ?_); (case zv => $hH:tactic); (case zl => $hl:tactic)
    | (with_reducible apply Rl ?zv ?zc ?zn ?zl ?_); $hf:tactic; (case zl => $hl:tactic)
    | (with_reducible apply aeZ ?zv ?zc ?zn ?zl ?_); $hf:tactic; (case zl => with_reducible $hg:tactic)
    | (with_reducible apply ae0 ?zv ?zc ?zn ?zl ?_); $hf:tactic; (case zl => with_reducible $hg:tactic)
    | (with_reducible apply aeX ?zv ?zl ?_); (case zv => $hH:tactic); (case zl => first | with_reducible $hm:tactic | rfl))
  let s1 ← zzF (zzN zzH) (fun n => `(tactic| ((with_reducible apply $n ?zv ?_); (case zv => $hH:tactic)))) (pure st)
  let s2 ← zzF (zzN zzI) (fun n => `(tactic| ((with_reducible apply $n ?zv ?zw ?_); (case zv => $hH:tactic); (case zw => with_reducible $hi:tactic)))) (pure s1)
  let s2 ← zzF (zzN zzJ) (fun n => `(tactic| ((with_reducible apply $n ?zv ?zw ?zx ?_); (case zv => $hH:tactic); (case zw => $hH:tactic); (case zx => with_reducible assumption)))) (pure s2)
  let s2 ← zzF (zzN zzS) (fun n => `(tactic| with_reducible refine $n ?_)) (pure s2)
  let e2 ← zzF (zzN zzK) (fun n => `(tactic| ((with_reducible apply $n ?zt ?_); (case zt => intro zp zz; $go:tactic)))) `(tactic| skip)
  let rs ← `(tactic| repeat (first | ((with_reducible apply X0 ?zv ?_); (case zv => with_unfolding_all rfl)) | $s2:tactic))
  if w then `(tactic| ($rs:tactic; first
    | ((with_reducible apply abh ?zt ?zu ?_); (case zt => intro zz; $go:tactic); (case zu => intro zz; $go:tactic))
    | ((with_reducible apply aeP ?zt ?_); (case zt => intro zz; $go:tactic))
    | $e2:tactic)) else return rs
@[reducible]def zzR (x : String) : Lean.MacroM (Lean.TSyntax `tactic) := do
  let a := ((zzN (zzL ++ x)).map fun (s : Lean.Ident) => (⟨s.raw⟩ : Lean.Term)).toArray
  let d := (zzN zzU).toArray
  `(tactic| ((try delta $d*); try simp only [↓reduceIte, $[$a:term],*, *]))
local macro_rules|`(tactic|walk_at "o")=>zzR ""
local macro_rules|`(tactic|walk_at "x")=>zzX true
local macro_rules|`(tactic|walk_at "s")=>zzX false
local macro_rules|`(tactic|walk_at "d")=>`(tactic|(walk_at "x";try walk_at "o"))
set_option hygiene false in
local macro_rules|`(tactic|walk_at "z")=>`(tactic|(clear sc;try dsimp only[VX,My,L2.Internal.start,apG,arv,apz,arO,aqx,asY,List.replicate_succ,List.replicate_zero]))
set_option hygiene false in
local macro_rules|`(tactic|walk_at "f")=>`(tactic|(have C:=T.c;refine F.ok sc (fun vs H Q E h=>?_) (fun yS A' outer s H vs Q E hr h=>?_)<;>clear F))
set_option hygiene false in
local macro_rules|`(tactic|walk_at "g")=>`(tactic|(refine bt fun R n1=>?_;walk_at "d"))
local macro_rules|`(tactic|walk_at "e")=>`(tactic|(refine Dz ?_;walk_at "d"))
set_option hygiene false in
local macro_rules|`(tactic|walk_at "n")=>`(tactic|(refine n1.go _ _ ?_;clear n1 R))
structure PR(A:Ad)(H:Hp)(p l h q:Addr)(L:List (Iv V)):Prop where
 obj:∃dx,H p=some (.bR A.dR dx (rS (.ref l) (.ref h) (.ref q)))
 lo:H l=some (.aN (L.map fun x=>.int x.lo))
 hi:H h=some (.aN (L.map fun x=>.int x.hi))
 at_:H q=some (.aN (L.map fun x=>x.at_))
theorem Vc{f:Int→Int→Bool}{i j:Nat}:∀σ H (Q Q':Bool→Hp→Prop),(∀b H1,Q b H1→Q' b H1)→Hg (Ru (Qi fun a b=>V.bl (f a b)) (mR i) (mR j)) σ H Q→Hg (Ru (Qi fun a b=>V.bl (f a b)) (mR i) (mR j)) σ H Q':=by
 rintro σ H Q Q' k ⟨v,e1,u,e2,a,b,e3,e4,c,e5,q⟩;exact⟨v,e1,u,e2,a,b,e3,e4,c,e5,k _ _ q⟩
theorem qW{α:Type}{L:List α}{f:α→V}{k:Nat}{x:α}(h:L[k]? =some x):mP (L.map f) (k:Int)=some (f x):=fZ (by rw[apH,h];rfl)
def ado(L:List (Iv V))(p:Addr)(n:Int)(H:Hp)(σ:L2.Internal.St)(H':Hp):Prop:=∃(u o:Nat) (m:Option V),σ=[some (.ref p),some (.int n),some (.int (u:Int)),some (.int (o:Int)),m]∧H'=H∧u≤o∧o≤L.length∧(∀i x,L[i]? =some x→i<u→x.lo≤n)∧(∀i x,L[i]? =some x→o≤i→n<x.lo)
def aik(σ:L2.Internal.St):Nat:=match σ with|[_,_,some (.int u),some (.int o),_]=>(o-u).toNat|_=>0
def Dn(A:Ad):Sp:=fun vs H Q _=>∃p n,vs=[.ref p,.int n]∧∃l h q dx L,H p=some (.bR A.dR dx (rS (.ref l) h q))∧H l=some (.aN ((L:List (Iv V)).map fun x=>.int x.lo))∧(L.Pairwise fun x y=>x.lo<y.lo)∧Q (.int (cC L n)) H
theorem WC{p l dx:Addr}{n:Int}{h q:V}{L:List (Iv V)}{H:Hp}{Q:VK}{E:XK}(h1:H p=some (.bR A.dR dx (rS (.ref l) h q)))(h2:H l=some (.aN (L.map fun x=>.int x.lo)))(h3:L.Pairwise fun x y=>x.lo<y.lo)(k:Q (.int (cC L n)) H):kM2 (.ref p) (Dn A) [] E Q [.int n] H:=⟨p,n,rfl,l,h,q,dx,L,h1,h2,h3,k⟩
theorem mi(T:Tx K mg A):bN P w K mg base fU 1 A.hU A.ke ["self","number"] (Dn A):=by
 have sc:=DF;have F:=T.nH.F;walk_at "f"
 ·obtain⟨p,n,rfl,_⟩:=h;rfl
 ·obtain⟨p,n,rfl,l,h,q,dx,L,hp,hl,hL,k⟩:=h;refine⟨_,(ag (aX (i:=2) sc.nd rfl (apN rfl) ay)
 (ag (aX (i:=3) sc.nd rfl (apN rfl) (bH cv (by rfl) T.ft ap8 (af (aq (pv 0) rfl) ax)))
 (ag (Lr ara (aD LA (pv 2) (pv 3) (aH _)) (ag (aX (i:=4) sc.nd rfl (apN rfl) (aZ uB (aZ dD (pv 2) (pv 3)) ay))
 (aw (bo (aD U2 (bC dm (aq (pv 0) rfl) (pv 4) (fun _ _=>rfl)) (pv 1) (aH _)) (aw (aX (i:=2) sc.nd rfl (apN rfl) (aZ dD (pv 4) ay))) (aw (aX (i:=3) sc.nd rfl (apN rfl) (pv 4)))))))
 (aw (aB (pv 2)))))),?_⟩
  clear hr;walk_at "z";walk_at "d";refine Kr (ado L p n H) (fun σ _=>aik σ) ⟨0,L.length,none,by simp,rfl,apV _,apE _,fun i x _ h=>by omega,fun i x e h=>by have:=(apu.mp e).1;omega⟩ ?_ Vc;rintro σ H' ⟨u,o,m,rfl,rfl,h1,h2,h3,h4⟩;walk_at "d";refine bW (fun c=>?_) (fun c=>?_)
  ·refine⟨⟨by decide,by decide⟩,?_⟩;have em:((u:Int)+o) / 2=((u+o) / 2:Nat):=by omega
   rw[em];obtain⟨x,hx⟩:∃x,L[(u+o) / 2]? =some x:=⟨_,apO (by omega)⟩;refine⟨_,qW hx,?_⟩;walk_at "d";have hr:=aqH.mp hL;obtain⟨gX,ex⟩:=apu.mp hx;refine bW (fun c2=>?_) (fun c2=>?_)
   ·refine⟨⟨(u+o) / 2+1,o,some (.int ((u+o) / 2:Nat)),by simp,rfl,by omega,h2,fun i y e hi=>?_,h4⟩,by show asS _<asS _;omega⟩;by_cases q1:i=(u+o) / 2
    ·subst q1;rw[hx]at e;cases e;exact c2
    ·obtain⟨Z6,ey⟩:=apu.mp e;have:=hr i ((u+o) / 2) Z6 gX (by omega);rw[ey,ex]at this;omega
   ·refine⟨⟨u,(u+o) / 2,some (.int ((u+o) / 2:Nat)),by simp,rfl,by omega,by omega,h3,fun i y e hi=>?_⟩,by show asS _<asS _;omega⟩;by_cases q1:i=(u+o) / 2
    ·subst q1;rw[hx]at e;cases e;omega
    ·obtain⟨Z6,ey⟩:=apu.mp e;have:=hr ((u+o) / 2) i gX Z6 (by omega);rw[ey,ex]at this;omega
  ·have e:u=o:=by omega
   subst e;rw[Ke hL h2 h3 h4];exact k
local macro_rules|`(tactic|walk_at "o")=>zzR " Dn Zi BG uz"
theorem FG{α:Type}{L:List α}{f:α→V}{k:Nat}{z:Int}{x:α}(h:L[k]? =some x)(e:z=(k:Int)):mP (L.map f) z=some (f x):=by rw[e];exact qW h
def Uj(A:Ad):Sp:=fun vs H Q _=>∃p lo hi,vs=[.ref p,.int lo,.int hi]∧∃l h q L,PR A H p l h q L∧j4 L∧Q (.bl (d5 L lo hi)) H
theorem sU(T:Tx K mg A):bN P w K mg base fU 2 A.mH A.qL ["self","low","high"] (Uj A):=by
 have sc:=Le;have F:=T.yg.F;walk_at "f"
 ·obtain⟨p,lo,hi,rfl,_⟩:=h;rfl
 ·obtain⟨p,lo,hi,rfl,l,h,q,L,⟨⟨dx,hp⟩,hl,hh,hq⟩,ok,k⟩:=h;refine⟨_,(ag (aX (i:=3) sc.nd rfl (apN rfl) (bg (pv 0) T.c.jx T.oE (mi T) hr.mn T.nH.b .nil aP (af (pv 2) ax)))
 (aw (aB (Jh (m8 vq (pv 3) ay (aH _)) (zN (m8 D5 (bC dm (aq (pv 0) rfl) (aZ dS (pv 3) ay) (fun _ _=>rfl)) (pv 1) (aH _))))))),?_⟩
  walk_at "z";rw[Ve ok]at k;have rs:=ok.DR;walk_at "d";have hb:=pY L hi;refine bW (fun c=>?_) (fun c=>?_)
  ·obtain⟨x,hx⟩:∃x,L[cC L hi-1]? =some x:=⟨_,apO (by omega)⟩;refine⟨_,FG hx (by omega),_,rfl,?_⟩;rw[hx]at k;rw[decide_eq_true (show 0<cC L hi by omega)]at k;exact k
  ·rw[decide_eq_false (show¬0<cC L hi by omega)]at k;exact k
def RG(A:Ad):Sp:=fun vs H Q _=>∃p n,vs=[.ref p,.int n]∧∃l h q L,PR A H p l h q L∧j4 L∧Q (match cW L n with|some x=>x.at_|none=>.cx) H
theorem kZ(T:Tx K mg A):bN P w K mg base fU 2 A.gB A.jq ["self","number"] (RG A):=by
 have sc:=BO;have F:=T.lC.F;walk_at "f"
 ·obtain⟨p,n,rfl,_⟩:=h;rfl
 ·obtain⟨p,n,rfl,l,h,q,L,⟨⟨dx,hp⟩,hl,hh,hq⟩,ok,k⟩:=h;refine⟨_,(ag (aX (i:=2) sc.nd rfl (apN rfl) (bg (pv 0) T.c.jx T.oE (mi T) hr.mn T.nH.b .nil aP (af (pv 1) ax)))
 (ag (bo (PW.pt (k8 (aD cy (pv 2) ay (aH _)) (i6 (aD LA (bC dm (aq (pv 0) rfl) (aZ dS (pv 2) ay) (fun _ _=>rfl)) (pv 1) (aH _))))) (aw (aB cj)) aM)
 (aw (aB (bC dm (aq (pv 0) rfl) (aZ dS (pv 2) ay) (fun _ _=>rfl)))))),?_⟩
  walk_at "z";rw[Sm ok]at k;have rs:=ok.DR;walk_at "d";have hb:=pY L n;refine bW (fun c=>?_) (fun c=>?_)
  ·have c':(cC L n)=0:=by omega
   rw[if_pos c']at k;exact k
  ·have c':¬(cC L n)=0:=fun z=>c (by omega);rw[if_neg c']at k;obtain⟨x,hx⟩:∃x,L[cC L n-1]? =some x:=⟨_,apO (by omega)⟩;rw[hx]at k;refine⟨_,FG hx (by omega),_,rfl,?_⟩;replace k:Q (match(if x.hi<n then none else some x:Option (Iv V))with|some x=>x.at_|none=>.cx) H:=k;refine bW (fun c2=>?_) (fun c2=>?_)
   ·rw[if_pos c2]at k;exact k
   ·rw[if_neg c2]at k;exact⟨_,FG hx (by omega),k⟩
def pZ(H:Hp)(l h q:Addr)(L:List (Iv V)):Hp:=aJ (aJ (aJ H l (.aN (L.map fun x=>.int x.lo))) h (.aN (L.map fun x=>.int x.hi))) q (.aN (L.map fun x=>x.at_))
def Uk(A:Ad):Sp:=fun vs H Q _=>∃p lo hi v,vs=[.ref p,.int lo,.int hi,v]∧∃l h q L,PR A H p l h q L∧(L.Pairwise fun x y=>x.lo<y.lo)∧L.length<sizeLine∧(l≠h∧l≠q∧h≠q)∧Q .cx (pZ H l h q (bE L ⟨lo,hi,v⟩))
theorem Ab{β:Type}(L:List (Iv V))(x:Iv V)(f:Iv V→β):(L.map f).take (cC L x.lo)++f x::(L.map f).drop (cC L x.lo)=(bE L x).map f:=by
 unfold bE;rw[apB,apG,avu,avv]
theorem uC(T:Tx K mg A):bN P w K mg base fU 2 A.tY A.yz ["self","low","high","holder"] (Uk A):=by
 have sc:=RQ;have F:=T.EF.F;walk_at "f"
 ·obtain⟨p,lo,hi,v,rfl,_⟩:=h;rfl
 ·obtain⟨p,lo,hi,v,rfl,l,h,q,L,⟨⟨dx,hp⟩,hl,hh,hq⟩,ok,hz,⟨n1,n2,n3⟩,k⟩:=h;refine⟨_,(ag (aX (i:=4) sc.nd rfl (apN rfl) (bg (pv 0) T.c.jx T.oE (mi T) hr.mn T.nH.b .nil aP (af (pv 1) ax)))
 (ag (cQ (jQ arJ asq zY (aq (pv 0) rfl) (af (pv 4) (af (pv 1) ax))))
 (ag (cQ (jQ arJ asq zY (aq (pv 0) rfl) (af (pv 4) (af (pv 2) ax))))
 (aw (cQ (jQ arJ asq zY (aq (pv 0) rfl) (af (pv 4) (af (pv 3) ax)))))))),?_⟩
  walk_at "z";have np1:p≠l:=dy hp hl nofun;have np2:p≠h:=dy hp hh nofun;have e1:=ai (H:=H) (o:=.aN ((bE L ⟨lo,hi,v⟩).map fun x=>.int x.lo)) np1;have e2:=ai (H:=H) (o:=.aN ((bE L ⟨lo,hi,v⟩).map fun x=>.int x.lo)) n1.symm;have e3:=ai (H:=H) (o:=.aN ((bE L ⟨lo,hi,v⟩).map fun x=>.int x.lo)) n2.symm;have f1:=ai (H:=aJ H l (.aN ((bE L ⟨lo,hi,v⟩).map fun x=>.int x.lo))) (o:=.aN ((bE L ⟨lo,hi,v⟩).map fun x=>.int x.hi)) np2;have f3:=ai (H:=aJ H l (.aN ((bE L ⟨lo,hi,v⟩).map fun x=>.int x.lo))) (o:=.aN ((bE L ⟨lo,hi,v⟩).map fun x=>.int x.hi)) n3.symm;rw[e1]at f1;rw[e3]at f3;have hb:((cC L lo:Nat):Int)≤L.length:=by have:=pY L lo;omega
  have g1:=Ab L ⟨lo,hi,v⟩ (fun x=>V.int x.lo);have g2:=Ab L ⟨lo,hi,v⟩ (fun x=>V.int x.hi);have g3:=Ab L ⟨lo,hi,v⟩ (fun x=>x.at_);simp only at g1 g2 g3;walk_at "d";exact k
theorem aE{H:Hp}{a b:Addr}{o:HO}(h:aJ H a o b=none):b≠a∧H b=none:=by
 by_cases e:b=a
 ·subst e;rw[au]at h;cases h
 ·rw[ai e]at h;exact⟨e,h⟩
structure MY(A:Ad)(H H':Hp)(p:Addr):Prop where
 same:aV H H'
 at_:∃l h q,PR A H' p l h q []∧(l≠h∧l≠q∧h≠q)∧H l=none∧H h=none∧H q=none
 free:H p=none
def Hn(A:Ad):Sp:=fun vs H Q _=>∃p,vs=[.ref p]∧∃dx,H p=some (.bR A.dR dx [])∧∀H' l h q,(∀b o,H b=some o→b≠p→H' b=some o)→PR A H' p l h q []→(l≠h∧l≠q∧h≠q)→H l=none→H h=none→H q=none→Q .cx H'
theorem N8(T:Tx K mg A):bN P w K mg base fU 1 A.pI A.uW ["self"] (Hn A):=by
 have sc:=Ny;have F:=T.QF.F;walk_at "f"
 ·obtain⟨p,rfl,_⟩:=h;rfl
 ·obtain⟨p,rfl,dx,hp,k⟩:=h;refine⟨_,(ag (aW (pv 0) (cG ax) rfl)
 (ag (aW (pv 0) (cG ax) rfl)
 (aw (aW (pv 0) (cG ax) rfl)))),?_⟩
  walk_at "z";walk_at "s";refine auJ ?_ fun l hl=>?_
  ·decide
  walk_at "s";refine Rl ((ai (aj hp hl)).trans hp) C.jx C.pd (by decide:0<1000) ?_;walk_at "s";refine auJ ?_ fun h hh=>?_
  ·decide
  obtain⟨h1,hh⟩:=aE hh;obtain⟨h2,hh⟩:=aE hh;walk_at "s";refine Rl ((ai h1.symm).trans au) C.jx C.mr (by decide:1<1000) ?_;walk_at "s";refine auJ ?_ fun q hq=>?_
  ·decide
  obtain⟨q1,hq⟩:=aE hq;obtain⟨q2,hq⟩:=aE hq;obtain⟨_,hq⟩:=aE hq;obtain⟨q3,hq⟩:=aE hq;walk_at "s";refine Rl ((ai q1.symm).trans au) C.jx C.gL (by decide:2<1000) ?_;walk_at "s";have nl:=(aj hp hl).symm;refine k _ l h q (fun b o e hb=>?_) ⟨⟨dx,au⟩,?_,?_,?_⟩ ⟨h2.symm,q3.symm,q2.symm⟩ hl hh hq
  ·rw[ai hb,ai (aj e hq),ai hb,ai (aj e hh),ai hb,ai (aj e hl)];exact e
  ·rw[ai nl,ai q3.symm,ai nl,ai h2.symm,ai nl,au];rfl
  ·rw[ai h1,ai q2.symm,ai h1,au];rfl
  ·rw[ai q1,au];rfl
def TV(A:Ad):TE:=fun _ H Q=>∀H' p,MY A H H' p→Q (.ref p) H'
theorem U9{H:Hp}{Q:VK}{E:XK}(z:TV A [] H Q):∀x dx,H x=none→H dx=none→dx≠x→Hn A (.ref x::([]++[])) (aJ (aJ H dx (.own x)) x (.bR A.dR dx [])) (fun v H2=>v=.cx∧Q (.ref x) H2) E:=by
 intro x dx nx nd ne;refine⟨x,rfl,dx,au,fun H' l h q fr iv ds hl hh hq=>⟨rfl,z _ _ ⟨fun b o e=>fr b o ?_ (aj e nx),⟨l,h,q,iv,ds,?_,?_,?_⟩,nx⟩⟩⟩
 ·rw[ai (aj e nx),ai (aj e nd)];exact e
 ·exact(aE (aE hl).2).2
 ·exact(aE (aE hh).2).2
 ·exact(aE (aE hq).2).2
theorem sS{X:Cx}{pos p:Pos}{k:Nat}(T:Tx X.K X.mg A)(hr:gb 2 X.A)(hg:Gl X "Intervals"):PE X (.Call (.Name "Intervals" p) [] [] pos) (TV A):=
 jP (D1 T.ab4 (N8 T) hr hg T.acd T.QF.b .nil aP) fun σ H Q h=>U9 h
def bB(w:Bytes):Str:=⟨(w.map sg).toArray⟩
theorem iX(w:Bytes):tl (bB w)=w.map sg:=rfl
theorem bL(w:Bytes):(bB w).length=w.length:=by rw[qv,iX,apt]
theorem Ut(b:UInt8):sg b≤124:=by
 unfold sg;split
 ·rename_i h
  rcases dM.mp h with h|h|h|h|h<;>omega
 ·omega
theorem j1{s:String}{v:Bytes}(hv:v.all cE=true)(h:s.toList.map ass=v.map fun c=>c.toNat)(w:Bytes):bB w=aqQ s↔w=v:=by
 rw[←uL hv,←h,←rZ];exact⟨fun e=>by rw[←e];rfl,fun e=>wY e⟩
theorem Zb(c:Nat):∀(l acc:List Nat),∃w r,MC c l=w::r∧xg [c] 0 acc l=(acc++w)::r
 |[],acc=>⟨[],[],rfl,by rw[xt];simp⟩
 |x::l,acc=>by
  by_cases h:x=c
  ·subst h;have hp:pre [x] (x::l)=true:=by simp[pre]
   rw[Qb hp];obtain⟨w,r,e1,e2⟩:=Zb x l [];refine⟨[],w::r,?_,?_⟩
   ·rw[MC,if_pos rfl,e1]
   ·show acc::xg [x] 0 [] l=_;rw[e2];simp
  ·have hp:pre [c] (x::l)=false:=Ls [] l h;rw[KU hp];obtain⟨w,r,e1,e2⟩:=Zb c l (acc++[x]);refine⟨x::w,r,?_,?_⟩
   ·rw[MC,if_neg h,e1]
   ·rw[e2];simp
theorem T8(c:Nat)(l:List Nat):xg [c] 0 [] l=MC c l:=by
 obtain⟨w,r,e1,e2⟩:=Zb c l [];rw[e1,e2];simp
theorem Hl{c:UInt8}(hc:cE c=true){s:String}(hs:s.toList.map ass=[c.toNat])(hk:(aqQ s).cps.all (·<256)=true)(b:Bytes):arw (bB b) (aqQ s)=(cutAt c b).map bB:=by
 have hy:tl (aqQ s)=[c.toNat]:=by rw[rZ,hs]
 apply wJ;rw[Hk _ _ (by rw[hy];simp) (QB hk),hy,T8,iX,MB hc,apJ];rfl
theorem KR(b:Bytes):arw (bB b) (" ":Str)=(cutAt 32 b).map bB:=Hl (c:=32) (by decide) (by decide) (by decide +kernel) b
theorem Nl(b:Bytes):arw (bB b) ("\n":Str)=(cutAt 10 b).map bB:=Hl (c:=10) (by decide) (by decide) (by decide +kernel) b
theorem S3:∀c<125,au8 c=((decide (48≤c)&&decide (c≤57))||(decide (97≤c)&&decide (c≤122))||(decide (65≤c)&&decide (c≤90))):=by decide +kernel
theorem SM:∀c<125,au9 c=(decide (48≤c)&&decide (c≤57)):=by decide +kernel
theorem SY:∀c<125,ava c=((decide (97≤c)&&decide (c≤122))||(decide (65≤c)&&decide (c≤90))):=by decide +kernel
theorem Dv(b:UInt8):(cE b=true∧sg b=b.toNat)∨(cE b=false∧sg b=63):=by
 cases h:cE b
 ·exact .inr ⟨rfl,by unfold sg;rw[h];rfl⟩
 ·exact .inl ⟨rfl,CO h⟩
theorem Ux(b:UInt8):au8 (sg b)=isLetter b:=by
 have hle:=Ut b;rw[S3 _ (by omega),aqe,qC];simp only[aqU,apv,decide_eq_true_eq];rcases Dv b with⟨h,e⟩|⟨h,e⟩
 ·rw[e];rcases dM.mp h with h|h|h|h|h<;>omega
 ·have hn:¬cE b=true:=by rw[h];simp
  rw[dM]at hn;rw[e];omega
theorem Uv(b:UInt8):au9 (sg b)=isDigit b:=by
 have hle:=Ut b;rw[SM _ (by omega),aqe,gQ];simp only[apv,decide_eq_true_eq];rcases Dv b with⟨h,e⟩|⟨h,e⟩
 ·rw[e]
 ·have hn:¬cE b=true:=by rw[h];simp
  rw[dM]at hn;rw[e];omega
theorem Uw(b:UInt8):ava (sg b)=smallLetter b:=by
 have hle:=Ut b;rw[SY _ (by omega),aqe,jJ];simp only[aqU,apv,decide_eq_true_eq];rcases Dv b with⟨h,e⟩|⟨h,e⟩
 ·rw[e];rcases dM.mp h with h|h|h|h|h<;>omega
 ·have hn:¬cE b=true:=by rw[h];simp
  rw[dM]at hn;rw[e];omega
theorem Kh(f:Nat→Bool)(w:Bytes):(bB w).cps.all f=w.all fun b=>f (sg b):=by
 show(w.map sg).toArray.all f=_;rw[List.all_toArray,List.all_map];rfl
theorem OK(w:Bytes):arW (bB w)=(!w.isEmpty&&w.all isLetter):=by
 unfold arW;rw[bL,Kh];congr 1
 ·cases w<;>simp
 ·congr 1;funext b;exact Ux b
theorem OI(w:Bytes):at3 (bB w)=(!w.isEmpty&&w.all isDigit):=by
 unfold at3;rw[bL,Kh];congr 1
 ·cases w<;>simp
 ·congr 1;funext b;exact Uv b
theorem OJ(w:Bytes):at4 (bB w)=(!w.isEmpty&&w.all smallLetter):=by
 unfold at4;rw[bL,Kh];congr 1
 ·cases w<;>simp
 ·congr 1;funext b;exact Uw b
theorem HS{w:Bytes}(h:w.all isDigit=true):w.map sg=w.map fun c=>c.toNat:=by
 refine ny ?_;rw[aqn]at h ⊢;intro c hc;have:=gQ.mp (h c hc);exact dM.mpr (by omega)
theorem ZT{w:Bytes}(h:w.all isDigit=true)(h0:w≠[])(hl:w.length≤640):intText? (bB w)=some ((natIn w:Nat):Int):=by
 have hd:NumText.AllDigits (tl (bB w)):=by
  rw[iX,HS h];intro c hc;obtain⟨b,hb,e⟩:=apW.mp hc;have:=gQ.mp (aqn.mp h b hb);omega
 have e:=intText_digits (x:=bB w) hd (by rw[show(bB w).cps.toList=w.map sg from rfl];simpa using h0) (by rw[bL];omega);rw[e];congr 1;show((auO (tl (bB w)):Nat):Int)=_;rw[iX,HS h];congr 1;unfold natIn auO;rw[List.foldl_map];congr 1;funext n c;rw[auI]
theorem yf:∀r:List Bytes,vB [32] (r.map fun w=>w.map sg)=(spaced r).map sg
 |[]=>rfl
 |[w]=>rfl
 |w::v::r=>by
  have ih:=yf (v::r);show w.map sg++([32]++vB [32] ((v::r).map fun w=>w.map sg))=_;have e:spaced (w::v::r)=w++32::spaced (v::r):=rfl;rw[ih,e,apB,apG];have:sg 32=32:=by decide
  rw[this];rfl
theorem QE(r:List Bytes):atb (" ":Str) (r.map bB)=bB (spaced r):=by
 rw[join_eq];apply wY;rw[CM,iX,←yf,apJ];rfl
def Ys(p:List Nat):Prop:=∀i,p[i]? =some 32→∃c,p[i+1]? =some c∧c≠124
theorem Ag{c:UInt8}(h:isLetter c=true):sg c≠32∧sg c≠124:=by
 have:=qC.mp h;have hg:cE c=true:=dM.mpr (by omega);rw[CO hg];omega
theorem wG:∀n:Name,(∀w∈n,fullWord w=true)→Ys ((spaced n).map sg)
 |[],_=>fun i h=>by simp[spaced]at h
 |[w],hw=>fun i h=>by
  have hf:=dQ (hw w apD);rw[show spaced [w]=w from rfl,apH]at h;cases q:w[i]? with
  |none=>rw[q]at h;cases h
  |some c=>
   rw[q]at h;have:=(Ag (hf.2.2 c (aps q))).1;exact absurd (apC h) this
 |w::v::r,hw=>fun i h=>by
  have hf:=dQ (hw w apD);have hv:=dQ (hw v (apy _ apD));have ih:=wG (v::r) (fun x hx=>hw x (apy _ hx));rw[cI (by simp)]at h ⊢;obtain⟨c,v',ev⟩:=arz hv.1;obtain⟨s',es⟩:∃s',spaced (v::r)=c::s':=by
   cases r with
   |nil=>exact⟨v',ev⟩
   |cons u r=>rw[cI (by simp),ev];exact⟨_,rfl⟩
  have hc:=Ag (hv.2.2 c (by rw[ev];exact apD));rw[apB,apG]at h ⊢;by_cases q:i<w.length
  ·rw[aql (by rw[apt];exact q),apH]at h;obtain⟨x,hx⟩:∃x,w[i]? =some x:=⟨_,apO q⟩;rw[hx]at h;exact absurd (apC h) (Ag (hf.2.2 x (aps hx))).1
  ·by_cases q2:i=w.length
   ·rw[q2,aqh (by rw[apt];omega),apt];have e:w.length+1-w.length=1:=by omega
    rw[e,es];exact⟨sg c,rfl,hc.2⟩
   ·rw[aqh (by rw[apt];omega),apt]at h ⊢;obtain⟨k,hk⟩:∃k,i=w.length+1+k:=⟨i-w.length-1,by omega⟩;have e1:i-w.length=k+1:=by omega
    have e2:i+1-w.length=k+1+1:=by omega
    rw[e1,asA]at h;rw[e2,asA];exact ih k h
theorem UM{p q:List Nat}(h:Ys p):∀i,i<p.length→pre [32,124,32] ((p++q).drop i)=false:=fun i hi=>by
 rw[aqL];intro e;have e':((p++q).drop i).take 3=[32,124,32]:=by
  have:=beq_iff_eq.mp (show(((p++q).drop i).take [32,124,32].length==[32,124,32])=true from e);exact this
 have g:∀k<3,(p++q)[i+k]? =([32,124,32]:List Nat)[k]? :=fun k hk=>by
  rw[←e',atz hk,auK]
 have g0:=g 0 (by decide);have g1:=g 1 (by decide);rw[atB,aql hi]at g0;obtain⟨c,hc,hn⟩:=h i g0;rw[aql (apu.mp hc).1,hc]at g1;exact hn (apC g1)
theorem Hm:∀l:List Name,l≠[]→(∀n∈l,∀w∈n,fullWord w=true)→xg [32,124,32] 0 [] ((namesText l).map sg)=l.map fun n=>(spaced n).map sg
 |[],h,_=>absurd rfl h
 |[n],_,hw=>by
  rw[show namesText [n]=spaced n from rfl,T7 (fun i hi=>by
   have:=UM (q:=[]) (wG n (hw n apD)) i hi;rw[apK]at this;exact this)]
  rfl
 |n::m::r,_,hw=>by
  have ih:=Hm (m::r) (by simp) (fun x hx=>hw x (apy _ hx));have e:(namesText (n::m::r)).map sg=(spaced n).map sg++([32,124,32]++(namesText (m::r)).map sg):=by
   rw[show namesText (n::m::r)=spaced n++(ascii " | "++namesText (m::r))from rfl,apB,apB];rfl
  rw[e,T6 (by simp) (UM (wG n (hw n apD))),ih];rfl
theorem KQ{r:List Bytes}(h:namesOk (namesIn r)=true):arw (atb (" ":Str) (r.map bB)) (" | ":Str)=(namesIn r).map fun n=>bB (spaced n):=by
 obtain⟨h1,h2⟩:=dH h;have e:spaced r=namesText (namesIn r):=by
  rw[ic _ (fun n hn=>by have:=(h2 n hn).1;intro z;rw[z]at this;simp at this),jb]
 have hy:tl (" | ":Str)=[32,124,32]:=by rw[rZ];rfl
 rw[QE,e];apply wJ;rw[Hk _ _ (by rw[hy];simp) (QB (by decide +kernel)),hy,iX,Hm _ h1 (fun n hn=>(h2 n hn).2.2),apJ];rfl
theorem MI:bootBuiltins "int"=some (arB "int"):=by rfl
def v9:Sp:=fun vs H Q _=>∃z m,vs=[.str z,.int m]∧z.length≤sizeLine∧Q (.bl (decide ((z.length:Int)≤m)&&arW z)) H
theorem wD(T:Tx K mg A):bN P w K mg base fU 1 A.pJ A.uX ["word","most"] (v9):=by
 have sc:=Nz;have F:=T.qB.F;walk_at "f"
 ·obtain⟨z,m,rfl,_⟩:=h;rfl
 ·obtain⟨z,m,rfl,hz,k⟩:=h;refine⟨_,(aw (aB (Jh (m8 U2 (bH jy (by rfl) T.ft ap8 (af (pv 0) ax)) (pv 1) (aH _)) (zN (US PySem.F.slot_str_isalnum PySem.F.type_str_isalnum Oj (pv 0)))))),?_⟩;walk_at "z";walk_at "d";refine bW (fun c=>?_) (fun c=>?_)
  ·rw[decide_eq_true c,ase]at k;exact k
  ·rw[decide_eq_false c,at6]at k;exact k
def Qe(s:Str)(n:Int):Bool:=if s="all" then true else decide (n % 2=if s="odd" then 1 else 0)
def og:Sp:=fun vs H Q _=>∃n s,vs=[.int n,.str s]∧Q (.bl (Qe s n)) H
theorem vr(T:Tx K mg A):bN P w K mg base fU 1 A.jl A.lG ["number","side"] (og):=by
 have sc:=Ge;have F:=T.mC.F;walk_at "f"
 ·obtain⟨n,s,rfl,_⟩:=h;rfl
 ·obtain⟨n,z,rfl,k⟩:=h;refine⟨_,(ag (bo (aD cy (pv 1) aR (aH _)) (aw (aB vp)) aM)
 (aw (aB (m8 cy (aZ NX (pv 0) ay) (i9 (aD cy (pv 1) aR (aH _)) ay ay) (aH _))))),?_⟩
  walk_at "z";unfold Qe at k;walk_at "d";refine bW (fun c=>?_) (fun c=>?_)
  ·rw[if_pos c]at k;exact k
  ·rw[if_neg c]at k;refine bW (fun c2=>?_) (fun c2=>?_)
   ·rw[if_pos c2]at k;exact k
   ·rw[if_neg c2]at k;exact k
def cT(lo hi:Nat)(w:Bytes):Int:=match num? lo hi w with
 |some n=>(n:Int)
 |none=> -1
def lW:Sp:=fun vs H Q _=>∃w lo hi,vs=[.str (bB w),.int ((lo:Nat):Int),.int ((hi:Nat):Int)]∧hi<1000000∧w.length≤sizeLine∧Q (.int (cT lo hi w)) H
theorem yE(s:Bytes):ll s=(!s.isEmpty&&(s.all isDigit&&(s.length==1||s.head? != some 48))):=rfl
theorem zW{lo hi:Nat}{w:Bytes}(h:¬(ll w=true∧lo≤natIn w∧natIn w≤hi)):cT lo hi w= -1:=by
 unfold cT num?;rw[if_neg h]
theorem gq(T:Tx K mg A):bN P w K mg base fU 1 A.hC A.ka ["word","least","most"] (lW):=by
 have sc:=DC;have F:=T.dc.F;walk_at "f"
 ·obtain⟨w,lo,hi,rfl,_⟩:=h;rfl
 ·obtain⟨w,lo,hi,rfl,hh,hw,k⟩:=h;refine⟨_,(ag (bo (PW.pt (k8 (aD vq (bH jy (by rfl) T.ft ap8 (af (pv 0) ax)) (bz T.oJ) (aH _)) (i6 (sL (kX (US PySem.F.slot_str_isdigit PySem.F.type_str_isdigit Oh (pv 0))))))) (aw (aB (bz T.gx))) aM)
 (ag (bo (PW.pt (wz (aD cy (bC OF (pv 0) ay (fun _ _=>rfl)) aR (aH _)) (qi (aD vq (bH jy (by rfl) T.ft ap8 (af (pv 0) ax)) ay (aH _))))) (aw (aB (bz T.gx))) aM)
 (ag (aX (i:=3) sc.nd rfl (apN rfl) (uA J8 (by rfl) T.Wa MI (af (pv 0) ax)))
 (ag (bo (PW.pt (k8 (aD LA (pv 3) (pv 1) (aH _)) (i6 (aD vq (pv 3) (pv 2) (aH _))))) (aw (aB (bz T.gx))) aM)
 (aw (aB (pv 3))))))),?_⟩
  walk_at "z";have e1:=bL w;have e2:=OI w;walk_at "d";have Vy:(6<w.length∨¬(!w.isEmpty&&w.all isDigit)=true)→cT lo hi w= -1:=fun h=>zW fun⟨c,h1,h2⟩=>by
   rcases h with h|h
   ·have:=(J5 c 6 (by decide));have h3:natIn w<10 ^ 6:=by omega
    have:=this.mpr h3;omega
   ·rw[yE,←ar3,apv]at c;exact h c.1
  refine bW (fun c=>?_) (fun c=>?_)
  ·rw[Vy (.inl (by omega))]at k;exact k
  ·refine bW (fun c2=>?_) (fun c2=>?_)
   ·rw[Vy (.inr (by rw[c2];simp))]at k;exact k
   ·have c3:(!w.isEmpty&&w.all isDigit)=true:=by simpa using c2
    obtain⟨d1,d2⟩:=asZ.mp c3;have Bf:w≠[]:=by intro z;rw[z]at d1;cases d1
    obtain⟨b,r,ew⟩:=arz Bf;have hb:=gQ.mp (aqn.mp d2 b (by rw[ew];exact apD));have hsb:sg b=b.toNat:=CO (dM.mpr (by omega));have hat:mP (bB w).cps.toList 0=some (sg b):=fZ (j:=0) (by rw[show(bB w).cps.toList=w.map sg from rfl,ew];rfl);have hc0:(({cps:= #[sg b]}:Str)=("0":Str))↔b=48:=by
     have:=j1 (s:="0") (v:=[48]) (by decide) (by decide) [b];rw[show bB [b]=({cps:= #[sg b]}:Str)from rfl]at this;rw[this];simp
    have hint:=ZT d2 Bf (by omega);have fin:ll w=true→(∃x,intText? (bB w)=some x∧w.length≤640∧if x<(lo:Int)then Q (V.int (-1)) H else if(hi:Int)<x then Q (V.int (-1)) H else Q (V.int x) H):=fun ahR=>by
     refine⟨_,hint,by omega,?_⟩;by_cases r:lo≤natIn w∧natIn w≤hi
     ·have:cT lo hi w=(natIn w:Nat):=by unfold cT num?;rw[if_pos ⟨ahR,r⟩]
      rw[this]at k;rw[if_neg (by omega),if_neg (by omega)];exact k
     ·rw[zW (fun z=>r z.2)]at k;refine bW (fun _=>k) (fun _=>bW (fun _=>k) (fun _=>by omega))
    refine⟨_,hat,?_⟩;refine bW (fun c4=>?_) (fun c4=>?_)
    ·replace c4:=hc0.mp c4;refine bW (fun c5=>?_) (fun c5=>?_)
     ·rw[zW]at k
      ·exact k
      ·rintro⟨c,_,_⟩;rw[ew]at c5 c;cases r with
       |nil=>simp at c5
       |cons x y=>rw[yE,c4]at c;simp at c
     ·refine fin ?_;rw[yE,←ar3,c3];have:w.length=1:=by rw[ew]at c5 ⊢;simp only[apz]at c5 ⊢;omega
      rw[this];rfl
    ·have c4:¬b=48:=fun z=>c4 (hc0.mpr z);refine fin ?_;rw[yE,←ar3,c3,ew];simp[c4]
def fH(w:Bytes):Int:=match cz w with
 |some c=>((c.toNat-96:Nat):Int)
 |none=>0
def lX:Sp:=fun vs H Q _=>∃w,vs=[.str (bB w)]∧w.length≤sizeLine∧Q (.int (fH w)) H
theorem sT(T:Tx K mg A):bN P w K mg base fU 1 A.hE A.kb ["word"] (lX):=by
 have sc:=DD;have F:=T.ko.F;walk_at "f"
 ·obtain⟨w,rfl,_⟩:=h;rfl
 ·obtain⟨w,rfl,hw,k⟩:=h;refine⟨_,(ag (bo (PW.pt (k8 (aD m9 (bH jy (by rfl) T.ft ap8 (af (pv 0) ax)) ay (aH _)) (i6 (sL (kX (US PySem.F.slot_str_isalpha PySem.F.type_str_isalpha Oi (pv 0))))))) (aw (aB (bz T.iO))) aM)
 (aw (aB (aZ dD (aZ dS (bH Fs (by rfl) T.MN asT (af (pv 0) ax)) (bH Fs (by rfl) T.MN asT (af aR ax))) ay)))),?_⟩
  walk_at "z";have e1:=bL w;have e2:=OJ w;walk_at "d";refine bW (fun c=>?_) (fun c=>?_)
  ·have:fH w=0:=by
    unfold fH cz
    match w,c with
    |[],_=>rfl
    |[b],c=>exact absurd rfl c
    |_::_::_,_=>rfl
   rw[this]at k;exact k
  ·match w,c,k with
   |[],c,_=>exact absurd (show¬((0:Int)=1) by decide) c
   |_::_::r,c,_=>exact absurd (show¬(((r.length+1+1:Nat):Int)=1) by omega) c
   |[b],c,k=>
    cases hb:smallLetter b with
    |false=>
     have e0:(!avX [b]&&List.all [b] smallLetter)=false:=by simp[hb]
     rw[if_pos e0];have:fH [b]=0:=by unfold fH cz;simp[hb]
     rw[this]at k;exact k
    |true=>
     have e0:¬(!avX [b]&&List.all [b] smallLetter)=false:=by simp[hb]
     rw[if_neg e0];refine⟨rfl,rfl,?_⟩;have Z9:=jJ.mp hb;have hsb:sg b=b.toNat:=CO (dM.mpr (by omega));have e3:fH [b]=((b.toNat-96:Nat):Int):=by unfold fH cz;simp[hb]
     have e4:(bB [b]).cps.getD 0 0=b.toNat:=by rw[←hsb];rfl
     have e5:((aqQ "a").cps.getD 0 0:Nat)=97:=by decide +kernel
     rw[e4,e5];have:((b.toNat:Int)-(97:Nat)+1)=fH [b]:=by rw[e3];omega
     rw[this];exact k
def LR(l:Nat):Bytes:=if l=0 then[]else[apM (l+96)]
def Dl:Sp:=fun vs H Q _=>∃l,vs=[.int ((l:Nat):Int)]∧l≤26∧Q (.str (bB (LR l))) H
theorem LV:∀l<26,("abcdefghijklmnopqrstuvwxyz":Str).cps.toList[l]? =some (sg (apM (l+97))):=by decide +kernel
theorem D8(T:Tx K mg A):bN P w K mg base fU 1 A.hJ A.kc ["letter"] (Dl):=by
 have sc:=DE;have F:=T.tH.F;walk_at "f"
 ·obtain⟨l,rfl,_⟩:=h;rfl
 ·obtain⟨l,rfl,hl,k⟩:=h;refine⟨_,(aw (aB (i9 (aD cy (pv 0) (bz T.iO) (aH _)) aR (bC OF (Ya T.uN) (aZ dS (pv 0) ay) (fun _ _=>rfl))))),?_⟩;walk_at "z";walk_at "d";refine bW (fun c=>?_) (fun c=>?_)
  ·have:l=0:=by omega
   subst this;exact k
  ·refine⟨by decide +kernel,sg (apM (l-1+97)),?_,?_⟩
   ·have e:((l:Int)-1)=((l-1:Nat):Int):=by omega
    rw[e];exact fZ (LV (l-1) (by omega))
   ·have e:LR l=[apM (l-1+97)]:=by
     unfold LR;rw[if_neg (by omega)];congr 2;omega
    rw[e]at k;exact k
local macro_rules|`(tactic|walk_at "o")=>zzR " BG lW lX v9 og"
def ln0(k:Str)(na:Addr):List (Str×V):=oO (.str k) (.ref na) (.str "") (.int 0) (.int 0) (.int 0) (.int 1) (.int 0) (.int 0) (.bl false) (.int 0)
def RF(A:Ad):Sp:=fun vs H Q _=>∃p k,vs=[.ref p,.str k]∧∃dx,H p=some (.bR A.dU dx [])∧∀H' na,(∀b o,H b=some o→b≠p→H' b=some o)→H na=none→H' na=some (.aN [])→H' p=some (.bR A.dU dx (ln0 k na))→Q .cx H'
theorem N7(T:Tx K mg A):bN P w K mg base fU 1 A.pH A.uV ["self","kind"] (RF A):=by
 have sc:=Nw;have F:=T.Qu.F;walk_at "f"
 ·obtain⟨p,k,rfl,_⟩:=h;rfl
 ·obtain⟨p,z,rfl,dx,hp,k⟩:=h;refine⟨_,(ag (aW (pv 0) (pv 1) rfl)
 (ag (aW (pv 0) (cG ax) rfl)
 (ag (aW (pv 0) aR rfl)
 (ag (aW (pv 0) ay rfl)
 (ag (aW (pv 0) ay rfl)
 (ag (aW (pv 0) ay rfl)
 (ag (aW (pv 0) ay rfl)
 (ag (aW (pv 0) ay rfl)
 (ag (aW (pv 0) ay rfl)
 (ag (aW (pv 0) vp rfl)
 (aw (aW (pv 0) ay rfl)))))))))))),?_⟩
  walk_at "z";walk_at "s";refine auJ ?_ fun na OR=>?_
  ·decide
  obtain⟨n1,OR⟩:=aE OR;walk_at "s";refine Rl ((ai n1.symm).trans au) C.pR C.gv (by decide:1<1000) ?_;walk_at "s";simp only[j5];refine k _ na (fun b o e hb=>?_) OR ?_ au
  ·rw[ai hb,ai (aj e OR),ai hb];exact e
  ·rw[ai n1,au]
structure uq(A:Ad)(H H':Hp)(p na dx:Addr)(fs:List (Str×V)):Prop where
 same:aV H H'
 obj:H' p=some (.bR A.dU dx fs)
 Oe:H' na=some (.aN [])
 free:H p=none∧H na=none
theorem uq.ne{H H':Hp}{p na dx:Addr}{fs:List (Str×V)}(h:uq A H H' p na dx fs):na≠p:=dy h.Oe h.obj nofun
theorem uq.put{H H':Hp}{p na dx:Addr}{fs E7:List (Str×V)}(h:uq A H H' p na dx fs):uq A H (aJ H' p (.bR A.dU dx E7)) p na dx E7:=
 ⟨fun b o e=>by rw[ai (aj e h.free.1)];exact h.same b o e,au,by rw[ai h.ne];exact h.Oe,h.free⟩
theorem uq.on{H H' H2:Hp}{p na dx:Addr}{fs:List (Str×V)}(h:uq A H H' p na dx fs)(s:aV H' H2):uq A H H2 p na dx fs:=
 ⟨h.same.trans s,s _ _ h.obj,s _ _ h.Oe,h.free⟩
def TU(A:Ad)(te:TE):TE:=fun σ H Q=>te σ H fun x H1=>∃k,x=.str k∧∀H' p na dx,uq A H1 H' p na dx (ln0 k na)→Q (.ref p) H'
theorem xO{X:Cx}{e:Expr}{te:TE}{pos p:Pos}(T:Tx X.K X.mg A)(hr:gb 2 X.A)(hg:Gl X "Line")(he:PE X e te)(j7:starEach [e] X.env=[(false,eval e X.env)]:=by rfl):PE X (.Call (.Name "Line" p) [e] [] pos) (TU A te):=
 jP (xP T.ab3 (N7 T) hr hg T.acb T.Qu.b .nil aP (af (cp he) ax (hs:=j7)) (he:=j7) (Kp:=rfl)) fun σ H Q h=>by
  refine⟨_,h,fun x H1 ⟨k,ex,q⟩=>?_⟩;subst ex;intro x dx nx nd ne;refine⟨x,k,rfl,dx,au,fun H' na fr OR aht hp=>⟨rfl,q _ _ na dx ⟨fun b o e=>fr b o ?_ (aj e nx),hp,aht,nx,(aE (aE OR).2).2⟩⟩⟩;rw[ai (aj e nx),ai (aj e nd)];exact e
def df:DLine→Str
 | .town _=>"town"
 | .code _=>"code"
 | .street _=>"street"
 | .span _=>"span"
 | .letters _ _ _=>"letters"
 | .boxes _=>"boxes"
def iS(x:DLine)(na:Addr):List (Str×V):=oO (.str (df x)) (.ref na) (.str (bB (L5 x))) (.int (acq x)) (.int (fB x)) (.int (QA x)) (.int (eG x)) (.int (bD x)) (.int (bM x)) (.bl (Yh x)) (.int x.points)
def abU(x:DLine):List V:=(ZH x).map fun n=>V.str (bB (spaced n))
structure lI(A:Ad)(H:Hp)(p na dx:Addr)(x:DLine):Prop where
 obj:H p=some (.bR A.dU dx (iS x na))
 Oe:H na=some (.aN (abU x))
def oF(A:Ad)(o:Option DLine)(H:Hp)(Q:VK):Prop:=match o with
 |none=>∀H',aV H H'→Q .cx H'
 |some x=>∀H' p na dx,aV H H'→H p=none→H na=none→lI A H' p na dx x→Q (.ref p) H'
theorem EJ(b:Bytes)(m:Nat):(decide (((b.length:Nat):Int)≤((m:Nat):Int))&&arW (bB b))=(within 1 m b.length&&b.all isLetter):=by
 rw[OK,aqe];simp only[apv,decide_eq_true_eq,gc,arX];constructor
 ·rintro⟨h1,h2,h3⟩;refine⟨⟨?_,by omega⟩,h3⟩;cases b with
  |nil=>cases h2
  |cons x y=>exact au3 (apV _)
 ·rintro⟨⟨h1,h2⟩,h3⟩;refine⟨by omega,?_,h3⟩;cases b with
  |nil=>simp at h1
  |cons x y=>rfl
theorem Be(b:Bytes):(decide (((b.length:Nat):Int)≤12)&&arW (bB b))=codeOk b:=EJ b 12
theorem Ma(b:Bytes):(decide (((b.length:Nat):Int)≤32)&&arW (bB b))=fullWord b:=by
 rw[show(32:Int)=((32:Nat):Int)from rfl,EJ,aqe];unfold fullWord wordOk LONG;simp only[apv,decide_eq_true_eq,gc,arX];constructor
 ·rintro⟨⟨h1,h2⟩,h3⟩;refine⟨⟨h2,h3⟩,?_⟩;cases b with
  |nil=>simp at h1
  |cons x y=>rfl
 ·rintro⟨⟨h2,h3⟩,h4⟩;refine⟨⟨?_,h2⟩,h3⟩;cases b with
  |nil=>cases h4
  |cons x y=>exact au3 (apV _)
def ID(A:Ad):Sp:=fun vs H Q _=>∃l,vs=[.ref l]∧∃r:List Bytes,H l=some (.aN (r.map fun w=>V.str (bB w)))∧(∀w∈r,w.length≤sizeLine)∧oF A ((code? r).map .code) H Q
theorem Jl(T:Tx K mg A):bN P w K mg base fU 3 A.kI A.nP ["told"] (ID A):=by
 have sc:=IP;have F:=T.zK.F;walk_at "f"
 ·obtain⟨l,rfl,_⟩:=h;rfl
 ·obtain⟨l,rfl,r,hl,Cq,k⟩:=h;refine⟨_,(ag (bo (PW.pt (k8 (aD m9 (bH cv (by rfl) T.ft ap8 (af (pv 0) ax)) ay (aH _)) (i6 (sL (kX (br (wD T) hr.mn rfl T.An T.qB.F.kp T.qB.b .nil aP (af (bC dm (pv 0) ay (fun _ _=>rfl)) (af (bz T.fY) ax)))))))) (aw (aB cj)) aM)
 (ag (aX (i:=1) sc.nd rfl (apN rfl) (xO T hr.mn rfl aR))
 (ag (aW (pv 1) (bC dm (pv 0) ay (fun _ _=>rfl)) rfl)
 (aw (aB (pv 1)))))),?_⟩
  walk_at "z";walk_at "d";refine bW (fun c=>?_) (fun c=>?_)
  ·have:code? r=none:=by
    match r,c with
    |[],_=>rfl
    |[b],c=>exact absurd rfl c
    |_::_::_,_=>rfl
   rw[this]at k;exact k H (aV.refl _)
  ·match r,c,k,hl,Cq with
   |[],c,_,_,_=>exact absurd (show¬((0:Int)=1) by decide) c
   |_::_::r,c,_,_,_=>exact absurd (show¬(((r.length+1+1:Nat):Int)=1) by omega) c
   |[b],c,k,hl,Cq=>
    have hb:=Cq b apD;have ec:=Be b;refine⟨_,qW (k:=0) rfl,_,rfl,by rw[bL];exact hb,?_⟩;rw[bL,ec];refine bW (fun c2=>?_) (fun c2=>?_)
    ·have:code? [b]=none:=if_neg (by rw[c2];simp);rw[this]at k;exact k H (aV.refl _)
    ·have c3:codeOk b=true:=by simpa using c2
     have:code? [b]=some b:=if_pos c3;rw[this]at k;refine⟨_,rfl,fun H' p na dx N=>?_⟩;have tN:=N.same _ _ hl;have ho:=N.obj;refine⟨_,tN,_,qW (k:=0) rfl,p,rfl,_,_,_,ho,C.pR,C.o9,(by decide:11<1000),?_⟩;have N2:=N.put (E7:=iS (.code b) na);exact k _ p na dx N2.same N2.free.1 N2.free.2 ⟨N2.obj,N2.Oe⟩
theorem yU:∀r:List Bytes,(r.map arD).sum≤(spaced r).length
 |[]=>apV _
 |[w]=>by simp[spaced]
 |w::v::r=>by
  have ih:=yU (v::r);have e:spaced (w::v::r)=w++32::spaced (v::r):=rfl;rw[e,apr,apz,apG,ato];omega
def ZE(t:Bool)(l:List Name):DLine:=if t=true then .town l else .street l
def OE(t:Bool):Str:=if t=true then"town" else"street"
def F5(A:Ad):Sp:=fun vs H Q _=>∃k l,vs=[.str k,.ref l]∧∃(t:Bool) (r:List Bytes),k=OE t∧H l=some (.aN (r.map fun w=>V.str (bB w)))∧(∀w∈r,w.length≤sizeLine)∧(spaced r).length+r.length+2≤16000000∧oF A ((ml r).map (ZE t)) H Q
def U8(kd:Str)(l:Addr)(r:List Bytes)(H:Hp)(i:Nat)(σ:L2.Internal.St)(H':Hp):Prop:=∃(k:Nat) (v:Option V),σ=[some (.str kd),some (.ref l),some (.int (k:Int)),v,none]∧H'=H∧jS 0 r=jS k (r.drop i)
theorem Gi(T:Tx K mg A):bN P w K mg base fU 3 A.jj A.lE ["kind","told"] (F5 A):=by
 have sc:=Gb;have F:=T.wx.F;walk_at "f"
 ·obtain⟨k,l,rfl,_⟩:=h;rfl
 ·obtain⟨_,l,rfl,t,r,rfl,hl,Cq,hz,k⟩:=h;refine⟨_,(ag (aX (i:=2) sc.nd rfl (apN rfl) ay)
 (ag (wA ara rfl (mZ (pv 1)) (fW (i:=3) sc.nd rfl (apN rfl)) (aw (bo (PW.pt (wz (aD cy (pv 3) aR (aH _)) (qi (aD vq (pv 2) ay (aH _))))) (aw (aX (i:=2) sc.nd rfl (apN rfl) ay)) (aw (bo (PW.pt (wz (kX (br (wD T) hr.mn rfl T.An T.qB.F.kp T.qB.b .nil aP (af (pv 3) (af (bz T.je) ax)))) (qi (aD LA (pv 2) (bz T.qx) (aH _))))) (aw (Zk (i:=2) sc.nd rfl (apN rfl) ay ZS)) (aw (aB cj)))))))
 (ag (bo (aD cy (pv 2) ay (aH _)) (aw (aB cj)) aM)
 (ag (aX (i:=4) sc.nd rfl (apN rfl) (xO T hr.mn rfl (pv 0)))
 (ag (aW (pv 4) (D0 (Jf aR (pv 1)) aR) rfl)
 (aw (aB (pv 4)))))))),?_⟩
  walk_at "z";walk_at "d";refine⟨_,rfl,l,rfl,⟨_,jH.of hl⟩,yr (K:=K) (a:=l) (xs:=r.map fun w=>V.str (bB w)) (U8 (OE t) l r H) ⟨0,none,rfl,rfl,rfl⟩ (fun i σ H' _ ⟨_,_,_,e,_⟩=>by rw[e];exact jH.of hl) ?_ ?_⟩
  ·rintro i x σ H' hi ⟨n,v,rfl,rfl,hn⟩;rw[apH]at hi;obtain⟨b,hb,rfl⟩:=apF.mp hi;have gX:=(apu.mp hb).1;have hd:r.drop i=b::r.drop (i+1):=by rw[asi gX,(apu.mp hb).2]
   have hbl:=Cq b (aps hb);have hw:=bL b;have hf:=Ma b;have anO:=j1 (s:="|") (v:=[124]) (by decide) (by decide) b;rw[hd,jS]at hn;walk_at "d";have fail:(¬(b=[124]∧0<n))→(¬(fullWord b=true∧n<8))→Q .cx H':=fun h1 h2=>by
    rw[if_neg h1,if_neg h2]at hn;have:ml r=none:=by unfold ml;rw[hn];rfl
    rw[this]at k;exact k H' (aV.refl _)
   have good:(¬(b=[124]∧0<n))→fullWord b=true→n<8→U8 (OE t) l r H' (i+1) [some (V.str (OE t)),some (V.ref l),some (V.int ((n:Int)+1)),some (V.str (bB b)),none] H':=fun h1 h2 h3=>by
    rw[if_neg h1,if_pos ⟨h2,h3⟩]at hn;exact⟨n+1,_,rfl,rfl,hn⟩
   have rest:(¬(b=[124]∧0<n))→if fullWord b=true then if(n:Int)<8 then U8 (OE t) l r H' (i+1) [some (V.str (OE t)),some (V.ref l),some (V.int ((n:Int)+1)),some (V.str (bB b)),none] H' else Q V.cx H' else Q V.cx H':=fun h1=>
    bW (fun h2=>bW (fun h3=>good h1 h2 (by omega)) fun h3=>fail h1 (fun z=>h3 (by omega))) fun h2=>fail h1 (fun z=>h2 z.1)
   refine bW (fun c=>bW (fun c2=>?_) fun c2=>rest (fun z=>c2 (by omega))) fun c=>rest (fun z=>c z.1);rw[if_pos ⟨c,by omega⟩]at hn;exact⟨0,_,rfl,rfl,hn⟩
  ·rintro σ H' ⟨n,v,rfl,rfl,hn⟩;rw[apt,atD]at hn;walk_at "d";refine bW (fun c=>?_) (fun c=>?_)
   ·have:ml r=none:=by
     unfold ml;rw[hn,jS];have:n=0:=by omega
     rw[this];rfl
    rw[this]at k;exact k H' (aV.refl _)
   ·have hP:jS 0 r=true:=by rw[hn,jS];simp;omega
    have ek:ml r=some (namesIn r):=by unfold ml;rw[hP];rfl
    rw[ek]at k;refine⟨_,rfl,_,rfl,fun H2 p na dx N=>?_⟩;have tN:=N.same _ _ hl;have ana:=yU r;have hj:=QE r;have e1:((r.map bB).map fun x=>x.length)=r.map arD:=by
     rw[apJ];apply aqk;intro b _;exact bL b
    have e3:(" ":Str).length=1:=rfl;have hs:=sizeLine_eq;refine⟨r.map bB,.inl (jH.of (by rw[apJ];exact tN)),?_,rfl,?_,?_⟩
    ·rw[e1,e3,apt];omega
    ·rw[hj,bL];omega
    ·rw[KQ (by rw[←HB];exact hP)];intro nb hnb;have N3:=N.on (H2:=aJ H2 nb (.aN (((namesIn r).map fun n=>bB (spaced n)).map V.str))) (fun b o e=>by rw[ai (aj e hnb)];exact e);refine⟨p,rfl,_,_,_,N3.obj,C.pR,C.gv,(by decide:11<1000),?_⟩;have N4:=N3.put (E7:=iS (ZE t (namesIn r)) nb);have ef:cA ("names":Str) (.ref nb) (ln0 (OE t) na)=iS (ZE t (namesIn r)) nb:=by cases t<;>rfl
     rw[ef];have nbp:nb≠p:=fun z=>by rw[z,N.obj]at hnb;cases hnb
     refine k _ p nb dx N4.same N4.free.1 (N.same.free hnb) ⟨N4.obj,?_⟩;rw[ai nbp,au,apJ];cases t<;>rfl
local macro_rules|`(tactic|walk_at "o")=>zzR " BG lW lX v9 og TU"
theorem nc{lo hi:Nat}{w:Bytes}:(cT lo hi w= -1↔num? lo hi w=none)∧∀n,num? lo hi w=some n→cT lo hi w=(n:Int):=by
 unfold cT;cases num? lo hi w with
 |none=>exact⟨by simp,fun n h=>by cases h⟩
 |some m=>exact⟨by simp,fun n h=>by cases h;rfl⟩
def WN(kd:Str)(na:Addr)(c:Bytes)(a b w f:Int):List (Str×V):=oO (.str kd) (.ref na) (.str (bB c)) (.int 0) (.int a) (.int b) (.int 1) (.int w) (.int f) (.bl false) (.int 0)
def Y7(A:Ad)(kd:Str)(o:Option (Nat×Nat×Bytes×Nat×Nat))(H:Hp)(Q:VK):Prop:=match o with
 |none=>∀H',aV H H'→Q .cx H'
 |some x=>∀H' p na dx,uq A H H' p na dx (WN kd na x.2.2.1 x.1 x.2.1 x.2.2.2.1 x.2.2.2.2)→Q (.ref p) H'
def BI(A:Ad):Sp:=fun vs H Q _=>∃kd l m,vs=[.str kd,.ref l,.int ((m:Nat):Int)]∧m<1000000∧∃a b c w f:Bytes,H l=some (.aN ([a,b,c,w,f].map fun w=>V.str (bB w)))∧(∀x∈[a,b,c,w,f],x.length≤sizeLine)∧Y7 A kd (dw m a b c w f) H Q
theorem rb(T:Tx K mg A):bN P w K mg base fU 3 A.gz A.jn ["kind","told","most"] (BI A):=by
 have sc:=BM;have F:=T.i5.F;walk_at "f"
 ·obtain⟨kd,l,m,rfl,_⟩:=h;rfl
 ·obtain⟨kd,l,m,rfl,hm,a,b,c,w,f,hl,hz,k⟩:=h;refine⟨_,(ag (aX (i:=3) sc.nd rfl (apN rfl) (xO T hr.mn rfl (pv 0)))
 (ag (aW (pv 3) (br (gq T) hr.mn rfl T.g7 T.dc.F.kp T.dc.b .nil aP (af (bC dm (pv 1) ay (fun _ _=>rfl)) (af ay (af (pv 2) ax)))) rfl)
 (ag (aW (pv 3) (br (gq T) hr.mn rfl T.g7 T.dc.F.kp T.dc.b .nil aP (af (bC dm (pv 1) ay (fun _ _=>rfl)) (af ay (af (pv 2) ax)))) rfl)
 (ag (aW (pv 3) (bC dm (pv 1) ay (fun _ _=>rfl)) rfl)
 (ag (aW (pv 3) (br (gq T) hr.mn rfl T.g7 T.dc.F.kp T.dc.b .nil aP (af (bC dm (pv 1) ay (fun _ _=>rfl)) (af ay (af (bz T.tK) ax)))) rfl)
 (ag (aW (pv 3) (br (gq T) hr.mn rfl T.g7 T.dc.F.kp T.dc.b .nil aP (af (bC dm (pv 1) ay (fun _ _=>rfl)) (af ay (af (bz T.qz) ax)))) rfl)
 (ag (bo (aD CQ (bz T.gx) (sQ (af (aq (pv 3) rfl) (af (aq (pv 3) rfl) (af (aq (pv 3) rfl) (af (aq (pv 3) rfl) ax))))) (by first|exact aH _|rfl)) (aw (aB cj)) aM)
 (ag (bo (PW.pt (k8 (aD vq (aq (pv 3) rfl) (aq (pv 3) rfl) (aH _)) (i6 (sL (kX (br (wD T) hr.mn rfl T.An T.qB.F.kp T.qB.b .nil aP (af (aq (pv 3) rfl) (af (bz T.fY) ax)))))))) (aw (aB cj)) aM)
 (aw (aB (pv 3))))))))))),?_⟩
  walk_at "z";refine bt fun R n1=>⟨_,rfl,_,rfl,fun H1 p na dx N=>n1.go _ _ ?_⟩;clear n1 R;have npl:l≠p:=aj hl N.free.1;have npa:=N.ne;have z0:mP [V.str (bB a),V.str (bB b),V.str (bB c),V.str (bB w),V.str (bB f)] 0=some (.str (bB a)):=rfl;have z1:mP [V.str (bB a),V.str (bB b),V.str (bB c),V.str (bB w),V.str (bB f)] 1=some (.str (bB b)):=rfl;have z2:mP [V.str (bB a),V.str (bB b),V.str (bB c),V.str (bB w),V.str (bB f)] 2=some (.str (bB c)):=rfl;have z3:mP [V.str (bB a),V.str (bB b),V.str (bB c),V.str (bB w),V.str (bB f)] 3=some (.str (bB w)):=rfl;have z4:mP [V.str (bB a),V.str (bB b),V.str (bB c),V.str (bB w),V.str (bB f)] 4=some (.str (bB f)):=rfl;have ba:=hz a (by simp);have bb:=hz b (by simp);have bc:=hz c (by simp);have bw:=hz w (by simp);have bf:=hz f (by simp);clear hz;have VA:=N.same _ _ hl;simp only[apG,arv]at VA;have ho:=N.obj;unfold ln0 at ho;walk_at "g";refine⟨a,rfl,1,rfl,m,rfl,hm,ba,n1.go _ _ ?_⟩;clear n1 R;have hu:∀o,aJ H1 p o l=some (.aN [V.str (bB a),V.str (bB b),V.str (bB c),V.str (bB w),V.str (bB f)]):=fun o=>by rw[ai npl];exact VA
  clear ho;walk_at "g";refine⟨b,rfl,1,rfl,m,rfl,hm,bb,n1.go _ _ ?_⟩;clear n1 R;walk_at "g";walk_at "n";walk_at "g";refine⟨w,rfl,0,rfl,9999,rfl,by decide,bw,n1.go _ _ ?_⟩;clear n1 R;walk_at "g";refine⟨f,rfl,0,rfl,900000,rfl,by decide,bf,n1.go _ _ ?_⟩;clear n1 R;have e0:=bL c;have e1:=Be c;walk_at "g";refine⟨(by show 4≤sizeLine;decide),fun q hq=>?_⟩;have N1:=N.put (E7:=WN kd na c (cT 1 m a) (cT 1 m b) (cT 0 9999 w) (cT 0 900000 f));have N2:=N1.on (H2:=aJ (aJ H1 p (.bR A.dU dx (WN kd na c (cT 1 m a) (cT 1 m b) (cT 0 9999 w) (cT 0 900000 f)))) q (HO.fR [V.int (cT 1 m a),V.int (cT 1 m b),V.int (cT 0 9999 w),V.int (cT 0 900000 f)])) (fun b o e=>by rw[ai (aj e hq)];exact e);replace n1:Nx _ R:=n1;show if _ then Q V.cx (aJ (aJ H1 p (.bR A.dU dx (WN kd na c (cT 1 m a) (cT 1 m b) (cT 0 9999 w) (cT 0 900000 f)))) q (HO.fR [V.int (cT 1 m a),V.int (cT 1 m b),V.int (cT 0 9999 w),V.int (cT 0 900000 f)]))else R _ (aJ (aJ H1 p (.bR A.dU dx (WN kd na c (cT 1 m a) (cT 1 m b) (cT 0 9999 w) (cT 0 900000 f)))) q (HO.fR [V.int (cT 1 m a),V.int (cT 1 m b),V.int (cT 0 9999 w),V.int (cT 0 900000 f)]))
  generalize aJ (aJ H1 p (.bR A.dU dx (WN kd na c (cT 1 m a) (cT 1 m b) (cT 0 9999 w) (cT 0 900000 f)))) q (HO.fR [V.int (cT 1 m a),V.int (cT 1 m b),V.int (cT 0 9999 w),V.int (cT 0 900000 f)])=H2 at N2 ⊢;clear N1 hu VA hq npl npa z0 z1 z2 z3 z4 N;have ein:Wq (V.int (-1)) [V.int (cT 1 m a),V.int (cT 1 m b),V.int (cT 0 9999 w),V.int (cT 0 900000 f)]=true↔(num? 1 m a=none∨num? 1 m b=none∨num? 0 9999 w=none∨num? 0 900000 f=none):=by
   show((cT 1 m a== -1)||((cT 1 m b== -1)||((cT 0 9999 w== -1)||((cT 0 900000 f== -1)||false))))=true↔_;simp only[aqU,beq_iff_eq,aqb,or_false,nc.1]
  refine bW (fun cc=>?_) (fun cc=>n1.go _ _ ?_)
  ·have:dw m a b c w f=none:=by
    unfold dw;rcases ein.mp cc with h|h|h|h<;>rw[h]
    ·cases num? 1 m a<;>rfl
    ·cases num? 1 m a<;>cases num? 1 m b<;>rfl
    ·cases num? 1 m a<;>cases num? 1 m b<;>cases num? 0 9999 w<;>rfl
   rw[this]at k;exact k _ N2.same
  ·have cc:¬(num? 1 m a=none∨num? 1 m b=none∨num? 0 9999 w=none∨num? 0 900000 f=none):=fun z=>cc (ein.mpr z);clear n1 R;cases qa:num? 1 m a with
   |none=>exact absurd (.inl qa) cc
   |some a'=>
   cases qb:num? 1 m b with
   |none=>exact absurd (.inr (.inl qb)) cc
   |some b'=>
   cases qw:num? 0 9999 w with
   |none=>exact absurd (.inr (.inr (.inl qw))) cc
   |some w'=>
   cases qf:num? 0 900000 f with
   |none=>exact absurd (.inr (.inr (.inr qf))) cc
   |some f'=>
   rw[nc.2 _ qa,nc.2 _ qb,nc.2 _ qw,nc.2 _ qf]at N2;have es:dw m a b c w f=if a'≤b'∧codeOk c=true then some (a',b',c,w',f')else none:=by unfold dw;rw[qa,qb,qw,qf]
   rw[es]at k;have ho:=N2.obj;unfold WN at ho;clear ein cc es qa qb qw qf;walk_at "d";refine bW (fun c1=>?_) (fun c1=>?_)
   ·rw[if_neg (fun z=>by omega)]at k;exact k _ N2.same
   ·refine bW (fun c2=>?_) (fun c2=>?_)
    ·rw[if_neg (fun z=>by rw[z.2]at c2;cases c2)]at k;exact k _ N2.same
    ·rw[if_pos ⟨by omega,by simpa using c2⟩]at k;exact k _ p na dx N2
abbrev PL(H:Hp)(l:Addr)(r:List Bytes):Prop:=H l=some (.aN (r.map fun w=>V.str (bB w)))
def F6(A:Ad):Sp:=fun vs H Q _=>∃l,vs=[.ref l]∧∃r:List Bytes,PL H l r∧(∀w∈r,w.length≤sizeLine)∧oF A ((Fv r).map .boxes) H Q
theorem agP{α:Type}:∀{r:List α},((r.length:Nat):Int)=5→∃a b c d e,r=[a,b,c,d,e]
 |[a,b,c,d,e],_=>⟨a,b,c,d,e,rfl⟩
 |[],h=>absurd h (by simp)
 |[_],h=>absurd h (by simp)
 |[_,_],h=>absurd h (by simp)
 |[_,_,_],h=>absurd h (by simp)
 |[_,_,_,_],h=>absurd h (by simp)
 |_::_::_::_::_::_::r,h=>absurd h (by simp only[apz];omega)
theorem V7{r:List Bytes}(h:¬((r.length:Nat):Int)=5):Fv r=none:=by
 rcases r with _|⟨a,_|⟨b,_|⟨c,_|⟨d,_|⟨e,_|⟨f,r⟩⟩⟩⟩⟩⟩<;>first|rfl|exact absurd rfl h
theorem Gj(T:Tx K mg A):bN P w K mg base fU 4 A.jk A.lF ["told"] (F6 A):=by
 have sc:=Gd;have F:=T.wy.F;walk_at "f"
 ·obtain⟨l,rfl,_⟩:=h;rfl
 ·obtain⟨l,rfl,r,hl,Cq,k⟩:=h;refine⟨_,(ag (bo (aD m9 (bH cv (by rfl) T.ft ap8 (af (pv 0) ax)) ay (aH _)) (aw (aB cj)) aM)
 (ag (aX (i:=1) sc.nd rfl (apN rfl) (br (rb T) hr.mn rfl T.tP T.i5.F.kp T.i5.b .nil aP (af aR (af (pv 0) (af (bz T.wQ) ax)))))
 (ag (bo (aD kY (pv 1) cj (aH _)) (aw (aB cj)) aM)
 (ag (aW (pv 1) (aZ dD (aZ dS (aq (pv 1) rfl) (aq (pv 1) rfl)) ay) rfl)
 (aw (aB (pv 1))))))),?_⟩
  walk_at "z";walk_at "g";refine bW (fun c=>?_) (fun c=>n1.go _ _ ?_)
  ·rw[V7 c]at k;exact k _ (aV.refl _)
  ·clear n1 R;obtain⟨a,b,cc,w,f,rfl⟩:=agP (by omega:((r.length:Nat):Int)=5);have eb:Fv [a,b,cc,w,f]=(dw 999999 a b cc w f).map fun x=>⟨x.1,x.2.1,x.2.2.1,x.2.2.2.1,x.2.2.2.2⟩:=rfl;rw[eb]at k;refine bt fun R n1=>?_;refine⟨_,rfl,"boxes",l,999999,rfl,by decide,a,b,cc,w,f,hl,Cq,?_⟩;cases q:dw 999999 a b cc w f with
   |none=>
    rw[q]at k;intro H1 s1;refine n1.go _ _ ?_;clear n1;walk_at "d";exact k _ s1
   |some x=>
    rw[q]at k;intro H1 p na dx N;refine n1.go _ _ ?_;clear n1;have ho:=N.obj;unfold WN at ho;walk_at "d";obtain⟨_,_,_,_,_,x1,x2,x3,x4,x5,x6⟩:=fS.mp q;have N2:=N.put (E7:=iS (.boxes ⟨x.1,x.2.1,x.2.2.1,x.2.2.2.1,x.2.2.2.2⟩) na);have e0:((x.2.1:Int)-(x.1:Int)+1)=(((DLine.boxes ⟨x.1,x.2.1,x.2.2.1,x.2.2.2.1,x.2.2.2.2⟩).points:Nat):Int):=by
     show _=((x.2.1-x.1+1:Nat):Int);omega
    rw[e0];exact k _ p na dx N2.same N2.free.1 N2.free.2 ⟨N2.obj,N2.Oe⟩
def BJ(A:Ad):Sp:=fun vs H Q _=>∃l,vs=[.ref l]∧∃r:List Bytes,PL H l r∧(∀w∈r,w.length≤sizeLine)∧oF A ((tG r).map fun x=>.letters x.1 x.2.1 x.2.2) H Q
theorem agQ{α:Type}:∀{r:List α},((r.length:Nat):Int)=3→∃a b c,r=[a,b,c]
 |[a,b,c],_=>⟨a,b,c,rfl⟩
 |[],h=>absurd h (by simp)
 |[_],h=>absurd h (by simp)
 |[_,_],h=>absurd h (by simp)
 |_::_::_::_::r,h=>absurd h (by simp only[apz];omega)
theorem OC{r:List Bytes}(h:¬((r.length:Nat):Int)=3):tG r=none:=by
 rcases r with _|⟨a,_|⟨b,_|⟨c,_|⟨d,r⟩⟩⟩⟩<;>first|rfl|exact absurd rfl h
theorem EA{w:Bytes}:(fH w=0↔cz w=none)∧∀c,cz w=some c→fH w=((c.toNat-96:Nat):Int)∧97≤c.toNat∧c.toNat≤122:=by
 unfold fH;cases q:cz w with
 |none=>exact⟨by simp,fun c h=>by cases h⟩
 |some c=>
  have h:=jJ.mp (lA.mp q).2;exact⟨by simp;omega,fun c' e=>by cases e;exact⟨rfl,h⟩⟩
def ltF(na:Addr)(n lo hi:Int):List (Str×V):=oO (.str "letters") (.ref na) (.str "") (.int n) (.int lo) (.int hi) (.int 1) (.int 0) (.int 0) (.bl false) (.int 0)
theorem BZ(T:Tx K mg A):bN P w K mg base fU 3 A.gA A.jo ["told"] (BJ A):=by
 have sc:=BN;have F:=T.qh.F;walk_at "f"
 ·obtain⟨l,rfl,_⟩:=h;rfl
 ·obtain⟨l,rfl,r,hl,Cq,k⟩:=h;refine⟨_,(ag (bo (aD m9 (bH cv (by rfl) T.ft ap8 (af (pv 0) ax)) ay (aH _)) (aw (aB cj)) aM)
 (ag (aX (i:=1) sc.nd rfl (apN rfl) (xO T hr.mn rfl aR))
 (ag (aW (pv 1) (br (gq T) hr.mn rfl T.g7 T.dc.F.kp T.dc.b .nil aP (af (bC dm (pv 0) ay (fun _ _=>rfl)) (af ay (af (bz T.j6) ax)))) rfl)
 (ag (aW (pv 1) (br (sT T) hr.mn rfl T.vG T.ko.F.kp T.ko.b .nil aP (af (bC dm (pv 0) ay (fun _ _=>rfl)) ax)) rfl)
 (ag (aW (pv 1) (br (sT T) hr.mn rfl T.vG T.ko.F.kp T.ko.b .nil aP (af (bC dm (pv 0) ay (fun _ _=>rfl)) ax)) rfl)
 (ag (bo (PW.pt (k8 (aD cy (aq (pv 1) rfl) (bz T.gx) (aH _)) (k8 (aD CQ (bz T.iO) (sQ (af (aq (pv 1) rfl) (af (aq (pv 1) rfl) ax))) (by first|exact aH _|rfl)) (i6 (aD vq (aq (pv 1) rfl) (aq (pv 1) rfl) (aH _)))))) (aw (aB cj)) aM)
 (ag (aW (pv 1) (aZ dD (aZ dS (aq (pv 1) rfl) (aq (pv 1) rfl)) ay) rfl)
 (aw (aB (pv 1)))))))))),?_⟩
  walk_at "z";walk_at "g";refine bW (fun c=>?_) (fun c=>n1.go _ _ ?_)
  ·rw[OC c]at k;exact k _ (aV.refl _)
  ·clear n1 R;obtain⟨a,b,f,rfl⟩:=agQ (by omega:((r.length:Nat):Int)=3);refine bt fun R n1=>⟨_,rfl,fun H1 p na dx N=>n1.go _ _ ?_⟩;clear n1 R;have npl:l≠p:=aj hl N.free.1;have z0:mP [V.str (bB a),V.str (bB b),V.str (bB f)] 0=some (.str (bB a)):=rfl;have z1:mP [V.str (bB a),V.str (bB b),V.str (bB f)] 1=some (.str (bB b)):=rfl;have z2:mP [V.str (bB a),V.str (bB b),V.str (bB f)] 2=some (.str (bB f)):=rfl;have ba:=Cq a (by simp);have bb:=Cq b (by simp);have bf:=Cq f (by simp);clear Cq;have VA:=N.same _ _ hl;simp only[apG,arv]at VA;have ho:=N.obj;unfold ln0 at ho;walk_at "g";refine⟨a,rfl,1,rfl,99999,rfl,by decide,ba,n1.go _ _ ?_⟩;clear n1 R ho;have hu:∀o,aJ H1 p o l=some (.aN [V.str (bB a),V.str (bB b),V.str (bB f)]):=fun o=>by rw[ai npl];exact VA
   walk_at "g";refine⟨b,rfl,bb,n1.go _ _ ?_⟩;clear n1 R;walk_at "g";refine⟨f,rfl,bf,n1.go _ _ ?_⟩;clear n1 R;have N1:=N.put (E7:=ltF na (cT 1 99999 a) (fH b) (fH f));show eV _ _ _ _ (aJ H1 p (.bR A.dU dx (ltF na (cT 1 99999 a) (fH b) (fH f))));generalize aJ H1 p (.bR A.dU dx (ltF na (cT 1 99999 a) (fH b) (fH f)))=H2 at N1 ⊢;clear hu VA npl z0 z1 z2 N H1;have ho:=N1.obj;unfold ltF at ho;have el:tG [a,b,f]=match num? 1 99999 a,cz b,cz f with|some n',some c',some d'=>if c'≤d' then some (n',c',d')else none|_,_,_=>none:=rfl
   rw[el]at k;walk_at "g";refine bW (fun c1=>?_) (fun c1=>?_)
   ·rw[nc.1]at c1;rw[c1]at k;exact k _ N1.same
   ·refine⟨(by show 2≤sizeLine;decide),fun q hq=>?_⟩;have N2:=N1.on (H2:=aJ H2 q (HO.fR [V.int (fH b),V.int (fH f)])) (fun b o e=>by rw[ai (aj e hq)];exact e);generalize aJ H2 q (HO.fR [V.int (fH b),V.int (fH f)])=H3 at N2 ⊢;clear ho hq;have ho:=N2.obj;unfold ltF at ho;have ein:Wq (V.int 0) [V.int (fH b),V.int (fH f)]=true↔(cz b=none∨cz f=none):=by
     show((fH b==0)||((fH f==0)||false))=true↔_;simp only[aqU,beq_iff_eq,aqb,or_false,EA.1]
    refine bW (fun c2=>?_) (fun c2=>?_)
    ·rcases ein.mp c2 with h|h
     ·rw[h]at k;cases h2:num? 1 99999 a<;>rw[h2]at k<;>exact k _ N2.same
     ·rw[h]at k;cases h2:num? 1 99999 a<;>cases h3:cz b<;>rw[h2,h3]at k<;>exact k _ N2.same
    ·have c2:¬(cz b=none∨cz f=none):=fun z=>c2 (ein.mpr z);rw[nc.1]at c1;cases qa:num? 1 99999 a with
     |none=>exact absurd qa c1
     |some n'=>
     cases qb:cz b with
     |none=>exact absurd (.inl qb) c2
     |some c'=>
     cases qf:cz f with
     |none=>exact absurd (.inr qf) c2
     |some d'=>
     rw[qa,qb,qf]at k;obtain⟨e1,e2,e3⟩:=EA.2 _ qb;obtain⟨f1,f2,f3⟩:=EA.2 _ qf;have g1:=nc.2 _ qa;rw[e1,f1,g1]at ho N2;clear ein;walk_at "d";refine bW (fun c3=>?_) (fun c3=>n1.go _ _ ?_)
     ·have:¬c'≤d':=by rw[ap7];omega
      simp only[if_neg this]at k;exact k _ N2.same
     ·have Bi:c'≤d':=by rw[ap7];omega
      simp only[if_pos Bi]at k;clear n1;walk_at "d";have acY:=ap7.mp Bi;have N3:=N2.put (E7:=iS (.letters n' c' d') na);have e0:(((d'.toNat-96:Nat):Int)-((c'.toNat-96:Nat):Int)+1)=(((DLine.letters n' c' d').points:Nat):Int):=by
       show _=((d'.toNat-c'.toNat+1:Nat):Int);omega
      rw[e0];exact k _ p na dx N3.same N3.free.1 N3.free.2 ⟨N3.obj,N3.Oe⟩
def IB(A:Ad):Sp:=fun vs H Q _=>∃l,vs=[.ref l]∧∃r:List Bytes,PL H l r∧(∀w∈r,w.length≤sizeLine)∧oF A ((span? r).map .span) H Q
theorem acp{α:Type}:∀{r:List α},r.length=6→∃s a b c d e,r=[s,a,b,c,d,e]
 |[s,a,b,c,d,e],_=>⟨s,a,b,c,d,e,rfl⟩
 |[],h=>by simp at h
 |[_],h=>by simp at h
 |[_,_],h=>by simp at h
 |[_,_,_],h=>by simp at h
 |[_,_,_,_],h=>by simp at h
 |[_,_,_,_,_],h=>by simp at h
 |_::_::_::_::_::_::_::r,h=>by simp at h
theorem aco{α:Type}{r:List α}(h:r.length=7):∃s a b c d e f,r=[s,a,b,c,d,e,f]:=by
 match r,h with
 |x::r,h=>
  obtain⟨a,b,c,d,e,f,rfl⟩:=acp (r:=r) (by simpa using h);exact⟨x,a,b,c,d,e,f,rfl⟩
def Dg(r:List Bytes):Bool:=r[6]? ==some (ascii "back")
theorem WO{r:List Bytes}(h:r.length≠6)(h2:¬(r.length=7∧Dg r=true)):span? r=none:=by
 unfold span?;split
 ·exact absurd rfl h
 ·rename_i sd a b c w f k
  split
  ·rename_i e
   exact absurd ⟨rfl,by subst e;rfl⟩ h2
  ·rfl
 ·rfl
theorem Ua{r:List Bytes}{sd a b c w f:Bytes}{t:List Bytes}(e:r=sd::a::b::c::w::f::t)(h:(r.length=6∧t=[])∨(r.length=7∧Dg r=true)):span? r=oe (decide (r.length=7)) sd a b c w f:=by
 subst e;rcases h with⟨_,rfl⟩|⟨h,h2⟩
 ·rfl
 ·match t,h with
  |[k],_=>
   have:k=ascii "back":=by
    unfold Dg at h2;simpa using h2
   subst this;rfl
theorem Dt(sd:Bytes):(bB sd=("all":Str)↔sd=ascii "all")∧(bB sd=("odd":Str)↔sd=ascii "odd")∧(bB sd=("even":Str)↔sd=ascii "even"):=
 ⟨j1 (by decide) (by decide) sd,j1 (by decide) (by decide) sd,j1 (by decide) (by decide) sd⟩
theorem WY(sd:Bytes):Wq (.str (bB sd)) [.str "all",.str "odd",.str "even"]=(oT sd).isSome:=by
 obtain⟨h1,h2,h3⟩:=Dt sd;have e:∀s:Str,XQ (.str s) (.str (bB sd))=decide (bB sd=s):=fun s=>by
  show(s==bB sd)=_;rw[aqe,beq_iff_eq,decide_eq_true_eq];exact eq_comm
 unfold Wq;simp only[ary,List.any_nil,e,avr];unfold oT;by_cases q1:sd=ascii "all"
 ·rw[if_pos q1,decide_eq_true (h1.mpr q1)];rfl
 ·rw[if_neg q1,decide_eq_false (fun z=>q1 (h1.mp z))];by_cases q2:sd=ascii "odd"
  ·rw[if_pos q2,decide_eq_true (h2.mpr q2)];rfl
  ·rw[if_neg q2,decide_eq_false (fun z=>q2 (h2.mp z))];by_cases q3:sd=ascii "even"
   ·rw[if_pos q3,decide_eq_true (h3.mpr q3)];rfl
   ·rw[if_neg q3,decide_eq_false (fun z=>q3 (h3.mp z))];rfl
theorem Us{sd:Bytes}{k:Nat}(h:oT sd=some k)(n:Nat):Qe (bB sd) (n:Int)=sideHas k n:=by
 obtain⟨h1,h2,h3⟩:=Dt sd;unfold Qe;unfold oT at h;by_cases q1:sd=ascii "all"
 ·rw[if_pos q1]at h;cases h;rw[if_pos (h1.mpr q1)];rfl
 ·rw[if_neg q1]at h;rw[if_neg (fun z=>q1 (h1.mp z))];by_cases q2:sd=ascii "odd"
  ·rw[if_pos q2]at h;cases h;rw[if_pos (h2.mpr q2),aqe,decide_eq_true_eq,dY];omega
  ·rw[if_neg q2]at h;rw[if_neg (fun z=>q2 (h2.mp z))];by_cases q3:sd=ascii "even"
   ·rw[if_pos q3]at h;cases h;rw[aqe,decide_eq_true_eq,dY];omega
   ·rw[if_neg q3]at h;cases h
theorem Ur{sd:Bytes}{k:Nat}(h:oT sd=some k):bB sd=("all":Str)↔k=0:=by
 rw[(Dt sd).1];unfold oT at h;by_cases q1:sd=ascii "all"
 ·rw[if_pos q1]at h;cases h;simp[q1]
 ·rw[if_neg q1]at h;refine⟨fun z=>absurd z q1,fun z=>?_⟩;subst z;split at h
  ·cases h
  ·split at h<;>cases h
theorem adk(f:Bytes→V)(s a b c d e:Bytes)(t:List Bytes):qQ ((s::a::b::c::d::e::t).map f) (some 1) (some 6)=[a,b,c,d,e].map f:=by
 unfold qQ;have h1:HT.Gg ((s::a::b::c::d::e::t).map f).length 0 (some 1)=1:=by rw[show(1:Int)=((1:Nat):Int)from rfl,HT.xE];simp
 have h2:HT.Gg ((s::a::b::c::d::e::t).map f).length ((s::a::b::c::d::e::t).map f).length (some 6)=6:=by rw[show(6:Int)=((6:Nat):Int)from rfl,HT.xE];simp
 rw[h1,h2];rfl
theorem agN{a b c d e x:Bytes}{t:List Bytes}(h:x∈[a,b,c,d,e]):x∈a::b::c::d::e::t:=by
 simp only[apA,arF,or_false]at h ⊢;rcases h with h|h|h|h|h<;>simp[h]
theorem Jj(T:Tx K mg A):bN P w K mg base fU 4 A.kG A.nN ["told"] (IB A):=by
 have sc:=IL;have F:=T.zI.F;walk_at "f"
 ·obtain⟨l,rfl,_⟩:=h;rfl
 ·obtain⟨l,rfl,r,hl,Cq,k⟩:=h;refine⟨_,(ag (aX (i:=1) sc.nd rfl (apN rfl) (Jh (m8 cy (bH cv (by rfl) T.ft ap8 (af (pv 0) ax)) ay (aH _)) (zN (m8 cy (bC dm (pv 0) ay (fun _ _=>rfl)) aR (aH _)))))
 (ag (bo (PW.pt (wz (aD m9 (bH cv (by rfl) T.ft ap8 (af (pv 0) ax)) ay (aH _)) (qi (sL (kX (pv 1)))))) (aw (aB cj)) aM)
 (ag (aX (i:=2) sc.nd rfl (apN rfl) (bC dm (pv 0) ay (fun _ _=>rfl)))
 (ag (bo (aD NW (pv 2) (sQ (af aR (af aR (af aR ax)))) (by first|exact aH _|rfl)) (aw (aB cj)) aM)
 (ag (aX (i:=3) sc.nd rfl (apN rfl) (br (rb T) hr.mn rfl T.tP T.i5.F.kp T.i5.b .nil aP (af aR (af (sR WX (pv 0) (qk ay) (qk ay)) (af (bz T.j6) ax)))))
 (ag (bo (PW.pt (k8 (aD kY (pv 3) cj (aH _)) (k8 (sL (kX (br (vr T) hr.mn rfl T.yq T.mC.F.kp T.mC.b .nil aP (af (aq (pv 3) rfl) (af (pv 2) ax))))) (i6 (sL (kX (br (vr T) hr.mn rfl T.yq T.mC.F.kp T.mC.b .nil aP (af (aq (pv 3) rfl) (af (pv 2) ax))))))))) (aw (aB cj)) aM)
 (ag (bo (aD m9 (pv 2) aR (aH _)) (aw (aW (pv 3) ay rfl)) aM)
 (ag (aW (pv 3) (pv 1) rfl)
 (ag (aW (pv 3) (aZ dD (aZ uB (aZ dS (aq (pv 3) rfl) (aq (pv 3) rfl)) (aq (pv 3) rfl)) ay) rfl)
 (aw (aB (pv 3)))))))))))),?_⟩
  walk_at "z";refine bt fun R n1=>?_;have main:∀bk:Bool,bk=(decide (r.length=7)&&Dg r)→R [some (.ref l),some (.bl bk),none,none] H:=fun bk EU=>by
   walk_at "n";refine bt fun R n1=>?_;have go:(r.length=6∨(r.length=7∧Dg r=true))→R [some (.ref l),some (.bl bk),none,none] H:=fun hlen=>by
    walk_at "n";obtain⟨sd,a,b,c,w,f,t,er,ht⟩:∃sd a b c w f t,r=sd::a::b::c::w::f::t∧((r.length=6∧t=[])∨(r.length=7∧Dg r=true)):=by
     rcases hlen with h|h
     ·obtain⟨s,a,b,c,d,e,rfl⟩:=acp h;exact⟨s,a,b,c,d,e,[],rfl,.inl ⟨h,rfl⟩⟩
     ·obtain⟨s,a,b,c,d,e,f,rfl⟩:=aco h.1;exact⟨s,a,b,c,d,e,[f],rfl,.inr h⟩
    have es:=Ua er ht;have ebk:bk=decide (r.length=7):=by
     rw[EU];rcases hlen with h|h
     ·rw[h];rfl
     ·rw[h.1,h.2];rfl
    rw[es,←ebk]at k;clear es ebk EU ht hlen;subst er;have hsd:mP ((sd::a::b::c::w::f::t).map fun w=>V.str (bB w)) 0=some (.str (bB sd)):=qW (k:=0) rfl;walk_at "g";walk_at "n";walk_at "g";refine⟨(by show 3≤sizeLine;decide),fun q hq=>?_⟩;rw[WY];have s1:aV H (aJ H q (.fR [.str "all",.str "odd",.str "even"])):=fun b o e=>by rw[ai (aj e hq)];exact e
    generalize aJ H q (.fR [.str "all",.str "odd",.str "even"])=H1 at s1 ⊢;have VA:=s1 _ _ hl;refine bW (fun c1=>?_) (fun c1=>n1.go _ _ ?_)
    ·have:oe bk sd a b c w f=none:=by
      unfold oe;cases h:oT sd with
      |none=>rfl
      |some k=>rw[h]at c1;cases c1
     rw[this]at k;exact k _ s1
    clear n1 R;obtain⟨kk,hkk⟩:∃kk,oT sd=some kk:=by
     cases h:oT sd with
     |none=>rw[h]at c1;exact absurd rfl c1
     |some k=>exact⟨k,rfl⟩
    refine bt fun R n1=>?_;refine⟨_,rfl,_,rfl,_,rfl,l,_,rfl,VA,fun ql hql=>?_⟩;have s2:aV H1 (aJ H1 ql (.aN (qQ ((sd::a::b::c::w::f::t).map fun w=>V.str (bB w)) (some 1) (some 6)))):=fun b o e=>by rw[ai (aj e hql)];exact e
    refine⟨"span",ql,99999,rfl,by decide,a,b,c,w,f,by rw[au,adk],fun x hx=>Cq x (apy _ (agN hx)),?_⟩;generalize aJ H1 ql (.aN (qQ ((sd::a::b::c::w::f::t).map fun w=>V.str (bB w)) (some 1) (some 6)))=H2 at s2 ⊢;clear hql VA;unfold oe at k;rw[hkk]at k;cases q:dw 99999 a b c w f with
    |none=>
     rw[q]at k;intro H3 s3;refine n1.go _ _ ?_;clear n1;walk_at "g";exact k _ ((s1.trans s2).trans s3)
    |some x=>
    rw[q]at k;intro H3 p na dx N;walk_at "n";have ho:=N.obj;unfold WN at ho;have b1:=Us hkk x.1;have b2:=Us hkk x.2.1;walk_at "g";have sN:aV H H3:=(s1.trans s2).trans N.same;have bad:¬(sideHas kk x.1=true∧sideHas kk x.2.1=true)→Q .cx H3:=fun h=>by
     simp only[if_neg h]at k;exact k _ sN
    refine bW (fun c2=>bad (fun z=>by rw[z.1]at c2;cases c2)) fun c2=>bW (fun c3=>bad (fun z=>by rw[z.2]at c3;cases c3)) fun c3=>n1.go _ _ ?_;simp only[if_pos (show sideHas kk x.1=true∧sideHas kk x.2.1=true from⟨by simpa using c2,by simpa using c3⟩)]at k;clear n1 R bad;obtain⟨_,_,_,_,_,x1,x2,x3,x4,x5,x6⟩:=fS.mp q;have ve:=Ur hkk;have fin:∀(st:Nat) (H4:Hp),(if kk=0 then 1 else 2)=st→uq A H2 H4 p na dx (oO (.str "span") (.ref na) (.str (bB x.2.2.1)) (.int 0) (.int x.1) (.int x.2.1) (.int st) (.int x.2.2.2.1) (.int x.2.2.2.2) (.bl false) (.int 0))→
      eV (Lj K (mR 3) (mR 1) "back") (eV (Lj K (mR 3) (Ru (Qi fun i j=>V.int (i+j)) (Ru (rI adB fun i j=>V.int (i / j)) (Ru (Qi fun i j=>V.int (i-j)) (Iz K (mR 3) "high") (Iz K (mR 3) "low")) (Iz K (mR 3) "step")) (tC (V.int 1))) "point_count") (xo (mR 3))) {nx:=fun _ H'=>Q .cx H',rt:=Q} [some (.ref l),some (.bl bk),some (.str (bB sd)),some (.ref p)] H4:=fun st H4 j7 N4=>by
     have ho:=N4.obj;clear N ho;have ho:=N4.obj;walk_at "d";have h12:st=1∨st=2:=by split at j7<;>omega
     refine⟨⟨by omega,by omega⟩,?_⟩;have N5:=N4.put (E7:=iS (.span ⟨kk,x.1,x.2.1,x.2.2.1,x.2.2.2.1,x.2.2.2.2,bk⟩) na);have e1:(Span.step ⟨kk,x.1,x.2.1,x.2.2.1,x.2.2.2.1,x.2.2.2.2,bk⟩)=st:=j7;have e0:(((x.2.1:Int)-(x.1:Int)) /(st:Int)+1)=(((DLine.span ⟨kk,x.1,x.2.1,x.2.2.1,x.2.2.2.1,x.2.2.2.2,bk⟩).points:Nat):Int):=by
      show _=(((x.2.1-x.1) /(Span.step ⟨kk,x.1,x.2.1,x.2.2.1,x.2.2.2.1,x.2.2.2.2,bk⟩)+1:Nat):Int);rw[e1,show(x.2.1:Int)-(x.1:Int)=((x.2.1-x.1:Nat):Int) by omega];rfl
     rw[e0];have e2:((st:Nat):Int)=((eG (.span ⟨kk,x.1,x.2.1,x.2.2.1,x.2.2.2.1,x.2.2.2.2,bk⟩):Nat):Int):=by show _=((Span.step ⟨kk,x.1,x.2.1,x.2.2.1,x.2.2.2.1,x.2.2.2.2,bk⟩:Nat):Int);rw[e1]
     rw[e2];exact k _ p na dx ((s1.trans s2).trans N5.same) ((s1.trans s2).free N5.free.1) ((s1.trans s2).free N5.free.2) ⟨N5.obj,N5.Oe⟩
    walk_at "g";refine bW (fun c4=>n1.go _ _ (fin 2 _ (if_neg c4) N.put)) fun c4=>n1.go _ _ (fin 1 _ (if_pos (by simpa using c4)) N)
   walk_at "d";refine bW (fun c1=>bW (fun c2=>?_) fun c2=>?_) fun c1=>?_
   ·rw[WO (fun z=>c1 (by omega)) (fun z=>by rw[z.2,decide_eq_true z.1]at c2;cases c2)]at k;exact k _ (aV.refl _)
   ·rw[←EU];have:(decide (r.length=7)&&Dg r)=true:=by simpa using c2
    rw[apv,decide_eq_true_eq]at this;exact go (.inr this)
   ·rw[←EU];exact go (.inl (by omega))
  walk_at "d";refine bW (fun c1=>?_) fun c1=>?_
  ·have c2:r.length=7:=by omega
   obtain⟨s0,a,b,c,d,e,f,rfl⟩:=aco c2;refine⟨_,qW (k:=6) rfl,rfl,main _ ?_⟩;rw[c2];show decide (V.str (bB f)=V.str ("back":Str))=(true&&(some f==some (ascii "back")));rw[ase,aqe,decide_eq_true_eq,V.str.injEq,j1 (v:=ascii "back") (by decide) (by decide)];simp
  ·refine main _ ?_;rw[decide_eq_false (fun z=>c1 (by omega))];rfl
local macro_rules|`(tactic|walk_at "o")=>zzR " sJ"
theorem oF.same{o:Option DLine}{H H1:Hp}{Q:VK}(h:oF A o H Q)(s:aV H H1):oF A o H1 Q:=by
 cases o with
 |none=>exact fun H' s'=>h H' (s.trans s')
 |some x=>exact fun H' p na dx s' f1 f2=>h H' p na dx (s.trans s') (s.free f1) (s.free f2)
theorem VY(f:Bytes→V)(w:Bytes)(r:List Bytes):qQ ((w::r).map f) (some 1) none=r.map f:=by
 unfold qQ;have h1:HT.Gg ((w::r).map f).length 0 (some 1)=1:=by rw[show(1:Int)=((1:Nat):Int)from rfl,HT.xE];simp
 rw[h1,HT.Uy];simp;exact arV (by rw[apt];exact apE _)
def IC(A:Ad):Sp:=fun vs H Q _=>∃b,vs=[.str (bB b)]∧b.length≤7000000∧oF A (lineIn b) H Q
theorem Xp(w:Bytes):(bB w=("town":Str)↔w=ascii "town")∧(bB w=("street":Str)↔w=ascii "street")∧(bB w=("code":Str)↔w=ascii "code")∧(bB w=("span":Str)↔w=ascii "span")∧(bB w=("letters":Str)↔w=ascii "letters")∧(bB w=("boxes":Str)↔w=ascii "boxes"):=
 ⟨j1 (by decide) (by decide) w,j1 (by decide) (by decide) w,j1 (by decide) (by decide) w,j1 (by decide) (by decide) w,j1 (by decide) (by decide) w,j1 (by decide) (by decide) w⟩
theorem Di:∀r:List Bytes,r.length≤(spaced r).length+1
 |[]=>by simp
 |[w]=>by simp
 |w::v::r=>by
  have ih:=Di (v::r);have e:spaced (w::v::r)=w++32::spaced (v::r):=rfl;rw[e,apr,apz];simp only[apz]at ih ⊢;omega
theorem WD:∀{r:List Bytes} {w:Bytes},w∈r→w.length≤(spaced r).length
 |w::r,x,h=>by
  have hs:=yU (w::r);have:∀(l:List Bytes) (x:Bytes),x∈l→x.length≤(l.map arD).sum:=fun l x hx=>by
   induction l with
   |nil=>cases hx
   |cons a l ih=>
    rw[apG,ato];rcases apA.mp hx with rfl|hx
    ·omega
    ·have:=ih hx;omega
  have:=this _ x h;omega
theorem Jk(T:Tx K mg A):bN P w K mg base fU 5 A.kH A.nO ["row"] (IC A):=by
 have sc:=IM;have F:=T.zJ.F;walk_at "f"
 ·obtain⟨b,rfl,_⟩:=h;rfl
 ·obtain⟨b,rfl,hz,k⟩:=h;refine⟨_,(ag (aX (i:=1) sc.nd rfl (apN rfl) (D0 (pv 0) aR))
 (ag (aX (i:=2) sc.nd rfl (apN rfl) (bC dm (pv 1) ay (fun _ _=>rfl)))
 (ag (aX (i:=3) sc.nd rfl (apN rfl) (sR WX (pv 1) (qk ay) Je))
 (ag (bo (PW.pt (k8 (aD cy (pv 2) aR (aH _)) (i6 (aD cy (pv 2) aR (aH _))))) (aw (aB (br (Gi T) hr.mn rfl T.JP T.wx.F.kp T.wx.b .nil aP (af (pv 2) (af (pv 3) ax))))) aM)
 (ag (bo (aD cy (pv 2) aR (aH _)) (aw (aB (br (Jl T) hr.mn rfl T.Ml T.zK.F.kp T.zK.b .nil aP (af (pv 3) ax)))) aM)
 (ag (bo (aD cy (pv 2) aR (aH _)) (aw (aB (br (Jj T) hr.mn rfl T.Mi T.zI.F.kp T.zI.b .nil aP (af (pv 3) ax)))) aM)
 (ag (bo (aD cy (pv 2) aR (aH _)) (aw (aB (br (BZ T) hr.mn rfl T.EZ T.qh.F.kp T.qh.b .nil aP (af (pv 3) ax)))) aM)
 (ag (bo (aD cy (pv 2) aR (aH _)) (aw (aB (br (Gj T) hr.mn rfl T.JQ T.wy.F.kp T.wy.b .nil aP (af (pv 3) ax)))) aM)
 (aw (aB cj)))))))))),?_⟩
  walk_at "z";have QM:=KR b;have hs:=sizeLine_eq;obtain⟨w,r,Ss⟩:∃w r,cutAt 32 b=w::r:=arz (dC 32 b);have eb:spaced (w::r)=b:=by rw[←Ss];exact p8 b
  rw[Jq,Ss]at k;rw[Ss]at QM;refine bt fun R n1=>?_;refine⟨_,rfl,⟨_,rfl⟩,_,_,rfl,rfl,rfl,by rw[bL];omega,?_⟩;rw[QM];intro wl Vt;walk_at "n";rw[apJ];have s1:aV H (aJ H wl (.aN ((w::r).map fun w=>V.str (bB w)))):=fun b o e=>by rw[ai (aj e Vt)];exact e
  have hw:(aJ H wl (.aN ((w::r).map fun w=>V.str (bB w)))) wl=some (.aN ((w::r).map fun w=>V.str (bB w))):=au;show eV _ _ _ _ (aJ H wl (.aN ((w::r).map fun w=>V.str (bB w))));generalize aJ H wl (.aN ((w::r).map fun w=>V.str (bB w)))=H1 at s1 hw ⊢;have z0:mP ((w::r).map fun w=>V.str (bB w)) 0=some (.str (bB w)):=qW (k:=0) rfl;refine bt fun R n1=>?_;refine⟨_,rfl,_,_,_,_,rfl,rfl,hw,z0,n1.go _ _ ?_⟩;clear n1 R;refine bt fun R n1=>?_;refine⟨_,rfl,_,rfl,wl,_,rfl,hw,fun tl Sh=>n1.go _ _ ?_⟩;clear n1 R;have s2:aV H1 (aJ H1 tl (.aN (qQ ((w::r).map fun w=>V.str (bB w)) (some 1) none))):=fun b o e=>by rw[ai (aj e Sh)];exact e
  have ht:(aJ H1 tl (.aN (qQ ((w::r).map fun w=>V.str (bB w)) (some 1) none))) tl=some (.aN (r.map fun w=>V.str (bB w))):=by rw[au,VY]
  generalize aJ H1 tl (.aN (qQ ((w::r).map fun w=>V.str (bB w)) (some 1) none))=H2 at s2 ht ⊢;replace k:=k.same (s1.trans s2);clear s1 s2 hw Sh Vt z0 QM;have Cq:∀x∈r,x.length≤sizeLine:=fun x hx=>by
   have:=WD (r:=w::r) (apy _ hx);rw[eb]at this;omega
  have hn:(spaced r).length+r.length+2≤16000000:=by
   have h1:=Di (w::r);rw[eb]at h1;have h2:(spaced r).length≤(spaced (w::r)).length:=by
    cases r with
    |nil=>exact apV _
    |cons v r=>rw[show spaced (w::v::r)=w++32::spaced (v::r)from rfl,apr,apz];omega
   rw[eb]at h2;simp only[apz]at h1;omega
  clear eb Ss hs hz;obtain⟨k1,k2,k3,k4,k5,k6⟩:=Xp w;replace k:oF A (Ex w r) H2 Q:=k;unfold Ex at k;walk_at "g";refine bW (fun c=>?_) fun c=>?_
  ·rw[if_pos c]at k;exact⟨_,tl,rfl,true,r,k1.mpr c,ht,Cq,hn,k⟩
  rw[if_neg c]at k;refine bW (fun c2=>?_) fun c2=>n1.go _ _ ?_
  ·rw[if_pos c2]at k;exact⟨_,tl,rfl,false,r,k2.mpr c2,ht,Cq,hn,k⟩
  rw[if_neg c2]at k;clear n1 R;walk_at "g";refine bW (fun c3=>?_) fun c3=>n1.go _ _ ?_
  ·rw[if_pos c3]at k;exact⟨tl,rfl,r,ht,Cq,k⟩
  rw[if_neg c3]at k;clear n1 R;walk_at "g";refine bW (fun c4=>?_) fun c4=>n1.go _ _ ?_
  ·rw[if_pos c4]at k;exact⟨tl,rfl,r,ht,Cq,k⟩
  rw[if_neg c4]at k;clear n1 R;walk_at "g";refine bW (fun c5=>?_) fun c5=>n1.go _ _ ?_
  ·rw[if_pos c5]at k;exact⟨tl,rfl,r,ht,Cq,k⟩
  rw[if_neg c5]at k;clear n1 R;walk_at "g";refine bW (fun c6=>?_) fun c6=>n1.go _ _ ?_
  ·rw[if_pos c6]at k;exact⟨tl,rfl,r,ht,Cq,k⟩
  rw[if_neg c6]at k;exact k _ (aV.refl _)
def X6:R2:=fun x y H Q=>∃z n,x=.str z∧y=.int n∧awa z n∧Q (.str (aui z n)) H
section
variable{X:Cx}
theorem xR:BE X (binaryOp .Mult) X6:=by
 intro ah s σ H x y v u Q I rx ry h;obtain⟨z,n,rfl,rfl,hm,q⟩:=h;obtain⟨t,rfl⟩:=rx;obtain⟨t',rfl⟩:=ry;exact PySem.SB.mul hm fun t2 k=>⟨.str _,H,I.tok _,⟨_,rfl⟩,q⟩
end
local macro_rules|`(tactic|walk_at "o")=>zzR " sJ X6"
def Uq:Str:=aui "?" 10++"\n"++aui "?" 21++" "++aui "?" 15++"0123456789"++aui "?" 39
def IK:Str:=Uq++"abcdefghijklmnopqrstuvwxyz"++"?"++"|"++aui "?" 131
theorem LN(n:Nat)(h:n≤200):awa ("?":Str) (n:Int):=by
 refine⟨by simp;omega,fun h1 _=>?_,fun h1 _=>?_⟩
 ·have e:(("?":Str).length:Int)=1:=rfl;rw[e];have:(1:Int)≤(2 ^ 63-1) /(n:Int):=(Int.le_ediv_iff_mul_le (by omega)).mpr (by omega);omega
 ·have e:("?":Str).length=1:=rfl;rw[e,aqE];exact Xi (by omega)
theorem RM:IK.length=256:=by decide +kernel
theorem RL:∀n<256,IK.cps.toList[n]? =some (sg (apM n)):=by decide +kernel
theorem EE:∀b:Bytes,vB (tl ("":Str)) (b.map (tl∘fun c=>(⟨#[sg c]⟩:Str)))=b.map sg
 |[]=>rfl
 |[c]=>rfl
 |c::x::r=>by
  have ih:=EE (x::r);show[sg c]++(tl ("":Str)++vB (tl ("":Str)) ((x::r).map (tl∘fun c=>(⟨#[sg c]⟩:Str))))=_;rw[ih];rfl
def KZ(K:apw):Sp:=fun vs H Q _=>∃a,vs=[.ref a]∧∃b:Bytes,jH K H a ((cf b).map V.int)∧b.length≤7000000∧∀H',aV H H'→Q (.str (bB b)) H'
theorem LB(T:Tx K mg A):bN P w K mg base fU 1 A.mD A.qH ["text"] (KZ K):=by
 have sc:=La;have F:=T.Ds.F;walk_at "f"
 ·obtain⟨a,rfl,_⟩:=h;rfl
 ·obtain⟨a,rfl,b,ha,hz,k⟩:=h;refine⟨_,(ag (aX (i:=1) sc.nd rfl (aud rfl) (aZ cu (aZ cu (aZ cu (aZ cu (aZ cu (aZ cu (aZ xR aR ay) aR) (aZ xR aR ay)) aR) (aZ xR aR ay)) aR) (aZ xR aR ay)))
 (ag (aX (i:=1) sc.nd rfl (aud rfl) (aZ cu (aZ cu (aZ cu (aZ cu (pv 1) (Ya T.uN)) aR) aR) (aZ xR aR ay)))
 (aw (aB (Jf aR (Hx rfl sc.nd (mZ (pv 0)) (mM (own:=[("byte",2)]) rfl) (fun _ _ _ _ _=>fW (i:=2) sc.nd rfl (apN rfl)) (fun _ _ _ _ _=>qj) (fun _ _ _ _ _=>bC OF (pv 1) (pv 2) (fun _ _=>rfl)))))))),?_⟩
  walk_at "z";have m1:=LN 10 (by decide);have m2:=LN 21 (by decide);have m3:=LN 15 (by decide);have m4:=LN 39 (by decide);have m5:=LN 131 (by decide);walk_at "g";refine⟨m1,by decide +kernel,m2,by decide +kernel,by decide +kernel,m3,by decide +kernel,by decide +kernel,m4,by decide +kernel,n1.go _ _ ?_⟩;clear n1 R;show eV _ _ _ [some (V.ref a),some (V.str Uq),none] H;walk_at "g";refine⟨by decide +kernel,by decide +kernel,by decide +kernel,m5,by decide +kernel,n1.go _ _ ?_⟩;clear n1 R;show xo _ _ [some (V.ref a),some (V.str IK),none] H;have hl:=RM;refine⟨⟨_,rfl⟩,_,rfl,a,rfl,⟨_,ha⟩,fun D hD=>CS (K:=K) (a:=a) (xs:=(cf b).map V.int) (fun i H'=>aV H H'∧H' D=some (.aN ((b.take i).map fun c=>V.str ⟨#[sg c]⟩))) ⟨fun c o e=>by rw[ai (aj e hD)];exact e,au⟩ (fun i H' _ h=>h.1.seq ha) ?_ ?_⟩
  ·rintro i x H' hi ⟨s1,oK⟩;rw[apH]at hi;obtain⟨z,hz1,rfl⟩:=apF.mp hi;unfold cf at hz1;rw[apH]at hz1;obtain⟨c,hc,rfl⟩:=apF.mp hz1;have ahO:=c.toNat_lt;have hlen:=(apu.mp hc).1;refine⟨rfl,?_⟩;simp only[KG,↓reduceIte];have hs:=sizeLine_eq;refine⟨_,rfl,_,rfl,IK,(c.toNat:Int),sg c,rfl,rfl,by rw[hl];omega,?_,_,oK,?_,fun x o e=>?_,?_⟩
   ·have:=RL c.toNat ahO;rw[auP]at this;exact fZ this
   ·rw[apt,aqm];omega
   ·rw[ai (aj e hD)];exact s1 x o e
   ·rw[au,aq6,hc,apB];rfl
  ·rintro H' ⟨s1,oK⟩;have hL:((cf b).map V.int).length=b.length:=by unfold cf;simp
   rw[hL,aq2]at oK;refine⟨_,D,b.map fun c=>(⟨#[sg c]⟩:Str),rfl,rfl,.inl (jH.of ?_),?_,?_⟩
   ·rw[oK,apJ];rfl
   ·have e1:((b.map fun c=>(⟨#[sg c]⟩:Str)).map fun x=>x.length)=b.map fun _=>1:=by rw[apJ];rfl
    have e2:(b.map fun _=>1).sum=b.length:=by
     clear hz oK hL k ha s1 e1 hD
     induction b with
     |nil=>rfl
     |cons x r ih=>simp only[apG,ato,apz,ih];omega
    have e3:("":Str).length=0:=rfl;rw[e1,e2,e3,apt];omega
   ·have e:atb ("":Str) (b.map fun c=>(⟨#[sg c]⟩:Str))=bB b:=by
     rw[join_eq];apply wY;rw[CM,iX,apJ];exact EE b
    rw[e];exact k _ s1
def vI(kvs:List (Key×V))(i:Int):Option V:=vb kvs (.inl i)
def vS(kvs:List (Key×V))(x:Str):Option V:=vb kvs (.inr x)
def KJ(ty td:TE):TE:=fun σ H Q=>ty σ H fun y H1=>td σ H1 fun x H2=>∃a i kvs,x=.ref a∧y=.int i∧H2 a=some (.dK kvs)∧Q (.bl (vI kvs i).isSome) H2
def mU(ty td:TE):TE:=fun σ H Q=>ty σ H fun y H1=>td σ H1 fun x H2=>∃a i kvs,x=.ref a∧y=.int i∧H2 a=some (.dK kvs)∧Q (.bl (!(vI kvs i).isSome)) H2
def KH(ty td:TE):TE:=fun σ H Q=>ty σ H fun y H1=>td σ H1 fun x H2=>∃a i kvs,x=.ref a∧y=.str i∧H2 a=some (.dK kvs)∧Q (.bl (vS kvs i).isSome) H2
def AV(td ty:TE):TE:=fun σ H Q=>td σ H fun x H1=>ty σ H1 fun y H2=>∃a i kvs v,x=.ref a∧y=.int i∧H2 a=some (.dK kvs)∧vI kvs i=some v∧Q v H2
def vj(td ty:TE):TE:=fun σ H Q=>td σ H fun x H1=>ty σ H1 fun y H2=>∃a i kvs v,x=.ref a∧y=.str i∧H2 a=some (.dK kvs)∧vS kvs i=some v∧Q v H2
def vX(td ty:TE):TE:=fun σ H Q=>td σ H fun x H1=>∃a ZI,x=.ref a∧H1 a=some (.dK ZI)∧ty σ H1 fun y H2=>∃i kvs,y=.int i∧H2 a=some (.dK kvs)∧Q ((vI kvs i).getD .cx) H2
def vW(td ty tx:TE):TE:=fun σ H Q=>td σ H fun x H1=>∃a ZI,x=.ref a∧H1 a=some (.dK ZI)∧ty σ H1 fun y H2=>tx σ H2 fun z H3=>∃i kvs,y=.int i∧H3 a=some (.dK kvs)∧Q ((vI kvs i).getD z) H3
def DN(td ty tv:TE):TS:=fun D σ H=>tv σ H fun v H1=>td σ H1 fun x H2=>ty σ H2 fun y H3=>∃a i kvs,x=.ref a∧y=.int i∧H3 a=some (.dK kvs)∧kvs.length<sizeLine∧D.nx σ (aJ H3 a (.dK (mh kvs (.inl i) v)))
def DM(td ty tv:TE):TS:=fun D σ H=>tv σ H fun v H1=>td σ H1 fun x H2=>ty σ H2 fun y H3=>∃a i kvs,x=.ref a∧y=.str i∧H3 a=some (.dK kvs)∧kvs.length<sizeLine∧D.nx σ (aJ H3 a (.dK (mh kvs (.inr i) v)))
section
variable{X:Cx}{o i e f value:Expr}{pos pos' WG apos eJ:Pos}{td ty tv tx:TE}
theorem NU{op:CmpOp}{a b:Expr}{t t':TE}(h:PC X op a b t)(k:∀σ H Q,t' σ H Q→t σ H Q):PC X op a b t':=fun ah s σ H Q I q=>h ah s σ H Q I (k σ H Q q)
theorem UK{st:Stmt}{t t':TS}(h:PS X st t)(k:∀D σ H,t' D σ H→t D σ H):PS X st t':=fun ah s σ H D I q=>h ah s σ H D I (k D σ H q)
theorem UZ(hu:X.A.units+1<cLine)(hi:PE X i ty)(ho:PE X o td):PC X .In i o (KJ ty td):=
 NU (U0 hu (cp hi) (cp ho)) fun σ H Q h=>⟨_,h,fun y H1 q=>⟨_,q,fun x H2 ⟨a,j,kvs,e1,e2,e3,q2⟩=>⟨a,_,e1,.inl ⟨kvs,.inl j,.inl e3,e2,rfl⟩,q2⟩⟩⟩
theorem zO(hu:X.A.units+1<cLine)(hi:PE X i ty)(ho:PE X o td):PC X .NotIn i o (mU ty td):=
 NU (RV hu (cp hi) (cp ho)) fun σ H Q h=>⟨_,h,fun y H1 q=>⟨_,q,fun x H2 ⟨a,j,kvs,e1,e2,e3,q2⟩=>⟨a,_,e1,.inl ⟨kvs,.inl j,.inl e3,e2,rfl⟩,q2⟩⟩⟩
theorem UY(hu:X.A.units+1<cLine)(hi:PE X i ty)(ho:PE X o td):PC X .In i o (KH ty td):=
 NU (U0 hu (cp hi) (cp ho)) fun σ H Q h=>⟨_,h,fun y H1 q=>⟨_,q,fun x H2 ⟨a,j,kvs,e1,e2,e3,q2⟩=>⟨a,_,e1,.inl ⟨kvs,.inr j,.inl e3,e2,rfl⟩,q2⟩⟩⟩
theorem xQ(hu:X.A.units+1<cLine)(ho:PE X o td)(hi:PE X i ty)(hs:Wj i):PE X (.Subscript o i pos) (AV td ty):=
 jP (Qs hu (cp ho) (cp hi) hs) fun σ H Q h=>⟨_,h,fun x H1 q=>⟨_,q,fun y H2 ⟨a,j,kvs,v,e1,e2,e3,e4,q2⟩=>⟨a,v,e1,.inl ⟨kvs,.inl j,.inl e3,e2,e4.symm⟩,q2⟩⟩⟩
theorem Qq(hu:X.A.units+1<cLine)(ho:PE X o td)(hi:PE X i ty)(hs:Wj i):PE X (.Subscript o i pos) (vj td ty):=
 jP (Qs hu (cp ho) (cp hi) hs) fun σ H Q h=>⟨_,h,fun x H1 q=>⟨_,q,fun y H2 ⟨a,j,kvs,v,e1,e2,e3,e4,q2⟩=>⟨a,v,e1,.inl ⟨kvs,.inr j,.inl e3,e2,e4.symm⟩,q2⟩⟩⟩
theorem UT(hu:X.A.units+1<cLine)(ho:PE X o td)(he:PE X e ty)(m:M1 X o "get" apos e eJ):PE X (.Call (.Attribute o "get" apos) [e] [] eJ) (vX td ty):=
 jP (UW hu (cp ho) (cp he) m) fun σ H Q h=>⟨_,h,fun x H1 ⟨a,k0,e1,e2,q⟩=>⟨a,e1,.inl ⟨k0,.inl e2⟩,_,q,fun y H2 ⟨j,kvs,e3,e4,q2⟩=>⟨_,.inl ⟨kvs,.inl j,.inl e4,e3,rfl⟩,q2⟩⟩⟩
theorem Lx(hu:X.A.units+1<cLine)(ho:PE X o td)(he:PE X e ty)(hf:PE X f tx)(m:M2 X o "get" apos e f eJ):PE X (.Call (.Attribute o "get" apos) [e,f] [] eJ) (vW td ty tx):=
 jP (UU hu (cp ho) (cp he) (cp hf) m) fun σ H Q h=>⟨_,h,fun x H1 ⟨a,k0,e1,e2,q⟩=>⟨a,e1,.inl ⟨k0,.inl e2⟩,_,q,fun y H2 q2=>⟨_,q2,fun z H3 ⟨j,kvs,e3,e4,q3⟩=>⟨_,.inl ⟨kvs,.inl j,.inl e4,e3,rfl⟩,q3⟩⟩⟩⟩
theorem W3(hu:X.A.units+1<cLine)(ho:PE X o td)(hi:PE X i ty)(hv:PE X value tv)(hs:swapsWith value (some (.Subscript o i pos')) pos.line X.env=pure false):PS X (.Assign [.Subscript o i pos'] value pos) (DN td ty tv):=
 UK (Ql hu (cp ho) (cp hi) (cp hv) hs) fun D σ H h=>⟨_,h,fun v H1 q=>⟨_,q,fun x H2 q2=>⟨_,q2,fun y H3 ⟨a,j,kvs,e1,e2,e3,e4,q3⟩=>⟨a,_,e1,.inl ⟨kvs,.inl j,e3,e2,e4,rfl⟩,q3⟩⟩⟩⟩
theorem W2(hu:X.A.units+1<cLine)(ho:PE X o td)(hi:PE X i ty)(hv:PE X value tv)(hs:swapsWith value (some (.Subscript o i pos')) pos.line X.env=pure false):PS X (.Assign [.Subscript o i pos'] value pos) (DM td ty tv):=
 UK (Ql hu (cp ho) (cp hi) (cp hv) hs) fun D σ H h=>⟨_,h,fun v H1 q=>⟨_,q,fun x H2 q2=>⟨_,q2,fun y H3 ⟨a,j,kvs,e1,e2,e3,e4,q3⟩=>⟨a,_,e1,.inl ⟨kvs,.inr j,e3,e2,e4,rfl⟩,q3⟩⟩⟩⟩
def DS:V→List V→Hp→VK→Prop:=fun x vs H Q=>∃a i y kvs,x=.ref a∧vs=[.int i,y]∧H a=some (.dK kvs)∧kvs.length<sizeLine∧(∀v,vI kvs i=some v→Q v H)∧(vI kvs i=none→Q y (aJ H a (.dK (mh kvs (.inl i) y))))
theorem vw:PQ X "dict.setdefault" DS:=by
 intro ah s σ H x vs v us Q I rx rv h;obtain⟨a,j,y,kvs,rfl,rfl,ea,hz,h1,h2⟩:=h;cases rx;obtain⟨u,u2,rfl,ru,ru2⟩:=rv.two;obtain⟨z,hd,YQ,oU,dd⟩:=Q9 I.du ea;have hl:YQ.length≤sizeLine:=by rw[←oU.length];exact z
 refine call_meetsIn ar4 dd.typeIs PySem.F.entry_dict_setdefault (PySem.F.args_dict_setdefault_3 _ _ _) (kt_meets_setdefault (cY X.prog X.w) a (ye (k:=apT j) ru) hd u2)
  ⟨YQ,dd,hl,fun v' Xu=>?_,fun hn h' Wy hs=>?_⟩
 ·have q:=oU.val (apT j);rw[Xu]at q;cases e:vb kvs (apT j:Key)with
  |none=>rw[e]at q;exact q.elim
  |some y0=>
   rw[e]at q;exact⟨y0,H,I.tok _,q,h1 y0 e⟩
 ·have q:=oU.val (apT j);rw[hn]at q;have e:vI kvs j=none:=by
   unfold vI;cases e:vb kvs (apT j:Key)with
   |none=>rfl
   |some y0=>rw[e]at q;exact q.elim
  have he:∃q,h'.get? a=some q:=let⟨q,_,_,hq,_⟩:=Wy;⟨q,hq⟩;have tN:(mh kvs (.inl j) y).length≤sizeLine:=by have:=nD kvs (.inl j:Key) y;omega
  exact⟨y,_,C0 I (by rw[ea];exact arL) hs he (Pf tN hd (oU.put (apT j) ru2) Wy),ru2,h2 e⟩
def Ng(r:V→List V→Hp→VK→Prop)(to:TE)(t:TA):TE:=fun σ H Q=>to σ H fun x H1=>(∃l kvs,x=.ref l∧H1 l=some (.dK kvs))∧t σ H1 fun xs H2=>r x xs H2 Q
theorem UX{name:Str}{id:String}{r:V→List V→Hp→VK→Prop}{es:List Expr}{t:TA}(slot:Slot "dict" name id)(QK:typeOf (.builtin id)=pure (.type "method_descriptor"))(hm:PQ X id r)(ho:PE X o td)(ha:PA X (e::es) t)
  (kF:attributeBase o name X.env (eval o X.env)=eval o X.env:=by rfl)
  (VC:((backTo eJ (starEach (e::es) X.env)).all (fun x=> !x.1)&&(backToKw eJ (keywordEach [] X.env)).all (fun x=>x.1.isSome)
   &&decide ((e::es).length+([]:List Keyword).length+(if([]:List Keyword).isEmpty then 0 else 1)<30))=true:=by rfl)
  (kE:(apos.endLine==eJ.line)=true:=by rfl)(hs:starEach (e::es) X.env=(false,eval e X.env)::starEach es X.env:=by rfl)(EM:(backTo eJ (starEach es X.env)).any (·.1)=false:=by rfl):
  PE X (.Call (.Attribute o name apos) (e::es) [] eJ) (Ng r td t):=
 jP (Yb asx slot QK hm (cp ho) ha kF VC kE hs EM) fun σ H Q h=>⟨_,h,fun x H1 ⟨⟨l,xs,ex,hl⟩,q⟩=>⟨by subst ex;exact .inr (.inr (.inl ⟨rfl,.inl ⟨xs,hl⟩⟩)),q⟩⟩
end
theorem TH{α:Type}(f:Nat×α→V):∀(l:List (Nat×α)) (n:Nat),(∀p∈l,True)→vI (l.map fun p=>((apT (p.1:Int):Key),f p)) (n:Int)=(l.find? fun p=>decide (p.1=n)).map f
 |[],n,_=>rfl
 |p::l,n,h=>by
  have ih:=TH f l n (fun _ _=>trivial);unfold vI at ih ⊢;rw[apG,aq9];by_cases e:p.1=n
  ·rw[decide_eq_true e];exact rU (p:=((apT (p.1:Int):Key),f p)) (by rw[e])
  ·rw[decide_eq_false e];rw[rV (p:=((apT (p.1:Int):Key),f p)) (by intro z;exact e (by have:=av1 z;omega))];exact ih
theorem Bn{α:Type}:∀(l:List (Nat×α)) (n:Nat),l.find? (fun p=>decide (p.1=n))=(l.lookup n).map fun v=>(n,v)
 |[],n=>rfl
 |(a,v)::l,n=>by
  have ih:=Bn l n;rw[aq9,ap6];by_cases e:a=n
  ·subst e;simp
  ·have hb:(n==a)=false:=by simpa using fun q=>e q.symm
   rw[hb];show(match decide (a=n)with|true=>some (a,v)|false=>_)=_;rw[decide_eq_false e];exact ih
theorem gd{α:Type}(f:Nat→α→V)(l:List (Nat×α))(n:Nat):vI (l.map fun p=>((apT (p.1:Int):Key),f p.1 p.2)) (n:Int)=(l.lookup n).map (f n):=by
 rw[TH (fun p=>f p.1 p.2) l n (fun _ _=>trivial),Bn];cases l.lookup n<;>rfl
theorem DT{α:Type}(f:Nat→α→V)(l:List (Nat×α))(n:Nat)(y:V)(h:l.lookup n=none):mh (l.map fun p=>((apT (p.1:Int):Key),f p.1 p.2)) (.inl (n:Int)) y=(l.map fun p=>((apT (p.1:Int):Key),f p.1 p.2))++[(.inl (n:Int),y)]:=by
 refine Lp y ?_;have:=gd f l n;rw[h]at this;exact this
section
variable{σ:L2.Internal.St}{H:Hp}{Q:VK}{ty td:TE}{p:Addr}{n:Int}{s:Str}{kvs:List (Key×V)}{v x y:V}{X:V→Prop}
def L7(y:V)(Q:VK):VK:=fun x H=>∃a i kvs,x=.ref a∧y=.int i∧H a=some (.dK kvs)∧Q (.bl (vI kvs i).isSome) H
def Bb(y:V)(Q:VK):VK:=fun x H=>∃a i kvs,x=.ref a∧y=.int i∧H a=some (.dK kvs)∧Q (.bl (!(vI kvs i).isSome)) H
def L6(y:V)(Q:VK):VK:=fun x H=>∃a i kvs,x=.ref a∧y=.str i∧H a=some (.dK kvs)∧Q (.bl (vS kvs i).isSome) H
def Yk(x:V)(Q:VK):VK:=fun y H=>∃a i kvs v,x=.ref a∧y=.int i∧H a=some (.dK kvs)∧vI kvs i=some v∧Q v H
def Yj(x:V)(Q:VK):VK:=fun y H=>∃a i kvs v,x=.ref a∧y=.str i∧H a=some (.dK kvs)∧vS kvs i=some v∧Q v H
abbrev kD(k:V→VK→VK)(td:TE)(σ:L2.Internal.St)(Q:VK):VK:=fun y H=>td σ H (k y Q)
theorem abm(h:ty σ H (kD L7 td σ Q)):KJ ty td σ H Q:=h
theorem YC(h:ty σ H (kD Bb td σ Q)):mU ty td σ H Q:=h
theorem abk(h:ty σ H (kD L6 td σ Q)):KH ty td σ H Q:=h
theorem YI(h:td σ H (kD Yk ty σ Q)):AV td ty σ H Q:=h
theorem YG(h:td σ H (kD Yj ty σ Q)):vj td ty σ H Q:=h
theorem aa9(h1:H p=some (.dK kvs))(h:Q (.bl (vI kvs n).isSome) H):L7 (.int n) Q (.ref p) H:=⟨p,n,kvs,rfl,rfl,h1,h⟩
theorem aa6(h1:H p=some (.dK kvs))(h:Q (.bl (!(vI kvs n).isSome)) H):Bb (.int n) Q (.ref p) H:=⟨p,n,kvs,rfl,rfl,h1,h⟩
theorem aa7(h1:H p=some (.dK kvs))(h:Q (.bl (vS kvs s).isSome) H):L6 (.str s) Q (.ref p) H:=⟨p,s,kvs,rfl,rfl,h1,h⟩
theorem abc(h1:H p=some (.dK kvs))(h2:vI kvs n=some v)(h:Q v H):Yk (.ref p) Q (.int n) H:=⟨p,n,kvs,v,rfl,rfl,h1,h2,h⟩
theorem aba(h1:H p=some (.dK kvs))(h2:vS kvs s=some v)(h:Q v H):Yj (.ref p) Q (.str s) H:=⟨p,s,kvs,v,rfl,rfl,h1,h2,h⟩
end
structure Kd(w:World)(K:apw)(A:Ad):Prop where
 at_:∃es n,K.lookup A.iB=some ⟨.type "dict",none,.dict es n,#[]⟩∧avb w.params es.toList
 lo:(A.iB==sysModules)=false
 town:∃t,apU K A.iB "town"=some (some (.int 512 t))
 street:∃t,apU K A.iB "street"=some (some (.int 1024 t))
 code:∃t,apU K A.iB "code"=some (some (.int 1024 t))
 span:apU K A.iB "span"=some none
 letters:apU K A.iB "letters"=some none
 boxes:apU K A.iB "boxes"=some none
def most(x:Str):Option (Option Int):=if x="town" then some (some 512)else if x="street" then some (some 1024)else if x="code" then some (some 1024)else if x="span" then some none else if x="letters" then some none else if x="boxes" then some none else none
theorem Kd.find{w:World}{K:apw}{A:Ad}(D:Kd w K A){x:Str}{r:Option Int}(h:most x=some r):∃o:Option Value,apU K A.iB x=some o∧(match r with|some n=>∃t,o=some (.int n t)|none=>o=none):=by
 unfold most at h;by_cases h1:x="town"
 ·rw[if_pos h1]at h;cases h;subst h1;obtain⟨t,e⟩:=D.town;exact⟨_,e,t,rfl⟩
 ·rw[if_neg h1]at h;by_cases h2:x="street"
  ·rw[if_pos h2]at h;cases h;subst h2;obtain⟨t,e⟩:=D.street;exact⟨_,e,t,rfl⟩
  ·rw[if_neg h2]at h;by_cases h3:x="code"
   ·rw[if_pos h3]at h;cases h;subst h3;obtain⟨t,e⟩:=D.code;exact⟨_,e,t,rfl⟩
   ·rw[if_neg h3]at h;by_cases h4:x="span"
    ·rw[if_pos h4]at h;cases h;subst h4;exact⟨_,D.span,rfl⟩
    ·rw[if_neg h4]at h;by_cases h5:x="letters"
     ·rw[if_pos h5]at h;cases h;subst h5;exact⟨_,D.letters,rfl⟩
     ·rw[if_neg h5]at h;by_cases h6:x="boxes"
      ·rw[if_pos h6]at h;cases h;subst h6;exact⟨_,D.boxes,rfl⟩
      ·rw[if_neg h6]at h;cases h
def KI(ty:TE):TE:=fun σ H Q=>ty σ H fun y H1=>∃x r,y=.str x∧most x=some r∧Q (.bl r.isSome) H1
def AU(ty:TE):TE:=fun σ H Q=>ty σ H fun y H1=>∃x n,y=.str x∧most x=some (some n)∧Q (.int n) H1
def kIK(Q:VK):VK:=fun y H=>∃x r,y=.str x∧most x=some r∧Q (.bl r.isSome) H
def kGK(Q:VK):VK:=fun y H=>∃x n,y=.str x∧most x=some (some n)∧Q (.int n) H
section
variable{ty:TE}{σ:L2.Internal.St}{H:Hp}{Q:VK}{s:Str}
theorem abl(h:ty σ H (kIK Q)):KI ty σ H Q:=h
theorem YH(h:ty σ H (kGK Q)):AU ty σ H Q:=h
theorem aa8{r:Option Int}(e:most s=some r)(h:Q (.bl r.isSome) H):kIK Q (.str s) H:=⟨s,r,rfl,e,h⟩
theorem abb{n:Int}(e:most s=some (some n))(h:Q (.int n) H):kGK Q (.str s) H:=⟨s,n,rfl,e,h⟩
end
section
variable{X:Cx}{A:Ad}{o i:Expr}{pos p:Pos}{ty:TE}{x:Str}
theorem Zo(D:Kd X.w X.K A)(hi:PE X i ty)(hm:X.mg x=some (.ref A.iB))(hg:Gl X x:=by rfl)(hd:(x==("__debug__":Str))=false:=by decide):PC X .In i (.Name x p) (KI ty):=by
 intro ah s σ H Q I h;refine rR (hi ah s σ H _ I h) fun iv s1 ⟨y,H1,I1,ry,z,r,ey,hz,q⟩=>uM I1 hg hm ?_ hd;subst ey;obtain⟨t,rfl⟩:=(show∃t,iv=asN z t from ry);obtain⟨es,n,hl,hk⟩:=D.at_;obtain⟨ov,e,hov⟩:=D.find hz;have hmp:=avc (prog:=X.prog) I1.L8 hl hk;refine wpAny_in_of (strKind_is X.prog X.w z t) D.lo hmp ?_;rw[avm hl e];refine⟨.bl r.isSome,H1,I1.tok _,?_,q⟩;cases r with
 |none=>rw[hov];rfl
 |some n=>obtain⟨t',rfl⟩:=hov;rfl
theorem W7(D:Kd X.w X.K A)(hm:X.mg x=some (.ref A.iB))(hi:PE X i ty)(hs:Wj i)(hg:Gl X x:=by rfl)(hd:(x==("__debug__":Str))=false:=by decide):PE X (.Subscript (.Name x p) i pos) (AU ty):=by
 intro ah s σ H Q I h;obtain⟨es,n,hl,hk⟩:=D.at_;refine P6 atv.lookup hs (uM I hg hm (rR (hi ah s σ H _ I h) fun iv s2 ⟨y,H2,I2,ry,z,r,ey,hz,q⟩=>?_) hd);subst ey;obtain⟨t,rfl⟩:=(show∃t,iv=asN z t from ry);obtain⟨ov,e,hov⟩:=D.find hz;obtain⟨t',rfl⟩:=hov;have hmp:=avc (prog:=X.prog) I2.L8 hl hk;exact⟨hmp.typeIs,wpAny_getItem_of (strKind_is X.prog X.w z t) hmp (avm hl e) ⟨.int r,H2,I2.tok _,⟨t',rfl⟩,q⟩⟩
end
local macro_rules|`(tactic|walk_at "o")=>zzR " vi KJ mU KH AV vj vX vW DN DM Ng vY BG DS KI AU Kn RR uz xH UG UD L7 Bb L6 Yk Yj kD"
def yP:Option Nat→Int
 |some s=>(s:Int)
 |none=> -1
theorem lI.same{H H':Hp}{p na dx:Addr}{x:DLine}(h:lI A H p na dx x)(s:aV H H'):lI A H' p na dx x:=⟨s _ _ h.obj,s _ _ h.Oe⟩
structure rP(A:Ad)(H:Hp)(a:Addr)(r:fD)(src:V):Prop where
 ex:∃dx la na ld,H a=some (.bR A.gZ dx (xh (.ref la) (.int r.town) (.int (yP r.street)) (.int r.jD) src))∧lI A H la na ld r.line
theorem rP.same{H H':Hp}{a:Addr}{r:fD}{src:V}(h:rP A H a r src)(s:aV H H'):rP A H' a r src:=
 let⟨dx,la,na,ld,e,l⟩:=h.ex
 ⟨dx,la,na,ld,s _ _ e,l.same s⟩
def ptV(p:Point):List (Str×V):=zL (.int p.town) (.int (yP p.street)) (.int p.number) (.int (aqt p.letter)) (.str (bB p.code)) (.int p.walk) (.int p.place)
def Jd(A:Ad)(p:Point)(H:Hp)(Q:VK):Prop:=∀H' a dx,aV H H'→H a=none→H' a=some (.bR A.jA dx (ptV p))→Q (.ref a) H'
theorem L3(x:DLine):eG x=1∨eG x=2:=by
 cases x with
 |span s=>
  rcases gj s with h|h
  ·exact .inl h.2
  ·exact .inr h.2
 |town l=>exact .inl rfl
 |code l=>exact .inl rfl
 |street l=>exact .inl rfl
 |letters a b c=>exact .inl rfl
 |boxes l=>exact .inl rfl
theorem acE{c A B:Prop} [Decidable c] (hc:c)(h:A):if c then A else B:=by rw[if_pos hc];exact h
theorem acF{c A B:Prop} [Decidable c] (hc:¬c)(h:B):if c then A else B:=by rw[if_neg hc];exact h
def Ry(A:Ad):Sp:=fun vs H Q _=>∃p j,vs=[.ref p,.int ((j:Nat):Int)]∧∃na dx x,lI A H p na dx x∧j<x.points∧Q (.int (dq x j)) H
theorem Hz(T:Tx K mg A):bN P w K mg base fU 1 A.tX A.yy ["line","offset"] (Ry A):=by
 have sc:=RP;have F:=T.gf.F;walk_at "f"
 ·obtain⟨p,j,rfl,_⟩:=h;rfl
 ·obtain⟨p,j,rfl,na,dx,x,⟨ho,hn⟩,hj,k⟩:=h;refine⟨_,(aw (aB (i9 (kX (aq (pv 0) rfl)) (aZ dS (aZ dS (aq (pv 0) rfl) ay) (pv 1)) (pv 1)))),?_⟩;walk_at "z";unfold iS at ho;walk_at "d";unfold dq at k;refine bW (fun c=>?_) fun c=>?_
  ·rw[if_pos c]at k;have e:((x.points:Int)-1-j)=((x.points-1-j:Nat):Int):=by omega
   rw[e];exact k
  ·rw[if_neg c]at k;exact k
def RE(A:Ad):Sp:=fun vs H Q _=>∃p n,vs=[.ref p,.int ((n:Nat):Int)]∧∃na dx x,lI A H p na dx x∧fB x≤n∧Q (.int (gu x n)) H
theorem xT(T:Tx K mg A):bN P w K mg base fU 1 A.kJ A.nQ ["line","number"] (RE A):=by
 have sc:=IQ;have F:=T.oY.F;walk_at "f"
 ·obtain⟨p,n,rfl,_⟩:=h;rfl
 ·obtain⟨p,n,rfl,na,dx,x,⟨ho,hn⟩,hl,k⟩:=h;refine⟨_,(aw (aB (aZ uB (aZ dS (pv 1) (aq (pv 0) rfl)) (aq (pv 0) rfl)))),?_⟩;walk_at "z";unfold iS at ho;walk_at "d";have h12:=L3 x;refine⟨⟨by omega,by omega⟩,?_⟩;have e:(((n:Int)-(fB x:Int)) /(eG x:Int))=((gu x n:Nat):Int):=by
   unfold gu;rw[show(n:Int)-(fB x:Int)=((n-fB x:Nat):Int) by omega];rfl
  rw[e];exact k
def Ul(A:Ad):Sp:=fun vs H Q _=>∃a n,vs=[.ref a,.int ((n:Nat):Int)]∧∃r src,rP A H a r src∧fB r.line≤n∧Q (.int ((r.jD+gu r.line n:Nat):Int)) H
theorem A4(T:Tx K mg A):bN P w K mg base fU 2 A.mI A.qM ["run","number"] (Ul A):=by
 have sc:=Lf;have F:=T.tM.F;walk_at "f"
 ·obtain⟨a,n,rfl,_⟩:=h;rfl
 ·obtain⟨a,n,rfl,r,src,⟨dx,la,na,ld,Yn,ig⟩,hl,k⟩:=h;refine⟨_,(aw (aB (aZ dD (aq (pv 0) rfl) (br (xT T) hr.mn rfl T.Bl T.oY.F.kp T.oY.b .nil aP (af (aq (pv 0) rfl) (af (pv 1) ax)))))),?_⟩;walk_at "z";walk_at "d";refine⟨la,n,rfl,na,ld,r.line,ig,hl,_,rfl,?_⟩;rw[←asm];exact k
def RD(A:Ad):Sp:=fun vs H Q _=>∃p t s n,vs=[.ref p,t,s,n]∧∃dx,H p=some (.bR A.jA dx [])∧Q .cx (aJ H p (.bR A.jA dx (zL t s n (.int 0) (.str "") (.int 0) (.int 0))))
theorem N6(T:Tx K mg A):bN P w K mg base fU 1 A.pG A.uU ["self","town","street","number"] (RD A):=by
 have sc:=Nv;have F:=T.Qj.F;walk_at "f"
 ·obtain⟨p,t,s,n,rfl,_⟩:=h;rfl
 ·obtain⟨p,t,z,n,rfl,dx,hp,k⟩:=h;refine⟨_,(ag (aW (pv 0) (pv 1) rfl)
 (ag (aW (pv 0) (pv 2) rfl)
 (ag (aW (pv 0) (pv 3) rfl)
 (ag (aW (pv 0) ay rfl)
 (ag (aW (pv 0) aR rfl)
 (ag (aW (pv 0) ay rfl)
 (aw (aW (pv 0) ay rfl)))))))),?_⟩
  walk_at "z";walk_at "s";simp only[j5];exact k
def RC(A:Ad):Sp:=fun vs H Q _=>∃p l t s b,vs=[.ref p,l,t,s,b]∧∃dx,H p=some (.bR A.gZ dx [])∧Q .cx (aJ H p (.bR A.gZ dx (xh l t s b .cx)))
theorem N0(T:Tx K mg A):bN P w K mg base fU 1 A.pF A.uT ["self","line","town","street","begin"] (RC A):=by
 have sc:=Nu;have F:=T.Qh.F;walk_at "f"
 ·obtain⟨p,l,t,s,b,rfl,_⟩:=h;rfl
 ·obtain⟨p,l,t,z,b,rfl,dx,hp,k⟩:=h;refine⟨_,(ag (aW (pv 0) (pv 1) rfl)
 (ag (aW (pv 0) (pv 2) rfl)
 (ag (aW (pv 0) (pv 3) rfl)
 (ag (aW (pv 0) (pv 4) rfl)
 (aw (aW (pv 0) cj rfl)))))),?_⟩
  walk_at "z";walk_at "s";simp only[j5];exact k
theorem aV.new{H:Hp}{x dx:Addr}{o:HO}(nx:H x=none)(nd:H dx=none):aV H (aJ (aJ H dx (.own x)) x o):=fun b u e=>by
 rw[ai (aj e nx),ai (aj e nd)];exact e
def K1(A:Ad):Sp:=fun vs H Q _=>∃a j,vs=[.ref a,.int ((j:Nat):Int)]∧∃r src,rP A H a r src∧j<r.line.points∧j<4294967296∧Jd A (i7 r j) H Q
theorem A3(T:Tx K mg A):bN P w K mg base fU 3 A.mF A.qJ ["run","offset"] (K1 A):=by
 have sc:=Lc;have F:=T.sO.F;walk_at "f"
 ·obtain⟨a,j,rfl,_⟩:=h;rfl
 ·obtain⟨a,j,rfl,r,src,⟨dx,la,na,ld,Yn,ig⟩,hj,hj2,k⟩:=h;refine⟨_,(ag (aX (i:=2) sc.nd rfl (apN rfl) (aq (pv 0) rfl))
 (ag (aX (i:=3) sc.nd rfl (apN rfl) (xP T.ab2 (N6 T) hr.mn rfl T.aca T.Qj.b .nil aP (af (aq (pv 0) rfl) (af (aq (pv 0) rfl) (af (aZ dD (aq (pv 2) rfl) (aZ U1 (pv 1) (aq (pv 2) rfl))) ax)))))
 (ag (aW (pv 3) (aq (pv 2) rfl) rfl)
 (ag (aW (pv 3) (aq (pv 2) rfl) rfl)
 (ag (aW (pv 3) (aZ dD (aq (pv 2) rfl) (br (Hz T) hr.mn rfl T.Mh T.gf.F.kp T.gf.b .nil aP (af (pv 2) (af (pv 1) ax)))) rfl)
 (aw (aB (pv 3)))))))),?_⟩
  walk_at "z";have dP:=ig.obj;unfold iS at dP;walk_at "e";refine bQ ?_;walk_at "e";refine⟨.inl ⟨by omega,by omega⟩,fun x dx nx nd ne=>⟨x,_,_,_,rfl,dx,au,rfl,bQ ?_⟩⟩;rw[j5];have s1:aV H (aJ (aJ H dx (.own x)) x (.bR A.jA dx (zL (.int r.town) (.int (yP r.street)) (.int ((fB r.line:Int)+(j:Int)*(eG r.line:Int))) (.int 0) (.str "") (.int 0) (.int 0)))):=aV.new nx nd;have ho:(aJ (aJ H dx (.own x)) x (.bR A.jA dx (zL (.int r.town) (.int (yP r.street)) (.int ((fB r.line:Int)+(j:Int)*(eG r.line:Int))) (.int 0) (.str "") (.int 0) (.int 0)))) x=_:=au;generalize aJ (aJ H dx (.own x)) x (.bR A.jA dx (zL (.int r.town) (.int (yP r.street)) (.int ((fB r.line:Int)+(j:Int)*(eG r.line:Int))) (.int 0) (.str "") (.int 0) (.int 0)))=H1 at s1 ho ⊢;have yi:=s1 _ _ dP;have nla:la≠x:=aj dP nx;have hu:∀o,aJ H1 x o la=some (.bR A.dU ld (iS r.line na)):=fun o=>by rw[ai nla];exact yi
  unfold iS at hu;have hur:∀o,lI A (aJ H1 x o) la na ld r.line:=fun o=>⟨hu o,by rw[ai (aj ig.Oe nx)];exact s1 _ _ ig.Oe⟩;clear dP Yn;walk_at "e";refine bQ ?_;walk_at "e";refine bQ ?_;walk_at "e";refine⟨la,j,rfl,na,ld,r.line,hur _,hj,_,rfl,?_⟩;walk_at "d";refine bQ ⟨_,rfl,?_⟩;refine k _ x dx (fun b o e=>?_) nx ?_
  ·rw[ai (aj e nx)];exact s1 b o e
  ·rw[au];have e1:((fB r.line:Int)+(j:Int)*(eG r.line:Int))=(((i7 r j).number:Nat):Int):=by
    show _=((fB r.line+j*eG r.line:Nat):Int);rw[asm,avd]
   have e2:((bM r.line:Int)+(dq r.line j:Int))=(((i7 r j).place:Nat):Int):=by
    show _=((bM r.line+dq r.line j:Nat):Int);rw[asm]
   rw[e1,e2];rfl
def K2(A:Ad):Sp:=fun vs H Q _=>∃a j,vs=[.ref a,.int ((j:Nat):Int)]∧∃r r' a' src n c e,rP A H a r (.ref a')∧rP A H a' r' src∧r.line=.letters n c e∧rD n c e∧j<r.line.points∧fB r'.line≤n∧gu r'.line n<r'.line.points∧gu r'.line n<4294967296∧Jd A {i7 r' (gu r'.line n)with letter:=apM (c.toNat+j)} H Q
theorem xU(T:Tx K mg A):bN P w K mg base fU 4 A.fg A.gT ["run","offset"] (K2 A):=by
 have sc:=xB;have F:=T.mz.F;walk_at "f"
 ·obtain⟨a,j,rfl,_⟩:=h;rfl
 ·obtain⟨a,j,rfl,r,r',a',src,n,c,e,⟨dx,la,na,ld,Yn,ig⟩,R2,el,xi,hj,ahy,hof,ahq,k⟩:=h;refine⟨_,(ag (aX (i:=2) sc.nd rfl (apN rfl) (aq (aq (pv 0) rfl) rfl))
 (ag (aX (i:=3) sc.nd rfl (apN rfl) (br (A3 T) hr.mn rfl T.E1 T.sO.F.kp T.sO.b .nil aP (af (aq (pv 0) rfl) (af (br (xT T) hr.mn rfl T.Bl T.oY.F.kp T.oY.b .nil aP (af (aq (aq (pv 0) rfl) rfl) (af (pv 2) ax))) ax))))
 (ag (aW (pv 3) (aZ dD (aq (aq (pv 0) rfl) rfl) (pv 1)) rfl)
 (aw (aB (pv 3)))))),?_⟩
  walk_at "z";have dP:=ig.obj;unfold iS at dP;obtain⟨vg,la',Jn,ld',ahk,XF⟩:=R2.ex;have en:acq r.line=n:=by rw[el];rfl
  walk_at "e";refine bQ ?_;walk_at "e";refine⟨la',n,rfl,Jn,ld',r'.line,XF,ahy,a',_,rfl,r',src,R2,hof,ahq,fun H1 x px s1 nx hx=>bQ ?_⟩;have ahk:=s1 _ _ Yn;have XD:=s1 _ _ dP;unfold ptV at hx;clear Yn dP;walk_at "e";refine bQ ⟨_,rfl,?_⟩;refine k _ x px (fun b o q=>?_) nx ?_
  ·rw[ai (aj q nx)];exact s1 b o q
  ·rw[au];obtain⟨_,_,l1,l2,l3⟩:=xi;have XG:j<e.toNat-c.toNat+1:=by rw[el]at hj;exact hj
   have e1:((fB (.letters n c e):Int)+(j:Int))=((aqt (apM (c.toNat+j)):Nat):Int):=by
    show(((c.toNat-96:Nat):Int)+(j:Int))=_;unfold aqt;have e3:(apM (c.toNat+j)).toNat=c.toNat+j:=cJ (by omega);rw[if_neg (fun z=>by rw[z]at e3;have:(0:UInt8).toNat=0:=rfl;omega),e3];omega
   rw[e1];rfl
def K0(A:Ad):Sp:=fun vs H Q _=>∃a i,vs=[.ref a,.int i]∧∃r src p,rP A H a r src∧(r.jD:Int)≤i∧(i.toNat-r.jD)<r.line.points∧i<4294967296∧Jd A p H Q∧
 ((src=.cx∧p=i7 r (i.toNat-r.jD))∨∃a' r' Y8 n c e,src=.ref a'∧rP A H a' r' Y8∧r.line=.letters n c e∧rD n c e∧fB r'.line≤n∧gu r'.line n<r'.line.points∧gu r'.line n<4294967296∧p={i7 r' (gu r'.line n)with letter:=apM (c.toNat+(i.toNat-r.jD))})
theorem LC(T:Tx K mg A):bN P w K mg base fU 5 A.mE A.qI ["run","i"] (K0 A):=by
 have sc:=Lb;have F:=T.DX.F;walk_at "f"
 ·obtain⟨a,i,rfl,_⟩:=h;rfl
 ·obtain⟨a,i,rfl,r,src,p,R1,h1,h2,h3,k,h4⟩:=h;refine⟨_,(ag (bo (aD kY (aq (pv 0) rfl) cj (aH _)) (aw (aB (br (A3 T) hr.mn rfl T.E1 T.sO.F.kp T.sO.b .nil aP (af (pv 0) (af (aZ dS (pv 1) (aq (pv 0) rfl)) ax))))) aM)
 (aw (aB (br (xU T) hr.mn rfl T.Am T.mz.F.kp T.mz.b .nil aP (af (pv 0) (af (aZ dS (pv 1) (aq (pv 0) rfl)) ax)))))),?_⟩
  walk_at "z";obtain⟨dx,la,na,ld,Yn,ig⟩:=R1.ex;have ei:(i-(r.jD:Int))=((i.toNat-r.jD:Nat):Int):=by omega
  walk_at "e";rcases h4 with⟨rfl,rfl⟩|⟨a',r',Y8,n,c,e,rfl,R2,el,xi,g1,g2,g3,rfl⟩
  ·refine acE rfl ⟨a,_,rfl,r,.cx,R1,h2,by omega,k⟩
  ·refine acF (by simp) (bQ ?_);walk_at "d";exact⟨a,_,rfl,r,r',a',Y8,n,c,e,R1,R2,el,xi,h2,g1,g2,g3,k⟩
def yQ(s:Span):List (Nat×Nat×Nat):=([0,1]:List Nat).filterMap fun o=>(bh s o).map fun x=>(o,x.1,x.2)
def HJ(s:Span)(i:Nat):List (Nat×Nat×Nat):=(([0,1]:List Nat).take i).filterMap fun o=>(bh s o).map fun x=>(o,x.1,x.2)
def ZU(h:Nat×Nat×Nat):List V:=[.int h.1,.int h.2.1,.int h.2.2]
structure um(H:Hp)(l:Addr)(ts:List Addr)(vs:List (List V)):Prop where
 aN:H l=some (.aN (ts.map V.ref))
 len:ts.length=vs.length
 at_:∀(i:Nat) t v,ts[i]? =some t→vs[i]? =some v→H t=some (.fR v)
theorem um.same{H H':Hp}{l:Addr}{ts:List Addr}{vs:List (List V)}(h:um H l ts vs)(s:aV H H'):um H' l ts vs:=⟨s _ _ h.aN,h.len,fun i t v a b=>s _ _ (h.at_ i t v a b)⟩
theorem um.snoc{H:Hp}{l t:Addr}{ts:List Addr}{vs:List (List V)}{v:List V}(h:um H l ts vs)(ht:H t=some (.fR v)):um (aJ H l (.aN (ts.map V.ref++[.ref t]))) l (ts++[t]) (vs++[v]):=by
 refine⟨by rw[au,apB];rfl,by simp[h.len],fun i t' v' a b=>?_⟩;have Bf:∀{x u},H x=some (HO.fR u)→x≠l:=fun e=>dy e h.aN nofun;rcases eC a with a|⟨e1,rfl⟩
 ·have hi:=(apu.mp a).1;rw[aql (by rw[←h.len];exact hi)]at b;have e:=h.at_ i t' v' a b;rw[ai (Bf e)];exact e
 ·rw[e1,h.len,aqh (apE _),atJ]at b;cases b;rw[ai (Bf ht)];exact ht
def QJ(lp:Addr)(l:Addr)(s:Span)(H0:Hp)(i:Nat)(σ:L2.Internal.St)(H:Hp):Prop:=∃(v a b:Option V) (ts:List Addr),σ=[some (.ref lp),some (.ref l),v,a,b]∧aV H0 H∧um H l ts ((HJ s i).map ZU)∧H0 l=none
def RI(A:Ad):Sp:=fun vs H Q _=>∃p,vs=[.ref p]∧∃na dx s,lI A H p na dx (.span s)∧dt s∧∀H' l ts,aV H H'→H l=none→um H' l ts ((yQ s).map ZU)→Q (.ref l) H'
theorem ON{s:Span}{i o:Nat}(h:([0,1]:List Nat)[i]? =some o):HJ s (i+1)=HJ s i++(match bh s o with|some x=>[(o,x.1,x.2)]|none=>[]):=by
 unfold HJ;rw[aq6,h,aqp];cases q:bh s o<;>simp[q]
theorem EL(s:Span)(i:Nat):(HJ s i).length≤2:=by
 unfold HJ;refine aqa (arK _ _) ?_;rw[aqm];exact aqa (Nat.min_le_right _ _) (by simp)
theorem xV(T:Tx K mg A):bN P w K mg base fU 1 A.kK A.nR ["line"] (RI A):=by
 have sc:=IS;have F:=T.pC.F;walk_at "f"
 ·obtain⟨p,rfl,_⟩:=h;rfl
 ·obtain⟨p,rfl,na,dx,s0,ig,ok,k⟩:=h;refine⟨_,(ag (aX (i:=1) sc.nd rfl (apN rfl) (cG ax))
 (ag (wA ara rfl (UN (sQ (af ay (af ay ax)))) (fW (i:=2) sc.nd rfl (apN rfl)) (ag (aX (i:=3) sc.nd rfl (apN rfl) (aZ uB (aZ dS (aZ dD (aq (pv 0) rfl) ay) (pv 2)) ay))
 (ag (aX (i:=4) sc.nd rfl (apN rfl) (aZ uB (aZ dS (aq (pv 0) rfl) (pv 2)) ay))
 (aw (bo (PW.pt (wz (aD U2 (pv 3) (pv 4) (aH _)) (qi (PW.pt (k8 (aD cy (aq (pv 0) rfl) ay (aH _)) (i6 (aD cy (aZ NX (aq (pv 0) rfl) ay) (pv 2) (aH _)))))))) (aw (cQ (jQ aqM aqT jY (pv 1) (af (sQ (af (pv 2) (af (pv 3) (af (pv 4) ax)))) ax)))) aM)))))
 (aw (aB (pv 1))))),?_⟩
  walk_at "z";have dP:=ig.obj;have e1:iS (.span s0) na=oO (.str "span") (.ref na) (.str (bB s0.code)) (.int 0) (.int s0.a) (.int s0.b) (.int s0.step) (.int s0.walk) (.int s0.first) (.bl s0.back) (.int s0.many):=rfl;rw[e1]at dP;refine Dz ⟨by decide,fun l hl=>bQ ?_⟩;have s1:aV H (aJ H l (.aN [])):=fun b o e=>by rw[ai (aj e hl)];exact e
  refine Dz ⟨by decide,fun tp htp=>⟨tp,rfl,⟨_,AK.of au⟩,?_⟩⟩;obtain⟨nt,ag5⟩:=aE htp;have s2:aV (aJ H l (.aN [])) (aJ (aJ H l (.aN [])) tp (.fR [.int 0,.int 1])):=fun b o e=>by rw[ai (aj e htp)];exact e
  have I0:QJ p l s0 H 0 [some (V.ref p),some (V.ref l),none,none,none] (aJ (aJ H l (.aN [])) tp (.fR [.int 0,.int 1])):=⟨none,none,none,[],rfl,s1.trans s2,⟨s2 _ _ au,rfl,fun i t v a=>by simp at a⟩,hl⟩;refine XN (K:=K) (a:=tp) (xs:=[.int 0,.int 1]) (fun i σ H'=>QJ p l s0 H i σ H'∧H' tp=some (.fR [.int 0,.int 1])) ⟨I0,au⟩ (fun i σ H' _ h=>AK.of h.2) ?_ ?_
  ·rintro i x σ H' hi ⟨⟨v,a,b,ts,rfl,sm,tu,_⟩,ZW⟩;obtain⟨o,ho,rfl⟩:∃o:Nat,([0,1]:List Nat)[i]? =some o∧x=.int (o:Int):=by
    match i,hi with
    |0,h=>cases h;exact⟨0,rfl,rfl⟩
    |1,h=>cases h;exact⟨1,rfl,rfl⟩
   have ho2:o≤1:=by
    match i,ho with
    |0,h=>cases h;decide
    |1,h=>cases h;decide
   have XD:=sm _ _ dP;clear I0 s1 s2 htp ag5;have hll:=tu.aN;have hts:ts.length≤2:=by rw[tu.len,apt];exact EL s0 i
   have ZZ:=ON (s:=s0) ho;obtain⟨a1,a2,a3,a4⟩:1≤s0.a∧s0.a≤s0.b∧(s0.step=1∨s0.step=2)∧s0.b≤99999:=⟨ok.a1,ok.ab,by rcases gj s0 with h|h<;>omega,ok.b1⟩;have e3:((s0.a:Int)+1-(o:Int)) / 2=(((s0.a+1-o) / 2:Nat):Int):=by omega
   have e4:((s0.b:Int)-(o:Int)) / 2=(((s0.b-o) / 2:Nat):Int):=by omega
   have e5:(s0.a:Int) % 2=((s0.a % 2:Nat):Int):=by omega
   walk_at "e";refine⟨⟨by decide,by decide⟩,bQ ?_⟩;walk_at "e";refine⟨⟨by decide,by decide⟩,bQ ?_⟩;walk_at "d";have no:bh s0 o=none→QJ p l s0 H (i+1) [some (V.ref p),some (V.ref l),some (V.int o),some (V.int ((s0.a+1-o) / 2:Nat)),some (V.int ((s0.b-o) / 2:Nat))] H':=fun h=>by
    rw[h]at ZZ;exact⟨_,_,_,ts,rfl,sm,by rw[ZZ,apK];exact tu,hl⟩
   have yes:bh s0 o=some ((s0.a+1-o) / 2,(s0.b-o) / 2)→∀q,H' q=none→∃x,aJ H' q (.fR [.int o,.int ((s0.a+1-o) / 2:Nat),.int ((s0.b-o) / 2:Nat)]) l=some (.aN x)∧x.length<sizeLine∧
     QJ p l s0 H (i+1) [some (V.ref p),some (V.ref l),some (V.int o),some (V.int ((s0.a+1-o) / 2:Nat)),some (V.int ((s0.b-o) / 2:Nat))] (aJ (aJ H' q (.fR [.int o,.int ((s0.a+1-o) / 2:Nat),.int ((s0.b-o) / 2:Nat)])) l (.aN (x++[.ref q])))∧
     aJ (aJ H' q (.fR [.int o,.int ((s0.a+1-o) / 2:Nat),.int ((s0.b-o) / 2:Nat)])) l (.aN (x++[.ref q])) tp=some (.fR [.int 0,.int 1]):=fun h q hq=>by
    have s3:aV H' (aJ H' q (.fR [.int o,.int ((s0.a+1-o) / 2:Nat),.int ((s0.b-o) / 2:Nat)])):=fun b o e=>by rw[ai (aj e hq)];exact e
    have tu2:=(tu.same s3).snoc (t:=q) (v:=ZU (o,(s0.a+1-o) / 2,(s0.b-o) / 2)) au;have hs:=sizeLine_eq;refine⟨_,s3 _ _ hll,by rw[apt];omega,⟨_,_,_,ts++[q],rfl,fun b o e=>?_,?_,hl⟩,?_⟩
    ·rw[ai (aj e hl)];exact s3 _ _ (sm _ _ e)
    ·rw[ZZ,h,apB];exact tu2
    ·rw[ai (dy ZW hll (by nofun))];exact s3 _ _ ZW
   have hh:bh s0 o=if(s0.a+1-o) / 2≤(s0.b-o) / 2∧(s0.step=1∨s0.a % 2=o)then some ((s0.a+1-o) / 2,(s0.b-o) / 2)else none:=rfl
   refine bW (fun c1=>bW (fun c2=>⟨(by show 3≤sizeLine;decide),yes ?_⟩) fun c2=>bW (fun c3=>⟨(by show 3≤sizeLine;decide),yes ?_⟩) fun c3=>no ?_) fun c1=>no ?_
   ·rw[hh,if_pos ⟨by omega,.inl (by omega)⟩]
   ·rw[hh,if_pos ⟨by omega,.inr (by omega)⟩]
   ·rw[hh,if_neg (by omega)]
   ·rw[hh,if_neg (by omega)]
  ·rintro σ H' ⟨⟨v,a,b,ts,rfl,sm,tu,_⟩,ZW⟩;refine bQ ⟨_,rfl,?_⟩;exact k _ l ts sm hl tu
def wR(g:Nat→Addr)(L:List (Iv Nat)):List (Iv V):=L.map fun x=>⟨x.lo,x.hi,.ref (g x.at_)⟩
theorem yh{g:Nat→Addr}{L:List (Iv Nat)}(h:L.Pairwise fun x y=>x.lo<y.lo):(wR g L).Pairwise fun x y=>x.lo<y.lo:=by
 unfold wR;rw[aq7];exact h
theorem Al{g:Nat→Addr}{L:List (Iv Nat)}(h:j4 L):j4 (wR g L):=by
 refine⟨?_,fun x hx=>?_⟩
 ·unfold wR;rw[aq7];exact h.apart
 ·obtain⟨y,hy,rfl⟩:=apW.mp hx;exact h.le y hy
theorem OQ(g:Nat→Addr)(L:List (Iv Nat))(n:Int):cW (wR g L) n=(cW L n).map fun x=>⟨x.lo,x.hi,.ref (g x.at_)⟩:=by
 unfold cW wR;rw[List.find?_map];rfl
theorem Aa(g:Nat→Addr)(L:List (Iv Nat))(a b:Int):d5 (wR g L) a b=d5 L a b:=by
 unfold d5 wR;rw[atA];rfl
theorem SV(g:Nat→Addr)(L:List (Iv Nat))(n:Int):cC (wR g L) n=cC L n:=by
 unfold cC wR;rw[List.takeWhile_map,apt];rfl
theorem va(g:Nat→Addr)(L:List (Iv Nat))(x:Iv Nat):bE (wR g L) ⟨x.lo,x.hi,.ref (g x.at_)⟩=wR g (bE L x):=by
 unfold bE;rw[SV];unfold wR;rw[apB,apG,avu,avv]
theorem CV(g:Nat→Addr)(L:List (Iv Nat)):(wR g L).length=L.length:=apt _
theorem lO{α:Type}(L:List (Iv α))(x:Iv α):(bE L x).length=L.length+1:=by
 rw[(w6 L x).length_eq,apz]
inductive kN where
 |bS
 |walk (w:Nat)
 |boxes (t:Nat)
 |bh (s o:Nat)
 deriving DecidableEq
inductive bO where
 |aL|bI|ao|ae|az
 |cN (i:kN)|bJ (i:kN)|holds (i:kN)
 |bj (t:Nat)|letters (s:Nat)|aU (s n:Nat)
 deriving DecidableEq
structure Fz where
 iv:kN→Addr
 town:Nat→Addr
 street:Nat→Addr
 run:Nat→Addr
def bV(M:Bk):kN→Option (List (Iv Nat))
 | .bS=>some M.bS
 | .walk w=>M.az.lookup w
 | .boxes t=>(M.ao[t]?).map dk.boxes
 | .bh s o=>if o<2 then(M.ae[s]?).map (fun S=>hv S o)else none
def c7(d:aqG):List (Key×V):=[(.inr "town",.int (townsIn d)),(.inr "code",.int (codesIn d).length),(.inr "street",.int (streetsIn d)),(.inr "span",.int (spansIn d).length),(.inr "letters",.int (d.filter aqD).length),(.inr "boxes",.int (boxesIn d).length)]
def kl(z:Fz)(M:Bk):V:=if M.ao=[]then .cx else .ref (z.town (aO M))
def eK(z:Fz)(M:Bk):V:=if M.aY=true then .ref (z.street (bp M))else .cx
def SS(g:bO→Addr)(z:Fz)(M:Bk)(ta:Addr):List (Str×V):=iV (.ref ta) (.int M.aF.length) (.ref (g .bI)) (.ref (g .ao)) (.ref (g .ae)) (kl z M) (eK z M) (.ref (g .az)) (.ref (z.iv .bS)) (.int M.points)
def oB(f:Nat→Addr)(n:Nat):List V:=(ap4 n).map fun i=>.ref (f i)
def mc(A:Ad)(g:bO→Addr)(z:Fz)(M:Bk)(ta dX:Addr):bO→Option HO
 | .aL=>some (.bR A.cb dX (SS g z M ta))
 | .bI=>some (.dK (c7 M.aF))
 | .ao=>some (.aN (oB z.town M.ao.length))
 | .ae=>some (.aN (oB z.street M.ae.length))
 | .az=>some (.dK (M.az.map fun p=>(.inl (p.1:Int),.ref (z.iv (.walk p.1)))))
 | .cN i=>(bV M i).map fun L=>.aN (L.map fun x=>.int x.lo)
 | .bJ i=>(bV M i).map fun L=>.aN (L.map fun x=>.int x.hi)
 | .holds i=>(bV M i).map fun L=>.aN (L.map fun x=>.ref (z.run x.at_))
 | .bj t=>(M.ao[t]?).map fun T=>.dK (T.bj.map fun c=>(.inr (bB c),.bl true))
 | .letters s=>(M.ae[s]?).map fun S=>.dK (S.aU.map fun p=>(.inl (p.1:Int),.ref (g (.aU s p.1))))
 | .aU s n=>(M.ae[s]?).bind fun S=>(S.aU.lookup n).map fun L=>.dK (L.map fun q=>(.inl (q.1:Int),.int (q.2:Int)))
def Of(l:List Name):List V:=l.map fun n=>V.str (bB (spaced n))
def p7(z:Fz)(r:fD):V:=match r.src with
 |some k=>.ref (z.run k)
 |none=>.cx
structure cS(A:Ad)(F H:Hp)(g:bO→Addr)(z:Fz)(M:Bk)(ta dX:Addr)(tx:List Int):Prop where
 same:aV F H
 mt:∀r o,mc A g z M ta dX r=some o→H (g r)=some o∧F (g r)=none
 inj:∀r r',(mc A g z M ta dX r).isSome=true→(mc A g z M ta dX r').isSome=true→g r=g r'→r=r'
 iv:∀i,(bV M i).isSome=true→∃dx,F (z.iv i)=some (.bR A.dR dx (rS (.ref (g (.cN i))) (.ref (g (.bJ i))) (.ref (g (.holds i)))))
 town:∀(t:Nat) T,M.ao[t]? =some T→∃dx na,F (z.town t)=some (.bR A.jz dx (C5 (.ref na) (.ref (g (.bj t))) (.ref (z.iv (.boxes t)))))∧F na=some (.aN (Of T.names))
 street:∀(s:Nat) S,M.ae[s]? =some S→∃dx na hl,F (z.street s)=some (.bR A.eE dx (vn (.ref na) (.int S.town) (.ref hl) (.ref (g (.letters s)))))∧F na=some (.aN (Of S.names))∧F hl=some (.aN [.ref (z.iv (.bh s 0)),.ref (z.iv (.bh s 1))])
 run:∀(k:Nat) r,M.aK[k]? =some r→rP A F (z.run k) r (p7 z r)
 text:F ta=some (.aN (tx.map V.int))
section
variable{A:Ad}{F H:Hp}{g:bO→Addr}{z:Fz}{M:Bk}{ta dX:Addr}{tx:List Int}
theorem cS.on{H':Hp}(B:cS A F H g z M ta dX tx)(s:aV H H'):cS A F H' g z M ta dX tx:=
 ⟨B.same.trans s,fun r o e=>⟨s _ _ (B.mt r o e).1,(B.mt r o e).2⟩,B.inj,B.iv,B.town,B.street,B.run,B.text⟩
theorem cS.EH(B:cS A F H g z M ta dX tx){i:kN}{L:List (Iv Nat)}(h:bV M i=some L):PR A H (z.iv i) (g (.cN i)) (g (.bJ i)) (g (.holds i)) (wR z.run L):=by
 obtain⟨dx,e⟩:=B.iv i (by rw[h];rfl);refine⟨⟨dx,B.same _ _ e⟩,?_,?_,?_⟩
 ·rw[(B.mt (.cN i) _ (by show(bV M i).map _=_;rw[h];rfl)).1];unfold wR;rw[apJ];rfl
 ·rw[(B.mt (.bJ i) _ (by show(bV M i).map _=_;rw[h];rfl)).1];unfold wR;rw[apJ];rfl
 ·rw[(B.mt (.holds i) _ (by show(bV M i).map _=_;rw[h];rfl)).1];unfold wR;rw[apJ];rfl
theorem cS.Vp(B:cS A F H g z M ta dX tx){i:kN}{L:List (Iv Nat)}(h:bV M i=some L):g (.cN i)≠g (.bJ i)∧g (.cN i)≠g (.holds i)∧g (.bJ i)≠g (.holds i):=by
 have p1:(mc A g z M ta dX (.cN i)).isSome=true:=by show((bV M i).map _).isSome=true;rw[h];rfl
 have p2:(mc A g z M ta dX (.bJ i)).isSome=true:=by show((bV M i).map _).isSome=true;rw[h];rfl
 have p3:(mc A g z M ta dX (.holds i)).isSome=true:=by show((bV M i).map _).isSome=true;rw[h];rfl
 exact⟨fun e=>(by cases B.inj _ _ p1 p2 e),fun e=>(by cases B.inj _ _ p1 p3 e),fun e=>(by cases B.inj _ _ p2 p3 e)⟩
def dG(M:Bk)(i:kN)(L:List (Iv Nat)):Bk:=match i with
 | .bS=>{M with bS:=L}
 | .walk w=>{M with az:=bU M.az w [] fun _=>L}
 | .boxes t=>{M with ao:=M.ao.modify t fun T=>{T with boxes:=L}}
 | .bh s o=>{M with ae:=M.ae.modify s fun S=>if o=0 then{S with tZ:=L}else{S with odd:=L}}
theorem CW{i:kN}{L L0:List (Iv Nat)}(h:bV M i=some L0)(j:kN):bV (dG M i L) j=if j=i then some L else bV M j:=by
 cases i with
 |bS=>
  cases j<;>simp[bV,dG]
 |walk w=>
  have h':M.az.lookup w=some L0:=h;cases j with
  |walk v=>
   show(bU M.az w [] fun _=>L).lookup v=_;rw[dE];by_cases e:v=w
   ·subst e;simp
   ·rw[if_neg e,if_neg (fun z=>e (kN.walk.inj z))];rfl
  |bS=>simp[bV,dG]
  |boxes t=>simp[bV,dG]
  |bh s o=>simp[bV,dG]
 |boxes t=>
  obtain⟨T,hT,e⟩:∃T,M.ao[t]? =some T∧T.boxes=L0:=by
   have h':(M.ao[t]?).map dk.boxes=some L0:=h;cases q:M.ao[t]? with
   |none=>rw[q]at h';cases h'
   |some T=>rw[q]at h';exact⟨T,rfl,apC h'⟩
  cases j with
  |boxes u=>
   show((M.ao.modify t fun T=>{T with boxes:=L})[u]?).map dk.boxes=_;rw[aA];by_cases e:u=t
   ·subst e;rw[if_pos rfl,if_pos rfl,hT];rfl
   ·rw[if_neg e,if_neg (fun z=>e (kN.boxes.inj z))];rfl
  |bS=>simp[bV,dG]
  |walk w=>simp[bV,dG]
  |bh s o=>simp[bV,dG]
 |bh s o=>
  have h':(if o<2 then(M.ae[s]?).map (fun S=>hv S o)else none)=some L0:=h;have ho:o<2:=by
   by_cases q:o<2
   ·exact q
   ·rw[if_neg q]at h';cases h'
  rw[if_pos ho]at h';obtain⟨S,hS⟩:∃S,M.ae[s]? =some S:=by
   cases q:M.ae[s]? with
   |none=>rw[q]at h';cases h'
   |some S=>exact⟨S,rfl⟩
  cases j with
  |bh u p=>
   show(if p<2 then((M.ae.modify s fun S=>if o=0 then{S with tZ:=L}else{S with odd:=L})[u]?).map (fun S=>hv S p)else none)=_;rw[aA];by_cases e:u=s
   ·subst e;rw[if_pos rfl,hS];by_cases e2:p=o
    ·subst e2;rw[if_pos ho,if_pos rfl];show some (hv (if p=0 then{S with tZ:=L}else{S with odd:=L}) p)=some L;congr 1;unfold hv;by_cases q:p=0
     ·rw[if_pos q,if_pos q]
     ·rw[if_neg q,if_neg q]
    ·rw[if_neg (fun z=>e2 (kN.bh.inj z).2)];show _=if p<2 then(M.ae[u]?).map (fun S=>hv S p)else none
     rw[hS];by_cases q:p<2
     ·rw[if_pos q,if_pos q];show some (hv (if o=0 then{S with tZ:=L}else{S with odd:=L}) p)=some (hv S p);congr 1;unfold hv;by_cases q0:o=0
      ·rw[if_pos q0,if_neg (by omega),if_neg (by omega)]
      ·rw[if_neg q0,if_pos (by omega),if_pos (by omega)]
     ·rw[if_neg q,if_neg q]
   ·rw[if_neg e,if_neg (fun z=>e (kN.bh.inj z).1)];rfl
  |bS=>simp[bV,dG]
  |walk w=>simp[bV,dG]
  |boxes t=>simp[bV,dG]
end
section
variable{A:Ad}{F H:Hp}{g:bO→Addr}{z:Fz}{M:Bk}{ta dX:Addr}{tx:List Int}
theorem Ho(i:kN)(L:List (Iv Nat)):(dG M i L).aF=M.aF∧(dG M i L).aY=M.aY∧(dG M i L).points=M.points∧(dG M i L).aK=M.aK∧(dG M i L).ao.length=M.ao.length∧(dG M i L).ae.length=M.ae.length:=by
 cases i with
 |bS=>exact⟨rfl,rfl,rfl,rfl,rfl,rfl⟩
 |walk w=>exact⟨rfl,rfl,rfl,rfl,rfl,rfl⟩
 |boxes t=>exact⟨rfl,rfl,rfl,rfl,aqg ..,rfl⟩
 |bh s o=>exact⟨rfl,rfl,rfl,rfl,rfl,aqg ..⟩
theorem K9(i:kN)(L:List (Iv Nat))(t:Nat):((dG M i L).ao[t]?).map (fun T=>(T.names,T.bj))=(M.ao[t]?).map fun T=>(T.names,T.bj):=by
 cases i with
 |bS=>rfl
 |walk w=>rfl
 |bh s o=>rfl
 |boxes u=>
  show((M.ao.modify u fun T=>{T with boxes:=L})[t]?).map _=_;rw[aA];by_cases e:t=u
  ·rw[if_pos e];cases M.ao[t]? <;>rfl
  ·rw[if_neg e]
theorem Dy(i:kN)(L:List (Iv Nat))(s:Nat):((dG M i L).ae[s]?).map (fun S=>(S.names,S.town,S.aU))=(M.ae[s]?).map fun S=>(S.names,S.town,S.aU):=by
 cases i with
 |bS=>rfl
 |walk w=>rfl
 |boxes t=>rfl
 |bh u o=>
  show((M.ae.modify u fun S=>if o=0 then{S with tZ:=L}else{S with odd:=L})[s]?).map _=_;rw[aA];by_cases e:s=u
  ·rw[if_pos e];cases M.ae[s]? with
   |none=>rfl
   |some S=>by_cases q:o=0<;>simp[q]
  ·rw[if_neg e]
theorem Eh{α β:Type}{l m:List (Nat×α)}(f:Nat→β)(h:l.map (·.1)=m.map (·.1)):l.map (fun p=>f p.1)=m.map (fun p=>f p.1):=by
 have:∀l:List (Nat×α),l.map (fun p=>f p.1)=(l.map (·.1)).map f:=fun l=>by rw[apJ];rfl
 rw[this,this,h]
theorem RO{i:kN}{L L0:List (Iv Nat)}(h:bV M i=some L0):(dG M i L).az.map (·.1)=M.az.map (·.1):=by
 cases i with
 |bS=>rfl
 |boxes t=>rfl
 |bh s o=>rfl
 |walk w=>
  show(bU M.az w [] fun _=>L).map (·.1)=_;have h':M.az.lookup w=some L0:=h;rw[mQ,if_pos (by rw[h'];rfl)]
theorem Ol{i:kN}{L L0:List (Iv Nat)}(h:bV M i=some L0)(r:bO)(h1:r≠.cN i)(h2:r≠.bJ i)(h3:r≠.holds i):mc A g z (dG M i L) ta dX r=mc A g z M ta dX r:=by
 obtain⟨l1,l2,l3,l4,l5,l6⟩:=Ho (M:=M) i L;have hT:=K9 (M:=M) i L;have hS:=Dy (M:=M) i L;cases r with
 |aL=>
  show some _=some _;congr 2;unfold SS kl eK aO bp;have e:(dG M i L).ao=[]↔M.ao=[]:=by rw[←aqN,←aqN,l5]
  rw[l1,l2,l3,l5,l6];by_cases q:M.ao=[]
  ·rw[if_pos q,if_pos (e.mpr q)]
  ·rw[if_neg q,if_neg (fun z=>q (e.mp z))]
 |bI=>show some _=some _;rw[l1]
 |ao=>show some _=some _;rw[l5]
 |ae=>show some _=some _;rw[l6]
 |az=>
  show some _=some _;rw[Eh (fun w=>((apT (w:Int):Key),V.ref (z.iv (.walk w)))) (RO h)]
 |cN j=>show(bV _ j).map _=(bV _ j).map _;rw[CW h,if_neg (fun e=>h1 (by rw[e]))]
 |bJ j=>show(bV _ j).map _=(bV _ j).map _;rw[CW h,if_neg (fun e=>h2 (by rw[e]))]
 |holds j=>show(bV _ j).map _=(bV _ j).map _;rw[CW h,if_neg (fun e=>h3 (by rw[e]))]
 |bj t=>
  have:=congrArg (ave fun p:List Name×List Bytes=>HO.dK (p.2.map fun c=>((apY (bB c):Key),V.bl true))) (hT t);rw[ate,ate]at this;exact this
 |letters s=>
  have:=congrArg (ave fun p:List Name×Nat×List (Nat×List (Nat×Nat))=>HO.dK (p.2.2.map fun q=>((apT (q.1:Int):Key),V.ref (g (.aU s q.1))))) (hS s);rw[ate,ate]at this;exact this
 |aU s n=>
  have:=congrArg (fun o=>o.bind fun p:List Name×Nat×List (Nat×List (Nat×Nat))=>(p.2.2.lookup n).map fun L=>HO.dK (L.map fun q=>((apT (q.1:Int):Key),V.int (q.2:Int)))) (hS s);simp only[Option.bind_map]at this;exact this
theorem cS.Hs(B:cS A F H g z M ta dX tx){i:kN}{L:List (Iv Nat)}(h:bV M i=some L)(L':List (Iv Nat)):
  cS A F (pZ H (g (.cN i)) (g (.bJ i)) (g (.holds i)) (wR z.run L')) g z (dG M i L') ta dX tx:=by
 obtain⟨n1,n2,n3⟩:=B.Vp h;have hs:=CW (L:=L') h;have p1:(mc A g z M ta dX (.cN i)).isSome=true:=by show((bV M i).map _).isSome=true;rw[h];rfl
 have p2:(mc A g z M ta dX (.bJ i)).isSome=true:=by show((bV M i).map _).isSome=true;rw[h];rfl
 have p3:(mc A g z M ta dX (.holds i)).isSome=true:=by show((bV M i).map _).isSome=true;rw[h];rfl
 have hm:∀r o,mc A g z M ta dX r=some o→F (g r)=none:=fun r o e=>(B.mt r o e).2;have pf:∀r,(mc A g z M ta dX r).isSome=true→F (g r)=none:=fun r e=>by
  obtain⟨o,ho⟩:=apZ.mp e;exact hm r o ho
 have Dq:∀r,(mc A g z (dG M i L') ta dX r).isSome=true→(mc A g z M ta dX r).isSome=true:=fun r e=>by
  by_cases q1:r=.cN i
  ·rw[q1];exact p1
  ·by_cases q2:r=.bJ i
   ·rw[q2];exact p2
   ·by_cases q3:r=.holds i
    ·rw[q3];exact p3
    ·rw[Ol h r q1 q2 q3]at e;exact e
 obtain⟨_,_,_,l4,_,_⟩:=Ho (M:=M) i L';refine⟨fun b o e=>?_,fun r o e=>?_,fun r r' e e'=>B.inj r r' (Dq r e) (Dq r' e'),fun j hj=>?_,fun t T hT=>?_,fun s S hS=>?_,fun k r hr=>?_,B.text⟩
 ·unfold pZ;rw[ai (aj e (pf _ p3)),ai (aj e (pf _ p2)),ai (aj e (pf _ p1))];exact B.same b o e
 ·refine⟨?_,pf r (Dq r (by rw[e];rfl))⟩;unfold pZ;by_cases q1:r=.cN i
  ·subst q1;rw[ai n2,ai n1,au];have e':(bV (dG M i L') i).map (fun L=>HO.aN (L.map fun x=>V.int x.lo))=some o:=e;rw[hs,if_pos rfl]at e';rw[←apC e'];unfold wR;rw[apJ];rfl
  ·by_cases q2:r=.bJ i
   ·subst q2;rw[ai n3,au];have e':(bV (dG M i L') i).map (fun L=>HO.aN (L.map fun x=>V.int x.hi))=some o:=e;rw[hs,if_pos rfl]at e';rw[←apC e'];unfold wR;rw[apJ];rfl
   ·by_cases q3:r=.holds i
    ·subst q3;rw[au];have e':(bV (dG M i L') i).map (fun L=>HO.aN (L.map fun x=>V.ref (z.run x.at_)))=some o:=e;rw[hs,if_pos rfl]at e';rw[←apC e'];unfold wR;rw[apJ];rfl
    ·rw[Ol h r q1 q2 q3]at e;have pr:(mc A g z M ta dX r).isSome=true:=by rw[e];rfl
     rw[ai (fun w=>q3 (B.inj _ _ pr p3 w)),ai (fun w=>q2 (B.inj _ _ pr p2 w)),ai (fun w=>q1 (B.inj _ _ pr p1 w))];exact(B.mt r o e).1
 ·refine B.iv j ?_;rw[hs]at hj;by_cases q:j=i
  ·rw[q,h];rfl
  ·rw[if_neg q]at hj;exact hj
 ·have:=K9 (M:=M) i L' t;rw[hT]at this;cases q:M.ao[t]? with
  |none=>rw[q]at this;cases this
  |some T0=>
   rw[q]at this;have e:=congrArg Prod.fst (apC this);rw[show T.names=T0.names from e];exact B.town t T0 q
 ·have:=Dy (M:=M) i L' s;rw[hS]at this;cases q:M.ae[s]? with
  |none=>rw[q]at this;cases this
  |some S0=>
   rw[q]at this;have e:=apC this;rw[show S.names=S0.names from congrArg Prod.fst e,show S.town=S0.town from congrArg (fun p=>p.2.1) e];exact B.street s S0 q
 ·rw[l4]at hr;exact B.run k r hr
end
structure Bs where
 F:Hp
 H:Hp
 g:bO→Addr
 z:Fz
 M:Bk
 ta:Addr
 dX:Addr
 tx:List Int
def a0(A:Ad)(b:Bs):Prop:=cS A b.F b.H b.g b.z b.M b.ta b.dX b.tx
def iW(A:Ad)(b:Bs)(r:bO):Prop:=(mc A b.g b.z b.M b.ta b.dX r).isSome=true
def Fp(A:Ad)(b:Bs)(a:Addr):Prop:=b.F a≠none∨∃r,iW A b r∧b.g r=a
structure dn(A:Ad)(b b':Bs):Prop where
 fs:aV b.F b'.F
 fr:∀a o,b.H a=some o→¬Fp A b a→b'.H a=some o
 fp:∀a,Fp A b' a→Fp A b a∨b.H a=none
 bk:b'.g .aL=b.g .aL
theorem dn.refl(A:Ad)(b:Bs):dn A b b:=⟨aV.refl _,fun _ _ e _=>e,fun _ h=>.inl h,rfl⟩
theorem dn.trans{A:Ad}{a b c:Bs}(h:dn A a b)(k:dn A b c):dn A a c:=by
 refine⟨h.fs.trans k.fs,fun x o e n=>?_,fun x hx=>?_,k.bk.trans h.bk⟩
 ·refine k.fr x o (h.fr x o e n) fun q=>?_;rcases h.fp x q with q|q
  ·exact n q
  ·rw[q]at e;cases e
 ·rcases k.fp x hx with q|q
  ·exact h.fp x q
  ·by_cases w:Fp A a x
   ·exact .inl w
   ·right;cases e:a.H x with
    |none=>rfl
    |some o=>rw[h.fr x o e w]at q;cases q
theorem a0.aip{A:Ad}{b:Bs}(B:a0 A b){F1 H1:Hp}(s:aV b.H H1)(f:aV b.F F1)(f1:aV F1 H1)(n:∀a,F1 a≠none→b.F a≠none∨b.H a=none):a0 A {b with F:=F1,H:=H1}∧dn A b {b with F:=F1,H:=H1}:=by
 have free:∀r,iW A b r→F1 (b.g r)=none:=fun r hr=>by
  obtain⟨o,ho⟩:=apZ.mp hr;obtain⟨m1,m2⟩:=B.mt r o ho;cases q:F1 (b.g r)with
  |none=>rfl
  |some u=>
   rcases n _ (by rw[q];simp)with h|h
   ·exact absurd m2 h
   ·rw[h]at m1;cases m1
 refine⟨⟨f1,fun r o e=>⟨s _ _ (B.mt r o e).1,free r (by show arq _=true;rw[e];rfl)⟩,B.inj,fun i h=>let⟨dx,e⟩:=B.iv i h;⟨dx,f _ _ e⟩,fun t T h=>let⟨dx,na,e1,e2⟩:=B.town t T h;⟨dx,na,f _ _ e1,f _ _ e2⟩,
  fun t T h=>let⟨dx,na,hl,e1,e2,e3⟩:=B.street t T h;⟨dx,na,hl,f _ _ e1,f _ _ e2,f _ _ e3⟩,fun k r h=>(B.run k r h).same f,f _ _ B.text⟩,⟨f,fun a o e _=>s _ _ e,fun a h=>?_,rfl⟩⟩
 rcases h with h|⟨r,h1,h2⟩
 ·rcases n a h with h|h
  ·exact .inl (.inl h)
  ·exact .inr h
 ·exact .inl (.inr ⟨r,h1,h2⟩)
theorem a0.Hs{A:Ad}{b:Bs}(B:a0 A b){i:kN}{L:List (Iv Nat)}(h:bV b.M i=some L)(L':List (Iv Nat)):
  a0 A {b with H:=pZ b.H (b.g (.cN i)) (b.g (.bJ i)) (b.g (.holds i)) (wR b.z.run L'),M:=dG b.M i L'}∧dn A b {b with H:=pZ b.H (b.g (.cN i)) (b.g (.bJ i)) (b.g (.holds i)) (wR b.z.run L'),M:=dG b.M i L'}:=by
 refine⟨cS.Hs B h L',⟨aV.refl _,fun a o e n=>?_,fun a ha=>.inl ?_,rfl⟩⟩
 ·have p1:iW A b (.cN i):=by show((bV b.M i).map _).isSome=true;rw[h];rfl
  have p2:iW A b (.bJ i):=by show((bV b.M i).map _).isSome=true;rw[h];rfl
  have p3:iW A b (.holds i):=by show((bV b.M i).map _).isSome=true;rw[h];rfl
  show pZ b.H _ _ _ _ a=some o;unfold pZ;rw[ai (fun e=>n (.inr ⟨_,p3,e.symm⟩)),ai (fun e=>n (.inr ⟨_,p2,e.symm⟩)),ai (fun e=>n (.inr ⟨_,p1,e.symm⟩))];exact e
 ·rcases ha with ha|⟨r,h1,h2⟩
  ·exact .inl ha
  ·refine .inr ⟨r,?_,h2⟩;by_cases q1:r=.cN i
   ·subst q1;show((bV b.M i).map _).isSome=true;rw[h];rfl
   ·by_cases q2:r=.bJ i
    ·subst q2;show((bV b.M i).map _).isSome=true;rw[h];rfl
    ·by_cases q3:r=.holds i
     ·subst q3;show((bV b.M i).map _).isSome=true;rw[h];rfl
     ·have h1':(mc A b.g b.z (dG b.M i L') b.ta b.dX r).isSome=true:=h1;rw[Ol h r q1 q2 q3]at h1';exact h1'
theorem a0.on{A:Ad}{b:Bs}(B:a0 A b){H':Hp}(s:aV b.H H'):a0 A {b with H:=H'}:=cS.on B s
theorem W8{X:Cx}{K:apw}{e:Expr}{f:Str}{pos:Pos}{ta:TE}(he:PE X e ta)(hb:attributeBase e f X.env (eval e X.env)=eval e X.env)(hK:X.K=K):PE X (.Attribute e f pos) (Iz K ta f):=by
 subst hK;exact aq he hb
def kV(z:Fz)(o:Option Nat):V:=match o with
 |some k=>.ref (z.run k)
 |none=>.cx
theorem Vx(z:Fz)(L:List (Iv Nat))(n:Int):(match cW (wR z.run L) n with|some x=>x.at_|none=>V.cx)=kV z ((cW L n).map Iv.at_):=by
 rw[OQ];cases cW L n<;>rfl
theorem EN{z:Fz}{L:List (Iv Nat)}{n:Int}{Q:VK}{H:Hp}(k:Q (kV z ((cW L n).map Iv.at_)) H):Q (match cW (wR z.run L) n with|some x=>x.at_|none=>V.cx) H:=by rw[Vx];exact k
structure PM(b:Bs)(p:Addr)(s:Nat)(S:aQ):Prop where
 at_:b.M.ae[s]? =some S
 ad:p=b.z.street s
def Dk(A:Ad):Sp:=fun vs H Q _=>∃p n,vs=[.ref p,.int ((n:Nat):Int)]∧∃b s S,a0 A b∧H=b.H∧PM b p s S∧j4 (hv S (n % 2))∧Q (kV b.z (cD S n)) H
theorem ja(T:Tx K mg A):bN P w K mg base fU 3 A.fe A.gR ["self","number"] (Dk A):=by
 have sc:=xy;have F:=T.iY.F;walk_at "f"
 ·obtain⟨p,n,rfl,_⟩:=h;rfl
 ·obtain⟨p,n,rfl,b,s0,S,B,rfl,⟨hS,rfl⟩,ok,k⟩:=h;refine⟨_,(aw (aB (bg (bC dm (aq (pv 0) rfl) (aZ NX (pv 1) ay) (fun _ _=>rfl)) T.c.jx T.mv (kZ T) hr.mn T.lC.b .nil aP (af (aZ uB (pv 1) ay) ax)))),?_⟩;walk_at "z";obtain⟨dx,na,hl,e1,e2,e3⟩:=B.street s0 S hS;have f1:=B.same _ _ e1;have f3:=B.same _ _ e3;have hL:bV b.M (.bh s0 (n % 2))=some (hv S (n % 2)):=by
   show(if n % 2<2 then(b.M.ae[s0]?).map (fun S=>hv S (n % 2))else none)=_;rw[if_pos (arP _ (by decide)),hS];rfl
  have I:=cS.EH B hL;obtain⟨Wx,io⟩:=I.obj;have em:(n:Int) % 2=((n % 2:Nat):Int):=by omega
  have ed:(n:Int) / 2=((n / 2:Nat):Int):=by omega
  have ei:mP [V.ref (b.z.iv (.bh s0 0)),V.ref (b.z.iv (.bh s0 1))] ((n % 2:Nat):Int)=some (.ref (b.z.iv (.bh s0 (n % 2)))):=by
   rcases Nat.mod_two_eq_zero_or_one n with h|h<;>rw[h]<;>rfl
  walk_at "d";exact⟨⟨by decide,by decide⟩,_,_,rfl,_,_,_,_,I,Al ok,EN k⟩
def IG(A:Ad):Sp:=fun vs H Q _=>∃p n,vs=[.ref p,.int ((n:Nat):Int)]∧∃b t T,a0 A b∧H=b.H∧b.M.ao[t]? =some T∧p=b.z.town t∧j4 T.boxes∧
 (match cW T.boxes (n:Int)with|none=>Q .cx H|some iv=>∃r,b.M.aK[iv.at_]? =some r∧fB r.line≤n∧Q (.int ((r.jD+gu r.line n:Nat):Int)) H)
theorem D6(T:Tx K mg A):bN P w K mg base fU 3 A.g8 A.j8 ["self","number"] (IG A):=by
 have sc:=DA;have F:=T.AN.F;walk_at "f"
 ·obtain⟨p,n,rfl,_⟩:=h;rfl
 ·obtain⟨p,n,rfl,b,t,T0,B,rfl,hT,rfl,ok,k⟩:=h;refine⟨_,(ag (aX (i:=2) sc.nd rfl (apN rfl) (bg (aq (pv 0) rfl) T.c.jx T.mv (kZ T) hr.mn T.lC.b .nil aP (af (pv 1) ax)))
 (aw (aB (i9 (aD kY (pv 2) cj (aH _)) cj (br (A4 T) hr.mn rfl T.E2 T.tM.F.kp T.tM.b .nil aP (af (pv 2) (af (pv 1) ax))))))),?_⟩
  walk_at "z";obtain⟨dx,na,e1,e2⟩:=B.town t T0 hT;have f1:=B.same _ _ e1;have hL:bV b.M (.boxes t)=some T0.boxes:=by show(b.M.ao[t]?).map _=_;rw[hT];rfl
  have I:=cS.EH B hL;obtain⟨Wx,io⟩:=I.obj;walk_at "g";refine⟨_,_,rfl,_,_,_,_,I,Al ok,EN (Q:=fun x H1=>R [some (V.ref (b.z.town t)),some (V.int n),some x] H1) (n1.go _ _ ?_)⟩;clear n1 R;cases q:cW T0.boxes (n:Int)with
  |none=>
   rw[q]at k;show xo _ _ [some (V.ref (b.z.town t)),some (V.int n),some V.cx] b.H;walk_at "d"
  |some iv=>
   rw[q]at k;obtain⟨r,hr,hl,k⟩:=k;show xo _ _ [some (V.ref (b.z.town t)),some (V.int n),some (V.ref (b.z.run iv.at_))] b.H;walk_at "d";exact⟨_,n,rfl,r,_,(B.run _ r hr).same B.same,hl,k⟩
def Dm(A:Ad):Sp:=fun vs H Q _=>∃p n c,vs=[.ref p,.int ((n:Nat):Int),.int ((c:Nat):Int)]∧∃b s S,a0 A b∧H=b.H∧PM b p s S∧j4 (hv S (n % 2))∧(S.aU.map (·.1)).Nodup∧
 (if c≠0 then∀H',aV H H'→Q (match(aS S n).lookup c with|some i=>.int (i:Int)|none=>.cx) H' else
  match cD S n with|none=>Q .cx H|some k=>∃r,b.M.aK[k]? =some r∧fB r.line≤n∧Q (.int ((r.jD+gu r.line n:Nat):Int)) H)
theorem zP(T:Tx K mg A):bN P w K mg base fU 4 A.fI A.ij ["self","number","letter"] (Dm A):=by
 have sc:=zb;have F:=T.vk.F;walk_at "f"
 ·obtain⟨p,n,c,rfl,_⟩:=h;rfl
 ·obtain⟨p,n,c,rfl,b,s0,S,B,rfl,hS,ok,nd,k⟩:=h;refine⟨_,(ag (bo (aD m9 (pv 2) (bz T.iO) (aH _)) (aw (aB (UT (iP hr) (Lx (iP hr) (aq (pv 0) rfl) (pv 1) oW ⟨rfl,rfl,rfl,rfl⟩) (pv 2) ⟨rfl,rfl,rfl,rfl⟩))) aM)
 (ag (aX (i:=3) sc.nd rfl (apN rfl) (bg (pv 0) T.c.lj T.j0 (ja T) hr.mn T.iY.b .nil aP (af (pv 1) ax)))
 (aw (aB (i9 (aD kY (pv 3) cj (aH _)) cj (br (A4 T) hr.mn rfl T.E2 T.tM.F.kp T.tM.b .nil aP (af (pv 3) (af (pv 1) ax)))))))),?_⟩
  walk_at "z";obtain⟨iG,rfl⟩:=hS;obtain⟨dx,na,hl,e1,e2,e3⟩:=B.street s0 S iG;have f1:=B.same _ _ e1;have f4:=(B.mt (.letters s0) _ (by show(b.M.ae[s0]?).map _=_;rw[iG];rfl)).1;walk_at "e";refine bW (fun c1=>?_) fun c1=>bQ ?_
  ·have c2:c≠0:=fun z=>c1 (by omega);rw[if_pos c2]at k;intro p hp;have s1:aV b.H (aJ b.H p (.dK [])):=fun x o e=>by rw[ai (aj e hp)];exact e
   have hk:=k _ s1;have ev:=gd (fun n _=>V.ref (b.g (.aU s0 n))) S.aU n;refine⟨_,s1 _ _ f4,?_⟩;rw[ev];cases q:S.aU.lookup n with
   |none=>
    have e0:aS S n=[]:=by unfold aS;rw[q];rfl
    rw[e0]at hk;exact⟨p,rfl,_,au,_,au,hk⟩
   |some L=>
    have e0:aS S n=L:=by unfold aS;rw[q];rfl
    rw[e0]at hk;have f5:=(B.mt (.aU s0 n) _ (by show(b.M.ae[s0]?).bind _=_;rw[iG];show(S.aU.lookup n).map _=_;rw[q];rfl)).1;refine⟨_,rfl,_,s1 _ _ f5,_,s1 _ _ f5,?_⟩;rw[gd (fun _ (i:Nat)=>V.int (i:Int)) L c];cases q2:L.lookup c with
    |none=>rw[q2]at hk;exact hk
    |some i=>rw[q2]at hk;exact hk
  ·have c2:c=0:=by omega
   subst c2;rw[if_neg (by simp)]at k;walk_at "e";refine⟨_,n,rfl,b,s0,S,B,rfl,⟨iG,rfl⟩,ok,bQ ?_⟩;cases q:cD S n with
   |none=>
    rw[q]at k;show xo _ _ [some (V.ref (b.z.street s0)),some (V.int n),some (V.int 0),some V.cx] b.H;walk_at "d"
   |some kk=>
    rw[q]at k;obtain⟨r,hr,dP,k⟩:=k;show xo _ _ [some (V.ref (b.z.street s0)),some (V.int n),some (V.int 0),some (V.ref (b.z.run kk))] b.H;walk_at "d";exact⟨_,n,rfl,r,_,(B.run _ r hr).same B.same,dP,k⟩
def F8(A:Ad):Sp:=fun vs H Q _=>∃p lp,vs=[.ref p,.ref lp]∧∃b s S n c e na dx,a0 A b∧H=b.H∧PM b p s S∧lI A H lp na dx (.letters n c e)∧rD n c e∧
 ∀H',aV H H'→Q (.bl ((ap4 (e.toNat-c.toNat+1)).any fun i=>((aS S n).lookup (c.toNat-96+i)).isSome)) H'
theorem rN(T:Tx K mg A):bN P w K mg base fU 1 A.dj A.ee ["self","line"] (F8 A):=by
 have sc:=rK;have F:=T.lV.F;walk_at "f"
 ·obtain⟨p,lp,rfl,_⟩:=h;rfl
 ·obtain⟨p,lp,rfl,b,s0,S,n,c,e,na,dx0,B,rfl,hS,ig,xi,k⟩:=h;refine⟨_,(ag (aX (i:=2) sc.nd rfl (aud rfl) (Lx (iP hr) (aq (pv 0) rfl) (aq (pv 1) rfl) oW ⟨rfl,rfl,rfl,rfl⟩))
 (aw (aB (bH (V0 rfl) (by rfl) T.Rk boot_any (af (Hx rfl sc.nd (Hw rfl T.yL (af (aq (pv 1) rfl) (af (aZ dD (aq (pv 1) rfl) ay) ax))) (mM (own:=[("letter",3)]) rfl) (fun _ _ _ _ _=>fW (i:=3) sc.nd rfl (apN rfl)) (fun _ _ _ _ _=>qj) (fun _ _ _ _ _=>Jg (UZ (iP hr) (pv 3) (pv 2)) rfl)) ax))))),?_⟩
  walk_at "z";obtain⟨iG,rfl⟩:=hS;obtain⟨dx,nb,hl,e1,e2,e3⟩:=B.street s0 S iG;have f1:=B.same _ _ e1;have f4:=(B.mt (.letters s0) _ (by show(b.M.ae[s0]?).map _=_;rw[iG];rfl)).1;have dP:=ig.obj;have el:iS (.letters n c e) na=oO (.str "letters") (.ref na) (.str "") (.int n) (.int ((c.toNat-96:Nat):Int)) (.int ((e.toNat-96:Nat):Int)) (.int 1) (.int 0) (.int 0) (.bl false) (.int ((e.toNat-c.toNat+1:Nat):Int)):=rfl;rw[el]at dP;walk_at "e";intro p hp;have s1:aV b.H (aJ b.H p (.dK [])):=fun x o e=>by rw[ai (aj e hp)];exact e
  have ev:=gd (fun n _=>V.ref (b.g (.aU s0 n))) S.aU n;refine⟨_,s1 _ _ f4,bQ ?_⟩;rw[ev];obtain⟨ta,M3,htd⟩:∃ta,(ave (fun _=>V.ref (b.g (.aU s0 n))) (S.aU.lookup n)).getD (V.ref p)=V.ref ta∧aJ b.H p (.dK []) ta=some (.dK ((aS S n).map fun q=>((apT (q.1:Int):Key),V.int (q.2:Int)))):=by
   cases q:S.aU.lookup n with
   |none=>
    have e0:aS S n=[]:=by unfold aS;rw[q];rfl
    rw[e0];exact⟨p,rfl,au⟩
   |some L=>
    have e0:aS S n=L:=by unfold aS;rw[q];rfl
    rw[e0];exact⟨_,rfl,s1 _ _ (B.mt (.aU s0 n) _ (by show(b.M.ae[s0]?).bind _=_;rw[iG];show(S.aU.lookup n).map _=_;rw[q];rfl)).1⟩
  rw[M3];generalize aJ b.H p (.dK [])=H1 at s1 htd ⊢;obtain⟨_,_,l1,l2,l3⟩:=xi;have yi:=s1 _ _ dP;have hN:((((e.toNat-96:Nat):Int)+1)-((c.toNat-96:Nat):Int)).toNat=e.toNat-c.toNat+1:=by omega
  clear M3 ev f4 f1 dP e1 e2 e3 hp;have hs:=sizeLine_eq;refine⟨_,rfl,lp,_,_,_,_,rfl,yi,C.pR,C.o7,rfl,_,rfl,lp,_,_,_,_,rfl,yi,C.pR,C.lK,rfl,_,_,rfl,rfl,_,_,rfl,⟨by omega,by omega,by omega,by omega⟩,fun D hD=>?_⟩;rw[hN];refine Vn (lo:=((c.toNat-96:Nat):Int)) (n:=e.toNat-c.toNat+1) (fun i H'=>aV H1 H'∧H' D=some (.aN ((ap4 i).map fun j=>V.bl ((aS S n).lookup (c.toNat-96+j)).isSome))) ⟨fun x o q=>by rw[ai (aj q hD)];exact q,by rw[au];rfl⟩ ?_ ?_
  ·rintro i H' hi ⟨s2,oK⟩;have ag9:=s2 _ _ htd;have VR:((c.toNat-96:Nat):Int)+(i:Int)=((c.toNat-96+i:Nat):Int):=by omega
   have ev:=gd (fun _ (i:Nat)=>V.int (i:Int)) (aS S n) (c.toNat-96+i);refine⟨rfl,?_⟩;simp only[KG,↓reduceIte];refine⟨_,rfl,_,rfl,ta,_,_,rfl,rfl,ag9,_,oK,by rw[apt,arZ];omega,fun x o q=>?_,?_⟩
   ·rw[ai (aj q hD)];exact s2 x o q
   ·rw[au,VR,ev,apX,arT,apB];rfl
  ·rintro H' ⟨s2,oK⟩;refine⟨D,(ap4 (e.toNat-c.toNat+1)).map fun j=>((aS S n).lookup (c.toNat-96+j)).isSome,rfl,jH.of (by rw[oK,apJ];rfl),?_⟩;rw[atA];exact k _ (s1.trans s2)
def sZ(S:aQ)(s:Span):Bool:=(yQ s).any fun h=>d5 (hv S h.1) (h.2.1:Int) (h.2.2:Int)
def F7(A:Ad):Sp:=fun vs H Q _=>∃p lp,vs=[.ref p,.ref lp]∧∃b s S sp na dx,a0 A b∧H=b.H∧PM b p s S∧lI A H lp na dx (.span sp)∧dt sp∧(∀o,j4 (hv S o))∧∀H',aV H H'→Q (.bl (sZ S sp)) H'
theorem OM{s:Span}{h:Nat×Nat×Nat}(m:h∈yQ s):h.1<2∧bh s h.1=some (h.2.1,h.2.2):=by
 unfold yQ at m;obtain⟨o,ho,e⟩:=aqu.mp m;obtain⟨x,hx,e2⟩:=apF.mp e;subst e2;refine⟨?_,hx⟩;simp at ho;show o<2;omega
theorem a0.bh{b:Bs}(B:a0 A b){s:Nat}{S:aQ}(hS:b.M.ae[s]? =some S){o:Nat}(ho:o<2):bV b.M (.bh s o)=some (hv S o):=by
 show(if o<2 then(b.M.ae[s]?).map (fun S=>hv S o)else none)=_;rw[if_pos ho,hS];rfl
theorem rM(T:Tx K mg A):bN P w K mg base fU 3 A.di A.d9 ["self","line"] (F7 A):=by
 have sc:=rJ;have F:=T.lU.F;walk_at "f"
 ·obtain⟨p,lp,rfl,_⟩:=h;rfl
 ·obtain⟨p,lp,rfl,b,s0,S,sp,na,dx0,B,rfl,⟨iG,rfl⟩,ig,CN,ok,k⟩:=h;refine' ⟨_,(aw (aB (bH (V0 rfl) (by rfl) T.Rk boot_any (af (Hx rfl sc.nd (mZ (br (xV T) hr.mn rfl T.Bm T.pC.F.kp T.pC.b .nil aP (af (pv 1) ax))) (mM (own:=[("half",2)]) rfl) (fun _ _ _ _ _=>fW (i:=2) sc.nd rfl (apN rfl)) (fun _ _ _ _ _=>qj) ?el) ax)))),?rest⟩
  case el=>exact fun _ _ _ _ _=>bg (bC dm (W8 (K:=K) (pv 0) rfl rfl) (bC Se (pv 2) ay (fun _ _=>rfl)) (fun _ _=>rfl)) T.c.jx T.wK (sU T) hr.mn T.yg.b .nil aP (af (bC Se (pv 2) ay (fun _ _=>rfl)) (af (bC Se (pv 2) ay (fun _ _=>rfl)) ax))
  walk_at "z";obtain⟨dx,nb,hl,e1,e2,e3⟩:=B.street s0 S iG;have f1:=B.same _ _ e1;have f3:=B.same _ _ e3;refine⟨_,rfl,lp,rfl,na,dx0,sp,ig,CN,fun H1 l ts s1 hl0 tu=>⟨l,rfl,⟨_,jH.of tu.aN⟩,fun D hD=>?_⟩⟩;have hs:=sizeLine_eq;have hlen:ts.length=(yQ sp).length:=by rw[tu.len,apt]
  have hle:(yQ sp).length≤2:=EL sp 2;refine CS (K:=K) (a:=l) (xs:=ts.map V.ref) (fun i H'=>aV H1 H'∧H' D=some (.aN (((yQ sp).take i).map fun h=>V.bl (d5 (hv S h.1) (h.2.1:Int) (h.2.2:Int))))) ⟨fun x o q=>by rw[ai (aj q hD)];exact q,au⟩ (fun i H' _ h=>jH.of (h.1 _ _ tu.aN)) ?_ ?_
  ·rintro i x H' hi ⟨s2,oK⟩;rw[apH]at hi;obtain⟨t,ht,rfl⟩:=apF.mp hi;have hit:=(apu.mp ht).1;obtain⟨h,hh⟩:∃h,(yQ sp)[i]? =some h:=⟨_,apO (by omega)⟩;obtain⟨ho,acT⟩:=OM (aps hh);have ZV:=s2 _ _ (tu.at_ i t (ZU h) ht (by rw[apH,hh];rfl));unfold ZU at ZV;have sA:=s1.trans s2;have B':=B.on sA;have I:=cS.EH B' (B'.bh iG ho);obtain⟨Wx,io⟩:=I.obj;have g1:=sA _ _ f1;have g3:=sA _ _ f3;have ei:mP [V.ref (b.z.iv (.bh s0 0)),V.ref (b.z.iv (.bh s0 1))] ((h.1:Nat):Int)=some (.ref (b.z.iv (.bh s0 h.1))):=by
    rcases(by omega:h.1=0∨h.1=1)with q|q<;>rw[q]<;>rfl
   have z0:mP [V.int (h.1:Int),V.int (h.2.1:Int),V.int (h.2.2:Int)] 0=some (.int (h.1:Int)):=rfl;have z1:mP [V.int (h.1:Int),V.int (h.2.1:Int),V.int (h.2.2:Int)] 1=some (.int (h.2.1:Int)):=rfl;have z2:mP [V.int (h.1:Int),V.int (h.2.1:Int),V.int (h.2.2:Int)] 2=some (.int (h.2.2:Int)):=rfl;refine⟨rfl,?_⟩;simp only[KG,↓reduceIte];show Hh _ _ _ _ _ _ _ [some (V.ref (b.z.street s0)),some (V.ref lp),some (V.ref t)] H' _;walk_at "d";refine⟨_,_,_,rfl,_,_,_,_,I,Al (ok _),_,oK,by rw[apt,aqm];omega,fun x o q=>?_,?_⟩
   ·rw[ai (aj q hD)];exact s2 x o q
   ·rw[Aa,aq6,hh,apB];rfl
  ·rintro H' ⟨s2,oK⟩;refine⟨D,(yQ sp).map fun h=>d5 (hv S h.1) (h.2.1:Int) (h.2.2:Int),rfl,jH.of ?_,?_⟩
   ·rw[apt,hlen,aq2]at oK;rw[oK,apJ];rfl
   ·rw[atA];exact k _ (s1.trans s2)
def K5(A:Ad):Sp:=fun vs H Q _=>∃p lp rp,vs=[.ref p,.ref lp,.ref rp]∧∃b s S sp na dx k,a0 A b∧H=b.H∧PM b p s S∧lI A b.F lp na dx (.span sp)∧dt sp∧rp=b.z.run k∧(∀o,(hv S o).Pairwise fun x y=>x.lo<y.lo)∧(∀o,(hv S o).length+2<sizeLine)∧
 ∀b',a0 A b'→dn A b b'→b'.M={b.M with ae:=b.M.ae.modify s (eg sp k)}→b'.z=b.z→b'.tx=b.tx→Q .cx b'.H
theorem Ub(sp:Span)(k:Nat)(S:aQ):(yQ sp).foldl (fun S h=>if h.1=0 then{S with tZ:=bE S.tZ ⟨(h.2.1:Int),(h.2.2:Int),k⟩}else{S with odd:=bE S.odd ⟨(h.2.1:Int),(h.2.2:Int),k⟩}) S=eg sp k S:=by
 unfold yQ eg iA;cases q0:bh sp 0<;>cases q1:bh sp 1<;>simp[q0,q1]
theorem ya{α:Type}{l:List α}{s:Nat}{a:α}(h:l[s]? =some a)(f g:α→α):(l.modify s f).modify s g=l.modify s fun _=>g (f a):=by
 apply arY;intro j;rw[aA,aA,aA];by_cases e:j=s
 ·subst e;simp[h]
 ·simp[e]
theorem jZ{α:Type}{l:List α}{s:Nat}{a:α}(h:l[s]? =some a){f g:α→α}(e:f a=g a):l.modify s f=l.modify s g:=by
 apply arY;intro j;rw[aA,aA];by_cases q:j=s
 ·subst q;simp[h,e]
 ·simp[q]
theorem dn.keep{b b':Bs}(B:a0 A b)(B':a0 A b')(G:dn A b b'){a:Addr}{o:HO}(e:b.H a=some o)(n:∀r,iW A b r→b.g r≠a):b'.H a=some o:=by
 cases q:b.F a with
 |some u=>
  have e2:=B.same _ _ q;rw[e]at e2;cases e2;exact B'.same _ _ (G.fs _ _ q)
 |none=>exact G.fr a o e (fun h=>by
   rcases h with h|⟨r,h1,h2⟩
   ·exact h q
   ·exact n r h1 h2)
theorem R5{g:bO→Addr}{z:Fz}{M:Bk}{ta dX:Addr}{r:bO}{v:List V}:mc A g z M ta dX r≠some (.fR v):=by
 intro h;cases r with
 |aL=>cases h
 |bI=>cases h
 |ao=>cases h
 |ae=>cases h
 |az=>cases h
 |cN i=>obtain⟨L,_,e⟩:=apF.mp (show(bV M i).map _=_ from h);cases e
 |bJ i=>obtain⟨L,_,e⟩:=apF.mp (show(bV M i).map _=_ from h);cases e
 |holds i=>obtain⟨L,_,e⟩:=apF.mp (show(bV M i).map _=_ from h);cases e
 |bj t=>obtain⟨L,_,e⟩:=apF.mp (show(M.ao[t]?).map _=_ from h);cases e
 |letters s=>obtain⟨L,_,e⟩:=apF.mp (show(M.ae[s]?).map _=_ from h);cases e
 |aU s n=>
  obtain⟨S,_,e⟩:=atV.mp (show(M.ae[s]?).bind _=_ from h);obtain⟨L,_,e⟩:=apF.mp e;cases e
theorem dn.Xq{b b':Bs}(B:a0 A b)(B':a0 A b')(G:dn A b b'){a:Addr}{v:List V}(e:b.H a=some (.fR v)):b'.H a=some (.fR v):=
 G.keep B B' e fun r hr q=>by
  obtain⟨o,ho⟩:=apZ.mp hr;have:=(B.mt r o ho).1;rw[q,e]at this;cases this;exact R5 ho
theorem a0.U4{b:Bs}(B:a0 A b){a:Addr}(h:b.H a=none){r:bO}(hr:iW A b r):b.g r≠a:=fun q=>by
 obtain⟨o,ho⟩:=apZ.mp hr;have:=(B.mt r o ho).1;rw[q,h]at this;cases this
theorem mN{M:Bk}{l l':List aQ}(e:l=l'):({M with ae:=l}:Bk)={M with ae:=l'}:=by rw[e]
def jg(k:Nat)(S:aQ)(h:Nat×Nat×Nat):aQ:=if h.1=0 then{S with tZ:=bE S.tZ ⟨(h.2.1:Int),(h.2.2:Int),k⟩}else{S with odd:=bE S.odd ⟨(h.2.1:Int),(h.2.2:Int),k⟩}
theorem Xt{sp:Span}(k:Nat)(S:aQ){i:Nat}{h:Nat×Nat×Nat}(hh:(yQ sp)[i]? =some h):hv (((yQ sp).take i).foldl (jg k) S) h.1=hv S h.1:=by
 unfold yQ at hh ⊢;cases q0:bh sp 0 with
 |none=>
  cases q1:bh sp 1 with
  |none=>simp[q0,q1]at hh
  |some y=>
   simp[q0,q1]at hh ⊢
   match i,hh with
   |0,_=>rfl
 |some x=>
  cases q1:bh sp 1 with
  |none=>
   simp[q0,q1]at hh ⊢
   match i,hh with
   |0,_=>rfl
  |some y=>
   simp[q0,q1]at hh ⊢
   match i,hh with
   |0,_=>rfl
   |1,hh=>
    simp at hh;subst hh;rfl
structure AsI(A:Ad)(b0:Bs)(s:Nat)(S:aQ)(b:Bs):Prop where
 at_:a0 A b
 gr:dn A b0 b
 st:b.M={b0.M with ae:=b0.M.ae.modify s fun _=>S}
 z:b.z=b0.z
 tx:b.tx=b0.tx
theorem D7(T:Tx K mg A):bN P w K mg base fU 3 A.g9 A.j9 ["self","line","run"] (K5 A):=by
 have sc:=DB;have F:=T.AX.F;walk_at "f"
 ·obtain⟨p,lp,rp,rfl,_⟩:=h;rfl
 ·obtain⟨p,lp,rp,rfl,b,s0,S,sp,na,dx0,kk,B,rfl,⟨iG,rfl⟩,ig,CN,rfl,ok,hz,k⟩:=h;refine⟨_,(aw (wA ara rfl (mZ (br (xV T) hr.mn rfl T.Bm T.pC.F.kp T.pC.b .nil aP (af (pv 1) ax))) (fW (i:=3) sc.nd rfl (apN rfl)) (aw (cQ (bg (bC dm (aq (pv 0) rfl) (bC Se (pv 3) ay (fun _ _=>rfl)) (fun _ _=>rfl)) T.c.jx T.yb (uC T) hr.mn T.EF.b .nil aP (af (bC Se (pv 3) ay (fun _ _=>rfl)) (af (bC Se (pv 3) ay (fun _ _=>rfl)) (af (pv 2) ax)))))))),?_⟩;walk_at "z";refine⟨_,rfl,lp,rfl,na,dx0,sp,ig.same B.same,CN,fun H1 l ts s1 hl0 tu=>⟨l,rfl,⟨_,jH.of tu.aN⟩,?_⟩⟩;have hs:=sizeLine_eq;have hlen:ts.length=(yQ sp).length:=by rw[tu.len,apt]
  have hle:(yQ sp).length≤2:=EL sp 2;have B1:=B.on s1;have G1:dn A b {b with H:=H1}:=⟨aV.refl _,fun a o e _=>s1 a o e,fun a h=>.inl h,rfl⟩;have nl:∀r,iW A b r→b.g r≠l:=fun r hr=>B.U4 hl0 hr;have I0:AsI A {b with H:=H1} s0 (([]:List (Nat×Nat×Nat)).foldl (jg kk) S) {b with H:=H1}:=⟨B1,dn.refl _ _,by
   show b.M={b.M with ae:=b.M.ae.modify s0 fun _=>S};have:b.M.ae.modify s0 (fun _=>S)=b.M.ae:=by
    apply arY;intro j;rw[aA];by_cases q:j=s0
    ·subst q;rw[if_pos rfl,iG];rfl
    ·rw[if_neg q]
   rw[this],rfl,rfl⟩
  refine yr (K:=K) (a:=l) (xs:=ts.map V.ref) (fun i σ H'=>∃v b',σ=[some (.ref (b.z.street s0)),some (.ref lp),some (.ref (b.z.run kk)),v]∧H'=b'.H∧AsI A {b with H:=H1} s0 (((yQ sp).take i).foldl (jg kk) S) b')
   ⟨none,_,rfl,rfl,I0⟩ (fun i σ H' _ ⟨_,b',_,e,I⟩=>by rw[e];exact jH.of (I.gr.keep B1 I.at_ tu.aN nl)) ?_ ?_
  ·rintro i x σ H' hi ⟨v,b',rfl,rfl,I⟩;rw[apH]at hi;obtain⟨t,ht,rfl⟩:=apF.mp hi;have hit:=(apu.mp ht).1;obtain⟨h,hh⟩:∃h,(yQ sp)[i]? =some h:=⟨_,apO (by omega)⟩;obtain⟨ho,acT⟩:=OM (aps hh);have ZV:=I.gr.Xq B1 I.at_ (tu.at_ i t (ZU h) ht (by rw[apH,hh];rfl));unfold ZU at ZV;have hSi:b'.M.ae[s0]? =some (((yQ sp).take i).foldl (jg kk) S):=by
    rw[I.st];show(b.M.ae.modify s0 _)[s0]? =_;rw[aA,if_pos rfl,iG];rfl
   obtain⟨dx,nb,hl,e1,e2,e3⟩:=I.at_.street s0 _ hSi;have f1:=I.at_.same _ _ e1;have f3:=I.at_.same _ _ e3;rw[I.z]at f1 f3;have hL:=I.at_.bh hSi ho;have IV:=cS.EH I.at_ hL;rw[I.z]at IV;obtain⟨Wx,io⟩:=IV.obj;have ei:mP [V.ref (b.z.iv (.bh s0 0)),V.ref (b.z.iv (.bh s0 1))] ((h.1:Nat):Int)=some (.ref (b.z.iv (.bh s0 h.1))):=by
    rcases(by omega:h.1=0∨h.1=1)with q|q<;>rw[q]<;>rfl
   have z0:mP [V.int (h.1:Int),V.int (h.2.1:Int),V.int (h.2.2:Int)] 0=some (.int (h.1:Int)):=rfl;have z1:mP [V.int (h.1:Int),V.int (h.2.1:Int),V.int (h.2.2:Int)] 1=some (.int (h.2.1:Int)):=rfl;have z2:mP [V.int (h.1:Int),V.int (h.2.1:Int),V.int (h.2.2:Int)] 2=some (.int (h.2.2:Int)):=rfl;show KL (Hh _ _ _ _ _ _ _) _ [some (V.ref (b.z.street s0)),some (V.ref lp),some (V.ref (b.z.run kk)),some (V.ref t)] b'.H;walk_at "d";have hvi:=Xt kk S hh;have Bf:=cS.Vp I.at_ hL;refine⟨_,_,_,_,rfl,_,_,_,_,IV,yh (by rw[hvi];exact ok _),by rw[CV,hvi];have:=hz h.1;omega,Bf,?_⟩;obtain⟨P1,P2⟩:=I.at_.Hs hL (bE (hv (((yQ sp).take i).foldl (jg kk) S) h.1) ⟨(h.2.1:Int),(h.2.2:Int),kk⟩);refine⟨_,?_,⟨P1,I.gr.trans P2,?_,I.z,I.tx⟩⟩
   ·show _=pZ b'.H _ _ _ _;rw[I.z,←va]
   ·show dG b'.M (.bh s0 h.1) _=_;rw[I.st];show({b.M with ae:=(b.M.ae.modify s0 fun _=>((yQ sp).take i).foldl (jg kk) S).modify s0 fun S=>if h.1=0 then _ else _}:Bk)=_;rw[ya iG];refine mN (M:=b.M) ?_;apply jZ iG;rw[aq6,hh,ats];show _=jg kk (((yQ sp).take i).foldl (jg kk) S) h;unfold jg hv;by_cases q:h.1=0
    ·rw[if_pos q,if_pos q,if_pos q]
    ·rw[if_neg q,if_neg q,if_neg q]
  ·rintro σ H' ⟨v,b',rfl,rfl,I⟩;refine k b' I.at_ (G1.trans I.gr) ?_ I.z I.tx;rw[I.st,apt,hlen,aq2];refine mN (M:=b.M) ?_;apply jZ iG;exact Ub sp kk S
structure Frz(A:Ad)(F:Hp)(g:bO→Addr)(z:Fz)(M:Bk)(ta:Addr)(tx:List Int):Prop where
 iv:∀i,(bV M i).isSome=true→∃dx,F (z.iv i)=some (.bR A.dR dx (rS (.ref (g (.cN i))) (.ref (g (.bJ i))) (.ref (g (.holds i)))))
 town:∀(t:Nat) T,M.ao[t]? =some T→∃dx na,F (z.town t)=some (.bR A.jz dx (C5 (.ref na) (.ref (g (.bj t))) (.ref (z.iv (.boxes t)))))∧F na=some (.aN (Of T.names))
 street:∀(s:Nat) S,M.ae[s]? =some S→∃dx na hl,F (z.street s)=some (.bR A.eE dx (vn (.ref na) (.int S.town) (.ref hl) (.ref (g (.letters s)))))∧F na=some (.aN (Of S.names))∧F hl=some (.aN [.ref (z.iv (.bh s 0)),.ref (z.iv (.bh s 1))])
 run:∀(k:Nat) r,M.aK[k]? =some r→rP A F (z.run k) r (p7 z r)
 text:F ta=some (.aN (tx.map V.int))
theorem a0.GD{b:Bs}(B:a0 A b):Frz A b.F b.g b.z b.M b.ta b.tx:=⟨B.iv,B.town,B.street,B.run,B.text⟩
theorem a0.vc{b:Bs}(B:a0 A b){r:bO}(h:iW A b r):(∃o,b.H (b.g r)=some o)∧b.F (b.g r)=none:=by
 obtain⟨o,ho⟩:=apZ.mp h;exact⟨⟨o,(B.mt r o ho).1⟩,(B.mt r o ho).2⟩
theorem a0.change{b b':Bs}(B:a0 A b)(N:bO→Prop)(hF:aV b.F b'.F)(hFn:∀a,b'.F a≠none→b.F a≠none∨b.H a=none)(hFH:aV b'.F b'.H)
  (Mb:∀r,¬N r→b'.g r=b.g r)(Me:∀r,N r→b.H (b'.g r)=none∧b'.F (b'.g r)=none)(acM:∀r r',N r→N r'→b'.g r=b'.g r'→r=r')
  (HK:∀r,iW A b' r→¬N r→iW A b r)(acX:∀r o,mc A b'.g b'.z b'.M b'.ta b'.dX r=some o→b'.H (b'.g r)=some o)
  (hfr:∀a o,b.H a=some o→(∀r,iW A b r→b.g r≠a)→b'.H a=some o)(EU:b'.g .aL=b.g .aL)(Z:Frz A b'.F b'.g b'.z b'.M b'.ta b'.tx):a0 A b'∧dn A b b':=by
 have old:∀r,iW A b r→b'.F (b.g r)=none:=fun r hr=>by
  obtain⟨⟨o,e1⟩,e2⟩:=B.vc hr;cases q:b'.F (b.g r)with
  |none=>rfl
  |some u=>
   rcases hFn _ (by rw[q];simp)with h|h
   ·exact absurd e2 h
   ·rw[h]at e1;cases e1
 refine⟨⟨hFH,fun r o e=>⟨acX r o e,?_⟩,fun r r' p p' e=>?_,Z.iv,Z.town,Z.street,Z.run,Z.text⟩,⟨hF,fun a o e n=>hfr a o e (fun r hr q=>n (.inr ⟨r,hr,q⟩)),fun a h=>?_,EU⟩⟩
 ·have pr:iW A b' r:=by show arq _=true;rw[e];rfl
  by_cases q:N r
  ·exact(Me r q).2
  ·rw[Mb r q];exact old r (HK r pr q)
 ·by_cases q:N r
  ·by_cases q':N r'
   ·exact acM r r' q q' e
   ·have h1:=(Me r q).1;rw[e,Mb r' q']at h1;obtain⟨⟨o,h2⟩,_⟩:=B.vc (HK r' p' q');rw[h1]at h2;cases h2
  ·by_cases q':N r'
   ·have h1:=(Me r' q').1;rw[←e,Mb r q]at h1;obtain⟨⟨o,h2⟩,_⟩:=B.vc (HK r p q);rw[h1]at h2;cases h2
   ·rw[Mb r q,Mb r' q']at e;exact B.inj r r' (HK r p q) (HK r' p' q') e
 ·rcases h with h|⟨r,h1,h2⟩
  ·rcases hFn a h with h|h
   ·exact .inl (.inl h)
   ·exact .inr h
  ·by_cases q:N r
   ·right;rw[←h2];exact(Me r q).1
   ·left;exact .inr ⟨r,HK r h1 q,by rw[←Mb r q];exact h2⟩
theorem a0.one{b:Bs}(B:a0 A b)(r0:bO)(M':Bk){o':HO}(h0:iW A b r0)(h1:mc A b.g b.z M' b.ta b.dX r0=some o')(h2:∀r,r≠r0→mc A b.g b.z M' b.ta b.dX r=mc A b.g b.z b.M b.ta b.dX r)
  (Z:Frz A b.F b.g b.z M' b.ta b.tx):a0 A {b with H:=aJ b.H (b.g r0) o',M:=M'}∧dn A b {b with H:=aJ b.H (b.g r0) o',M:=M'}:=by
 have nf:=(B.vc h0).2;refine B.change (b':={b with H:=aJ b.H (b.g r0) o',M:=M'}) (fun _=>False) (aV.refl _) (fun a h=>.inl h) (fun a o e=>?_) (fun r _=>rfl) (fun r h=>h.elim) (fun r r' h=>h.elim) (fun r h _=>?_) (fun r o e=>?_) (fun a o e n=>?_) rfl Z
 ·show aJ b.H (b.g r0) o' a=some o;rw[ai (aj e nf)];exact B.same _ _ e
 ·by_cases q:r=r0
  ·rw[q];exact h0
  ·have h':(mc A b.g b.z M' b.ta b.dX r).isSome=true:=h;rw[h2 r q]at h';exact h'
 ·show aJ b.H (b.g r0) o' (b.g r)=some o;have e':mc A b.g b.z M' b.ta b.dX r=some o:=e;by_cases q:r=r0
  ·subst q;rw[au];rw[h1]at e';exact e'
  ·rw[h2 r q]at e';rw[ai (fun w=>q (B.inj r r0 (by rw[e'];rfl) h0 w))];exact(B.mt r o e').1
 ·show aJ b.H (b.g r0) o' a=some o;rw[ai (fun w=>n r0 h0 w.symm)];exact e
def fA(n:Nat)(L:List (Nat×Nat))(S:aQ):aQ:={S with aU:=bU S.aU n [] fun _=>L}
theorem Xo{g:bO→Addr}{z:Fz}{M:Bk}{ta dX:Addr}{s n:Nat}{S:aQ}{L0 L:List (Nat×Nat)}(hS:M.ae[s]? =some S)(hn:S.aU.lookup n=some L0)(r:bO)(hr:r≠.aU s n):
  mc A g z {M with ae:=M.ae.modify s (fA n L)} ta dX r=mc A g z M ta dX r:=by
 have gs:∀u:Nat,(M.ae.modify s (fA n L))[u]? =if u=s then some (fA n L S)else M.ae[u]? :=fun u=>by
  rw[aA];by_cases e:u=s
  ·subst e;rw[if_pos rfl,if_pos rfl,hS];rfl
  ·rw[if_neg e,if_neg e]
 have iv:∀i,bV {M with ae:=M.ae.modify s (fA n L)} i=bV M i:=fun i=>by
  cases i with
  |bh u o=>
   show(if o<2 then((M.ae.modify s (fA n L))[u]?).map (fun S=>hv S o)else none)=if o<2 then(M.ae[u]?).map (fun S=>hv S o)else none
   rw[gs];by_cases e:u=s
   ·subst e;rw[if_pos rfl,hS];rfl
   ·rw[if_neg e]
  |bS=>rfl
  |walk w=>rfl
  |boxes t=>rfl
 cases r with
 |aL=>
  show some _=some _;congr 2;unfold SS kl eK aO bp;simp only[aqg]
 |bI=>rfl
 |ao=>rfl
 |ae=>show some (HO.aN (oB z.street (M.ae.modify _ _).length))=_;rw[aqg];rfl
 |az=>rfl
 |cN i=>show(bV _ i).map _=(bV _ i).map _;rw[iv]
 |bJ i=>show(bV _ i).map _=(bV _ i).map _;rw[iv]
 |holds i=>show(bV _ i).map _=(bV _ i).map _;rw[iv]
 |bj t=>rfl
 |letters u=>
  show((M.ae.modify s (fA n L))[u]?).map _=(M.ae[u]?).map _;rw[gs];by_cases e:u=s
  ·subst e;rw[if_pos rfl,hS];show some (HO.dK ((bU S.aU n [] fun _=>L).map _))=some (HO.dK (S.aU.map _));rw[Eh (fun m=>((apT (m:Int):Key),V.ref (g (.aU u m)))) (show(bU S.aU n [] fun _=>L).map (·.1)=S.aU.map (·.1) by rw[mQ,if_pos (by rw[hn];rfl)])]
  ·rw[if_neg e]
 |aU u m=>
  show((M.ae.modify s (fA n L))[u]?).bind _=(M.ae[u]?).bind _;rw[gs];by_cases e:u=s
  ·subst e;rw[if_pos rfl,hS];have hm:m≠n:=fun q=>hr (by rw[q]);show((bU S.aU n [] fun _=>L).lookup m).map _=(S.aU.lookup m).map _;rw[dE,if_neg hm]
  ·rw[if_neg e]
theorem Vl{F:Hp}{g:bO→Addr}{z:Fz}{M:Bk}{ta:Addr}{tx:List Int}{s n:Nat}{L:List (Nat×Nat)}(Z:Frz A F g z M ta tx):Frz A F g z {M with ae:=M.ae.modify s (fA n L)} ta tx:=by
 have gs:∀(u:Nat) S',(M.ae.modify s (fA n L))[u]? =some S'→∃S,M.ae[u]? =some S∧S'.names=S.names∧S'.town=S.town∧∀o,hv S' o=hv S o:=fun u S' h=>by
  rw[aA]at h;by_cases e:u=s
  ·rw[if_pos e]at h;obtain⟨S,h1,h2⟩:=apF.mp h;subst h2;exact⟨S,h1,rfl,rfl,fun _=>rfl⟩
  ·rw[if_neg e]at h;exact⟨S',h,rfl,rfl,fun _=>rfl⟩
 refine⟨fun i h=>Z.iv i ?_,Z.town,fun u S' h=>?_,Z.run,Z.text⟩
 ·cases i with
  |bh u o=>
   have h':(if o<2 then((M.ae.modify s (fA n L))[u]?).map (fun S=>hv S o)else none).isSome=true:=h;show(if o<2 then(M.ae[u]?).map (fun S=>hv S o)else none).isSome=true;by_cases q:o<2
   ·rw[if_pos q,apX]at h' ⊢;obtain⟨S',CY⟩:=apZ.mp h';obtain⟨S,hS,_⟩:=gs u S' CY;rw[hS];rfl
   ·rw[if_neg q]at h';cases h'
  |bS=>exact h
  |walk w=>exact h
  |boxes t=>exact h
 ·obtain⟨S,hS,e1,e2,_⟩:=gs u S' h;rw[e1,e2];exact Z.street u S hS
theorem MP{α:Type}(l:List (Nat×List α))(n:Nat)(L L':List α):bU (bU l n [] fun _=>L) n [] (fun _=>L')=bU l n [] fun _=>L':=by
 have h1:((bU l n [] fun _=>L).lookup n).isSome=true:=by rw[dE,if_pos rfl];rfl
 unfold bU at h1 ⊢;by_cases q:(l.lookup n).isSome=true
 ·simp only[if_pos q]at h1 ⊢;rw[if_pos h1,apJ];apply aqk;intro p _;show(if(if p.1=n then(p.1,L)else p).1=n then _ else _)=_;by_cases e:p.1=n<;>simp[e]
 ·simp only[if_neg q]at h1 ⊢;rw[if_pos h1,apB];congr 1
  ·have hn:n∉l.map (·.1):=by
    cases z:l.lookup n with
    |none=>exact(bK _ _).mp z
    |some v=>rw[z]at q;exact absurd rfl q
   conv=>rhs;rw[←asI l]
   apply aqk;intro p hp;show(if p.1=n then(p.1,L')else p)=p;rw[if_neg (fun e=>hn (apW.mpr ⟨p,hp,e⟩))]
  ·simp
def jh(g:bO→Addr)(s n:Nat)(d:Addr):bO→Addr:=fun r=>if r=.aU s n then d else g r
def cR(n:Nat)(S:aQ):aQ:={S with aU:=S.aU++[(n,[])]}
theorem a0.d3{b:Bs}(B:a0 A b){s n:Nat}{S:aQ}(hS:b.M.ae[s]? =some S)(hn:S.aU.lookup n=none){d:Addr}(hd:b.H d=none):
  a0 A {b with H:=aJ (aJ b.H d (.dK [])) (b.g (.letters s)) (.dK ((S.aU.map fun p=>((apT (p.1:Int):Key),V.ref (b.g (.aU s p.1))))++[(.inl (n:Int),.ref d)])),g:=jh b.g s n d,M:={b.M with ae:=b.M.ae.modify s (cR n)}}∧
  dn A b {b with H:=aJ (aJ b.H d (.dK [])) (b.g (.letters s)) (.dK ((S.aU.map fun p=>((apT (p.1:Int):Key),V.ref (b.g (.aU s p.1))))++[(.inl (n:Int),.ref d)])),g:=jh b.g s n d,M:={b.M with ae:=b.M.ae.modify s (cR n)}}:=by
 have pl:iW A b (.letters s):=by show((b.M.ae[s]?).map _).isSome=true;rw[hS];rfl
 have gs:∀u:Nat,(b.M.ae.modify s (cR n))[u]? =if u=s then some (cR n S)else b.M.ae[u]? :=fun u=>by
  rw[aA];by_cases e:u=s
  ·subst e;rw[if_pos rfl,if_pos rfl,hS];rfl
  ·rw[if_neg e,if_neg e]
 have iv:∀i,bV {b.M with ae:=b.M.ae.modify s (cR n)} i=bV b.M i:=fun i=>by
  cases i with
  |bh u o=>
   show(if o<2 then((b.M.ae.modify s (cR n))[u]?).map (fun S=>hv S o)else none)=if o<2 then(b.M.ae[u]?).map (fun S=>hv S o)else none
   rw[gs];by_cases e:u=s
   ·subst e;rw[if_pos rfl,hS];rfl
   ·rw[if_neg e]
  |bS=>rfl
  |walk w=>rfl
  |boxes t=>rfl
 have nd:∀{r},iW A b r→b.g r≠d:=fun hr=>B.U4 hd hr;have CZ:∀{r:bO},r≠.aU s n→jh b.g s n d r=b.g r:=fun h=>if_neg h;have VF:jh b.g s n d (.aU s n)=d:=if_pos rfl;have other:∀{r:bO} {o:HO},r≠.letters s→mc A b.g b.z b.M b.ta b.dX r=some o→aJ (aJ b.H d (.dK [])) (b.g (.letters s)) (.dK ((S.aU.map fun p=>((apT (p.1:Int):Key),V.ref (b.g (.aU s p.1))))++[(.inl (n:Int),.ref d)])) (b.g r)=some o:=fun{r o} h e=>by
  have pr:iW A b r:=by show arq _=true;rw[e];rfl
  rw[ai (fun q=>h (B.inj r _ pr pl q)),ai (nd pr)];exact(B.mt r o e).1
 refine B.change (b':={b with H:=aJ (aJ b.H d (.dK [])) (b.g (.letters s)) (.dK ((S.aU.map fun p=>((apT (p.1:Int):Key),V.ref (b.g (.aU s p.1))))++[(.inl (n:Int),.ref d)])),g:=jh b.g s n d,M:={b.M with ae:=b.M.ae.modify s (cR n)}})
  (fun r=>r=.aU s n) (aV.refl _) (fun a h=>.inl h) (fun a o e=>?_) (fun r h=>CZ h) (fun r h=>?_) (fun r r' h h' _=>h.trans h'.symm) (fun r h hr=>?_) (fun r o e=>?_) (fun a o e q=>?_) (show jh b.g s n d .aL=b.g .aL from if_neg nofun) ?_
 ·show aJ (aJ b.H d _) (b.g (.letters s)) _ a=some o;rw[ai (aj e (B.vc pl).2),ai (aj (B.same _ _ e) hd)];exact B.same _ _ e
 ·subst h;show b.H (jh b.g s n d (.aU s n))=none∧b.F (jh b.g s n d (.aU s n))=none;rw[VF];exact⟨hd,B.same.free hd⟩
 ·show(mc A b.g b.z b.M b.ta b.dX r).isSome=true;have h':(mc A (jh b.g s n d) b.z {b.M with ae:=b.M.ae.modify s (cR n)} b.ta b.dX r).isSome=true:=h;cases r with
  |aL=>rfl
  |bI=>rfl
  |ao=>rfl
  |ae=>rfl
  |az=>rfl
  |cN i=>
   have h2:((bV {b.M with ae:=b.M.ae.modify s (cR n)} i).map fun L=>HO.aN (L.map fun x=>V.int x.lo)).isSome=true:=h';rw[iv,apX]at h2;show((bV b.M i).map _).isSome=true;rw[apX];exact h2
  |bJ i=>
   have h2:((bV {b.M with ae:=b.M.ae.modify s (cR n)} i).map fun L=>HO.aN (L.map fun x=>V.int x.hi)).isSome=true:=h';rw[iv,apX]at h2;show((bV b.M i).map _).isSome=true;rw[apX];exact h2
  |holds i=>
   have h2:((bV {b.M with ae:=b.M.ae.modify s (cR n)} i).map fun L=>HO.aN (L.map fun x=>V.ref (b.z.run x.at_))).isSome=true:=h';rw[iv,apX]at h2;show((bV b.M i).map _).isSome=true;rw[apX];exact h2
  |bj t=>exact h'
  |letters u=>
   have h2:(((b.M.ae.modify s (cR n))[u]?).map fun S=>HO.dK (S.aU.map fun p=>((apT (p.1:Int):Key),V.ref (jh b.g s n d (.aU u p.1))))).isSome=true:=h';rw[apX,gs]at h2;show((b.M.ae[u]?).map _).isSome=true;rw[apX];by_cases e:u=s
   ·subst e;rw[hS];rfl
   ·rw[if_neg e]at h2;exact h2
  |aU u m=>
   have h2:(((b.M.ae.modify s (cR n))[u]?).bind fun(S:aQ)=>(S.aU.lookup m).map fun(L:List (Nat×Nat))=>HO.dK (L.map fun(q:Nat×Nat)=>((apT (q.1:Int):Key),V.int (q.2:Int)))).isSome=true:=h';rw[gs]at h2;show((b.M.ae[u]?).bind _).isSome=true;by_cases e:u=s
   ·subst e;have hm:m≠n:=fun q=>hr (by rw[q]);rw[if_pos rfl]at h2;rw[hS];have h3:(((S.aU++[(n,[])]).lookup m).map fun(L:List (Nat×Nat))=>HO.dK (L.map fun(q:Nat×Nat)=>((apT (q.1:Int):Key),V.int (q.2:Int)))).isSome=true:=h2;rw[gw _ _ _ _ hn,if_neg hm]at h3;exact h3
   ·rw[if_neg e]at h2;exact h2
 ·show aJ (aJ b.H d (.dK [])) (b.g (.letters s)) _ (jh b.g s n d r)=some o;have e':mc A (jh b.g s n d) b.z {b.M with ae:=b.M.ae.modify s (cR n)} b.ta b.dX r=some o:=e;cases r with
  |aL=>
   rw[CZ (by nofun)];refine other nofun ?_;rw[←e'];show some _=some _;congr 2;unfold SS kl eK aO bp;simp only[aqg];rw[CZ (by nofun),CZ (by nofun),CZ (by nofun),CZ (by nofun)]
  |bI=>rw[CZ (by nofun)];exact other nofun e'
  |ao=>rw[CZ (by nofun)];exact other nofun e'
  |ae=>
   rw[CZ (by nofun)];refine other nofun ?_;rw[←e'];show _=some (HO.aN (oB b.z.street (b.M.ae.modify _ _).length));rw[aqg];rfl
  |az=>rw[CZ (by nofun)];exact other nofun e'
  |cN i=>
   rw[CZ (by nofun)];refine other nofun ?_;rw[←e'];show(bV _ i).map _=(bV _ i).map _;rw[iv]
  |bJ i=>
   rw[CZ (by nofun)];refine other nofun ?_;rw[←e'];show(bV _ i).map _=(bV _ i).map _;rw[iv]
  |holds i=>
   rw[CZ (by nofun)];refine other nofun ?_;rw[←e'];show(bV _ i).map _=(bV _ i).map _;rw[iv]
  |bj t=>rw[CZ (by nofun)];exact other nofun e'
  |letters u=>
   rw[CZ (by nofun)];have e2:((b.M.ae.modify s (cR n))[u]?).map (fun S=>HO.dK (S.aU.map fun p=>((apT (p.1:Int):Key),V.ref (jh b.g s n d (.aU u p.1)))))=some o:=e';rw[gs]at e2;by_cases q:u=s
   ·subst q;rw[if_pos rfl]at e2;rw[au,←e2];show some _=some (HO.dK ((S.aU++[(n,[])]).map _));rw[apB];congr 3
    ·apply aqk;intro p hp;rw[CZ (fun z=>by
      have:=(bO.aU.inj z).2;have h3:=(bK _ _).mp hn;exact h3 (apW.mpr ⟨p,hp,this⟩))]
    ·show _=[((apT (n:Int):Key),V.ref (jh b.g u n d (.aU u n)))];rw[VF]
   ·rw[if_neg q]at e2;refine other (fun z=>q (bO.letters.inj z)) ?_;rw[←e2];show(b.M.ae[u]?).map _=(b.M.ae[u]?).map _;cases b.M.ae[u]? with
    |none=>rfl
    |some S'=>
     show some (HO.dK (au4 _ _))=some (HO.dK (au4 _ _));congr 2;apply aqk;intro p hp;rw[CZ (fun z=>q (bO.aU.inj z).1)]
  |aU u m=>
   have e2:((b.M.ae.modify s (cR n))[u]?).bind (fun(S:aQ)=>(S.aU.lookup m).map fun(L:List (Nat×Nat))=>HO.dK (L.map fun(q:Nat×Nat)=>((apT (q.1:Int):Key),V.int (q.2:Int))))=some o:=e';rw[gs]at e2;by_cases q:u=s
   ·subst q;rw[if_pos rfl]at e2;have e3:((S.aU++[(n,[])]).lookup m).map (fun(L:List (Nat×Nat))=>HO.dK (L.map fun(q:Nat×Nat)=>((apT (q.1:Int):Key),V.int (q.2:Int))))=some o:=e2;rw[gw _ _ _ _ hn]at e3;by_cases q2:m=n
    ·subst q2;rw[if_pos rfl]at e3;rw[VF,ai (fun z=>nd pl z.symm),au,←e3];rfl
    ·rw[if_neg q2]at e3;rw[CZ (fun z=>q2 (bO.aU.inj z).2)];refine other nofun ?_;show(b.M.ae[u]?).bind _=_;rw[hS];exact e3
   ·rw[if_neg q]at e2;rw[CZ (fun z=>q (bO.aU.inj z).1)];exact other nofun e2
 ·show aJ (aJ b.H d _) (b.g (.letters s)) _ a=some o;rw[ai (fun z=>q _ pl z.symm),ai (aj e hd)];exact e
 ·refine⟨fun i h=>?_,fun t T h=>?_,fun u S' h=>?_,B.run,B.text⟩
  ·have h':(bV {b.M with ae:=b.M.ae.modify s (cR n)} i).isSome=true:=h;rw[iv]at h';obtain⟨dx,e⟩:=B.iv i h';refine⟨dx,?_⟩;show b.F (b.z.iv i)=some (.bR A.dR dx (rS (.ref (jh b.g s n d (.cN i))) (.ref (jh b.g s n d (.bJ i))) (.ref (jh b.g s n d (.holds i)))));rw[CZ (by nofun),CZ (by nofun),CZ (by nofun)];exact e
  ·obtain⟨dx,na,e1,e2⟩:=B.town t T h;refine⟨dx,na,?_,e2⟩;show b.F (b.z.town t)=some (.bR A.jz dx (C5 (.ref na) (.ref (jh b.g s n d (.bj t))) _));rw[CZ (by nofun)];exact e1
  ·have h':(b.M.ae.modify s (cR n))[u]? =some S':=h;rw[gs]at h';obtain⟨S0,OU,e1,e2⟩:∃S0,b.M.ae[u]? =some S0∧S'.names=S0.names∧S'.town=S0.town:=by
    by_cases q:u=s
    ·subst q;rw[if_pos rfl]at h';cases h';exact⟨S,hS,rfl,rfl⟩
    ·rw[if_neg q]at h';exact⟨S',h',rfl,rfl⟩
   obtain⟨dx,na,hl,f1,f2,f3⟩:=B.street u S0 OU;refine⟨dx,na,hl,?_,by rw[e1];exact f2,f3⟩;show b.F (b.z.street u)=some (.bR A.eE dx (vn (.ref na) (.int S'.town) (.ref hl) (.ref (jh b.g s n d (.letters u)))));rw[CZ (by nofun),e2];exact f1
def Dp(A:Ad):Sp:=fun vs H Q _=>∃p lp rp,vs=[.ref p,.ref lp,.ref rp]∧∃b s S n c e na dx r src,a0 A b∧H=b.H∧PM b p s S∧lI A b.F lp na dx (.letters n c e)∧rD n c e∧rP A b.F rp r src∧(∀l,c.toNat-96≤l→l≤e.toNat-96→(aS S n).lookup l=none)∧(aS S n).length+30<sizeLine∧S.aU.length+1<sizeLine∧(S.aU.map (·.1)).Nodup∧
 ∀b',a0 A b'→dn A b b'→b'.M={b.M with ae:=b.M.ae.modify s (cU n (c.toNat-96) (e.toNat-96) r.jD)}→b'.z=b.z→b'.tx=b.tx→Q .cx b'.H
def rO(lo b i:Nat):List (Nat×Nat):=(ap4 i).map fun j=>(lo+j,b+j)
theorem LJ(lo b i l:Nat):(rO lo b i).lookup l=if lo≤l∧l<lo+i then some (b+(l-lo))else none:=by
 have:=mj lo (lo+i-1) b l;by_cases hi:i=0
 ·subst hi;simp[rO]
 ·have e:d3 lo (lo+i-1) b=rO lo b i:=by
   unfold d3 rO;have:lo+i-1+1-lo=i:=by omega
   rw[this]
  rw[e]at this;rw[this];by_cases q:lo≤l∧l<lo+i
  ·rw[if_pos q,if_pos (by omega)]
  ·rw[if_neg q,if_neg (by omega)]
structure AlI(A:Ad)(b0:Bs)(s n:Nat)(L:List (Nat×Nat))(S:aQ)(th:Addr)(b:Bs):Prop where
 at_:a0 A b
 gr:dn A b0 b
 st:b.M={b0.M with ae:=b0.M.ae.modify s fun _=>{S with aU:=bU S.aU n [] fun _=>L}}
 z:b.z=b0.z
 tx:b.tx=b0.tx
 th:b.g (.aU s n)=th
theorem AlI.put{b0 b:Bs}{s n:Nat}{L:List (Nat×Nat)}{S:aQ}{th:Addr}(hS:b0.M.ae[s]? =some S)(I:AlI A b0 s n L S th b)(L':List (Nat×Nat)):
  AlI A b0 s n L' S th {b with H:=aJ b.H th (.dK (L'.map fun q=>((apT (q.1:Int):Key),V.int (q.2:Int)))),M:={b.M with ae:=b.M.ae.modify s (fA n L')}}∧b.H th=some (.dK (L.map fun q=>((apT (q.1:Int):Key),V.int (q.2:Int)))):=by
 have hSb:b.M.ae[s]? =some {S with aU:=bU S.aU n [] fun _=>L}:=by
  rw[I.st];show(b0.M.ae.modify s _)[s]? =_;rw[aA,if_pos rfl,hS];rfl
 have hn:({S with aU:=bU S.aU n [] fun _=>L}:aQ).aU.lookup n=some L:=by
  show(bU S.aU n [] fun _=>L).lookup n=_;rw[dE,if_pos rfl]
 have hc:mc A b.g b.z b.M b.ta b.dX (.aU s n)=some (.dK (L.map fun q=>((apT (q.1:Int):Key),V.int (q.2:Int)))):=by
  show(b.M.ae[s]?).bind _=_;rw[hSb];show(aro n _).map _=_;rw[hn];rfl
 obtain⟨P1,P2⟩:=I.at_.one (.aU s n) {b.M with ae:=b.M.ae.modify s (fA n L')} (o':=.dK (L'.map fun q=>((apT (q.1:Int):Key),V.int (q.2:Int)))) (by show arq _=true;rw[hc];rfl) (by
   show((b.M.ae.modify s (fA n L'))[s]?).bind _=_;rw[aA,if_pos rfl,hSb];show((bU (bU S.aU n [] fun _=>L) n [] fun _=>L').lookup n).map _=_;rw[dE,if_pos rfl];rfl) (fun r hr=>Xo hSb hn r hr) (Vl I.at_.GD)
 rw[I.th]at P1 P2;refine⟨⟨P1,I.gr.trans P2,?_,I.z,I.tx,I.th⟩,by rw[←I.th];exact(I.at_.mt _ _ hc).1⟩;show({b.M with ae:=b.M.ae.modify s (fA n L')}:Bk)=_;rw[I.st];refine mN (M:=b0.M) ?_;show(b0.M.ae.modify s _).modify s _=_;rw[ya hS];apply jZ hS;unfold fA;congr 1;show bU (bU S.aU n [] fun _=>L) n [] (fun _=>L')=_;exact MP S.aU n L L'
theorem AE{α:Type}{l:List (Nat×α)}{n:Nat}{L:α}(z:α)(f:α→α)(nd:(l.map (·.1)).Nodup)(h:l.lookup n=some L):bU l n z f=bU l n z fun _=>f L:=by
 unfold bU;rw[if_pos (by rw[h];rfl),if_pos (by rw[h];rfl)];apply aqk;intro p hp;by_cases e:p.1=n
 ·rw[if_pos e,if_pos e];have:l.lookup p.1=some p.2:=eB nd hp;rw[e,h]at this;rw[apC this]
 ·rw[if_neg e,if_neg e]
theorem Wf{α:Type}{l:List (Nat×α)}{n:Nat}{L:α}(z:α)(nd:(l.map (·.1)).Nodup)(h:l.lookup n=some L):bU l n z (fun _=>L)=l:=by
 rw[←AE z (fun x=>x) nd h];unfold bU;rw[if_pos (by rw[h];rfl)]
 conv=>rhs;rw[←asI l]
 apply aqk;intro p hp;by_cases e:p.1=n
 ·rw[if_pos e];rfl
 ·rw[if_neg e];rfl
theorem LO{α:Type}{l:List α}{s:Nat}{a:α}(h:l[s]? =some a):l.modify s (fun _=>a)=l:=by
 apply arY;intro j;rw[aA];by_cases q:j=s
 ·subst q;rw[if_pos rfl,h];rfl
 ·rw[if_neg q]
theorem R3(lo b i:Nat):rO lo b (i+1)=rO lo b i++[(lo+i,b+i)]:=by
 unfold rO;rw[arT,apB];rfl
theorem xS(T:Tx K mg A):bN P w K mg base fU 3 A.ff A.gS ["self","line","run"] (Dp A):=by
 have sc:=xA;have F:=T.r9.F;walk_at "f"
 ·obtain⟨p,lp,rp,rfl,_⟩:=h;rfl
 ·obtain⟨p,lp,rp,rfl,b,s0,S,n,c,e,na,dx0,r,src,B,rfl,⟨iG,rfl⟩,ig,xi,hrn,Bg,hz,hz2,nd,k⟩:=h;refine⟨_,(ag (aX (i:=3) sc.nd rfl (apN rfl) (UX ar4 atf vw (aq (pv 0) rfl) (af (aq (pv 1) rfl) (af oW ax))))
 (aw (wA ara rfl (Hw rfl T.yL (af (aq (pv 1) rfl) (af (aZ dD (aq (pv 1) rfl) ay) ax))) (fW (i:=4) sc.nd rfl (apN rfl)) (aw (W3 (iP hr) (pv 3) (pv 4) (aZ dS (aZ dD (aq (pv 2) rfl) (pv 4)) (aq (pv 1) rfl)) rfl))))),?_⟩
  walk_at "z";obtain⟨dx,nb,hl,e1,e2,e3⟩:=B.street s0 S iG;have f1:=B.same _ _ e1;have f4:=(B.mt (.letters s0) _ (by show(b.M.ae[s0]?).map _=_;rw[iG];rfl)).1;have dP:=(ig.same B.same).obj;have el:iS (.letters n c e) na=oO (.str "letters") (.ref na) (.str "") (.int n) (.int ((c.toNat-96:Nat):Int)) (.int ((e.toNat-96:Nat):Int)) (.int 1) (.int 0) (.int 0) (.bl false) (.int ((e.toNat-c.toNat+1:Nat):Int)):=rfl;rw[el]at dP;have hs:=sizeLine_eq;refine bt fun R n1=>?_;have key:∀th b1,AlI A b s0 n (aS S n) S th b1→R [some (V.ref (b.z.street s0)),some (V.ref lp),some (V.ref rp),some (.ref th),none] b1.H:=by
   intro th b1 I1;walk_at "n";have yi:=I1.at_.same _ _ (I1.gr.fs _ _ ig.obj);rw[el]at yi;obtain⟨_,_,l1,l2,l3⟩:=xi;have hN:((((e.toNat-96:Nat):Int)+1)-((c.toNat-96:Nat):Int)).toNat=e.toNat-c.toNat+1:=by omega
   refine⟨_,rfl,lp,_,_,_,_,rfl,yi,C.pR,C.o7,rfl,_,rfl,lp,_,_,_,_,rfl,yi,C.pR,C.lK,rfl,_,_,rfl,rfl,_,_,rfl,⟨by omega,by omega,by omega,by omega⟩,?_⟩;rw[hN];refine HQ (lo:=((c.toNat-96:Nat):Int)) (n:=e.toNat-c.toNat+1) (fun i σ H'=>∃v b',σ=[some (V.ref (b.z.street s0)),some (V.ref lp),some (V.ref rp),some (.ref th),v]∧H'=b'.H∧AlI A b s0 n (aS S n++rO (c.toNat-96) r.jD i) S th b')
    ⟨none,b1,rfl,rfl,by rw[show rO (c.toNat-96) r.jD 0=[]from rfl,apK];exact I1⟩ ?_ ?_
   ·rintro i σ H' hi ⟨v,b',rfl,rfl,I⟩;obtain⟨J,hth⟩:=I.put iG (aS S n++rO (c.toNat-96) r.jD (i+1));have ahA:=I.at_.same _ _ (I.gr.fs _ _ ig.obj);rw[el]at ahA;obtain⟨dxr,la,nar,ldr,Ym,_⟩:=hrn.ex;have anf:=I.at_.same _ _ (I.gr.fs _ _ Ym);have VR:((c.toNat-96:Nat):Int)+(i:Int)=((c.toNat-96+i:Nat):Int):=by omega
    have ev:(r.jD:Int)+((c.toNat-96+i:Nat):Int)-((c.toNat-96:Nat):Int)=((r.jD+i:Nat):Int):=by omega
    have Me:(aS S n++rO (c.toNat-96) r.jD i).lookup (c.toNat-96+i)=none:=by
     rw[qu,Bg _ (by omega) (by omega),LJ,if_neg (by omega)];rfl
    have ank:=DT (fun _ (x:Nat)=>V.int (x:Int)) (aS S n++rO (c.toNat-96) r.jD i) (c.toNat-96+i) (.int ((r.jD+i:Nat):Int)) Me;have hlen:(au4 (fun q:Nat×Nat=>((apT (q.1:Int):Key),V.int (q.2:Int))) (aS S n++rO (c.toNat-96) r.jD i)).length<16777216:=by
     rw[apt,apr];have:(rO (c.toNat-96) r.jD i).length=i:=by unfold rO;rw[apt,arZ]
     omega
    rw[VR];walk_at "d";rw[apt]at hlen;refine⟨hlen,_,?_,J⟩;rw[R3,←aqF,apB (l₁:=aS S n++_)];rfl
   ·rintro σ H' ⟨v,b',rfl,rfl,I⟩;refine k b' I.at_ I.gr ?_ I.z I.tx;rw[I.st];refine mN ?_;apply jZ iG;unfold cU;congr 1;have hnl:d3 (c.toNat-96) (e.toNat-96) r.jD=rO (c.toNat-96) r.jD (e.toNat-c.toNat+1):=by
     unfold d3 rO;rw[show e.toNat-96+1-(c.toNat-96)=e.toNat-c.toNat+1 by omega]
    rw[hnl];cases q:S.aU.lookup n with
    |none=>
     have e0:aS S n=[]:=by unfold aS;rw[q];rfl
     unfold bU;rw[q,e0];rfl
    |some L=>
     have e0:aS S n=L:=by unfold aS;rw[q];rfl
     rw[e0,AE [] (fun x=>x++rO (c.toNat-96) r.jD (e.toNat-c.toNat+1)) nd q]
  walk_at "d";intro p hp;have s1:aV b.H (aJ b.H p (.dK [])):=fun x o e=>by rw[ai (aj e hp)];exact e
  have ev:=gd (fun m _=>V.ref (b.g (.aU s0 m))) S.aU n;refine⟨_,s1 _ _ f4,by rw[apt];omega,fun v hv=>?_,fun hv=>?_⟩
  ·rw[ev]at hv;obtain⟨L,hL,rfl⟩:=apF.mp hv;have e0:aS S n=L:=by unfold aS;rw[hL];rfl
   refine key (b.g (.aU s0 n)) {b with H:=aJ b.H p (.dK [])} ⟨B.on s1,⟨aV.refl _,fun a o e _=>s1 a o e,fun a h=>.inl h,rfl⟩,?_,rfl,rfl,rfl⟩;rw[e0];show b.M=_;have:({S with aU:=bU S.aU n [] fun _=>L}:aQ)=S:=by rw[Wf [] nd hL]
   rw[this,LO iG]
  ·rw[ev]at hv;have hn:S.aU.lookup n=none:=by
    cases q:S.aU.lookup n with
    |none=>rfl
    |some L=>rw[q]at hv;cases hv
   have e0:aS S n=[]:=by unfold aS;rw[hn];rfl
   rw[DT (fun m _=>V.ref (b.g (.aU s0 m))) S.aU n (.ref p) hn];obtain⟨P1,P2⟩:=B.d3 iG hn hp;refine key p _ ⟨P1,P2,?_,rfl,rfl,if_pos rfl⟩;rw[e0];refine mN (M:=b.M) ?_;apply jZ iG;unfold cR;congr 1;unfold bU;rw[hn];rfl
section
variable{prog:Program}{w:World}{A:Around}{E:Value→Shared→Prop}{s:Shared}{κ:Type} [DecidableEq κ] {knd:KeyKind prog w κ}
theorem Sg{d:Addr}{kvs:List (κ×Value)}{ep:Nat}{R:Result→Shared→Prop}(hh:A.handled=none)(lo:(d==sysModules)=false)(S:Addr)(hSd:S≠d)(hd:s.heap.DictAt knd d kvs ep)(hS:s.heap.get? S=some {cls:=.type "list",data:=.seq #[] 0})
  (hR:∀h' tk ads c',(∀b o,b≠S→s.heap.get? b=some o→h'.get? b=some o)→h'.get? S=some {cls:=.type "list",dict:=none,data:=.seq ads c',slots:= #[]}→ItemsOf (fun i v=>∃k x,kvs[i]? =some (k,x)∧knd.is k v=true) ads kvs.length→R (.ok (.ret (.ref S))) {s with heap:=h',toks:=tk})(hn:kvs.length≤sizeLine):
  codeAny (model prog w) A (.builtin "list.__iadd__" ⟨[.ref S,.ref d],[]⟩) R s:=by
 refine codeAny_builtin entry_list_iadd' ?_;rw[Around.under_plainId F.plain_list_iadd _];exact PySem.W.kdl_extend (PySem.W.kdl_dict (knd:=knd) (kvs:=kvs) (ep:=ep) lo) hh hd S hSd hSd (.ref S) 0 hS hR hn
theorem K7{d:Addr}{kvs:List (κ×Value)}{ep:Nat}{Q:Value→Shared→Prop}(hh:A.handled=none)(lo:(d==sysModules)=false)(hd:s.heap.DictAt knd d kvs ep)(h64:kvs.length<64)
  (f:List Int)(hf:∀vs:List Value,vs.length=kvs.length→(∀(i:Nat) v,vs[i]? =some v→∃k x,kvs[i]? =some (k,x)∧knd.is k v=true)→IntsAre vs f)
  (h:∀(D:Addr) (h':Heap) (tk:Nat) (out:Array Value) (ep:Nat) (LH:List Int),IntsAre out.toList LH→LH.Perm f→LH.Pairwise (·≤ ·)→(∀b o,s.heap.get? b=some o→h'.get? b=some o)→s.heap.objs.size≤D→h'.get? D=some (seqObj "list" out ep)→Q (.ref D) {s with heap:=h',toks:=tk}):
  wpAny (model prog w) A (call (.builtin "sorted") [.ref d]) Q E s:=by
 refine Calls.call_function_entry kind_sorted plain_sorted entry_sorted (args_sorted1 _) ?_;unfold Builtin.«sorted»;refine wpAny_bind (m:=checkCount "sorted" 1 1 _) (wpAny_pure ?_);refine wpAny_bind ?_;unfold collect;refine wpAny_bind (wpAny_runValue (codeAny_builtin entry_proto_collect' ?_));show wpAny _ _ (do again (.builtin "list.__iadd__" ⟨[←newList [],.ref d],[]⟩)) _ _ s;have gX:=hd.lt_size;have OU:(s.heap.push (seqObj "list" #[] 0)).get? s.heap.objs.size=some {cls:=.type "list",data:=.seq #[] 0}:=aqd _ rfl;refine wpAny_bind (wpAny_newList (wpAny_pure ⟨Code.quiet_builtin _ (by decide +kernel),?_⟩));refine Sg (A:=A.in1) (s:={s with heap:=s.heap.push (seqObj "list" #[] 0)}) hh lo s.heap.objs.size (avG gX) (hd.push _) OU (fun h1 tk acc c hk hS XJ=>?_) (by rw[sizeLine_eq];omega);show wpAny _ A.in1 (load s.heap.objs.size >>= _) _ _ _;refine wpAny_bind (wpAny_load hS ?_);refine wpAny_pure ?_;have acB:∀b o,s.heap.get? b=some o→h1.get? b=some o:=fun b o e=>hk b o (aqo (ap0 e)) (apL _ e);have hI:IntsAre acc.toList f:=hf _ (by rw[ars];exact XJ.1) (fun i v e=>XJ.2 i v (by rw[←asO];exact e));refine wpAny_bind (wpAny_newList ?_ (hsz:=by rw[ars,XJ.1,sizeLine_eq];omega));have hoL:(h1.push (seqObj "list" acc.toList.toArray 0)).get? h1.objs.size=some (seqObj "list" acc.toList.toArray 0):=aqd _ rfl;have hle:s.heap.objs.size≤h1.objs.size:=by
  exact asV (ap0 hS)
 refine wpAny_bind (wpAny_holding (wpAny_call_entry slot_list_sort ⟨_,hoL,rfl⟩ entry_list_sort (list_sort_tree hoL hI (by rw[ars,XJ.1];exact h64) fun out LH a1 a2 a3=>⟨_,rfl,?_⟩) (args_list_sort _)));refine wpAny_pure ⟨_,rfl,?_⟩;obtain⟨ep',he'⟩:=sortedHeap_at (out:=out) hoL;refine h h1.objs.size _ tk out ep' LH a1 a2 a3 (fun b o e=>?_) hle he';have e1:=acB b o e;have Z4:=ap0 e1;rw[sortedHeap_old (aqo Z4) (by rw[size_push'];exact asD Z4),Heap.get?_push_ne _ _ _ (aqo Z4)];exact e1
end
section
variable{X:Cx}
def UC:List V→Hp→VK→Prop:=fun vs H Q=>∃(a:Addr) (ns:List Int) (kvs:List (Key×V)),vs=[.ref a]∧H a=some (.dK kvs)∧kvs.map (·.1)=ns.map apT∧ns.length<64∧
 ∀(LH:List Int) (p:Addr),LH.Perm ns→LH.Pairwise (·≤ ·)→H p=none→Q (.ref p) (aJ H p (.aN (LH.map V.int)))
theorem QI{P:Program}{w:World}:∀(ns:List Int) (kvs:List (Key×Value)) (vs:List Value),kvs.map (·.1)=ns.map apT→vs.length=kvs.length→(∀(i:Nat) v,vs[i]? =some v→∃k x,kvs[i]? =some (k,x)∧(cY P w).is k v=true)→IntsAre vs ns
 |[],[],[],_,_,_=>.nil
 |n::ns,(k,x)::kvs,v::vs,h,hl,hv=>by
  obtain⟨k',x',e,q⟩:=hv 0 v rfl;cases e;rw[apG,apG]at h;have h1:k=apT n:=(aqI h).1;subst h1;have q':EC (apT n) v=true:=q;rcases dI q' with⟨i,t,e1,e2⟩|⟨x,t,e1,e2⟩
  ·cases e1;subst e2;exact .cons n t (QI ns kvs vs (aqI h).2 (by simpa using hl) fun i v hi=>hv (i+1) v hi)
  ·cases e1
 |[],_::_,_,h,_,_=>by simp at h
 |_::_,[],_,h,_,_=>by simp at h
 |[],[],_::_,_,h,_=>by simp at h
 |_::_,_::_,[],_,h,_=>by simp at h
theorem Pg(hc:X.GQ=true):rF X (.builtin "sorted") UC:=by
 intro ah s σ H vs us Q I r h;obtain⟨a,ns,kvs,rfl,ha,hk,h64,q⟩:=h;rw[cg.abJ r];obtain⟨_,hd,YQ,oU,dd⟩:=Q9 I.du ha;obtain⟨ep,hat⟩:=dd.dictAt;have hk':YQ.map (·.1)=ns.map apT:=by rw[←hk];exact oU.keys.symm
 have tN:YQ.length=ns.length:=by rw[←apt (f:=(·.1)) (as:=YQ),hk',apt]
 refine K7 (I.ok.hd hc) hd hat (by rw[tN];exact h64) ns (fun us e1 e2=>QI ns YQ us hk' e1 e2) fun D h' tk out ep' LH a1 a2 a3 k hD he=>?_;have hlen:(LH.map V.int).length≤sizeLine:=by rw[apt,a2.length_eq];exact WW h64
 exact⟨.ref D,aJ H D (.aN (LH.map V.int)),I.vd (t':=tk) k hD ⟨hlen,out.toList,ep',xj a1,he⟩,rfl,q LH D a2 a3 (I.du.fresh hD)⟩
end
def Ef(l:List Nat)(H:Hp)(Q:VK):Prop:=∀H' a,aV H H'→H a=none→H' a=some (.aN (l.map fun(i:Nat)=>V.int (i:Int)))→Q (.ref a) H'
def BL(A:Ad):Sp:=fun vs H Q _=>∃p n,vs=[.ref p,.int ((n:Nat):Int)]∧∃b s S d,a0 A b∧H=b.H∧PM b p s S∧cX d b.M∧Ef (de S n) H Q
theorem rL(T:Tx K mg A):bN P w K mg base fU 1 A.dh A.d8 ["self","number"] (BL A):=by
 have sc:=rH;have F:=T.lR.F;walk_at "f"
 ·obtain⟨p,n,rfl,_⟩:=h;rfl
 ·obtain⟨p,n,rfl,b,s0,S,d,B,rfl,⟨iG,rfl⟩,m,k⟩:=h;refine⟨_,(ag (bo (IZ (zO (iP hr) (pv 1) (aq (pv 0) rfl)) rfl) (aw (aB (cG ax))) aM)
 (ag (aX (i:=2) sc.nd rfl (aud rfl) (xQ (iP hr) (aq (pv 0) rfl) (pv 1) (fun _ _=>rfl)))
 (aw (aB (Hx rfl sc.nd (mZ (bH (Pg rfl) (by rfl) T.FF boot_sorted (af (pv 2) ax))) (mM (own:=[("letter",3)]) rfl) (fun _ _ _ _ _=>fW (i:=3) sc.nd rfl (apN rfl)) (fun _ _ _ _ _=>qj) (fun _ _ _ _ _=>xQ (iP hr) (pv 2) (pv 3) (fun _ _=>rfl))))))),?_⟩
  walk_at "z";obtain⟨dx,nb,hl,e1,e2,e3⟩:=B.street s0 S iG;have f1:=B.same _ _ e1;have f4:=(B.mt (.letters s0) _ (by show(b.M.ae[s0]?).map _=_;rw[iG];rfl)).1;have ev:=gd (fun n _=>V.ref (b.g (.aU s0 n))) S.aU n;walk_at "e";refine bW (fun c1=>⟨by rw[sizeLine_eq];exact apV _,fun p hp=>?_⟩) fun c1=>bQ ?_
  ·have hn:S.aU.lookup n=none:=by
    cases q:S.aU.lookup n with
    |none=>rfl
    |some L=>rw[q]at c1;cases c1
   have e0:de S n=[]:=by
    unfold de aS;rw[hn];show(ap4 27).filterMap (fun l=>none)=[];simp
   refine k _ p (fun x o e=>by rw[ai (aj e hp)];exact e) hp ?_;rw[au,e0];rfl
  ·obtain⟨L,hL⟩:∃L,S.aU.lookup n=some L:=by
    cases q:S.aU.lookup n with
    |none=>rw[q]at c1;exact absurd rfl c1
    |some L=>exact⟨L,rfl⟩
   have e0:aS S n=L:=by unfold aS;rw[hL];rfl
   have f5:=(B.mt (.aU s0 n) _ (by show(b.M.ae[s0]?).bind _=_;rw[iG];show(S.aU.lookup n).map _=_;rw[hL];rfl)).1;rw[hL]at ev;refine Dz ?_;have ev':vI (S.aU.map fun p=>((apT (p.1:Int):Key),V.ref (b.g (.aU s0 p.1)))) (n:Int)=some (V.ref (b.g (.aU s0 n))):=ev;walk_at "d";refine bQ ?_;have hlen:=m.LX iG n;rw[e0]at hlen;refine⟨_,rfl,b.g (.aU s0 n),L.map fun q=>(q.1:Int),_,rfl,f5,by rw[apJ,apJ];rfl,by rw[apt];omega,fun LH D hp hs hD=>?_⟩;obtain⟨ks,rfl⟩:∃ks:List Nat,LH=ks.map fun(x:Nat)=>(x:Int):=by
    refine⟨LH.map asS,?_⟩;rw[apJ]
    conv=>lhs;rw[←asI LH]
    apply aqk;intro x hx;obtain⟨q,_,rfl⟩:=apW.mp (hp.mem_iff.mp hx);rfl
   have hpk:ks.Perm (L.map (·.1)):=by
    have:=hp.map asS;rw[apJ,apJ]at this;have e1:ks.map (asS∘fun(x:Nat)=>(x:Int))=ks:=by
     conv=>rhs;rw[←asI ks]
     apply aqk;intro x _;rfl
    rw[e1]at this;exact this
   have hsk:ks.Pairwise (·≤ ·):=by
    rw[aq7]at hs;exact hs.imp fun h=>by omega
   have acQ:=m.Cp iG n (by rw[e0];exact hpk) hsk;rw[e0]at acQ;have s1:aV b.H (aJ b.H D (.aN ((ks.map fun(x:Nat)=>(x:Int)).map V.int))):=fun x o e=>by rw[ai (aj e hD)];exact e
   have VE:aJ b.H D (.aN ((ks.map fun(x:Nat)=>(x:Int)).map V.int)) D=some (.aN (ks.map fun(x:Nat)=>V.int (x:Int))):=by rw[au,apJ];rfl
   generalize aJ b.H D _=H1 at s1 VE ⊢;have g5:=s1 _ _ f5;have hks:ks.length≤27:=by have:=hpk.length_eq;rw[apt]at this;omega
   refine⟨D,rfl,⟨_,jH.of VE⟩,fun D2 hD2=>?_⟩;refine CS (K:=K) (a:=D) (xs:=ks.map fun(x:Nat)=>V.int (x:Int)) (fun i H'=>aV H1 H'∧H' D2=some (.aN (((ks.take i).filterMap fun l=>L.lookup l).map fun(j:Nat)=>V.int (j:Int)))) ⟨fun x o q=>by rw[ai (aj q hD2)];exact q,au⟩ (fun i H' _ h=>jH.of (h.1 _ _ VE)) ?_ ?_
   ·rintro i x H' hi ⟨s2,oK⟩;rw[apH]at hi;obtain⟨l,hl0,rfl⟩:=apF.mp hi;have Vz:l∈L.map (·.1):=hpk.mem_iff.mp (aps hl0);obtain⟨j,hj⟩:∃j,L.lookup l=some j:=by
     cases q:L.lookup l with
     |none=>exact absurd Vz ((bK _ _).mp q)
     |some j=>exact⟨j,rfl⟩
    have g6:=s2 _ _ g5;have ev2:=gd (fun _ (j:Nat)=>V.int (j:Int)) L l;rw[hj]at ev2;refine⟨rfl,?_⟩;simp only[KG,↓reduceIte];refine⟨_,rfl,_,rfl,b.g (.aU s0 n),_,_,_,rfl,rfl,g6,ev2,_,oK,by rw[apt,sizeLine_eq];have:=arK (fun l=>L.lookup l) (ks.take i);rw[aqm]at this;omega,fun x o q=>?_,?_⟩
    ·rw[ai (aj q hD2)];exact s2 x o q
    ·rw[au,aq6,hl0,aqp,apB];show _=some (HO.aN (_++au4 _ (avn _ [l])));rw[show avn (fun l=>L.lookup l) [l]=[j] by simp[hj]];rfl
   ·rintro H' ⟨s2,oK⟩;rw[apt,aq2,acQ]at oK;exact k _ D2 (s1.trans s2) (s1.free hD2) oK
structure vT(A:Ad)(H H':Hp)(iv l h q:Addr):Prop where
 at_:PR A H' iv l h q []
 ne:l≠h∧l≠q∧h≠q
 fi:H iv=none
 fl:H l=none
 fh:H h=none
 fq:H q=none
theorem vT.on{H H' H2:Hp}{iv l h q:Addr}(n:vT A H H' iv l h q)(s:∀b o,H' b=some o→(b=iv∨b=l∨b=h∨b=q)→H2 b=some o):vT A H H2 iv l h q:=
 ⟨⟨let⟨dx,e⟩:=n.at_.obj;⟨dx,s _ _ e (.inl rfl)⟩,s _ _ n.at_.lo (.inr (.inl rfl)),s _ _ n.at_.hi (.inr (.inr (.inl rfl))),s _ _ n.at_.at_ (.inr (.inr (.inr rfl)))⟩,n.ne,n.fi,n.fl,n.fh,n.fq⟩
theorem MY.new{H H':Hp}{p:Addr}(n:MY A H H' p):∃l h q,vT A H H' p l h q:=by
 obtain⟨l,h,q,i,ne,a,b,c⟩:=n.at_;exact⟨l,h,q,i,ne,n.free,a,b,c⟩
structure Yt(A:Ad)(H H':Hp)(p:Addr)(nv:V)(c iv l h q:Addr):Prop where
 same:aV H H'
 obj:∃dx,H' p=some (.bR A.jz dx (C5 nv (.ref c) (.ref iv)))
 cod:H' c=some (.dK [])
 box:vT A H H' iv l h q
 fp:H p=none
 fc:H c=none
def Rx(A:Ad):Sp:=fun vs H Q _=>∃p nv,vs=[.ref p,nv]∧∃dx,H p=some (.bR A.jz dx [])∧∀H' c iv l h q,(∀b o,H b=some o→b≠p→H' b=some o)→H' p=some (.bR A.jz dx (C5 nv (.ref c) (.ref iv)))→H' c=some (.dK [])→vT A H H' iv l h q→H c=none→Q .cx H'
theorem NY(T:Tx K mg A):bN P w K mg base fU 3 A.pD A.uR ["self","names"] (Rx A):=by
 have sc:=Nr;have F:=T.PX.F;walk_at "f"
 ·obtain⟨p,nv,rfl,_⟩:=h;rfl
 ·obtain⟨p,nv,rfl,dx,hp,k⟩:=h;refine⟨_,(ag (aW (pv 0) (pv 1) rfl)
 (ag (aW (pv 0) oW rfl)
 (aw (aW (pv 0) (sS (k:=0) T hr.mn rfl) rfl)))),?_⟩
  clear sc;have Wo:L2.Internal.start ["self","names"] [V.ref p,nv]=[some (V.ref p),some nv]:=rfl;simp only[eV,C8,Lj,P4,PZ,Wo,tC,VX,My];refine⟨p,_,_,_,rfl,hp,C.Fo,C.jT,(by decide:0<1000),?_⟩;intro c hc;obtain⟨c1,hc⟩:=aE hc;refine⟨p,_,_,_,rfl,(ai c1.symm).trans au,C.Fo,C.mm,(by decide:1<1000),?_⟩;intro H' iv n;obtain⟨l,h,q,n1⟩:=n.new;have OP:=n.same p _ au;refine⟨p,_,_,_,rfl,OP,C.Fo,C.mq,(by decide:2<1000),?_⟩;obtain⟨i1,i2⟩:=aE n1.fi;obtain⟨l1,l2⟩:=aE n1.fl;obtain⟨h1,h2⟩:=aE n1.fh;obtain⟨q1,q2⟩:=aE n1.fq;refine k _ c iv l h q (fun b o e hb=>?_) au ?_ ⟨(n1.on (H2:=aJ H' p _) fun b o e z=>?_).at_,n1.ne,?_,?_,?_,?_⟩ hc
  ·rw[ai hb];exact n.same b o (by rw[ai hb,ai (aj e hc),ai hb];exact e)
  ·rw[ai c1];exact n.same c _ (by rw[ai c1,au])
  ·rw[ai (by rcases z with z|z|z|z<;>rw[z]<;>assumption)];exact e
  ·exact(aE (aE i2).2).2
  ·exact(aE (aE l2).2).2
  ·exact(aE (aE h2).2).2
  ·exact(aE (aE q2).2).2
def YX(A:Ad)(te:TE):TE:=fun σ H Q=>te σ H fun x H1=>∀H' p c iv l h q,Yt A H1 H' p x c iv l h q→Q (.ref p) H'
theorem UP{X:Cx}{e:Expr}{te:TE}{pos p:Pos}(T:Tx X.K X.mg A)(hr:gb 4 X.A)(hg:Gl X "Town")(he:PE X e te)(j7:starEach [e] X.env=[(false,eval e X.env)]:=by rfl):PE X (.Call (.Name "Town" p) [e] [] pos) (YX A te):=
 jP (xP T.abZ (NY T) hr hg T.ab7 T.PX.b .nil aP (af (cp he) ax (hs:=j7)) (he:=j7) (Kp:=rfl)) fun σ H Q h=>by
  refine⟨_,h,fun x H1 z=>?_⟩;intro p dx nx nd ne;refine⟨p,x,rfl,dx,au,fun H' c iv l h q fr ho hc hi fc=>⟨rfl,z _ _ c iv l h q ⟨fun b o e=>fr b o ?_ (aj e nx),⟨dx,ho⟩,hc,⟨hi.at_,hi.ne,?_,?_,?_,?_⟩,nx,?_⟩⟩⟩
  ·rw[ai (aj e nx),ai (aj e nd)];exact e
  ·exact(aE (aE hi.fi).2).2
  ·exact(aE (aE hi.fl).2).2
  ·exact(aE (aE hi.fh).2).2
  ·exact(aE (aE hi.fq).2).2
  ·exact(aE (aE fc).2).2
structure Yu(A:Ad)(H H':Hp)(p:Addr)(nv tv:V)(hl lt iv l h q lN l' h' q':Addr):Prop where
 same:aV H H'
 obj:∃dx,H' p=some (.bR A.eE dx (vn nv tv (.ref hl) (.ref lt)))
 hal:H' hl=some (.aN [.ref iv,.ref lN])
 LY:H' lt=some (.dK [])
 i0:vT A H H' iv l h q
 i1:vT A H H' lN l' h' q'
 nd:iv≠lN∧(∀x,x=l∨x=h∨x=q→∀y,y=l'∨y=h'∨y=q'→x≠y)
 fp:H p=none
 fh:H hl=none
 fl:H lt=none
def RB(A:Ad):Sp:=fun vs H Q _=>∃p nv tv,vs=[.ref p,nv,tv]∧∃dx,H p=some (.bR A.eE dx [])∧∀H' hl lt iv l h q lN l' h' q',(∀b o,H b=some o→b≠p→H' b=some o)→H' p=some (.bR A.eE dx (vn nv tv (.ref hl) (.ref lt)))→
 H' hl=some (.aN [.ref iv,.ref lN])→H' lt=some (.dK [])→vT A H H' iv l h q→vT A H H' lN l' h' q'→(iv≠lN∧(∀x,x=l∨x=h∨x=q→∀y,y=l'∨y=h'∨y=q'→x≠y))→H hl=none→H lt=none→Q .cx H'
theorem NZ(T:Tx K mg A):bN P w K mg base fU 3 A.pE A.uS ["self","names","town"] (RB A):=by
 have sc:=Nt;have F:=T.P9.F;walk_at "f"
 ·obtain⟨p,nv,tv,rfl,_⟩:=h;rfl
 ·obtain⟨p,nv,tv,rfl,dx,hp,k⟩:=h;refine⟨_,(ag (aW (pv 0) (pv 1) rfl)
 (ag (aW (pv 0) (pv 2) rfl)
 (ag (aW (pv 0) (cG (af (sS (k:=0) T hr.mn rfl) (af (sS (k:=0) T hr.mn rfl) ax))) rfl)
 (aw (aW (pv 0) oW rfl))))),?_⟩
  clear sc;have Wo:L2.Internal.start ["self","names","town"] [V.ref p,nv,tv]=[some (V.ref p),some nv,some tv]:=rfl;simp only[eV,C8,Lj,P4,PZ,Wo,tC,VX,My];refine⟨p,_,_,_,rfl,hp,C.lj,C.jU,(by decide:0<1000),?_⟩;refine⟨p,_,_,_,rfl,au,C.lj,C.oZ,(by decide:1<1000),?_⟩;rw[j5];intro H1 iv n0;intro H2 lN n1;refine⟨by show 2≤sizeLine;decide,fun hl hhl=>?_⟩;obtain⟨l,h,q,m0⟩:=n0.new;obtain⟨l',h',q',m1⟩:=n1.new;have s01:=n0.same.trans n1.same;have OP:=s01 p _ au;have pn:p≠hl:=aj OP hhl;refine⟨p,_,_,_,rfl,(ai pn).trans OP,C.lj,C.kr,(by decide:2<1000),?_⟩;intro lt gX;obtain⟨t1,gX⟩:=aE gX;obtain⟨t2,gX⟩:=aE gX;refine⟨p,_,_,_,rfl,(ai t1.symm).trans au,C.lj,C.jc,(by decide:3<1000),?_⟩;have up:∀b o,H2 b=some o→b≠p→aJ (aJ (aJ (aJ H2 hl (.aN [.ref iv,.ref lN])) p (.bR A.eE dx (vn nv tv (.ref hl) .cx |>.take 3))) lt (.dK [])) p (.bR A.eE dx (vn nv tv (.ref hl) (.ref lt))) b=some o:=fun b o e hb=>by
   rw[ai hb,ai (aj e gX),ai hb,ai (aj e hhl)];exact e
  have m0':=m0.on (H2:=H2) fun b o e _=>n1.same b o e;obtain⟨i1,i2⟩:=aE m0.fi;obtain⟨l1,l2⟩:=aE m0.fl;obtain⟨h1,h2⟩:=aE m0.fh;obtain⟨q1,q2⟩:=aE m0.fq;have below:∀{b},H1 b=none→b≠p∧H b=none:=fun{b} e=>aE (n0.same.free e);obtain⟨i1',i2'⟩:=below m1.fi;obtain⟨l1',l2'⟩:=below m1.fl;obtain⟨h1',h2'⟩:=below m1.fh;obtain⟨q1',q2'⟩:=below m1.fq;refine k _ hl lt iv l h q lN l' h' q' (fun b o e hb=>up b o (s01 b o (by rw[ai hb];exact e)) hb) au ?_ ?_ ⟨(m0'.on fun b o e z=>up b o e ?_).at_,m0.ne,i2,l2,h2,q2⟩ ⟨(m1.on fun b o e z=>up b o e ?_).at_,m1.ne,i2',l2',h2',q2'⟩ ⟨?_,?_⟩ (aE (s01.free hhl)).2 (aE (s01.free gX)).2
  ·rw[ai pn.symm,ai t2.symm,ai pn.symm,au]
  ·rw[ai t1,au]
  ·rcases z with z|z|z|z<;>rw[z]<;>assumption
  ·rcases z with z|z|z|z<;>rw[z]<;>assumption
  ·obtain⟨dz,e⟩:=m0.at_.obj;exact aj e m1.fi
  ·intro x hx y hy;have ex:∃o,H1 x=some o:=by
    rcases hx with rfl|rfl|rfl
    ·exact⟨_,m0.at_.lo⟩
    ·exact⟨_,m0.at_.hi⟩
    ·exact⟨_,m0.at_.at_⟩
   have ey:H1 y=none:=by
    rcases hy with rfl|rfl|rfl
    ·exact m1.fl
    ·exact m1.fh
    ·exact m1.fq
   obtain⟨o,e⟩:=ex;exact aj e ey
def YY(A:Ad)(te tf:TE):TE:=fun σ H Q=>te σ H fun x H1=>tf σ H1 fun y H2=>∀H' p hl lt iv l h q lN l' h' q',Yu A H2 H' p x y hl lt iv l h q lN l' h' q'→Q (.ref p) H'
theorem UQ{X:Cx}{e f:Expr}{te tf:TE}{pos p:Pos}(T:Tx X.K X.mg A)(hr:gb 4 X.A)(hg:Gl X "Street")(he:PE X e te)(hf:PE X f tf)(j7:starEach [e,f] X.env=[(false,eval e X.env),(false,eval f X.env)]:=by rfl)(Xv:starEach [f] X.env=[(false,eval f X.env)]:=by rfl):PE X (.Call (.Name "Street" p) [e,f] [] pos) (YY A te tf):=
 jP (xP T.ab0 (NZ T) hr hg T.ab8 T.P9.b .nil aP (af (cp he) (af (cp hf) ax (hs:=Xv)) (hs:=by rw[j7,Xv])) (he:=by rw[j7,Xv]) (Kp:=by rw[Xv];rfl)) fun σ H Q h=>by
  refine⟨_,h,fun x H1 z=>⟨_,z,fun y H2 z=>?_⟩⟩;intro p dx nx nd ne;refine⟨p,x,y,rfl,dx,au,fun H' hl lt iv l h q lN l' h' q' fr ho h1 h2 i0 i1 n f1 f2=>⟨rfl,z _ _ hl lt iv l h q lN l' h' q' ⟨fun b o e=>fr b o ?_ (aj e nx),⟨dx,ho⟩,h1,h2,⟨i0.at_,i0.ne,?_,?_,?_,?_⟩,⟨i1.at_,i1.ne,?_,?_,?_,?_⟩,n,nx,?_,?_⟩⟩⟩
  ·rw[ai (aj e nx),ai (aj e nd)];exact e
  ·exact(aE (aE i0.fi).2).2
  ·exact(aE (aE i0.fl).2).2
  ·exact(aE (aE i0.fh).2).2
  ·exact(aE (aE i0.fq).2).2
  ·exact(aE (aE i1.fi).2).2
  ·exact(aE (aE i1.fl).2).2
  ·exact(aE (aE i1.fh).2).2
  ·exact(aE (aE i1.fq).2).2
  ·exact(aE (aE f1).2).2
  ·exact(aE (aE f2).2).2
structure Ti(c:Addr)(H G:Hp)(p dx:Addr)(fs:List (Str×V))(L:List (Addr×HO)):Prop where
 obj:G p=some (.bR c dx fs)
 but:∀b o,H b=some o→b≠p→G b=some o
 has:∀x∈L,G x.1=some x.2∧H x.1=none∧x.1≠p
 nd:(L.map (·.1)).Nodup
theorem Ti.fld{c:Addr}{H G:Hp}{p dx:Addr}{fs:List (Str×V)}{L:List (Addr×HO)}(B:Ti c H G p dx fs L)(E7:List (Str×V)):Ti c H (aJ G p (.bR c dx E7)) p dx E7 L:=
 ⟨au,fun b o e hb=>by rw[ai hb];exact B.but b o e hb,fun x hx=>by rw[ai (B.has x hx).2.2];exact B.has x hx,B.nd⟩
theorem Ti.free{c:Addr}{H G:Hp}{p dx:Addr}{fs:List (Str×V)}{L:List (Addr×HO)}(B:Ti c H G p dx fs L){a:Addr}(h:G a=none):H a=none∧a≠p∧a∉L.map (·.1):=by
 have h1:a≠p:=fun e=>by rw[e,B.obj]at h;cases h
 refine⟨?_,h1,fun m=>?_⟩
 ·cases q:H a with
  |none=>rfl
  |some o=>rw[B.but a o q h1]at h;cases h
 ·obtain⟨x,hx,rfl⟩:=apW.mp m;rw[(B.has x hx).1]at h;cases h
theorem Ti.alloc{c:Addr}{H G:Hp}{p dx:Addr}{fs:List (Str×V)}{L:List (Addr×HO)}(B:Ti c H G p dx fs L){a:Addr}(h:G a=none)(o:HO):Ti c H (aJ G a o) p dx fs ((a,o)::L):=by
 obtain⟨h1,h2,h3⟩:=B.free h;refine⟨by rw[ai h2.symm];exact B.obj,fun b u e hb=>by rw[ai (aj e h1)];exact B.but b u e hb,fun x hx=>?_,?_⟩
 ·rcases apA.mp hx with rfl|hx
  ·exact⟨au,h1,h2⟩
  ·rw[ai (aj (B.has x hx).1 h)];exact B.has x hx
 ·rw[apG];exact aqP.mpr ⟨h3,B.nd⟩
theorem Ti.iv{c:Addr}{H G H':Hp}{p dx:Addr}{fs:List (Str×V)}{L:List (Addr×HO)}(B:Ti c H G p dx fs L){iv:Addr}(n:MY A G H' iv):
  ∃l h q dv,Ti c H H' p dx fs ((iv,.bR A.dR dv (rS (.ref l) (.ref h) (.ref q)))::(l,.aN [])::(h,.aN [])::(q,.aN [])::L):=by
 obtain⟨l,h,q,m⟩:=n.new;obtain⟨dv,e⟩:=m.at_.obj;obtain⟨ne1,ne2,ne3⟩:=m.ne;obtain⟨i1,i2,i3⟩:=B.free m.fi;obtain⟨l1,l2,l3⟩:=B.free m.fl;obtain⟨h1,h2,h3⟩:=B.free m.fh;obtain⟨q1,q2,q3⟩:=B.free m.fq;have il:iv≠l:=dy e m.at_.lo nofun;have ih:iv≠h:=dy e m.at_.hi nofun;have iq:iv≠q:=dy e m.at_.at_ nofun;refine⟨l,h,q,dv,n.same _ _ B.obj,fun b o e hb=>n.same _ _ (B.but b o e hb),fun x hx=>?_,?_⟩
 ·rcases apA.mp hx with rfl|hx
  ·exact⟨e,i1,i2⟩
  ·rcases apA.mp hx with rfl|hx
   ·exact⟨m.at_.lo,l1,l2⟩
   ·rcases apA.mp hx with rfl|hx
    ·exact⟨m.at_.hi,h1,h2⟩
    ·rcases apA.mp hx with rfl|hx
     ·exact⟨m.at_.at_,q1,q2⟩
     ·exact⟨n.same _ _ (B.has x hx).1,(B.has x hx).2⟩
 ·simp only[apG];refine aqP.mpr ⟨?_,aqP.mpr ⟨?_,aqP.mpr ⟨?_,aqP.mpr ⟨q3,B.nd⟩⟩⟩⟩
  ·simp only[apA,not_or];exact⟨il,ih,iq,i3⟩
  ·simp only[apA,not_or];exact⟨ne1,ne2,l3⟩
  ·simp only[apA,not_or];exact⟨ne3,h3⟩
def g0(p ct tw sr wk l h q:Addr):bO→Addr
 | .aL=>p
 | .bI=>ct
 | .ao=>tw
 | .ae=>sr
 | .az=>wk
 | .cN _=>l
 | .bJ _=>h
 | .holds _=>q
 |_=>0
def b0(A:Ad)(G:Hp)(p dx ct tw sr wk iv l h q ta dv:Addr):Bs where
 F:=fun a=>if a=iv then some (.bR A.dR dv (rS (.ref l) (.ref h) (.ref q)))else if a=ta then some (.aN [])else none
 H:=G
 g:=g0 p ct tw sr wk l h q
 z:=⟨fun _=>iv,fun _=>0,fun _=>0,fun _=>0⟩
 M:=Bk.empty
 ta:=ta
 dX:=dx
 tx:=[]
theorem Lm{g:bO→Addr}{z:Fz}{ta dx:Addr}{r:bO}{o:HO}(h:mc A g z Bk.empty ta dx r=some o):r=.aL∨r=.bI∨r=.ao∨r=.ae∨r=.az∨r=.cN .bS∨r=.bJ .bS∨r=.holds .bS:=by
 have iv:∀i,(bV Bk.empty i).isSome=true→i=.bS:=fun i e=>by
  cases i with
  |bS=>rfl
  |walk w=>cases e
  |boxes t=>cases e
  |bh s o=>
   have e':(if o<2 then((([]:List aQ)[s]?)).map (fun S=>hv S o)else none).isSome=true:=e;by_cases q:o<2
   ·rw[if_pos q]at e';cases e'
   ·rw[if_neg q]at e';cases e'
 cases r with
 |aL=>simp
 |bI=>simp
 |ao=>simp
 |ae=>simp
 |az=>simp
 |cN i=>
  have h':(bV Bk.empty i).map _=some o:=h;have:=iv i (by cases q:bV Bk.empty i with
   |none=>rw[q]at h';cases h'
   |some _=>rfl)
  subst this;simp
 |bJ i=>
  have h':(bV Bk.empty i).map _=some o:=h;have:=iv i (by cases q:bV Bk.empty i with
   |none=>rw[q]at h';cases h'
   |some _=>rfl)
  subst this;simp
 |holds i=>
  have h':(bV Bk.empty i).map _=some o:=h;have:=iv i (by cases q:bV Bk.empty i with
   |none=>rw[q]at h';cases h'
   |some _=>rfl)
  subst this;simp
 |bj t=>cases h
 |letters s=>cases h
 |aU s n=>cases h
theorem adp{H G:Hp}{p dx ct tw sr wk iv l h q ta dv:Addr}{rest:List (Str×V)}
  (B:Ti A.cb H G p dx (iV (.ref ta) (.int 0) (.ref ct) (.ref tw) (.ref sr) .cx .cx (.ref wk) (.ref iv) (.int 0)) [(iv,.bR A.dR dv (rS (.ref l) (.ref h) (.ref q))),(l,.aN []),(h,.aN []),(q,.aN []),(wk,.dK []),(sr,.aN []),(tw,.aN []),(ct,.dK (c7 [])),(ta,.aN [])]):
  a0 A (b0 A G p dx ct tw sr wk iv l h q ta dv)∧∀a,Fp A (b0 A G p dx ct tw sr wk iv l h q ta dv) a→a=p∨H a=none:=by
 have nd:=B.nd;have Tr:=B.has (iv,.bR A.dR dv (rS (.ref l) (.ref h) (.ref q))) (by simp);have hl:=B.has (l,.aN []) (by simp);have hh:=B.has (h,.aN []) (by simp);have hq:=B.has (q,.aN []) (by simp);have Ws:=B.has (wk,.dK []) (by simp);have Si:=B.has (sr,.aN []) (by simp);have QL:=B.has (tw,.aN []) (by simp);have hct:=B.has (ct,.dK (c7 [])) (by simp);have M3:=B.has (ta,.aN []) (by simp);simp only[apG,arv,aqP,apA,not_or,arF,not_false_eq_true,and_true,avo]at nd;obtain⟨⟨n1,n2,n3,n4,n5,n6,n7,n8⟩,⟨m1,m2,m3,m4,m5,m6,m7⟩,⟨o1,o2,o3,o4,o5,o6⟩,⟨p1,p2,p3,p4,p5⟩,⟨q1,q2,q3,q4⟩,⟨r1,r2,r3⟩,⟨s1,s2⟩,t1⟩:=nd;have hF:∀a,a≠iv→a≠ta→(b0 A G p dx ct tw sr wk iv l h q ta dv).F a=none:=fun a z1 z2=>by
  show(if a=iv then _ else if a=ta then _ else _)=none;rw[if_neg z1,if_neg z2]
 have hFi:(b0 A G p dx ct tw sr wk iv l h q ta dv).F iv=some (.bR A.dR dv (rS (.ref l) (.ref h) (.ref q))):=if_pos rfl;have hFt:(b0 A G p dx ct tw sr wk iv l h q ta dv).F ta=some (.aN []):=by
  show(if ta=iv then _ else if ta=ta then _ else _)=_;rw[if_neg (fun z=>n8 z.symm),if_pos rfl]
 refine⟨⟨fun a o e=>?_,fun r o e=>?_,fun r r' e e' z=>?_,fun i hi=>?_,fun t T z=>?_,fun s S z=>?_,fun k r z=>?_,hFt⟩,fun a ha=>?_⟩
 ·by_cases z1:a=iv
  ·subst z1;rw[hFi]at e;cases e;exact Tr.1
  ·by_cases z2:a=ta
   ·subst z2;rw[hFt]at e;cases e;exact M3.1
   ·rw[hF a z1 z2]at e;cases e
 ·rcases Lm e with rfl|rfl|rfl|rfl|rfl|rfl|rfl|rfl
  ·cases e;exact⟨B.obj,hF _ Tr.2.2.symm M3.2.2.symm⟩
  ·cases e;exact⟨hct.1,hF _ (ap1 n7) t1⟩
  ·cases e;exact⟨QL.1,hF _ (ap1 n6) s2⟩
  ·cases e;exact⟨Si.1,hF _ (ap1 n5) r3⟩
  ·cases e;exact⟨Ws.1,hF _ (ap1 n4) q4⟩
  ·cases e;exact⟨hl.1,hF _ (ap1 n1) m7⟩
  ·cases e;exact⟨hh.1,hF _ (ap1 n2) o6⟩
  ·cases e;exact⟨hq.1,hF _ (ap1 n3) p5⟩
 ·obtain⟨o,e⟩:=apZ.mp e;obtain⟨o',e'⟩:=apZ.mp e';have hl2:=hl.2.2;have hh2:=hh.2.2;have Sl:=hq.2.2;have am0:=Ws.2.2;have anb:=Si.2.2;have am4:=QL.2.2;have anI:=hct.2.2;rcases Lm e with rfl|rfl|rfl|rfl|rfl|rfl|rfl|rfl<;>rcases Lm e' with rfl|rfl|rfl|rfl|rfl|rfl|rfl|rfl<;>first|rfl|(exfalso;simp only[b0,g0]at z;first|exact absurd z (by assumption)|exact absurd z.symm (by assumption))
 ·have e:i=.bS:=by
   obtain⟨L,hL⟩:=apZ.mp hi;rcases Lm (A:=A) (g:=fun _=>0) (z:=⟨fun _=>0,fun _=>0,fun _=>0,fun _=>0⟩) (ta:=0) (dx:=0) (r:=.cN i) (o:=.aN (L.map fun x=>V.int x.lo)) (by show(bV Bk.empty i).map _=_;rw[show bV Bk.empty i=some L from hL];rfl)with z|z|z|z|z|z|z|z<;>first|cases z|skip
   rfl
  subst e;exact⟨dv,hFi⟩
 ·cases z
 ·cases z
 ·cases z
 ·rcases ha with ha|⟨r,h1,rfl⟩
  ·by_cases z1:a=iv
   ·subst z1;exact .inr Tr.2.1
   ·by_cases z2:a=ta
    ·subst z2;exact .inr M3.2.1
    ·exact absurd (hF a z1 z2) ha
  ·obtain⟨o,e⟩:=apZ.mp h1;rcases Lm e with rfl|rfl|rfl|rfl|rfl|rfl|rfl|rfl
   ·exact .inl rfl
   ·exact .inr hct.2.1
   ·exact .inr QL.2.1
   ·exact .inr Si.2.1
   ·exact .inr Ws.2.1
   ·exact .inr hl.2.1
   ·exact .inr hh.2.1
   ·exact .inr hq.2.1
def RK(A:Ad):Sp:=fun vs H Q _=>∃p,vs=[.ref p]∧∃dx,H p=some (.bR A.cb dx [])∧∀b,a0 A b→b.M=Bk.empty→b.tx=[]→b.g .aL=p→(∀x o,H x=some o→x≠p→b.H x=some o)→(∀a,Fp A b a→a=p∨H a=none)→Q .cx b.H
theorem Ob(T:Tx K mg A):bN P w K mg base fU 3 A.pO A.u5 ["self"] (RK A):=by
 have sc:=NF;have F:=T.Rg.F;walk_at "f"
 ·obtain⟨p,rfl,_⟩:=h;rfl
 ·obtain⟨p,rfl,dx,hp,k⟩:=h;refine' ⟨_,ag ?s1 (ag ?s2 (ag ?s3 ?r3)),?rest⟩
  case s1=>exact aW (pv 0) (cG ax) rfl
  case s2=>exact aW (pv 0) ay rfl
  case s3=>
   refine' aW ?aa ?dd ?cc
   case aa=>exact pv 0
   case cc=>rfl
   case dd=>
    refine' Qr ?p1 ?p2 ?p3 ?p4 ?p5
    case p2=>rfl
    case p3=>rfl
    case p4=>intro z;cases z
    case p5=>decide
    case p1=>exact dZ aR ay (dZ aR ay (dZ aR ay (dZ aR ay (dZ aR ay (dZ aR ay Qm)))))
  case r3=>
   refine' ag ?s4 (ag ?s5 (ag ?s6 ?r6))
   case s4=>exact aW (pv 0) (cG ax) rfl
   case s5=>exact aW (pv 0) (cG ax) rfl
   case s6=>exact aW (pv 0) cj rfl
   case r6=>
    refine' ag ?s7 (ag ?s8 (ag ?s9 (aw ?s10)))
    case s7=>exact aW (pv 0) cj rfl
    case s8=>exact aW (pv 0) oW rfl
    case s9=>exact aW (pv 0) (sS (k:=0) T hr.mn rfl) rfl
    case s10=>exact aW (pv 0) ay rfl
  clear sc;have B0:Ti A.cb H H p dx [] []:=⟨hp,fun b o e _=>e,fun x hx=>(by cases hx),avo⟩;simp only[eV,C8,Lj,P4,PZ,st1,tC,VX,My];refine⟨by show 0≤sizeLine;exact apV _,fun ta M3=>?_⟩;have B1:=B0.alloc M3 (.aN []);refine⟨p,_,_,_,rfl,B1.obj,C.cO,C.lL,(by decide:0<1000),?_⟩;have B2:=B1.fld [("text",V.ref ta)];refine⟨p,_,_,_,rfl,B2.obj,C.cO,C.fG,(by decide:1<1000),?_⟩;have B3:=B2.fld [("text",V.ref ta),("line_count",.int 0)];intro ct hct;have B4:=B3.alloc (a:=ct) hct (.dK (c7 []));refine⟨au,c7 [],rfl,by show 6≤15;decide,?_⟩;rw[j5];refine⟨p,_,_,_,rfl,B4.obj,C.cO,C.iL,(by decide:2<1000),?_⟩;have B5:=B4.fld [("text",V.ref ta),("line_count",.int 0),("counts",.ref ct)];refine⟨by show 0≤sizeLine;exact apV _,fun tw QL=>?_⟩;have B6:=B5.alloc (a:=tw) QL (.aN []);refine⟨p,_,_,_,rfl,B6.obj,C.cO,C.jW,(by decide:3<1000),?_⟩;have B7:=B6.fld [("text",V.ref ta),("line_count",.int 0),("counts",.ref ct),("towns",.ref tw)];refine⟨by show 0≤sizeLine;exact apV _,fun sr Si=>?_⟩;have B8:=B7.alloc (a:=sr) Si (.aN []);refine⟨p,_,_,_,rfl,B8.obj,C.cO,C.gM,(by decide:4<1000),?_⟩;have B9:=B8.fld [("text",V.ref ta),("line_count",.int 0),("counts",.ref ct),("towns",.ref tw),("streets",.ref sr)];refine⟨p,_,_,_,rfl,B9.obj,C.cO,C.jX,(by decide:5<1000),?_⟩;have B10:=B9.fld [("text",V.ref ta),("line_count",.int 0),("counts",.ref ct),("towns",.ref tw),("streets",.ref sr),("town",.cx)];refine⟨p,_,_,_,rfl,B10.obj,C.cO,C.d4,(by decide:6<1000),?_⟩;have B11:=B10.fld [("text",V.ref ta),("line_count",.int 0),("counts",.ref ct),("towns",.ref tw),("streets",.ref sr),("town",.cx),("street",.cx)];intro wk Ws;have B12:=B11.alloc (a:=wk) Ws (.dK []);refine⟨p,_,_,_,rfl,B12.obj,C.cO,C.jV,(by decide:7<1000),?_⟩;have B13:=B12.fld [("text",V.ref ta),("line_count",.int 0),("counts",.ref ct),("towns",.ref tw),("streets",.ref sr),("town",.cx),("street",.cx),("walks",.ref wk)];intro H' iv n;obtain⟨l,h,q,dv,B14⟩:=B13.iv n;refine⟨p,_,_,_,rfl,B14.obj,C.cO,C.pk,(by decide:8<1000),?_⟩;have B15:=B14.fld [("text",V.ref ta),("line_count",.int 0),("counts",.ref ct),("towns",.ref tw),("streets",.ref sr),("town",.cx),("street",.cx),("walks",.ref wk),("runs",.ref iv)];refine⟨p,_,_,_,rfl,B15.obj,C.cO,C.eZ,(by decide:9<1000),?_⟩;have B16:=B15.fld (iV (.ref ta) (.int 0) (.ref ct) (.ref tw) (.ref sr) .cx .cx (.ref wk) (.ref iv) (.int 0));obtain⟨Z1,Z2⟩:=adp (rest:=[]) B16;exact k _ Z1 rfl rfl rfl B16.but Z2
def Y0(A:Ad):TE:=fun _ H Q=>∀b,a0 A b→b.M=Bk.empty→b.tx=[]→aV H b.H→(∀a,Fp A b a→H a=none)→Q (.ref (b.g .aL)) b.H
theorem Lv{X:Cx}{pos p:Pos}(T:Tx X.K X.mg A)(hr:gb 4 X.A)(hg:Gl X "Book"):PE X (.Call (.Name "Book" p) [] [] pos) (Y0 A):=
 jP (D1 T.ab6 (Ob T) hr hg T.acf T.Rg.b .nil aP) fun σ H Q h=>by
  intro x dx nx nd ne;refine⟨x,rfl,dx,au,fun b B e1 e2 e3 fr fp=>⟨rfl,?_⟩⟩;subst e3;refine h b B e1 e2 (fun y o e=>fr y o ?_ (aj e nx)) fun a ha=>?_
  ·rw[ai (aj e nx),ai (aj e nd)];exact e
  ·rcases fp a ha with rfl|z
   ·exact nx
   ·exact(aE (aE z).2).2
theorem a0.aL{b:Bs}(B:a0 A b):b.H (b.g .aL)=some (.bR A.cb b.dX (iV (.ref b.ta) (.int b.M.aF.length) (.ref (b.g .bI)) (.ref (b.g .ao)) (.ref (b.g .ae)) (kl b.z b.M) (eK b.z b.M) (.ref (b.g .az)) (.ref (b.z.iv .bS)) (.int b.M.points))):=(B.mt .aL _ rfl).1
theorem dN{z:Fz}{M:Bk}(h:M.ao≠[]):kl z M=.ref (z.town (aO M)):=if_neg h
theorem lP{z:Fz}{M:Bk}(h:M.ao=[]):kl z M=.cx:=if_pos h
theorem fw{z:Fz}{M:Bk}(h:M.aY=true):eK z M=.ref (z.street (bp M)):=if_pos h
theorem xp{z:Fz}{M:Bk}(h:M.aY=false):eK z M=.cx:=if_neg (by rw[h];exact apI)
theorem a0.bj{b:Bs}(B:a0 A b){t:Nat}{T:dk}(hT:b.M.ao[t]? =some T):b.H (b.g (.bj t))=some (.dK (T.bj.map fun c=>((apY (bB c):Key),V.bl true))):=
 (B.mt (.bj t) _ (by show(b.M.ao[t]?).map _=_;rw[hT];rfl)).1
theorem Av{c:Bytes}(h:codeOk c=true):c.all cE=true:=by
 unfold codeOk at h;rw[apv]at h;exact lz h.2
theorem WZ{w v:Bytes}(hv:v.all cE=true)(h:bB w=bB v):w=v:=by
 have:=congrArg tl h;rw[iX,iX]at this;exact K8 hv this
theorem xk(l:List Bytes){c:Bytes}(hc:c.all cE=true):(vS (l.map fun c=>((apY (bB c):Key),V.bl true)) (bB c)).isSome=l.contains c:=by
 induction l with
 |nil=>rfl
 |cons a l ih=>
  unfold vS at ih ⊢;rw[apG];by_cases e:a=c
  ·subst e;rw[rU rfl];simp
  ·rw[rV (fun z=>e (WZ hc (av2 z))),ih];simp[e,ap1 e]
theorem bZ{H:Hp}{p:Addr}{o:HO}(hp:H p=none):aV H (aJ H p o):=fun x u e=>by rw[ai (aj e hp)];exact e
theorem vt{H:Hp}{p:Addr}{o:HO}(hp:H p=none):aV H (aJ H p o)∧aJ H p o p=some o:=⟨bZ hp,au⟩
theorem Rw{s:Span}(ok:(DLine.span s).ok=true):s.code.all cE=true:=by
 have ok':(decide (s.side≤2)&&(within 1 HOUSES s.a&&(within s.a HOUSES s.b&&(sideHas s.side s.a&&(sideHas s.side s.b&&(codeOk s.code&&(decide (s.walk≤9999)&&decide (s.first≤900000))))))))=true:=ok;simp only[apv]at ok';exact Av ok'.2.2.2.2.2.1
theorem V9{x:Boxes}(ok:(DLine.boxes x).ok=true):x.code.all cE=true:=by
 have ok':(within 1 BOXNUMS x.a&&(within x.a BOXNUMS x.b&&(codeOk x.code&&(decide (x.walk≤9999)&&decide (x.first≤900000)))))=true:=ok;simp only[apv]at ok';exact Av ok'.2.2.1
theorem HY{c:Bytes}(ok:(DLine.code c).ok=true):c.all cE=true:=Av ok
def IH(A:Ad):Sp:=fun vs H Q _=>∃lp b x na dx d,vs=[.ref (b.g .aL),.ref lp]∧a0 A b∧H=b.H∧cX d b.M∧lI A H lp na dx x∧x.ok=true∧∀H',aV H H'→Q (.bl (eu b.M x)) H'
theorem Ce(T:Tx K mg A):bN P w K mg base fU 4 A.gH A.jw ["self","line"] (IH A):=by
 have sc:=BV;have F:=T.yH.F;walk_at "f"
 ·obtain⟨lp,b,x,na,dx,d,rfl,_⟩:=h;rfl
 ·obtain⟨lp,b,x,na,dx,d,rfl,B,rfl,m,ig,ok,k⟩:=h;refine⟨_,(ag (bo (aD cy (aq (pv 1) rfl) aR (aH _)) (aw (aB vp)) aM)
 (ag (bo (aD kY (aq (pv 0) rfl) cj (aH _)) (aw (aB vp)) aM)
 (ag (bo (PW.pt (wz (aD CQ (aq (pv 1) rfl) (sQ (af aR (af aR ax))) (by first|exact aH _|rfl)) (qi (aD kY (aq (pv 0) rfl) cj (aH _))))) (aw (aB vp)) aM)
 (ag (bo (aD CQ (aq (pv 1) rfl) (sQ (af aR (af aR ax))) (by first|exact aH _|rfl)) (aw (aB (Jg (UY (iP hr) (aq (pv 1) rfl) (aq (aq (pv 0) rfl) rfl)) rfl))) aM)
 (ag (bo (aD cy (aq (pv 1) rfl) aR (aH _)) (aw (aB (m8 Xb (bg (aq (pv 0) rfl) T.c.lj T.j0 (ja T) hr.mn T.iY.b .nil aP (af (aq (pv 1) rfl) ax)) cj (aH _)))) aM)
 (aw (aB vp))))))),?_⟩
  walk_at "z";have hb:=B.aL;have dP:=ig.obj;unfold iS at dP;cases x with
  |town l=>
   have hk:df (.town l)="town":=rfl;rw[hk]at dP;have k0:=k _ (aV.refl _);walk_at "g";exact k0
  |code c=>
   have hk:df (.code c)="code":=rfl;rw[hk]at dP;walk_at "g";walk_at "n";by_cases q:b.M.ao=[]
   ·have e0:eu b.M (.code c)=false:=by show(!b.M.ao.isEmpty)=false;rw[q];rfl
    rw[e0]at k;have k0:=k _ (aV.refl _);rw[lP q]at hb;walk_at "g"
   ·rw[dN q]at hb;obtain⟨T0,hT, -⟩:=m.town q;walk_at "g";walk_at "n";refine bt fun R n1=>?_;walk_at "s";refine⟨by show 2≤sizeLine;decide,fun p hp=>?_⟩;obtain⟨s1,hu⟩:=vt (o:=.fR [.str "span",.str "letters"]) hp;generalize aJ b.H p _=H1 at s1 hu ⊢;walk_at "d";walk_at "n";have hb:=s1 _ _ hb;have dP:=s1 _ _ dP;clear hp;refine bt fun R n1=>?_;walk_at "s";refine⟨by show 2≤sizeLine;decide,fun p hp=>?_⟩;obtain⟨s2,hu⟩:=vt (o:=.fR [.str "span",.str "boxes"]) hp;generalize aJ H1 p _=H2 at s2 hu ⊢;walk_at "d";walk_at "n";have hb:=s2 _ _ hb;have dP:=s2 _ _ dP;clear hp;have e0:eu b.M (.code c)=true:=by show(!b.M.ao.isEmpty)=true;simp[q]
    rw[e0]at k;have k0:=k _ (s1.trans s2);walk_at "g";walk_at "n";walk_at "d"
  |street l=>
   have hk:df (.street l)="street":=rfl;rw[hk]at dP;walk_at "g";walk_at "n";by_cases q:b.M.ao=[]
   ·have e0:eu b.M (.street l)=false:=by show(!b.M.ao.isEmpty)=false;rw[q];rfl
    rw[e0]at k;have k0:=k _ (aV.refl _);rw[lP q]at hb;walk_at "g"
   ·rw[dN q]at hb;obtain⟨T0,hT, -⟩:=m.town q;walk_at "g";walk_at "n";refine bt fun R n1=>?_;walk_at "s";refine⟨by show 2≤sizeLine;decide,fun p hp=>?_⟩;obtain⟨s1,hu⟩:=vt (o:=.fR [.str "span",.str "letters"]) hp;generalize aJ b.H p _=H1 at s1 hu ⊢;walk_at "d";walk_at "n";have hb:=s1 _ _ hb;have dP:=s1 _ _ dP;clear hp;refine bt fun R n1=>?_;walk_at "s";refine⟨by show 2≤sizeLine;decide,fun p hp=>?_⟩;obtain⟨s2,hu⟩:=vt (o:=.fR [.str "span",.str "boxes"]) hp;generalize aJ H1 p _=H2 at s2 hu ⊢;walk_at "d";walk_at "n";have hb:=s2 _ _ hb;have dP:=s2 _ _ dP;clear hp;have e0:eu b.M (.street l)=true:=by show(!b.M.ao.isEmpty)=true;simp[q]
    rw[e0]at k;have k0:=k _ (s1.trans s2);walk_at "g";walk_at "n";walk_at "d"
  |span s=>
   have hk:df (.span s)="span":=rfl;rw[hk]at dP;walk_at "g";walk_at "n";by_cases q:b.M.ao=[]
   ·have e0:eu b.M (.span s)=false:=by show(match b.M.ao[aO b.M]? with|some T=>_|none=>false)=false;rw[q];rfl
    rw[e0]at k;have k0:=k _ (aV.refl _);rw[lP q]at hb;walk_at "g"
   ·rw[dN q]at hb;obtain⟨T0,hT, -⟩:=m.town q;walk_at "g";walk_at "n";by_cases q2:b.M.aY=true
    ·rw[fw q2]at hb;obtain⟨S0,hS,hSt⟩:=m.street q2;refine bt fun R n1=>?_;walk_at "s";refine⟨by show 2≤sizeLine;decide,fun p hp=>?_⟩;obtain⟨s1,hu⟩:=vt (o:=.fR [.str "span",.str "letters"]) hp;generalize aJ b.H p _=H1 at s1 hu ⊢;have hb:=s1 _ _ hb;have dP:=s1 _ _ dP;clear hp;walk_at "d";walk_at "n";have e0:eu b.M (.span s)=T0.bj.contains s.code:=by
      show(match b.M.ao[aO b.M]? with|some T=>b.M.aY&&T.bj.contains s.code|none=>false)=_;rw[hT,q2];rfl
     have e1:(vS (T0.bj.map fun c=>((apY (bB c):Key),V.bl true)) (bB (L5 (.span s)))).isSome=T0.bj.contains s.code:=xk _ (Rw ok);have Bi:=s1 _ _ (B.bj hT);obtain⟨dxt,nat,VP,XO⟩:=B.town _ T0 hT;have ht:=s1 _ _ (B.same _ _ VP);refine bt fun R n1=>?_;walk_at "s";refine⟨by show 2≤sizeLine;decide,fun p hp=>?_⟩;obtain⟨s2,hu⟩:=vt (o:=.fR [.str "span",.str "boxes"]) hp;generalize aJ H1 p _=H2 at s2 hu ⊢;have hb:=s2 _ _ hb;have dP:=s2 _ _ dP;have Bi:=s2 _ _ Bi;have ht:=s2 _ _ ht;clear hp n1;have k0:=k _ ((s1).trans s2);rw[e0]at k0;walk_at "d"
    ·have q3:b.M.aY=false:=by cases z:b.M.aY with
      |true=>exact absurd z q2
      |false=>rfl
     rw[xp q3]at hb;have e0:eu b.M (.span s)=false:=by show(match b.M.ao[aO b.M]? with|some T=>b.M.aY&&T.bj.contains s.code|none=>false)=false;rw[hT,q3];rfl
     rw[e0]at k;walk_at "g";refine⟨by show 2≤sizeLine;decide,fun p hp=>?_⟩;have s1:=bZ (o:=.fR [.str "span",.str "letters"]) hp;have k0:=k _ s1;generalize aJ b.H p _=H1 at s1 k0 ⊢;have hb:=s1 _ _ hb;have dP:=s1 _ _ dP;clear hp;walk_at "d"
  |letters n c e=>
   have hk:df (.letters n c e)="letters":=rfl;rw[hk]at dP;walk_at "g";walk_at "n";by_cases q:b.M.ao=[]
   ·have e0:eu b.M (.letters n c e)=false:=by show(match b.M.ae[bp b.M]? with|some S=>b.M.aY&&(cD S n).isSome|none=>false)=false;cases z:b.M.aY with
     |true=>exact absurd q (m.BH z).2
     |false=>cases b.M.ae[bp b.M]? <;>rfl
    rw[e0]at k;have k0:=k _ (aV.refl _);rw[lP q]at hb;walk_at "g"
   ·rw[dN q]at hb;obtain⟨T0,hT, -⟩:=m.town q;walk_at "g";walk_at "n";by_cases q2:b.M.aY=true
    ·rw[fw q2]at hb;obtain⟨S0,hS,hSt⟩:=m.street q2;refine bt fun R n1=>?_;walk_at "s";refine⟨by show 2≤sizeLine;decide,fun p hp=>?_⟩;obtain⟨s1,hu⟩:=vt (o:=.fR [.str "span",.str "letters"]) hp;generalize aJ b.H p _=H1 at s1 hu ⊢;have hb:=s1 _ _ hb;have dP:=s1 _ _ dP;clear hp;walk_at "d";walk_at "n";refine bt fun R n1=>?_;walk_at "s";refine⟨by show 2≤sizeLine;decide,fun p hp=>?_⟩;obtain⟨s2,hu⟩:=vt (o:=.fR [.str "span",.str "boxes"]) hp;generalize aJ H1 p _=H2 at s2 hu ⊢;walk_at "d";walk_at "n";have hb:=s2 _ _ hb;have dP:=s2 _ _ dP;clear hp;have e0:eu b.M (.letters n c e)=(cD S0 n).isSome:=by
      show(match b.M.ae[bp b.M]? with|some S=>b.M.aY&&(cD S n).isSome|none=>false)=_;rw[hS,q2];rfl
     refine bt fun R n1=>?_;obtain⟨dxs,Zt,hls,M5,es2,es3⟩:=B.street _ S0 hS;have Si:=(s1.trans s2) _ _ (B.same _ _ M5);have k0:=k _ (s1.trans s2);rw[e0]at k0;walk_at "d";clear n1;refine⟨_,n,rfl,{b with H:=H2},_,S0,B.on (s1.trans s2),rfl,⟨hS,rfl⟩,?_,?_⟩
     ·exact m.S.Xe hS _
     ·show Q (V.bl (!decide (kV b.z (cD S0 n)=V.cx))) H2;cases z:cD S0 n with
      |none=>rw[z]at k0;exact k0
      |some kk=>rw[z]at k0;exact k0
    ·have q3:b.M.aY=false:=by cases z:b.M.aY with
      |true=>exact absurd z q2
      |false=>rfl
     rw[xp q3]at hb;have e0:eu b.M (.letters n c e)=false:=by show(match b.M.ae[bp b.M]? with|some S=>b.M.aY&&(cD S n).isSome|none=>false)=false;rw[q3];cases b.M.ae[bp b.M]? <;>rfl
     rw[e0]at k;walk_at "g";refine⟨by show 2≤sizeLine;decide,fun p hp=>?_⟩;have s1:=bZ (o:=.fR [.str "span",.str "letters"]) hp;have k0:=k _ s1;generalize aJ b.H p _=H1 at s1 k0 ⊢;have hb:=s1 _ _ hb;have dP:=s1 _ _ dP;clear hp;walk_at "d"
  |boxes y=>
   have hk:df (.boxes y)="boxes":=rfl;rw[hk]at dP;walk_at "g";walk_at "n";by_cases q:b.M.ao=[]
   ·have e0:eu b.M (.boxes y)=false:=by show(match b.M.ao[aO b.M]? with|some T=>_|none=>false)=false;rw[q];rfl
    rw[e0]at k;have k0:=k _ (aV.refl _);rw[lP q]at hb;walk_at "g"
   ·rw[dN q]at hb;obtain⟨T0,hT, -⟩:=m.town q;walk_at "g";walk_at "n";refine bt fun R n1=>?_;walk_at "s";refine⟨by show 2≤sizeLine;decide,fun p hp=>?_⟩;obtain⟨s1,hu⟩:=vt (o:=.fR [.str "span",.str "letters"]) hp;generalize aJ b.H p _=H1 at s1 hu ⊢;walk_at "d";walk_at "n";have hb:=s1 _ _ hb;have dP:=s1 _ _ dP;clear hp;have e0:eu b.M (.boxes y)=T0.bj.contains y.code:=by
     show(match b.M.ao[aO b.M]? with|some T=>T.bj.contains y.code|none=>false)=_;rw[hT]
    have e1:(vS (T0.bj.map fun c=>((apY (bB c):Key),V.bl true)) (bB (L5 (.boxes y)))).isSome=T0.bj.contains y.code:=xk _ (V9 ok);have Bi:=s1 _ _ (B.bj hT);obtain⟨dxt,nat,VP,XO⟩:=B.town _ T0 hT;have ht:=s1 _ _ (B.same _ _ VP);refine bt fun R n1=>?_;walk_at "s";refine⟨by show 2≤sizeLine;decide,fun p hp=>?_⟩;obtain⟨s2,hu⟩:=vt (o:=.fR [.str "span",.str "boxes"]) hp;generalize aJ H1 p _=H2 at s2 hu ⊢;have hb:=s2 _ _ hb;have dP:=s2 _ _ dP;have Bi:=s2 _ _ Bi;have ht:=s2 _ _ ht;clear hp n1;have k0:=k _ ((s1).trans s2);rw[e0]at k0;walk_at "d"
theorem a0.az{b:Bs}(B:a0 A b):b.H (b.g .az)=some (.dK (b.M.az.map fun p=>((apT (p.1:Int):Key),V.ref (b.z.iv (.walk p.1))))):=(B.mt .az _ rfl).1
def zM(M:Bk)(x:DLine):Bool:=d5 (c9 M (bD x)) (bM x:Int) ((bM x:Int)+x.points-1)
def IE(A:Ad):Sp:=fun vs H Q _=>∃lp b x na dx d,vs=[.ref (b.g .aL),.ref lp]∧a0 A b∧H=b.H∧cX d b.M∧lI A H lp na dx x∧Q (.bl (zM b.M x)) H
theorem kq(T:Tx K mg A):bN P w K mg base fU 4 A.dB A.eO ["self","line"] (IE A):=by
 have sc:=sj;have F:=T.jB.F;walk_at "f"
 ·obtain⟨lp,b,x,na,dx,d,rfl,_⟩:=h;rfl
 ·obtain⟨lp,b,x,na,dx,d,rfl,B,rfl,m,ig,k⟩:=h;refine⟨_,(ag (bo (IZ (zO (iP hr) (aq (pv 1) rfl) (aq (pv 0) rfl)) rfl) (aw (aB vp)) aM)
 (aw (aB (bg (xQ (iP hr) (aq (pv 0) rfl) (aq (pv 1) rfl) (fun _ _=>rfl)) T.c.jx T.wK (sU T) hr.mn T.yg.b .nil aP (af (aq (pv 1) rfl) (af (aZ dS (aZ dD (aq (pv 1) rfl) (aq (pv 1) rfl)) ay) ax)))))),?_⟩
  walk_at "z";have hb:=B.aL;have dP:=ig.obj;unfold iS at dP;have hw:=B.az;have ev:=gd (fun n _=>V.ref (b.z.iv (.walk n))) b.M.az (bD x);walk_at "e";unfold zM c9 at k;cases q:b.M.az.lookup (bD x)with
  |none=>
   rw[q]at k;exact k
  |some L=>
   rw[q]at k;refine YL (by simp) (bQ ?_);rw[q]at ev;have ev':vI (b.M.az.map fun p=>((apT (p.1:Int):Key),V.ref (b.z.iv (.walk p.1)))) (bD x:Int)=some (V.ref (b.z.iv (.walk (bD x)))):=ev;clear ev;have hL:bV b.M (.walk (bD x))=some L:=q;have I:=cS.EH B hL;obtain⟨Wx,io⟩:=I.obj;have okL:j4 L:=by have:=m.W.Xd (bD x);unfold CL at this;rw[q]at this;exact this
   walk_at "d";refine⟨_,_,_,rfl,_,_,_,_,I,Al okL,?_⟩;rw[Aa];exact k
theorem Fn{d:aqG}{M:Bk}(m:cX d M){c:Bytes}{T:dk}(hT:M.ao[aO M]? =some T):T.bj.contains c=clashes d (.code c):=by
 rw[m.tc T hT];rfl
theorem HC{x:DLine}(h:(∃s,x=.span s)∨∃y,x=.boxes y):1≤x.points:=NR x (.inr (h.elim .inl fun h=>.inr (.inr h)))
theorem Pl{d:aqG}{M:Bk}(m:cX d M)(h:M.aY=true){S:aQ}(hS:M.ae[bp M]? =some S){s:Span}(ok:dt s):(sZ S s||zM M (.span s))=clashes d (.span s):=by
 have e1:sZ S s=(bA d).any (fun(t:Span)=>s.numbers.any fun(n:Nat)=>t.has n):=by
  rw[aqe,m.De h hS ok];unfold sZ;rw[aqs];constructor
  ·rintro⟨h,hm,hq⟩;obtain⟨h1,h2⟩:=OM hm;exact⟨h.1,h1,(h.2.1,h.2.2),h2,hq⟩
  ·rintro⟨o,ho,x,hx,hq⟩;refine⟨(o,x.1,x.2),?_,hq⟩;unfold yQ;rw[aqu];refine⟨o,by simp;omega,?_⟩;rw[hx];rfl
 have e2:zM M (.span s)=rowTaken d s.walk s.first s.many:=by
  rw[aqe];exact(m.ux s.walk s.first s.many (HC (x:=.span s) (.inl ⟨s,rfl⟩))).symm
 rw[e1,e2];rfl
theorem vL{d:aqG}{M:Bk}(m:cX d M)(h:M.aY=true){S:aQ}(hS:M.ae[bp M]? =some S){n:Nat}{c e:UInt8}(ok:rD n c e):((ap4 (e.toNat-c.toNat+1)).any fun i=>((aS S n).lookup (c.toNat-96+i)).isSome)=clashes d (.letters n c e):=by
 have e1:clashes d (.letters n c e)=(fE d n).any (fun(p:UInt8×UInt8)=>decide (p.1≤e)&&decide (c≤p.2)):=rfl;rw[e1,aqe,m.vy h hS ok,aqs];obtain⟨_,_,o3,o4,o5⟩:=ok;constructor
 ·rintro⟨i,hi,hq⟩;rw[apP]at hi;exact⟨_,by omega,by omega,hq⟩
 ·rintro⟨l,h1,h2,hq⟩;refine⟨l-(c.toNat-96),by rw[apP];omega,?_⟩;rw[show c.toNat-96+(l-(c.toNat-96))=l by omega];exact hq
theorem MD{d:aqG}{M:Bk}(m:cX d M){T:dk}(hT:M.ao[aO M]? =some T){x:Boxes}(ok:nZ x):(d5 T.boxes (x.a:Int) (x.b:Int)||zM M (.boxes x))=clashes d (.boxes x):=by
 have e1:d5 T.boxes (x.a:Int) (x.b:Int)=(da d).any (fun(y:Boxes)=>meet x.a x.many y.a y.many):=by
  rw[aqe,m.Bt hT ok]
 have e2:zM M (.boxes x)=rowTaken d x.walk x.first x.many:=by
  rw[aqe];exact(m.ux x.walk x.first x.many (HC (x:=.boxes x) (.inr ⟨x,rfl⟩))).symm
 rw[e1,e2];rfl
theorem lQ{d:aqG}{M:Bk}(m:cX d M){x:DLine}(h:eu M x=true)(hx:∀l,x≠.town l):M.ao≠[]:=by
 intro e;cases x with
 |town l=>exact hx l rfl
 |code c=>have h':(!M.ao.isEmpty)=true:=h;rw[e]at h';cases h'
 |street l=>have h':(!M.ao.isEmpty)=true:=h;rw[e]at h';cases h'
 |span s=>have h':(match M.ao[aO M]? with|some T=>M.aY&&T.bj.contains s.code|none=>false)=true:=h;rw[e]at h';cases h'
 |letters n c e'=>
  have h':(match M.ae[bp M]? with|some S=>M.aY&&(cD S n).isSome|none=>false)=true:=h;cases z:M.ae[bp M]? with
  |none=>rw[z]at h';cases h'
  |some S=>
   rw[z]at h';exact(m.BH ((apv _ _).mp h').1).2 e
 |boxes y=>have h':(match M.ao[aO M]? with|some T=>T.bj.contains y.code|none=>false)=true:=h;rw[e]at h';cases h'
theorem v7{M:Bk}{s:Span}(h:eu M (.span s)=true):M.aY=true:=by
 have h':(match M.ao[aO M]? with|some T=>M.aY&&T.bj.contains s.code|none=>false)=true:=h;cases z:M.ao[aO M]? with
 |none=>rw[z]at h';cases h'
 |some S=>rw[z]at h';exact((apv _ _).mp h').1
theorem oa{M:Bk}{n:Nat}{c e:UInt8}(h:eu M (.letters n c e)=true):M.aY=true∧∃S k,M.ae[bp M]? =some S∧cD S n=some k:=by
 have h':(match M.ae[bp M]? with|some S=>M.aY&&(cD S n).isSome|none=>false)=true:=h;cases z:M.ae[bp M]? with
 |none=>rw[z]at h';cases h'
 |some S=>
  rw[z]at h';obtain⟨h1,h2⟩:=(apv _ _).mp h';obtain⟨k,hk⟩:=apZ.mp h2;exact⟨h1,S,k,rfl,hk⟩
def Nn(A:Ad):Sp:=fun vs H Q _=>∃lp b x na dx d,vs=[.ref (b.g .aL),.ref lp]∧a0 A b∧H=b.H∧cX d b.M∧lI A H lp na dx x∧x.ok=true∧eu b.M x=true∧∀H',aV H H'→Q (.bl (clashes d x)) H'
theorem Gk(T:Tx K mg A):bN P w K mg base fU 5 A.jm A.lH ["self","line"] (Nn A):=by
 have sc:=Gf;have F:=T.Fx.F;walk_at "f"
 ·obtain⟨lp,b,x,na,dx,d,rfl,_⟩:=h;rfl
 ·obtain⟨lp,b,x,na,dx,d,rfl,B,rfl,m,ig,ok,st,k⟩:=h;refine⟨_,(ag (bo (aD cy (aq (pv 1) rfl) aR (aH _)) (aw (aB (Jg (UY (iP hr) (aq (pv 1) rfl) (aq (aq (pv 0) rfl) rfl)) rfl))) aM)
 (ag (bo (aD cy (aq (pv 1) rfl) aR (aH _)) (aw (aB (X8 (bg (aq (pv 0) rfl) T.c.lj T.tm (rM T) hr.mn T.lU.b .nil aP (af (pv 1) ax)) (zN (bg (pv 0) T.c.cO T.k9 (kq T) hr.mn T.jB.b .nil aP (af (pv 1) ax)))))) aM)
 (ag (bo (aD cy (aq (pv 1) rfl) aR (aH _)) (aw (aB (bg (aq (pv 0) rfl) T.c.lj T.tD (rN T) hr.mn T.lV.b .nil aP (af (pv 1) ax)))) aM)
 (ag (bo (aD cy (aq (pv 1) rfl) aR (aH _)) (aw (aB (X8 (bg (aq (aq (pv 0) rfl) rfl) T.c.jx T.wK (sU T) hr.mn T.yg.b .nil aP (af (aq (pv 1) rfl) (af (aq (pv 1) rfl) ax))) (zN (bg (pv 0) T.c.cO T.k9 (kq T) hr.mn T.jB.b .nil aP (af (pv 1) ax)))))) aM)
 (aw (aB vp)))))),?_⟩
  walk_at "z";have hb:=B.aL;have dP:=ig.obj;unfold iS at dP;cases x with
  |town l=>
   have hk:df (.town l)="town":=rfl;rw[hk]at dP;have k0:=k _ (aV.refl _);have e0:clashes d (.town l)=false:=rfl;rw[e0]at k0;walk_at "e";refine bQ ?_;walk_at "e";refine bQ ?_;walk_at "e";refine bQ ?_;walk_at "e";refine bQ ?_;walk_at "d"
  |street l=>
   have hk:df (.street l)="street":=rfl;rw[hk]at dP;have k0:=k _ (aV.refl _);have e0:clashes d (.street l)=false:=rfl;rw[e0]at k0;walk_at "e";refine bQ ?_;walk_at "e";refine bQ ?_;walk_at "e";refine bQ ?_;walk_at "e";refine bQ ?_;walk_at "d"
  |code c=>
   have hk:df (.code c)="code":=rfl;rw[hk]at dP;have q:=lQ m st (fun l=>by intro z;cases z);obtain⟨T0,hT, -⟩:=m.town q;rw[dN q]at hb;have Bi:=B.bj hT;obtain⟨dxt,nat,VP,XO⟩:=B.town _ T0 hT;have ht:=B.same _ _ VP;have k0:=k _ (aV.refl _);have e1:(vS (T0.bj.map fun c=>((apY (bB c):Key),V.bl true)) (bB (L5 (.code c)))).isSome=clashes d (.code c):=(xk _ (HY ok)).trans (Fn m hT);walk_at "e"
  |span s=>
   have hk:df (.span s)="span":=rfl;rw[hk]at dP;have q:=v7 st;obtain⟨S0,hS, -⟩:=m.street q;rw[fw q]at hb;obtain⟨dxs,Zt,hls,M5,es2,es3⟩:=B.street _ S0 hS;have Si:=B.same _ _ M5;have e1:=Pl m q hS (fz.mp ok);walk_at "e";refine bQ ?_;walk_at "e";refine⟨_,lp,rfl,b,_,S0,s,na,dx,B,rfl,⟨hS,rfl⟩,ig,fz.mp ok,fun o=>m.S.Xe hS o,fun H' s1=>⟨_,rfl,?_⟩⟩;have k0:=k _ s1;rw[←e1]at k0;cases q:sZ S0 s with
   |true=>rw[q]at k0;exact k0
   |false=>
    rw[q]at k0;exact⟨_,_,s1 _ _ hb,rfl,lp,{b with H:=H'},.span s,na,dx,d,rfl,B.on s1,rfl,m,ig.same s1,k0⟩
  |letters n c e=>
   have hk:df (.letters n c e)="letters":=rfl;rw[hk]at dP;obtain⟨q,S0,k1,hS, -⟩:=oa st;rw[fw q]at hb;obtain⟨dxs,Zt,hls,M5,es2,es3⟩:=B.street _ S0 hS;have Si:=B.same _ _ M5;have e1:=vL m q hS (e9.mp ok);walk_at "e";refine bQ ?_;walk_at "e";refine bQ ?_;walk_at "e";refine⟨_,lp,rfl,b,_,S0,n,c,e,na,dx,B,rfl,⟨hS,rfl⟩,ig,e9.mp ok,fun H' s1=>?_⟩;rw[e1];exact k _ s1
  |boxes y=>
   have hk:df (.boxes y)="boxes":=rfl;rw[hk]at dP;have q:=lQ m st (fun l=>by intro z;cases z);obtain⟨T0,hT, -⟩:=m.town q;rw[dN q]at hb;obtain⟨dxt,nat,VP,XO⟩:=B.town _ T0 hT;have ht:=B.same _ _ VP;have e1:=MD m hT (gJ.mp ok);have hL:bV b.M (.boxes (aO b.M))=some T0.boxes:=by show(b.M.ao[aO b.M]?).map _=_;rw[hT];rfl
   have I:=cS.EH B hL;obtain⟨Wx,io⟩:=I.obj;walk_at "e";refine bQ ?_;walk_at "e";refine bQ ?_;walk_at "e";refine bQ ?_;walk_at "e";refine⟨_,_,_,rfl,_,_,_,_,I,Al (m.T.ok T0 (aps hT)),_,rfl,?_⟩;rw[Aa];have k0:=k _ (aV.refl _);rw[←e1]at k0;cases q:d5 T0.boxes (y.a:Int) (y.b:Int)with
   |true=>
    rw[q]at k0;rw[show d5 T0.boxes (fB (.boxes y):Int) (QA (.boxes y):Int)=true from q];exact k0
   |false=>
    rw[q]at k0;rw[show d5 T0.boxes (fB (.boxes y):Int) (QA (.boxes y):Int)=false from q];exact⟨_,_,hb,rfl,lp,b,.boxes y,na,dx,d,rfl,B,rfl,m,ig,k0⟩
theorem V2(d:aqG):vS (c7 d) "town"=some (.int (townsIn d)):=rfl
theorem V3(d:aqG):vS (c7 d) "code"=some (.int (codesIn d).length):=rfl
theorem Pj(d:aqG):vS (c7 d) "street"=some (.int (streetsIn d)):=rfl
theorem a0.bI{b:Bs}(B:a0 A b):b.H (b.g .bI)=some (.dK (c7 b.M.aF)):=(B.mt .bI _ rfl).1
def Zc(A:Ad):Sp:=fun vs H Q _=>∃lp b x na dx d,vs=[.ref (b.g .aL),.ref lp]∧a0 A b∧H=b.H∧cX d b.M∧lI A H lp na dx x∧Q (.bl (n9 b.M x)) H
theorem xX(T:Tx K mg A)(D:Kd w K A):bN P w K mg base fU 1 A.fk A.gV ["self","line"] (Zc A):=by
 have sc:=xD;have F:=T.ue.F;walk_at "f"
 ·obtain⟨lp,b,x,na,dx,d,rfl,_⟩:=h;rfl
 ·obtain⟨lp,b,x,na,dx,d,rfl,B,rfl,m,ig,k⟩:=h;refine⟨_,(ag (bo (PW.pt (k8 (aD D5 (aq (pv 0) rfl) (bz T.qy) (aH _)) (i6 (aD vq (aZ dD (aq (pv 0) rfl) (aq (pv 1) rfl)) (bz T.oH) (aH _))))) (aw (aB vp)) aM)
 (aw (aB (Jh (Jg (Zo D (aq (pv 1) rfl) T.jf) rfl) (zN (m8 D5 (Qq (iP hr) (aq (pv 0) rfl) (aq (pv 1) rfl) (fun _ _=>rfl)) (W7 D T.jf (aq (pv 1) rfl) (fun _ _=>rfl)) (aH _))))))),?_⟩
  walk_at "z";have hb:=B.aL;have dP:=ig.obj;unfold iS at dP;have hc:=B.bI;walk_at "e";refine bW (fun c1=>?_) fun c1=>bW (fun c2=>?_) fun c2=>bQ ?_
  ·have e:n9 b.M x=true:=by
    unfold n9;rw[decide_eq_true (show 4096≤b.M.aF.length by omega)];rfl
   rw[e]at k;exact k
  ·have e:n9 b.M x=true:=by
    unfold n9;rw[decide_eq_true (show 65536<b.M.points+x.points by omega),Bool.or_true];rfl
   rw[e]at k;exact k
  ·have c1':decide (4096≤b.M.aF.length)=false:=decide_eq_false (by omega);have c2':decide (65536<b.M.points+x.points)=false:=decide_eq_false (by omega);have lT:townsIn b.M.aF=b.M.ao.length:=by rw[m.aF,m.Jr]
   have lS:streetsIn b.M.aF=b.M.ae.length:=by rw[m.aF,m.Js]
   cases x with
   |town l=>
    have hk:df (.town l)="town":=rfl;rw[hk]at dP;have em:most "town"=some (some 512):=by decide
    have ec:=V2 b.M.aF;have ek:n9 b.M (.town l)=decide (512≤b.M.ao.length):=by unfold n9;rw[c1',c2'];rfl
    rw[ek]at k;walk_at "s";rw[lT];show Q (V.bl (decide ((512:Int)≤((b.M.ao.length:Nat):Int)))) b.H;rw[show decide ((512:Int)≤((b.M.ao.length:Nat):Int))=decide (512≤b.M.ao.length) by rw[decide_eq_decide];omega];exact k
   |street l=>
    have hk:df (.street l)="street":=rfl;rw[hk]at dP;have em:most "street"=some (some 1024):=by decide
    have ec:=Pj b.M.aF;have ek:n9 b.M (.street l)=decide (1024≤b.M.ae.length):=by unfold n9;rw[c1',c2'];rfl
    rw[ek]at k;walk_at "s";rw[lS];show Q (V.bl (decide ((1024:Int)≤((b.M.ae.length:Nat):Int)))) b.H;rw[show decide ((1024:Int)≤((b.M.ae.length:Nat):Int))=decide (1024≤b.M.ae.length) by rw[decide_eq_decide];omega];exact k
   |code c=>
    have hk:df (.code c)="code":=rfl;rw[hk]at dP;have em:most "code"=some (some 1024):=by decide
    have ec:=V3 b.M.aF;have ek:n9 b.M (.code c)=decide (1024≤(codesIn b.M.aF).length):=by unfold n9;rw[c1',c2'];rfl
    rw[ek]at k;walk_at "s";show Q (V.bl (decide ((1024:Int)≤(((codesIn b.M.aF).length:Nat):Int)))) b.H;rw[show decide ((1024:Int)≤(((codesIn b.M.aF).length:Nat):Int))=decide (1024≤(codesIn b.M.aF).length) by rw[decide_eq_decide];omega];exact k
   |span s=>
    have hk:df (.span s)="span":=rfl;rw[hk]at dP;have em:most "span"=some none:=by decide
    have ek:n9 b.M (.span s)=false:=by unfold n9;rw[c1',c2'];rfl
    rw[ek]at k;walk_at "s";exact k
   |letters n c e=>
    have hk:df (.letters n c e)="letters":=rfl;rw[hk]at dP;have em:most "letters"=some none:=by decide
    have ek:n9 b.M (.letters n c e)=false:=by unfold n9;rw[c1',c2'];rfl
    rw[ek]at k;walk_at "s";exact k
   |boxes y=>
    have hk:df (.boxes y)="boxes":=rfl;rw[hk]at dP;have em:most "boxes"=some none:=by decide
    have ek:n9 b.M (.boxes y)=false:=by unfold n9;rw[c1',c2'];rfl
    rw[ek]at k;walk_at "s";exact k
theorem a0.ao{b:Bs}(B:a0 A b):b.H (b.g .ao)=some (.aN (oB b.z.town b.M.ao.length)):=(B.mt .ao _ rfl).1
theorem a0.ae{b:Bs}(B:a0 A b):b.H (b.g .ae)=some (.aN (oB b.z.street b.M.ae.length)):=(B.mt .ae _ rfl).1
theorem mf(f:Nat→Addr)(n:Nat):(oB f n).length=n:=by unfold oB;rw[apt,arZ]
theorem uy(f:Nat→Addr){n i:Nat}(h:i<n):mP (oB f n) (i:Int)=some (.ref (f i)):=fZ (by
 unfold oB;rw[apH,arc h];rfl)
theorem XI{s:Span}(ok:dt s){n:Nat}(h:s.has n=true):fB (.span s)≤n∧gu (.span s) n<(DLine.span s).points:=by
 obtain⟨i,hi,rfl⟩:=(nJ ok n).mp h;have hs:0<s.step:=by unfold Span.step;split<;>decide
 refine⟨aqC _ _,?_⟩;show(s.a+s.step*i-s.a) / s.step<s.many;rw[asz,Nat.mul_div_cancel_left _ hs];exact hi
theorem Om{s:Span}(ok:dt s):s.many≤99999:=by
 unfold Span.many;have h1:=ok.a1;have h2:=ok.b1;have:=Nat.div_le_self (s.b-s.a) s.step;have h3:=ok.ab;omega
def abN(o:Option Nat):V:=match o with
 |some i=>.int (i:Int)
 |none=>.cx
def RJ(A:Ad):Sp:=fun vs H Q _=>∃i b d,vs=[.ref (b.g .aL),.int ((i:Nat):Int)]∧a0 A b∧H=b.H∧cX d b.M∧(match(pointsOf d)[i]? with|none=>Q .cx H|some p=>Jd A p H Q)
theorem A5(T:Tx K mg A):bN P w K mg base fU 6 A.mL A.qP ["self","i"] (RJ A):=by
 have sc:=Li;have F:=T.Fw.F;walk_at "f"
 ·obtain⟨i,b,d,rfl,_⟩:=h;rfl
 ·obtain⟨i,b,d,rfl,B,rfl,m,k⟩:=h;refine⟨_,(ag (aX (i:=2) sc.nd rfl (apN rfl) (bg (aq (pv 0) rfl) T.c.jx T.mv (kZ T) hr.mn T.lC.b .nil aP (af (pv 1) ax)))
 (ag (bo (aD kY (pv 2) cj (aH _)) (aw (aB cj)) aM)
 (aw (aB (br (LC T) hr.mn rfl T.OX T.DX.F.kp T.DX.b .nil aP (af (pv 2) (af (pv 1) ax))))))),?_⟩
  walk_at "z";have hb:=B.aL;have hL:bV b.M .bS=some b.M.bS:=rfl;have I:=cS.EH B hL;obtain⟨Wx,io⟩:=I.obj;walk_at "g";refine⟨_,_,rfl,_,_,_,_,I,Al m.R.ok,EN (Q:=fun x H1=>R [some (V.ref (b.g .aL)),some (V.int i),some x] H1) (n1.go _ _ ?_)⟩;clear n1 R;cases q:(pointsOf d)[i]? with
  |none=>
   rw[q]at k;have e:=m.NT (i:=(i:Int)) (by omega) (by rw[aqE];exact q);rw[e];show eV _ _ _ [some (V.ref (b.g .aL)),some (V.int i),some V.cx] b.H;walk_at "g"
  |some p=>
   rw[q]at k;obtain⟨iv,r,e,Yn,h1,h2,h3⟩:=m.NS (i:=(i:Int)) (by omega) (by rw[aqE];exact q);rw[e];show eV _ _ _ [some (V.ref (b.g .aL)),some (V.int i),some (V.ref (b.z.run iv.at_))] b.H;walk_at "g";walk_at "n";walk_at "d";have gX:=(apu.mp q).1;have Yl:=m.np;have Tp:=(d6 m.dA).2.2.2.2;rw[fF m.dA]at gX;refine⟨_,_,rfl,r,_,p,(B.run _ r Yn).same B.same,h1,h2,by omega,k,?_⟩;rcases h3 with⟨z1,z2⟩|⟨k',n,c,e',r',s,z1,z2,z3,z4,z5,z6,z7,z8,z9⟩
   ·exact .inl ⟨by unfold p7;rw[z1],z2⟩
   ·obtain⟨f1,f2⟩:=XI z7 z8;refine .inr ⟨_,r',_,n,c,e',by unfold p7;rw[z1],(B.run _ r' z4).same B.same,z2,z3,by rw[z6];exact f1,by rw[z6];exact f2,?_,z9⟩;have hm:=Om z7;rw[z6];have f3:gu (.span s) n<s.many:=f2;omega
def fl(o:Option Nat):List Int:=match o with
 |some i=>[(i:Int)]
 |none=>[-3]
def Uo(A:Ad):Sp:=fun vs H Q _=>∃t s n c b d,vs=[.ref (b.g .aL),.int ((t:Nat):Int),.int ((s:Nat):Int),.int ((n:Nat):Int),.int ((c:Nat):Int)]∧a0 A b∧H=b.H∧cX d b.M∧∀H' o,aV H H'→iQ (aqv d t (some s) n c)=fl o→Q (abN o) H'
theorem zU(T:Tx K mg A):bN P w K mg base fU 5 A.fN A.iw ["self","town","street","number","letter"] (Uo A):=by
 have sc:=zh;have F:=T.vO.F;walk_at "f"
 ·obtain⟨t,s,n,c,b,d,rfl,_⟩:=h;rfl
 ·obtain⟨t,s1,n,c,b,d,rfl,B,rfl,m,k⟩:=h;refine⟨_,(ag (bo (PW.pt (k8 (aD D5 (pv 2) (bH cv (by rfl) T.ft ap8 (af (aq (pv 0) rfl) ax)) (aH _)) (i6 (aD m9 (aq (bC dm (aq (pv 0) rfl) (pv 2) (fun _ _=>rfl)) rfl) (pv 1) (aH _))))) (aw (aB cj)) aM)
 (aw (aB (bg (bC dm (aq (pv 0) rfl) (pv 2) (fun _ _=>rfl)) T.c.lj T.Cf (zP T) hr.mn T.vk.b .nil aP (af (pv 3) (af (pv 4) ax)))))),?_⟩
  walk_at "z";have hb:=B.aL;have hs:=B.ae;have hl:=mf b.z.street b.M.ae.length;walk_at "e";refine bW (fun c1=>?_) fun c1=>?_
  ·have hn:b.M.ae[s1]? =none:=asl.mpr (by omega);refine k _ none (aV.refl _) ?_;rw[m.tU (fun S z=>by rw[hn]at z;cases z)];rfl
  ·have gX:s1<b.M.ae.length:=by omega
   obtain⟨S0,hS⟩:∃S0,b.M.ae[s1]? =some S0:=⟨_,apO gX⟩;obtain⟨dxs,Zt,hls,M5,es2,es3⟩:=B.street _ S0 hS;have Si:=B.same _ _ M5;have ra:=uy b.z.street gX;walk_at "d";refine bW (fun c2=>?_) fun c2=>bQ ?_
   ·refine k _ none (aV.refl _) ?_;rw[m.tU (fun S z e=>by rw[hS]at z;cases z;exact c2 (by omega))];rfl
   ·have ht:S0.town=t:=by omega
    walk_at "d";refine⟨_,n,c,rfl,b,s1,S0,B,rfl,⟨hS,rfl⟩,m.S.Xe hS _,(m.S.ln S0 (aps hS)).1,?_⟩;by_cases hc:c=0
    ·subst hc;rw[if_neg (by simp)];unfold cD;cases q:cW (hv S0 (n % 2)) ((n / 2:Nat):Int)with
     |none=>
      refine k _ none (aV.refl _) ?_;rw[m.O2 hS q];rfl
     |some iv=>
      obtain⟨r,sp,a1,a2,a3,a4,a5,a6⟩:=m.O1 hS ht q;refine⟨r,a1,a5,k _ (some _) (aV.refl _) ?_⟩;rw[a6];rfl
    ·rw[if_pos hc];intro H' s2;have e:=m.Mo hS ht hc (n:=n);cases q:(aS S0 n).lookup c with
     |none=>rw[q]at e;exact k _ none s2 (by rw[e];rfl)
     |some i=>rw[q]at e;exact k _ (some i) s2 (by rw[e];rfl)
def WV(A:Ad):Sp:=fun vs H Q _=>∃t n b d,vs=[.ref (b.g .aL),.int ((t:Nat):Int),.int ((n:Nat):Int)]∧a0 A b∧H=b.H∧cX d b.M∧∀o,iQ (aqv d t none n 0)=fl o→Q (abN o) H
theorem Ec(T:Tx K mg A):bN P w K mg base fU 4 A.hZ A.kh ["self","town","number"] (WV A):=by
 have sc:=DI;have F:=T.Bx.F;walk_at "f"
 ·obtain⟨t,n,b,d,rfl,_⟩:=h;rfl
 ·obtain⟨t,n,b,d,rfl,B,rfl,m,k⟩:=h;refine⟨_,(ag (bo (aD D5 (pv 1) (bH cv (by rfl) T.ft ap8 (af (aq (pv 0) rfl) ax)) (aH _)) (aw (aB cj)) aM)
 (aw (aB (bg (bC dm (aq (pv 0) rfl) (pv 1) (fun _ _=>rfl)) T.c.Fo T.Gp (D6 T) hr.mn T.AN.b .nil aP (af (pv 2) ax))))),?_⟩
  walk_at "z";have hb:=B.aL;have hs:=B.ao;have hl:=mf b.z.town b.M.ao.length;walk_at "e";refine bW (fun c1=>?_) fun c1=>bQ ?_
  ·have hn:b.M.ao[t]? =none:=asl.mpr (by omega);refine k none ?_;rw[m.MH (fun S z=>by rw[hn]at z;cases z)];rfl
  ·have gX:t<b.M.ao.length:=by omega
   obtain⟨T0,hT⟩:∃S0,b.M.ao[t]? =some S0:=⟨_,apO gX⟩;obtain⟨dxs,Zt,M5,es2⟩:=B.town _ T0 hT;have Si:=B.same _ _ M5;have ra:=uy b.z.town gX;walk_at "d";refine⟨_,n,rfl,b,t,T0,B,rfl,hT,rfl,m.T.ok T0 (aps hT),?_⟩;cases q:cW T0.boxes (n:Int)with
   |none=>
    refine k none ?_;rw[m.MH (fun T z=>by rw[hT]at z;cases z;exact q)];rfl
   |some iv=>
    obtain⟨r,sp,a1,a2,a3,a5,a6⟩:=m.V8 hT q;refine⟨r,a1,a5,k (some _) ?_⟩;rw[a6];rfl
local macro_rules|`(tactic|walk_at "o")=>zzR " vi KJ mU KH AV vj vX vW DN DM Ng vY BG DS KI AU Kn L7 Bb L6 Yk Yj kD"
theorem V5{d:aqG}{M:Bk}(m:cX d M)(r:fD)(j:Nat):(cell M r j).length≤28:=by
 unfold cell;rw[apz];have:∀S n,(de S n).length≤27:=fun S n=>by
  unfold de;exact aqa (arK _ _) (by simp)
 split
 ·simp
 ·split
  ·simp
  ·have:=this ‹_› (fB r.line+dq r.line j*eG r.line);omega
theorem VM(f:Nat→List Nat)(h:∀j,(f j).length≤28)(i:Nat):((ap4 i).flatMap f).length≤28*i:=by
 induction i with
 |zero=>simp
 |succ i ih=>
  rw[arT,aqR,apr];have:=h i;simp only[aqK,arI,apK];omega
theorem cX.NI{d:aqG}{M:Bk}(m:cX d M){k:Nat}{r:fD}(hr:M.aK[k]? =some r)(hs:r.src=none){s:Nat}(h:r.street=some s):∃S,M.ae[s]? =some S:=by
 have hp:=(m.R.rp k r hr hs).2 0 (m.R.Uz k r hr).1;obtain⟨S,a,_⟩:=m.S.hc _ (aps hp) s h;exact⟨S,a⟩
theorem cX.NJ{d:aqG}{M:Bk}(m:cX d M){k:Nat}{r:fD}(hr:M.aK[k]? =some r):r.line.points≤65536:=by
 have h1:=(m.R.Uz k r hr).2;have h2:=(d6 m.dA).2.2.2.2;rw[fF m.dA]at h1;omega
def F0(A:Ad):Sp:=fun vs H Q _=>∃b d k r,vs=[.ref (b.g .aL),.ref (b.z.run k)]∧a0 A b∧H=b.H∧cX d b.M∧b.M.aK[k]? =some r∧r.src=none∧Ef (iZ b.M r) H Q
theorem zT(T:Tx K mg A):bN P w K mg base fU 3 A.fM A.iu ["self","run"] (F0 A):=by
 have sc:=zg;have F:=T.vN.F;walk_at "f"
 ·obtain⟨b,d,kk,r,rfl,_⟩:=h;rfl
 ·obtain⟨b,d,kk,r,rfl,B,rfl,m,Cq,ZY,k⟩:=h;refine⟨_,(ag (aX (i:=2) sc.nd rfl (apN rfl) (aq (pv 1) rfl))
 (ag (aX (i:=3) sc.nd rfl (apN rfl) (cG ax))
 (ag (wA ara rfl (RU rfl T.yL (af (aq (pv 2) rfl) ax)) (fW (i:=4) sc.nd rfl (apN rfl)) (ag (aX (i:=5) sc.nd rfl (apN rfl) (br (Hz T) hr.mn rfl T.Mh T.gf.F.kp T.gf.b .nil aP (af (pv 2) (af (pv 4) ax))))
 (ag (cQ (jQ aqM aqT jY (pv 3) (af (aZ dD (aq (pv 1) rfl) (pv 5)) ax)))
 (aw (bo (aD m9 (aq (pv 1) rfl) (bz T.ku) (aH _)) (aw (cQ (jQ arN asr zZ (pv 3) (af (bg (bC dm (aq (pv 0) rfl) (aq (pv 1) rfl) (fun _ _=>rfl)) T.c.lj T.tj (rL T) hr.mn T.lR.b .nil aP (af (aZ dD (aq (pv 2) rfl) (aZ U1 (pv 5) (aq (pv 2) rfl))) ax)) ax)))) aM)))))
 (aw (aB (pv 3)))))),?_⟩
  walk_at "z";have hb:=B.aL;obtain⟨dxr,la,nar,ldr,Ym,ig⟩:=((B.run kk r Cq).same B.same).ex;have dP:=ig.obj;unfold iS at dP;walk_at "g";walk_at "n";walk_at "g";refine⟨by show 0≤sizeLine;exact apV _,fun D hD=>n1.go _ _ ?_⟩;clear n1 R;have s1:=bZ (o:=.aN []) hD;have VE:aJ b.H D (.aN []) D=some (.aN []):=au;generalize aJ b.H D _=H1 at s1 VE ⊢;have anl:=m.NJ Cq;refine bt fun R n1=>?_;refine⟨_,rfl,la,_,_,_,_,rfl,s1 _ _ dP,C.pR,C.eY,rfl,_,rfl,by omega,by omega,?_⟩;rw[aqE];refine HQ (lo:=0) (n:=r.line.points) (fun i σ H'=>∃v u,σ=[some (V.ref (b.g .aL)),some (V.ref (b.z.run kk)),some (V.ref la),some (V.ref D),v,u]∧aV b.H H'∧H' D=some (.aN (((ap4 i).flatMap (cell b.M r)).map fun(j:Nat)=>V.int (j:Int)))) ⟨none,none,rfl,s1,VE⟩ ?_ ?_
  ·rintro i σ H' hi ⟨v,u,rfl,s2,oK⟩;clear n1 s1 VE;have Sk:=s2 _ _ Ym;have XD:=s2 _ _ dP;have Z9:=s2 _ _ hb;have XF:=ig.same s2;have hlen:=VM _ (V5 m r) i;have hs:=sizeLine_eq;rw[Int.zero_add];show eV _ _ _ [some (V.ref (b.g .aL)),some (V.ref (b.z.run kk)),some (V.ref la),some (V.ref D),some (V.int i),u] H';walk_at "g";refine⟨_,_,rfl,nar,ldr,r.line,XF,hi,n1.go _ _ ?_⟩;clear n1 R;walk_at "g";refine⟨D,_,_,rfl,rfl,oK,by rw[apt,hs];omega,n1.go _ _ ?_⟩;clear n1 R;have s3:aV b.H (aJ H' D (.aN (((ap4 i).flatMap (cell b.M r)).map (fun(j:Nat)=>V.int (j:Int))++[V.int ((r.jD:Int)+(dq r.line i:Int))]))):=fun x o q=>by rw[ai (aj q hD)];exact s2 x o q
   have hD3:(aJ H' D (.aN (((ap4 i).flatMap (cell b.M r)).map (fun(j:Nat)=>V.int (j:Int))++[V.int ((r.jD:Int)+(dq r.line i:Int))]))) D=some (.aN (((ap4 i).flatMap (cell b.M r)++[r.jD+dq r.line i]).map fun(j:Nat)=>V.int (j:Int))):=by
    rw[au,apB];simp
   generalize aJ H' D _=H3 at s3 hD3 ⊢;clear Sk XD Z9 XF;have Sk:=s3 _ _ Ym;have XD:=s3 _ _ dP;have Z9:=s3 _ _ hb;have Sj:=s3 _ _ B.ae;cases j7:r.street with
   |none=>
    rw[j7]at Sk;have e1:yP none= -1:=rfl;rw[e1]at Sk;walk_at "d";rw[arT,aqR];have ec:[i].flatMap (cell b.M r)=[r.jD+dq r.line i]:=by
     rw[aqK,arI,apK];unfold cell;rw[j7]
    rw[ec]
   |some s0=>
    rw[j7]at Sk;have e1:yP (some s0)=(s0:Int):=rfl;rw[e1]at Sk;obtain⟨S0,hS⟩:=m.NI Cq ZY j7;have gX:=(apu.mp hS).1;have ra:=uy b.z.street gX;have ne1:¬((s0:Int)= -1):=by omega
    obtain⟨dxs,Zt,hls,M5,es2,es3⟩:=B.street _ S0 hS;have Si:=s3 _ _ (B.same _ _ M5);walk_at "d";rw[if_pos (fun z=>z)];have h12:=L3 r.line;have ec:[i].flatMap (cell b.M r)=[r.jD+dq r.line i]++de S0 (fB r.line+dq r.line i*eG r.line):=by
     rw[aqK,arI,apK];unfold cell;rw[j7];show _::(match b.M.ae[s0]? with|none=>[]|some S=>de S _)=_;rw[hS];rfl
    have en:((fB r.line:Int)+(dq r.line i:Int)*(eG r.line:Int))=((fB r.line+dq r.line i*eG r.line:Nat):Int):=by
     rw[asm,avd]
    have hll:(de S0 (fB r.line+dq r.line i*eG r.line)).length≤27:=by
     unfold de;exact aqa (arK _ _) (by simp)
    refine⟨.inr ⟨by omega,by omega⟩,?_⟩;rw[en];refine⟨_,_,rfl,{b with H:=H3},s0,S0,d,B.on s3,rfl,⟨hS,rfl⟩,m,fun H4 a s4 ha ha'=>?_⟩;refine⟨D,a,_,_,rfl,rfl,s4 _ _ hD3,ha',?_,fun x o q=>?_,?_⟩
    ·rw[apt,apt,apr,ap5,hs];omega
    ·rw[ai (aj q hD)];exact s4 _ _ (s3 x o q)
    ·rw[au,arT,aqR,ec,←aqF,apB (l₁:=_++[_])]
  ·rintro σ H' ⟨v,u,rfl,s2,oK⟩;walk_at "n";walk_at "d";exact k _ D s2 hD oK
def Dj(A:Ad):Sp:=fun vs H Q _=>∃b d w,vs=[.ref (b.g .aL),.int ((w:Nat):Int)]∧a0 A b∧H=b.H∧cX d b.M∧Ef (AM b.M w) H Q
theorem xW(T:Tx K mg A):bN P w K mg base fU 4 A.fj A.gU ["self","walk"] (Dj A):=by
 have sc:=xC;have F:=T.ud.F;walk_at "f"
 ·obtain⟨b,d,wk,rfl,_⟩:=h;rfl
 ·obtain⟨b,d,wk,rfl,B,rfl,m,k⟩:=h;refine⟨_,(ag (aX (i:=2) sc.nd rfl (apN rfl) (cG ax))
 (ag (bo (IZ (UZ (iP hr) (pv 1) (aq (pv 0) rfl)) rfl) (aw (wA ara rfl (mZ (aq (xQ (iP hr) (aq (pv 0) rfl) (pv 1) (fun _ _=>rfl)) rfl)) (fW (i:=3) sc.nd rfl (apN rfl)) (aw (cQ (jQ arN asr zZ (pv 2) (af (bg (pv 0) T.c.cO T.Ck (zT T) hr.mn T.vN.b .nil aP (af (pv 3) ax)) ax)))))) aM)
 (aw (aB (pv 2))))),?_⟩
  walk_at "z";have hb:=B.aL;walk_at "g";refine⟨by show 0≤sizeLine;exact apV _,fun D hD=>n1.go _ _ ?_⟩;clear n1 R;have s1:=bZ (o:=.aN []) hD;have VE:aJ b.H D (.aN []) D=some (.aN []):=au;generalize aJ b.H D _=H1 at s1 VE ⊢;have QU:=s1 _ _ hb;have hw:=s1 _ _ B.az;have ev:=gd (fun n _=>V.ref (b.z.iv (.walk n))) b.M.az wk;refine bt fun R n1=>?_;cases q:b.M.az.lookup wk with
  |none=>
   rw[q]at ev;have ev':vI (b.M.az.map fun p=>((apT (p.1:Int):Key),V.ref (b.z.iv (.walk p.1)))) (wk:Int)=none:=ev;clear ev;walk_at "d";walk_at "n";have e0:AM b.M wk=[]:=by unfold AM c9;rw[q];rfl
   rw[e0]at k;walk_at "d";exact k _ D s1 hD VE
  |some L=>
   rw[q]at ev;have ev':vI (b.M.az.map fun p=>((apT (p.1:Int):Key),V.ref (b.z.iv (.walk p.1)))) (wk:Int)=some (V.ref (b.z.iv (.walk wk))):=ev;clear ev;have hL:bV b.M (.walk wk)=some L:=q;have I:=cS.EH B hL;obtain⟨Wx,io⟩:=I.obj;have io1:=s1 _ _ io;have anQ:=s1 _ _ I.at_;have amU:=io1;walk_at "d";refine bW (fun _=>?_) (fun z=>absurd rfl z);have eL:AM b.M wk=L.flatMap fun iv=>match b.M.aK[iv.at_]? with|none=>[]|some r=>iZ b.M r:=by unfold AM c9;rw[q];rfl
   have Vt:(AM b.M wk).length≤65536:=by
    rw[←m.PV wk];have h1:=Iw d wk;have h2:=(d6 m.dA).2.2.2.2;rw[fF m.dA]at h1;omega
   have hs:=sizeLine_eq;have hh:∀H',aV b.H H'→H' (b.g (.holds (.walk wk)))=some (.aN (L.map fun x=>V.ref (b.z.run x.at_))):=fun H' s2=>by
    have:=s2 _ _ I.at_;rw[this];unfold wR;rw[apJ];rfl
   refine⟨_,rfl,_,_,_,_,_,rfl,QU,C.cO,C.jV,rfl,_,rfl,_,_,_,_,rfl,rfl,hw,ev',_,_,_,_,_,rfl,io1,C.jx,C.gL,rfl,b.g (.holds (.walk wk)),rfl,⟨_,jH.of (hh H1 s1)⟩,?_⟩;refine yr (K:=K) (a:=b.g (.holds (.walk wk))) (xs:=L.map fun x=>V.ref (b.z.run x.at_)) (fun i σ H'=>∃v,σ=[some (V.ref (b.g .aL)),some (V.int wk),some (V.ref D),v]∧aV b.H H'∧H' D=some (.aN (((L.take i).flatMap fun iv=>match b.M.aK[iv.at_]? with|none=>[]|some r=>iZ b.M r).map fun(j:Nat)=>V.int (j:Int)))) ⟨none,rfl,s1,VE⟩ (fun i σ H' _ ⟨_,_,s2,_⟩=>jH.of (hh H' s2)) ?_ ?_
   ·rintro i x σ H' hi ⟨v,rfl,s2,oK⟩;rw[apH]at hi;obtain⟨iv,Tr,rfl⟩:=apF.mp hi;obtain⟨r,a1,a2,_⟩:=m.W.wi wk iv (by unfold CL;rw[q];exact aps Tr);clear n1;have Wv:=s2 _ _ hb;show KL _ _ [some (V.ref (b.g .aL)),some (V.int wk),some (V.ref D),some (V.ref (b.z.run iv.at_))] H';walk_at "d";have et:(L.take (i+1)).flatMap (fun iv=>match b.M.aK[iv.at_]? with|none=>[]|some r=>iZ b.M r)=((L.take i).flatMap fun iv=>match b.M.aK[iv.at_]? with|none=>[]|some r=>iZ b.M r)++iZ b.M r:=by
     rw[aq6,Tr,aqR];show _++[iv].flatMap _=_;rw[aqK,arI,apK,a1]
    have hle:((L.take (i+1)).flatMap (fun iv=>match b.M.aK[iv.at_]? with|none=>[]|some r=>iZ b.M r)).length≤65536:=by
     refine aqa ?_ Vt;rw[eL]
     conv=>rhs;rw[←arl (i+1) L,aqR,apr]
     exact aqC _ _
    rw[et,apr]at hle;refine⟨{b with H:=H'},d,iv.at_,r,rfl,B.on s2,rfl,m,a1,a2,fun H4 a s4 ha ha'=>?_⟩;refine⟨D,a,_,_,rfl,rfl,s4 _ _ oK,ha',?_,fun x o z=>?_,?_⟩
    ·rw[apt,apt,hs];show _+(iZ b.M r).length≤_;omega
    ·rw[ai (aj z hD)];exact s4 _ _ (s2 x o z)
    ·rw[au,et,apB]
   ·rintro σ H' ⟨v,rfl,s2,oK⟩;walk_at "n";walk_at "d";rw[apt,aq2,←eL]at oK;exact k _ D s2 hD oK
structure Tj(M:Bk):Prop where
 iv:∀i L,bV M i=some L→∀x∈L,x.at_<M.aK.length
 src:∀(k:Nat) r,M.aK[k]? =some r→∀k',r.src=some k'→k'<M.aK.length
theorem cX.ail{d:aqG}{M:Bk}(m:cX d M):Tj M:=by
 have lt:∀{k:Nat} {r:fD},M.aK[k]? =some r→k<M.aK.length:=fun h=>(apu.mp h).1;refine⟨fun i L hL x hx=>?_,fun k r hr k' hk=>?_⟩
 ·cases i with
  |bS=>
   cases hL;obtain⟨r,a,_⟩:=m.R.rr x hx;exact lt a
  |walk w=>
   have Tt:M.az.lookup w=some L:=hL;obtain⟨r,a,_⟩:=m.W.wi w x (by unfold CL;rw[Tt];exact hx);exact lt a
  |boxes t=>
   have Tt:(M.ao[t]?).map dk.boxes=some L:=hL;obtain⟨T,hT,rfl⟩:=apF.mp Tt;obtain⟨r,y,a,_⟩:=m.T.bi t T hT x hx;exact lt a
  |bh s o=>
   have Tt:(if o<2 then(M.ae[s]?).map (fun S=>hv S o)else none)=some L:=hL;by_cases q:o<2
   ·rw[if_pos q]at Tt;obtain⟨S,hS,rfl⟩:=apF.mp Tt;obtain⟨r,y,z,a,_⟩:=m.S.hi s S hS o q x hx;exact lt a
   ·rw[if_neg q]at Tt;cases Tt
 ·obtain⟨n,c,e,r',s,_,_,a,_⟩:=m.R.rl k r hr k' hk;exact lt a
theorem gk{F:Hp}{a:Addr}{o:HO}(h:F a=none):aV F (aJ F a o):=bZ h
def Kq(z:Fz)(k:Nat)(rp:Addr):Fz:={z with run:=fun j=>if j=k then rp else z.run j}
theorem Vf{g:bO→Addr}{z:Fz}{M:Bk}{ta dX rp:Addr}{r:fD}(ok:Tj M)(ro:bO):mc A g (Kq z M.aK.length rp) {M with aK:=M.aK++[r]} ta dX ro=mc A g z M ta dX ro:=by
 cases ro with
 |holds i=>
  show(bV {M with aK:=M.aK++[r]} i).map _=(bV M i).map _;have e:bV {M with aK:=M.aK++[r]} i=bV M i:=by cases i<;>rfl
  rw[e];cases q:bV M i with
  |none=>rfl
  |some L=>
   show some (HO.aN (L.map _))=some (HO.aN (L.map _));congr 2;apply aqk;intro x hx;show V.ref (if x.at_=M.aK.length then rp else z.run x.at_)=_;rw[if_neg (aqo (ok.iv i L q x hx))]
 |aL=>rfl
 |bI=>rfl
 |ao=>rfl
 |ae=>rfl
 |az=>rfl
 |cN i=>cases i<;>rfl
 |bJ i=>cases i<;>rfl
 |bj t=>rfl
 |letters s=>rfl
 |aU s n=>rfl
def aaq(b:Bs)(r:fD)(rp:Addr)(o:HO)(H1:Hp):Bs:={b with F:=aJ b.F rp o,H:=H1,z:=Kq b.z b.M.aK.length rp,M:={b.M with aK:=b.M.aK++[r]}}
theorem a0.Og{b:Bs}(B:a0 A b)(ok:Tj b.M){H1:Hp}(s:aV b.H H1){rp dx lp na ld:Addr}{r:fD}(hrp:b.H rp=none)(ig:lI A b.F lp na ld r.line)
  (Ym:H1 rp=some (.bR A.gZ dx (xh (.ref lp) (.int r.town) (.int (yP r.street)) (.int r.jD) (p7 b.z r))))(hs:∀k',r.src=some k'→k'<b.M.aK.length):
  ∃b',a0 A b'∧dn A b b'∧b'.H=H1∧b'.M={b.M with aK:=b.M.aK++[r]}∧b'.tx=b.tx∧b'.g=b.g∧b'.z=Kq b.z b.M.aK.length rp∧aV b.F b'.F∧rP A b'.F rp r (p7 b'.z r):=by
 have hF:b.F rp=none:=B.same.free hrp;have sF:aV b.F (aJ b.F rp (.bR A.gZ dx (xh (.ref lp) (.int r.town) (.int (yP r.street)) (.int r.jD) (p7 b.z r)))):=gk hF;have ac8:∀r':fD,(∀k',r'.src=some k'→k'<b.M.aK.length)→p7 (Kq b.z b.M.aK.length rp) r'=p7 b.z r':=fun r' h=>by
  unfold p7;cases q:r'.src with
  |none=>rfl
  |some k'=>
   show V.ref (if k'=b.M.aK.length then rp else b.z.run k')=_;rw[if_neg (aqo (h k' q))]
 have hR:rP A (aJ b.F rp (.bR A.gZ dx (xh (.ref lp) (.int r.town) (.int (yP r.street)) (.int r.jD) (p7 b.z r)))) rp r (p7 (Kq b.z b.M.aK.length rp) r):=by
  rw[ac8 r hs];exact⟨dx,lp,na,ld,au,ig.same sF⟩
 have PP:a0 A (aaq b r rp (.bR A.gZ dx (xh (.ref lp) (.int r.town) (.int (yP r.street)) (.int r.jD) (p7 b.z r))) H1)∧dn A b (aaq b r rp (.bR A.gZ dx (xh (.ref lp) (.int r.town) (.int (yP r.street)) (.int r.jD) (p7 b.z r))) H1):=by
  refine B.change (b':=aaq b r rp (.bR A.gZ dx (xh (.ref lp) (.int r.town) (.int (yP r.street)) (.int r.jD) (p7 b.z r))) H1)
   (fun _=>False) sF (fun a h=>?_) (fun a o e=>?_) (fun r _=>rfl) (fun r h=>h.elim) (fun r r' h=>h.elim) (fun ro h _=>?_) (fun ro o e=>?_) (fun a o e _=>s a o e) rfl ⟨fun i h=>?_,fun t T h=>?_,fun t S h=>?_,fun j r' h=>?_,sF _ _ B.text⟩
  ·by_cases e:a=rp
   ·subst e;exact .inr hrp
   ·left;have h':aJ b.F rp _ a≠none:=h;rw[ai e]at h';exact h'
  ·have e':aJ b.F rp _ a=some o:=e;by_cases z:a=rp
   ·subst z;rw[au]at e';cases e';exact Ym
   ·rw[ai z]at e';exact s _ _ (B.same _ _ e')
  ·have h':(mc A b.g (Kq b.z b.M.aK.length rp) {b.M with aK:=b.M.aK++[r]} b.ta b.dX ro).isSome=true:=h;rw[Vf ok]at h';exact h'
  ·have e':mc A b.g (Kq b.z b.M.aK.length rp) {b.M with aK:=b.M.aK++[r]} b.ta b.dX ro=some o:=e;rw[Vf ok]at e';exact s _ _ (B.mt ro o e').1
  ·have h':(bV b.M i).isSome=true:=by
    have e:bV {b.M with aK:=b.M.aK++[r]} i=bV b.M i:=by cases i<;>rfl
    rw[←e];exact h
   obtain⟨vg,e⟩:=B.iv i h';exact⟨vg,sF _ _ e⟩
  ·obtain⟨vg,Jn,e1,e2⟩:=B.town t T h;exact⟨vg,Jn,sF _ _ e1,sF _ _ e2⟩
  ·obtain⟨vg,Jn,hl,e1,e2,e3⟩:=B.street t S h;exact⟨vg,Jn,hl,sF _ _ e1,sF _ _ e2,sF _ _ e3⟩
  ·have h':(b.M.aK++[r])[j]? =some r':=h;by_cases z:j=b.M.aK.length
   ·subst z;rw[aqh (apE _),atJ]at h';have e:r=r':=apC h';subst e;show rP A _ (if b.M.aK.length=b.M.aK.length then rp else _) r _;rw[if_pos rfl];exact hR
   ·have hj:j<b.M.aK.length:=by
     have:=(apu.mp h').1;rw[apr,ap5]at this;omega
    rw[aql hj]at h';show rP A _ (if j=b.M.aK.length then rp else b.z.run j) r' _;rw[if_neg z];have e:=ac8 r' (fun k' hk=>ok.src j r' h' k' hk);show rP A _ (b.z.run j) r' (p7 (Kq b.z b.M.aK.length rp) r');rw[e];exact(B.run j r' h').same sF
 exact⟨_,PP.1,PP.2,rfl,rfl,rfl,rfl,rfl,sF,hR⟩
def E6(g:bO→Addr)(i:kN)(l h q:Addr):bO→Addr:=fun r=>if r=.cN i then l else if r=.bJ i then h else if r=.holds i then q else g r
def Tw(z:Fz)(i:kN)(iv:Addr):Fz:={z with iv:=fun j=>if j=i then iv else z.iv j}
theorem E4(g:bO→Addr)(i:kN)(l h q:Addr):E6 g i l h q (.cN i)=l:=if_pos rfl
theorem E5(g:bO→Addr)(i:kN)(l h q:Addr):E6 g i l h q (.bJ i)=h:=by unfold E6;rw[if_neg (by nofun),if_pos rfl]
theorem E3(g:bO→Addr)(i:kN)(l h q:Addr):E6 g i l h q (.holds i)=q:=by unfold E6;rw[if_neg (by nofun),if_neg (by nofun),if_pos rfl]
theorem iI{g:bO→Addr}{i:kN}{l h q:Addr}{r:bO}(h1:r≠.cN i)(h2:r≠.bJ i)(h3:r≠.holds i):E6 g i l h q r=g r:=by unfold E6;rw[if_neg h1,if_neg h2,if_neg h3]
theorem Tv(z:Fz)(i:kN)(iv:Addr):(Tw z i iv).iv i=iv:=if_pos rfl
theorem Tu{z:Fz}{i j:kN}{iv:Addr}(h:j≠i):(Tw z i iv).iv j=z.iv j:=if_neg h
def Wb(b:Bs)(wk:Nat)(iv l h q dv:Addr)(A:Ad)(H2:Hp):Bs:={b with F:=aJ b.F iv (.bR A.dR dv (rS (.ref l) (.ref h) (.ref q))),H:=H2,g:=E6 b.g (.walk wk) l h q,z:=Tw b.z (.walk wk) iv,M:={b.M with az:=b.M.az++[(wk,[])]}}
theorem Vq{M:Bk}{wk:Nat}(hn:M.az.lookup wk=none)(i:kN):bV {M with az:=M.az++[(wk,[])]} i=if i=.walk wk then some []else bV M i:=by
 cases i with
 |walk v=>
  show(M.az++[(wk,[])]).lookup v=_;rw[gw _ _ _ _ hn];by_cases e:v=wk
  ·subst e;rw[if_pos rfl,if_pos rfl]
  ·rw[if_neg e,if_neg (fun z=>e (kN.walk.inj z))];rfl
 |bS=>rw[if_neg (by nofun)];rfl
 |boxes t=>rw[if_neg (by nofun)];rfl
 |bh s o=>rw[if_neg (by nofun)];rfl
theorem a0.newWalk{b:Bs}(B:a0 A b){wk:Nat}(hn:b.M.az.lookup wk=none){H1:Hp}{iv:Addr}(n:MY A b.H H1 iv):
  ∃b',a0 A b'∧dn A b b'∧b'.H=aJ H1 (b.g .az) (.dK ((b.M.az.map fun p=>((apT (p.1:Int):Key),V.ref (b.z.iv (.walk p.1))))++[(.inl (wk:Int),.ref iv)]))∧b'.M={b.M with az:=b.M.az++[(wk,[])]}∧b'.tx=b.tx∧b'.z.iv (.walk wk)=iv∧b'.z.run=b.z.run∧aV b.F b'.F:=by
 obtain⟨l,h,q,m⟩:=n.new;obtain⟨dv,ho⟩:=m.at_.obj;have hF:b.F iv=none:=B.same.free m.fi;have sF:aV b.F (aJ b.F iv (.bR A.dR dv (rS (.ref l) (.ref h) (.ref q)))):=gk hF;have pw:iW A b .az:=rfl;obtain⟨⟨ow,hw⟩,hwF⟩:=B.vc pw;have kn:∀p∈b.M.az,p.1≠wk:=fun p hp e=>(bK _ _).mp hn (apW.mpr ⟨p,hp,e⟩);have other:∀{r:bO} {o:HO},r≠.az→mc A b.g b.z b.M b.ta b.dX r=some o→aJ H1 (b.g .az) (.dK ((b.M.az.map fun p=>((apT (p.1:Int):Key),V.ref (b.z.iv (.walk p.1))))++[(.inl (wk:Int),.ref iv)])) (b.g r)=some o:=fun{r o} hr e=>by
  have pr:iW A b r:=by show arq _=true;rw[e];rfl
  rw[ai (fun z=>hr (B.inj r _ pr pw z))];exact n.same _ _ (B.mt r o e).1
 have wl:b.g .az≠l:=aj hw m.fl;have wh:b.g .az≠h:=aj hw m.fh;have wq:b.g .az≠q:=aj hw m.fq;have wi:b.g .az≠iv:=aj hw m.fi;have Tn:=Vq hn;have lo:iv≠l:=dy ho m.at_.lo nofun;have hi:iv≠h:=dy ho m.at_.hi nofun;have at':iv≠q:=dy ho m.at_.at_ nofun;have isN:∀r:bO,(r=.cN (.walk wk)∨r=.bJ (.walk wk)∨r=.holds (.walk wk))∨(r≠.cN (.walk wk)∧r≠.bJ (.walk wk)∧r≠.holds (.walk wk)):=fun r=>by
  by_cases h1:r=.cN (.walk wk)
  ·exact .inl (.inl h1)
  ·by_cases h2:r=.bJ (.walk wk)
   ·exact .inl (.inr (.inl h2))
   ·by_cases h3:r=.holds (.walk wk)
    ·exact .inl (.inr (.inr h3))
    ·exact .inr ⟨h1,h2,h3⟩
 have PP:a0 A (Wb b wk iv l h q dv A (aJ H1 (b.g .az) (.dK ((b.M.az.map fun p=>((apT (p.1:Int):Key),V.ref (b.z.iv (.walk p.1))))++[(.inl (wk:Int),.ref iv)]))))∧dn A b (Wb b wk iv l h q dv A (aJ H1 (b.g .az) (.dK ((b.M.az.map fun p=>((apT (p.1:Int):Key),V.ref (b.z.iv (.walk p.1))))++[(.inl (wk:Int),.ref iv)])))):=by
  refine B.change (b':=Wb b wk iv l h q dv A (aJ H1 (b.g .az) (.dK ((b.M.az.map fun p=>((apT (p.1:Int):Key),V.ref (b.z.iv (.walk p.1))))++[(.inl (wk:Int),.ref iv)]))))
   (fun r=>r=.cN (.walk wk)∨r=.bJ (.walk wk)∨r=.holds (.walk wk)) sF (fun a ha=>?_) (fun a o e=>?_) (fun r hr=>?_) (fun r hr=>?_) (fun r r' hr OO e=>?_) (fun r hp hr=>?_) (fun r o e=>?_) (fun a o e na=>?_) ?_ ⟨fun i OS=>?_,fun t T hT=>?_,fun t S hS=>?_,fun j r' OO=>?_,sF _ _ B.text⟩
  ·by_cases e:a=iv
   ·subst e;exact .inr m.fi
   ·left;have h':aJ b.F iv _ a≠none:=ha;rw[ai e]at h';exact h'
  ·have e':aJ b.F iv _ a=some o:=e;by_cases z:a=iv
   ·subst z;rw[au]at e';cases e';show aJ H1 (b.g .az) _ a=_;rw[ai (ap1 wi)];exact ho
   ·rw[ai z]at e';show aJ H1 (b.g .az) _ a=_;rw[ai (aj e' hwF)];exact n.same _ _ (B.same _ _ e')
  ·exact iI (fun z=>hr (.inl z)) (fun z=>hr (.inr (.inl z))) (fun z=>hr (.inr (.inr z)))
  ·show b.H (E6 b.g _ l h q r)=none∧aJ b.F iv _ (E6 b.g _ l h q r)=none;rcases hr with rfl|rfl|rfl
   ·rw[E4,ai (ap1 lo)];exact⟨m.fl,B.same.free m.fl⟩
   ·rw[E5,ai (ap1 hi)];exact⟨m.fh,B.same.free m.fh⟩
   ·rw[E3,ai (ap1 at')];exact⟨m.fq,B.same.free m.fq⟩
  ·have e':E6 b.g (.walk wk) l h q r=E6 b.g (.walk wk) l h q r':=e;obtain⟨n1,n2,n3⟩:=m.ne;rcases hr with rfl|rfl|rfl<;>rcases OO with rfl|rfl|rfl<;>first|rfl|(exfalso;simp only[E4,E5,E3]at e';first|exact n1 e'|exact n2 e'|exact n3 e'|exact n1 e'.symm|exact n2 e'.symm|exact n3 e'.symm)
  ·have h':(mc A (E6 b.g (.walk wk) l h q) (Tw b.z (.walk wk) iv) {b.M with az:=b.M.az++[(wk,[])]} b.ta b.dX r).isSome=true:=hp;show(mc A b.g b.z b.M b.ta b.dX r).isSome=true;cases r with
   |cN i=>
    have h2:((bV {b.M with az:=b.M.az++[(wk,[])]} i).map fun L=>HO.aN (L.map fun x=>V.int x.lo)).isSome=true:=h';rw[Tn,if_neg (fun z=>hr (.inl (by rw[z]))),apX]at h2;show((bV b.M i).map _).isSome=true;rw[apX];exact h2
   |bJ i=>
    have h2:((bV {b.M with az:=b.M.az++[(wk,[])]} i).map fun L=>HO.aN (L.map fun x=>V.int x.hi)).isSome=true:=h';rw[Tn,if_neg (fun z=>hr (.inr (.inl (by rw[z])))),apX]at h2;show((bV b.M i).map _).isSome=true;rw[apX];exact h2
   |holds i=>
    have h2:((bV {b.M with az:=b.M.az++[(wk,[])]} i).map fun L=>HO.aN (L.map fun x=>V.ref (b.z.run x.at_))).isSome=true:=h';rw[Tn,if_neg (fun z=>hr (.inr (.inr (by rw[z])))),apX]at h2;show((bV b.M i).map _).isSome=true;rw[apX];exact h2
   |aL=>rfl
   |bI=>rfl
   |ao=>rfl
   |ae=>rfl
   |az=>rfl
   |bj t=>exact h'
   |letters s=>
    have h2:((b.M.ae[s]?).map fun S=>HO.dK (S.aU.map fun p=>((apT (p.1:Int):Key),V.ref (E6 b.g (.walk wk) l h q (.aU s p.1))))).isSome=true:=h';show((b.M.ae[s]?).map _).isSome=true;rw[apX]at h2 ⊢;exact h2
   |aU s n=>exact h'
  ·have e':mc A (E6 b.g (.walk wk) l h q) (Tw b.z (.walk wk) iv) {b.M with az:=b.M.az++[(wk,[])]} b.ta b.dX r=some o:=e;show aJ H1 (b.g .az) _ (E6 b.g (.walk wk) l h q r)=some o;rcases isN r with hr|⟨h1,h2,h3⟩
   ·rcases hr with rfl|rfl|rfl
    ·have e2:(bV {b.M with az:=b.M.az++[(wk,[])]} (.walk wk)).map (fun L=>HO.aN (L.map fun x=>V.int x.lo))=some o:=e';rw[Tn,if_pos rfl]at e2;rw[E4,ai (ap1 wl),←e2];exact m.at_.lo
    ·have e2:(bV {b.M with az:=b.M.az++[(wk,[])]} (.walk wk)).map (fun L=>HO.aN (L.map fun x=>V.int x.hi))=some o:=e';rw[Tn,if_pos rfl]at e2;rw[E5,ai (ap1 wh),←e2];exact m.at_.hi
    ·have e2:(bV {b.M with az:=b.M.az++[(wk,[])]} (.walk wk)).map (fun L=>HO.aN (L.map fun x=>V.ref (b.z.run x.at_)))=some o:=e';rw[Tn,if_pos rfl]at e2;rw[E3,ai (ap1 wq),←e2];exact m.at_.at_
   ·rw[iI h1 h2 h3];cases r with
    |az=>
     rw[au];have e2:some (HO.dK ((b.M.az++[(wk,[])]).map fun(p:Nat×List (Iv Nat))=>((apT (p.1:Int):Key),V.ref ((Tw b.z (.walk wk) iv).iv (.walk p.1)))))=some o:=e';rw[←e2,apB];congr 3
     ·apply aqk;intro p hp;rw[Tu (fun z=>kn p hp (kN.walk.inj z))]
     ·show _=[((apT (wk:Int):Key),V.ref ((Tw b.z (.walk wk) iv).iv (.walk wk)))];rw[Tv]
    |aL=>
     refine other nofun ?_;rw[←e'];show some _=some _;congr 2
    |bI=>exact other nofun e'
    |ao=>exact other nofun e'
    |ae=>exact other nofun e'
    |cN i=>
     refine other nofun ?_;rw[←e'];show(bV _ i).map _=(bV _ i).map _;rw[Tn,if_neg (fun z=>h1 (by rw[z]))]
    |bJ i=>
     refine other nofun ?_;rw[←e'];show(bV _ i).map _=(bV _ i).map _;rw[Tn,if_neg (fun z=>h2 (by rw[z]))]
    |holds i=>
     refine other nofun ?_;rw[←e'];show(bV _ i).map _=(bV _ i).map _;rw[Tn,if_neg (fun z=>h3 (by rw[z]))];rfl
    |bj t=>exact other nofun e'
    |letters s=>
     refine other nofun ?_;rw[←e'];rfl
    |aU s n=>exact other nofun e'
  ·show aJ H1 (b.g .az) _ a=some o;rw[ai (ap1 (na _ pw))];exact n.same _ _ e
  ·show E6 b.g (.walk wk) l h q .aL=b.g .aL;exact iI nofun nofun nofun
  ·have h':(bV {b.M with az:=b.M.az++[(wk,[])]} i).isSome=true:=OS;rw[Tn]at h';show∃dx,aJ b.F iv _ ((Tw b.z (.walk wk) iv).iv i)=some (.bR A.dR dx (rS (.ref (E6 b.g (.walk wk) l h q (.cN i))) (.ref (E6 b.g (.walk wk) l h q (.bJ i))) (.ref (E6 b.g (.walk wk) l h q (.holds i)))));by_cases z:i=.walk wk
   ·subst z;rw[Tv,E4,E5,E3,au];exact⟨dv,rfl⟩
   ·rw[if_neg z]at h';obtain⟨vg,e⟩:=B.iv i h';rw[Tu z,iI (fun y=>z (bO.cN.inj y)) (by intro y;cases y) (by intro y;cases y),iI (by intro y;cases y) (fun y=>z (bO.bJ.inj y)) (by intro y;cases y),iI (by intro y;cases y) (by intro y;cases y) (fun y=>z (bO.holds.inj y))];exact⟨vg,sF _ _ e⟩
  ·obtain⟨vg,Jn,e1,e2⟩:=B.town t T hT;refine⟨vg,Jn,?_,sF _ _ e2⟩;exact sF _ _ e1
  ·obtain⟨vg,Jn,hl,e1,e2,e3⟩:=B.street t S hS;exact⟨vg,Jn,hl,sF _ _ e1,sF _ _ e2,sF _ _ e3⟩
  ·exact(B.run j r' OO).same sF
 exact⟨_,PP.1,PP.2,rfl,rfl,rfl,Tv _ _ _,rfl,sF⟩
local macro_rules|`(tactic|walk_at "o")=>zzR " vi KJ mU KH AV vj vX vW DN DM Ng vY BG DS KI AU Kn RR uz xH UG UD L7 Bb L6 Yk Yj kD"
theorem SX{α:Type}{l:List (Nat×α)}{n:Nat}(z:α)(f:α→α)(h:l.lookup n=none):bU (l++[(n,z)]) n z (fun _=>f z)=bU l n z f:=by
 have h1:(l++[(n,z)]).lookup n=some z:=by rw[gw _ _ _ _ h,if_pos rfl]
 unfold bU;rw[if_pos (by rw[h1];rfl),if_neg (by rw[h];simp),apB];congr 1
 ·conv=>rhs;rw[←asI l]
  apply aqk;intro p hp;rw[if_neg (fun e=>(bK _ _).mp h (apW.mpr ⟨p,hp,e⟩))];rfl
 ·simp
def F9(A:Ad):Sp:=fun vs H Q _=>∃lp rp b x na dx k,vs=[.ref (b.g .aL),.ref lp,.ref rp]∧a0 A b∧H=b.H∧lI A b.F lp na dx x∧rp=b.z.run k∧((c9 b.M (bD x)).Pairwise fun x y=>x.lo<y.lo)∧(c9 b.M (bD x)).length+2<sizeLine∧b.M.az.length+1<sizeLine∧(b.M.az.map (·.1)).Nodup∧
 ∀b',a0 A b'→dn A b b'→b'.M={b.M with az:=bU b.M.az (bD x) [] fun L=>bE L ⟨(bM x:Int),(bM x:Int)+x.points-1,k⟩}→b'.tx=b.tx→b'.z.run=b.z.run→Q .cx b'.H
theorem oX(T:Tx K mg A):bN P w K mg base fU 3 A.fP A.iz ["self","line","run"] (F9 A):=by
 have sc:=zj;have F:=T.oM.F;walk_at "f"
 ·obtain⟨lp,rp,b,x,na,dx,kk,rfl,_⟩:=h;rfl
 ·obtain⟨lp,rp,b,x,na,dx,kk,rfl,B,rfl,ig,rfl,hri,hz,hz2,nd,k⟩:=h;refine⟨_,(ag (aX (i:=3) sc.nd rfl (apN rfl) (UX ar4 atf vw (aq (pv 0) rfl) (af (aq (pv 1) rfl) (af (sS (k:=0) T hr.mn rfl) ax))))
 (aw (cQ (bg (pv 3) T.c.jx T.yb (uC T) hr.mn T.EF.b .nil aP (af (aq (pv 1) rfl) (af (aZ dS (aZ dD (aq (pv 1) rfl) (aq (pv 1) rfl)) ay) (af (pv 2) ax))))))),?_⟩
  walk_at "z";have hb:=B.aL;have dP:=(ig.same B.same).obj;unfold iS at dP;have hs:=sizeLine_eq;refine bt fun R n1=>?_;have key:∀b1 L,a0 A b1→dn A b b1→b1.M.az.lookup (bD x)=some L→L=c9 b.M (bD x)→b1.z.run=b.z.run→b1.tx=b.tx→(∀L',({b1.M with az:=bU b1.M.az (bD x) [] fun _=>bE L L'}:Bk)={b.M with az:=bU b.M.az (bD x) [] fun L=>bE L L'})→
    R [some (V.ref (b.g .aL)),some (V.ref lp),some (V.ref (b.z.run kk)),some (.ref (b1.z.iv (.walk (bD x))))] b1.H:=by
   intro b1 L B1 G1 hL eL ez et eM;walk_at "n";have Tt:bV b1.M (.walk (bD x))=some L:=hL;have I:=cS.EH B1 Tt;obtain⟨Wx,io⟩:=I.obj;have Bf:=cS.Vp B1 Tt;have yi:=(ig.same (G1.fs.trans B1.same)).obj;unfold iS at yi;walk_at "d";refine⟨_,_,_,_,rfl,_,_,_,_,I,yh (by rw[eL];exact hri),by rw[CV,eL];omega,Bf,?_⟩;obtain⟨P1,P2⟩:=B1.Hs Tt (bE L ⟨(bM x:Int),(bM x:Int)+x.points-1,kk⟩);have:=k _ P1 (G1.trans P2) (eM _) et ez;have e:pZ b1.H (b1.g (.cN (.walk (bD x)))) (b1.g (.bJ (.walk (bD x)))) (b1.g (.holds (.walk (bD x)))) (bE (wR b1.z.run L) ⟨(bM x:Int),(bM x:Int)+x.points-1,.ref (b.z.run kk)⟩)=pZ b1.H (b1.g (.cN (.walk (bD x)))) (b1.g (.bJ (.walk (bD x)))) (b1.g (.holds (.walk (bD x)))) (wR b1.z.run (bE L ⟨(bM x:Int),(bM x:Int)+x.points-1,kk⟩)):=by
    rw[←va,ez]
   rw[e];exact this
  have hw:=B.az;walk_at "d";intro H1 iv n;have ev:=gd (fun n _=>V.ref (b.z.iv (.walk n))) b.M.az (bD x);refine⟨_,n.same _ _ hw,by rw[apt];omega,fun v hv=>?_,fun hv=>?_⟩
  ·rw[ev]at hv;obtain⟨L,hL,rfl⟩:=apF.mp hv;refine key {b with H:=H1} L (B.on n.same) ⟨aV.refl _,fun a o e _=>n.same a o e,fun a h=>.inl h,rfl⟩ hL (by unfold c9;rw[hL];rfl) rfl rfl fun L'=>?_;show({b.M with az:=bU b.M.az (bD x) [] fun _=>bE L L'}:Bk)=_;rw[AE [] (fun L=>bE L L') nd hL]
  ·rw[ev]at hv;have hn:b.M.az.lookup (bD x)=none:=by
    cases q:b.M.az.lookup (bD x)with
    |none=>rfl
    |some L=>rw[q]at hv;cases hv
   rw[DT (fun n _=>V.ref (b.z.iv (.walk n))) b.M.az (bD x) (.ref iv) hn];obtain⟨b1,B1,G1,eH,eM,et,ei,er,sF⟩:=B.newWalk hn n;have hk:=key b1 [] B1 G1 (by rw[eM];show(b.M.az++[_]).lookup _=_;rw[gw _ _ _ _ hn,if_pos rfl]) (by unfold c9;rw[hn];rfl) er et fun L'=>by
    rw[eM];show({b.M with az:=bU (b.M.az++[(bD x,[])]) (bD x) [] fun _=>bE [] L'}:Bk)=_;rw[SX [] (fun L=>bE L L') hn]
   rw[ei,eH]at hk;exact hk
structure Sz(M:Bk):Prop where
 bS:M.bS.length≤M.aF.length
 az:M.az.length≤M.aF.length
 wk:∀w,(c9 M w).length≤M.aF.length
 bh:∀(s:Nat) S,M.ae[s]? =some S→S.tZ.length≤M.aF.length∧S.odd.length≤M.aF.length
 aU:∀(s:Nat) S,M.ae[s]? =some S→S.aU.length≤M.aF.length
 box:∀(t:Nat) T,M.ao[t]? =some T→T.boxes.length≤M.aF.length∧T.bj.length≤M.aF.length
theorem Y6:Sz Bk.empty:=⟨apE _,apE _,fun _=>apE _,fun _ _ h=>(by cases h),fun _ _ h=>(by cases h),fun _ _ h=>(by cases h)⟩
theorem AD{α:Type}(l:List (Nat×α))(k:Nat)(z:α)(f:α→α):(bU l k z f).length≤l.length+1:=by
 unfold bU;split
 ·rw[apt];omega
 ·rw[apr,ap5];omega
theorem BD(L:List (Iv Nat))(h:Option (Nat×Nat))(k:Nat):(iA L h k).length≤L.length+1:=by
 unfold iA;split
 ·rw[lO];omega
 ·omega
theorem Ks{M:Bk}(z:Sz M)(x:DLine)(w:Nat):(((jC M x).lookup w).getD []).length≤M.aF.length+1:=by
 unfold jC;rw[dE];by_cases e:w=bD x
 ·rw[if_pos e];show(bE _ _).length≤_;rw[lO];have:=z.wk (bD x);unfold c9 at this;omega
 ·rw[if_neg e];have:=z.wk w;unfold c9 at this;omega
theorem iH{α:Type}{l:List α}{i j:Nat}{f:α→α}{y:α}(h:(l.modify i f)[j]? =some y):∃x,l[j]? =some x∧(y=x∨y=f x):=by
 rw[aA]at h;by_cases e:j=i
 ·rw[if_pos e]at h;obtain⟨x,hx,rfl⟩:=apF.mp h;exact⟨x,hx,.inr rfl⟩
 ·rw[if_neg e]at h;exact⟨y,h,.inl rfl⟩
theorem EX{α:Type}{l:List α}{x y:α}{j:Nat}(h:(l++[x])[j]? =some y):l[j]? =some y∨y=x:=by
 by_cases e:j<l.length
 ·rw[aql e]at h;exact .inl h
 ·rw[aqh (by omega)]at h;by_cases z:j-l.length=0
  ·rw[z]at h;exact .inr (apC h).symm
  ·rw[aqJ (by simp;omega)]at h;cases h
theorem Sz.step{M:Bk}(z:Sz M)(x:DLine):Sz (M.add x):=by
 have l1:(M.aF++[x]).length=M.aF.length+1:=by rw[apr,ap5]
 have hr:=z.bS;have hw:=z.az;have Ws:=z.wk;cases x with
 |town l=>
  refine⟨?_,?_,fun w=>?_,fun s S h=>?_,fun s S h=>?_,fun t T h=>?_⟩
  ·show M.bS.length≤(M.aF++[_]).length;omega
  ·show M.az.length≤(M.aF++[_]).length;omega
  ·show(c9 M w).length≤(M.aF++[_]).length;have:=Ws w;omega
  ·have:=z.bh s S h;show _≤(M.aF++[_]).length∧_≤(M.aF++[_]).length;omega
  ·have:=z.aU s S h;show _≤(M.aF++[_]).length;omega
  ·show _≤(M.aF++[_]).length∧_≤(M.aF++[_]).length;rcases EX h with h|h
   ·have:=z.box t T h;omega
   ·subst h;exact⟨apV _,apV _⟩
 |code c=>
  refine⟨?_,?_,fun w=>?_,fun s S h=>?_,fun s S h=>?_,fun t T h=>?_⟩
  ·show M.bS.length≤(M.aF++[_]).length;omega
  ·show M.az.length≤(M.aF++[_]).length;omega
  ·show(c9 M w).length≤(M.aF++[_]).length;have:=Ws w;omega
  ·have:=z.bh s S h;show _≤(M.aF++[_]).length∧_≤(M.aF++[_]).length;omega
  ·have:=z.aU s S h;show _≤(M.aF++[_]).length;omega
  ·show _≤(M.aF++[_]).length∧_≤(M.aF++[_]).length;obtain⟨T0,hT,e⟩:=iH h;have:=z.box t T0 hT;rcases e with rfl|rfl
   ·omega
   ·have e2:(cV c T0).bj.length=T0.bj.length+1:=by show(T0.bj++[c]).length=_;rw[apr,ap5]
    have e1:(cV c T0).boxes=T0.boxes:=rfl;rw[e1,e2];omega
 |street l=>
  refine⟨?_,?_,fun w=>?_,fun s S h=>?_,fun s S h=>?_,fun t T h=>?_⟩
  ·show M.bS.length≤(M.aF++[_]).length;omega
  ·show M.az.length≤(M.aF++[_]).length;omega
  ·show(c9 M w).length≤(M.aF++[_]).length;have:=Ws w;omega
  ·show _≤(M.aF++[_]).length∧_≤(M.aF++[_]).length;rcases EX h with h|h
   ·have:=z.bh s S h;omega
   ·subst h;exact⟨apV _,apV _⟩
  ·show _≤(M.aF++[_]).length;rcases EX h with h|h
   ·have:=z.aU s S h;omega
   ·subst h;exact apV _
  ·have:=z.box t T h;show _≤(M.aF++[_]).length∧_≤(M.aF++[_]).length;omega
 |span s=>
  refine⟨?_,?_,fun w=>?_,fun u S h=>?_,fun u S h=>?_,fun t T h=>?_⟩
  ·show(bE M.bS _).length≤(M.aF++[_]).length;rw[lO];omega
  ·show(jC M _).length≤(M.aF++[_]).length;have:=AD M.az (bD (.span s)) [] (fun L=>bE L ⟨(bM (.span s):Int),(bM (.span s):Int)+(DLine.span s).points-1,M.aK.length⟩);unfold jC;omega
  ·show(((jC M (.span s)).lookup w).getD []).length≤(M.aF++[_]).length;have:=Ks z (.span s) w;omega
  ·show _≤(M.aF++[_]).length∧_≤(M.aF++[_]).length;obtain⟨S0,hS,e⟩:=iH h;have:=z.bh u S0 hS;rcases e with rfl|rfl
   ·omega
   ·have e1:=BD S0.tZ (Pb.Internal.bh s 0) M.aK.length;have e2:=BD S0.odd (Pb.Internal.bh s 1) M.aK.length;show(iA S0.tZ _ _).length≤_∧(iA S0.odd _ _).length≤_;omega
  ·show _≤(M.aF++[_]).length;obtain⟨S0,hS,e⟩:=iH h;have:=z.aU u S0 hS;rcases e with rfl|rfl
   ·omega
   ·show S0.aU.length≤_;omega
  ·have:=z.box t T h;show _≤(M.aF++[_]).length∧_≤(M.aF++[_]).length;omega
 |letters n c e'=>
  refine⟨?_,?_,fun w=>?_,fun u S h=>?_,fun u S h=>?_,fun t T h=>?_⟩
  ·show(bE M.bS _).length≤(M.aF++[_]).length;rw[lO];omega
  ·show M.az.length≤(M.aF++[_]).length;omega
  ·show(c9 M w).length≤(M.aF++[_]).length;have:=Ws w;omega
  ·show _≤(M.aF++[_]).length∧_≤(M.aF++[_]).length;obtain⟨S0,hS,e⟩:=iH h;have:=z.bh u S0 hS;rcases e with rfl|rfl
   ·omega
   ·show S0.tZ.length≤_∧S0.odd.length≤_;omega
  ·show _≤(M.aF++[_]).length;obtain⟨S0,hS,e⟩:=iH h;have:=z.aU u S0 hS;rcases e with rfl|rfl
   ·omega
   ·show(bU S0.aU n [] (·++d3 (c.toNat-96) (e'.toNat-96) M.points)).length≤_;have:=AD S0.aU n [] (·++d3 (c.toNat-96) (e'.toNat-96) M.points);omega
  ·have:=z.box t T h;show _≤(M.aF++[_]).length∧_≤(M.aF++[_]).length;omega
 |boxes y=>
  refine⟨?_,?_,fun w=>?_,fun u S h=>?_,fun u S h=>?_,fun t T h=>?_⟩
  ·show(bE M.bS _).length≤(M.aF++[_]).length;rw[lO];omega
  ·show(jC M _).length≤(M.aF++[_]).length;have:=AD M.az (bD (.boxes y)) [] (fun L=>bE L ⟨(bM (.boxes y):Int),(bM (.boxes y):Int)+(DLine.boxes y).points-1,M.aK.length⟩);unfold jC;omega
  ·show(((jC M (.boxes y)).lookup w).getD []).length≤(M.aF++[_]).length;have:=Ks z (.boxes y) w;omega
  ·have:=z.bh u S h;show _≤(M.aF++[_]).length∧_≤(M.aF++[_]).length;omega
  ·have:=z.aU u S h;show _≤(M.aF++[_]).length;omega
  ·show _≤(M.aF++[_]).length∧_≤(M.aF++[_]).length;obtain⟨T0,hT,e⟩:=iH h;have:=z.box t T0 hT;rcases e with rfl|rfl
   ·omega
   ·have e1:(fm y M.aK.length T0).boxes.length=T0.boxes.length+1:=lO _ _;have e2:(fm y M.aK.length T0).bj=T0.bj:=rfl;rw[e1,e2];omega
theorem a0.points{b:Bs}(B:a0 A b)(p:Nat):a0 A {b with H:=aJ b.H (b.g .aL) (.bR A.cb b.dX (SS b.g b.z {b.M with points:=p} b.ta)),M:={b.M with points:=p}}∧dn A b {b with H:=aJ b.H (b.g .aL) (.bR A.cb b.dX (SS b.g b.z {b.M with points:=p} b.ta)),M:={b.M with points:=p}}:=by
 refine B.one .aL {b.M with points:=p} rfl rfl (fun r hr=>?_) ⟨fun i h=>B.iv i (by cases i<;>exact h),B.town,B.street,B.run,B.text⟩;cases r with
 |aL=>exact absurd rfl hr
 |cN i=>cases i<;>rfl
 |bJ i=>cases i<;>rfl
 |holds i=>cases i<;>rfl
 |_=>rfl
def Wi(x:DLine):Prop:=(∃s,x=.span s)∨(∃n c e,x=.letters n c e)∨∃y,x=.boxes y
structure aaw(A:Ad)(b:Bs)(M:Bk)(d:aqG)(x:DLine):Prop where
 eq:b.M={M with aF:=M.aF++[x]}
 A6:cX d M
 sz:Sz M
 ok:x.ok=true
 aiJ:eu M x=true
 cl:clashes d x=false
theorem a0.W6{b:Bs}(B:a0 A b)(p:Nat):∃b',a0 A b'∧dn A b b'∧b'.H=aJ b.H (b.g .aL) (.bR A.cb b.dX (iV (.ref b.ta) (.int b.M.aF.length) (.ref (b.g .bI)) (.ref (b.g .ao)) (.ref (b.g .ae)) (kl b.z b.M) (eK b.z b.M) (.ref (b.g .az)) (.ref (b.z.iv .bS)) (.int p)))∧b'.M={b.M with points:=p}∧b'.z=b.z∧b'.tx=b.tx∧b'.F=b.F:=
 ⟨_,(B.points p).1,(B.points p).2,rfl,rfl,rfl,rfl,rfl⟩
def afa(M:Bk)(x:DLine):Option Nat:=match x with
 | .boxes _=>none
 |_=>some (bp M)
def vo(A:Ad):Sp:=fun vs H Q _=>∃lp b x na dx M d,vs=[.ref (b.g .aL),.ref lp]∧a0 A b∧H=b.H∧aaw A b M d x∧lI A b.F lp na dx x∧Wi x∧∀b',a0 A b'→dn A b b'→b'.M=M.add x→b'.tx=b.tx→Q .cx b'.H
theorem Pu{M:Bk}{l:aqG}(h:Tj M):Tj {M with aF:=l}:=⟨fun i L e=>h.iv i L (by cases i<;>exact e),h.src⟩
theorem zV(T:Tx K mg A):bN P w K mg base fU 5 A.fO A.iy ["self","line"] (vo A):=by
 have sc:=zi;have F:=T.vP.F;walk_at "f"
 ·obtain⟨lp,b,x,na,dx,M,d,rfl,_⟩:=h;rfl
 ·obtain⟨lp,b,x,na,dx,M,d,rfl,B,rfl,⟨eM,m,sz,ok,st,cl⟩,ig,Tp,k⟩:=h;refine⟨_,(ag (aX (i:=2) sc.nd rfl (apN rfl) (i9 (aD cy (aq (pv 1) rfl) aR (aH _)) (bz T.ku) (aZ dS (bH cv (by rfl) T.ft ap8 (af (aq (pv 0) rfl) ax)) ay)))
 (ag (aX (i:=3) sc.nd rfl (apN rfl) (xP T.ab1 (N0 T) hr.mn rfl T.ab9 T.Qh.b .nil aP (af (pv 1) (af (aZ dS (bH cv (by rfl) T.ft ap8 (af (aq (pv 0) rfl) ax)) ay) (af (pv 2) (af (aq (pv 0) rfl) ax))))))
 (ag (bo (aD cy (aq (pv 1) rfl) aR (aH _)) (ag (cQ (bg (aq (pv 0) rfl) T.c.lj T.Gq (D7 T) hr.mn T.AX.b .nil aP (af (pv 1) (af (pv 3) ax))))
 (aw (cQ (bg (pv 0) T.c.cO T.rg (oX T) hr.mn T.oM.b .nil aP (af (pv 1) (af (pv 3) ax)))))) (aw (bo (aD cy (aq (pv 1) rfl) aR (aH _)) (ag (aW (pv 3) (bg (aq (pv 0) rfl) T.c.lj T.j0 (ja T) hr.mn T.iY.b .nil aP (af (aq (pv 1) rfl) ax)) rfl)
 (aw (cQ (bg (aq (pv 0) rfl) T.c.lj T.Ac (xS T) hr.mn T.r9.b .nil aP (af (pv 1) (af (pv 3) ax)))))) (ag (cQ (bg (aq (aq (pv 0) rfl) rfl) T.c.jx T.yb (uC T) hr.mn T.EF.b .nil aP (af (aq (pv 1) rfl) (af (aq (pv 1) rfl) (af (pv 3) ax)))))
 (aw (cQ (bg (pv 0) T.c.cO T.rg (oX T) hr.mn T.oM.b .nil aP (af (pv 1) (af (pv 3) ax)))))))))
 (ag (Ht (pv 0) (aq (pv 1) rfl) OL)
 (aw (cQ (bg (aq (pv 0) rfl) T.c.jx T.yb (uC T) hr.mn T.EF.b .nil aP (af (aq (pv 3) rfl) (af (aZ dS (aq (pv 0) rfl) ay) (af (pv 3) ax)))))))))),?_⟩
  walk_at "z";have hb:=B.aL;have dP:=(ig.same B.same).obj;unfold iS at dP;have hs:=sizeLine_eq;have hll:M.aF.length≤4096:=by rw[m.aF];exact(d6 m.dA).1
  have To:M.ao≠[]:=lQ m st (fun l=>by rcases Tp with⟨s,e⟩|⟨n,c,e',e⟩|⟨y,e⟩<;>(rw[e];intro z;cases z));have eT:b.M.ao=M.ao:=by rw[eM]
  have eS:b.M.ae=M.ae:=by rw[eM]
  have eP:b.M.points=M.points:=by rw[eM]
  have Sh:0<M.ao.length:=aq1.mpr To;have hTs:=B.ao;have hSs:=B.ae;rw[eT]at hTs;rw[eS]at hSs;have lT:=mf b.z.town M.ao.length;have lS:=mf b.z.street M.ae.length;have iT:((M.ao.length:Int)-1)=((aO M:Nat):Int):=by unfold aO;omega
  rw[dN (by rw[eT];exact To),eP]at hb;refine bt fun R n1=>?_;have nxt:∀so:Option Nat,afa M x=so→R [some (V.ref (b.g .aL)),some (V.ref lp),some (V.int (yP so)),none] b.H:=by
   intro so ZZ;walk_at "n";walk_at "g";intro rp dr nx nd ne;refine⟨rp,_,_,_,_,rfl,dr,au,rfl,n1.go _ _ ?_⟩;clear n1 R;rw[j5];have s1:aV b.H (aJ (aJ b.H dr (.own rp)) rp (.bR A.gZ dr (xh (.ref lp) (.int (aO M)) (.int (yP so)) (.int M.points) .cx))):=aV.new nx nd;have XC:aJ (aJ b.H dr (.own rp)) rp (.bR A.gZ dr (xh (.ref lp) (.int (aO M)) (.int (yP so)) (.int M.points) .cx)) rp=some (.bR A.gZ dr (xh (.ref lp) (.int (aO M)) (.int (yP so)) (.int M.points) .cx)):=au;have hu:∀o,aJ (aJ (aJ b.H dr (.own rp)) rp (.bR A.gZ dr (xh (.ref lp) (.int (aO M)) (.int (yP so)) (.int M.points) .cx))) rp o=aJ (aJ b.H dr (.own rp)) rp o:=fun o=>j5;generalize aJ (aJ b.H dr (.own rp)) rp (.bR A.gZ dr (xh (.ref lp) (.int (aO M)) (.int (yP so)) (.int M.points) .cx))=H1 at s1 XC hu ⊢;refine bt fun R n1=>?_;have tail:∀(r:fD) (src:V) (b3:Bs),a0 A b3→dn A b b3→b3.M.points=M.points→b3.M.bS=M.bS→b3.z.run M.aK.length=rp→rP A b3.F rp r src→r.jD=M.points→b3.tx=b.tx→
     ({b3.M with points:=M.points+x.points,bS:=bE M.bS ⟨(M.points:Int),(M.points:Int)+x.points-1,M.aK.length⟩}:Bk)=M.add x→
     R [some (V.ref (b.g .aL)),some (V.ref lp),some (V.int (yP so)),some (V.ref rp)] b3.H:=by
    intro r src b3 B3 G3 e1 e2 e3 Gz e4 e5 e6;walk_at "n";have Yo:=B3.aL;rw[G3.bk,e1]at Yo;have ahz:=(ig.same (G3.fs.trans B3.same)).obj;unfold iS at ahz;walk_at "g";walk_at "n";obtain⟨b4,B4,G4,h1,h2,h3,h4,h5⟩:=B3.W6 (M.points+x.points);rw[G3.bk,asm]at h1;rw[←h1];clear h1;have hb4:=B4.aL;rw[G4.bk,G3.bk,show b4.M.points=M.points+x.points by rw[h2]]at hb4;have eR:bV b4.M .bS=some M.bS:=by show some b4.M.bS=_;rw[h2];show some b3.M.bS=_;rw[e2]
    have I:=cS.EH B4 eR;obtain⟨Wx,io⟩:=I.obj;have Bf:=cS.Vp B4 eR;rw[←h5]at Gz;obtain⟨dxr,la,nar,ldr,Ym,_⟩:=(Gz.same B4.same).ex;rw[e4]at Ym;have ei:((M.points+x.points:Nat):Int)-1=(M.points:Int)+x.points-1:=by omega
    obtain⟨P1,P2⟩:=B4.Hs eR (bE M.bS ⟨(M.points:Int),(M.points:Int)+x.points-1,M.aK.length⟩);have kk:=k _ P1 ((G3.trans G4).trans P2) (by
     show({b4.M with bS:=bE M.bS ⟨(M.points:Int),(M.points:Int)+x.points-1,M.aK.length⟩}:Bk)=_;rw[h2,←e6]) (by show b4.tx=_;rw[h4,e5])
    rw[h3]at I kk io;have e3':=e3;clear e3;have eA:=va b3.z.run M.bS ⟨(M.points:Int),(M.points:Int)+x.points-1,M.aK.length⟩;rw[←eA,e3']at kk;walk_at "d";refine⟨_,_,_,_,rfl,_,_,_,_,I,yh m.R.ok.DR,by rw[CV];have:=sz.bS;omega,Bf,?_⟩;exact kk
   have yi:=s1 _ _ dP;have QU:=s1 _ _ hb;have B1:=B.on s1;have aok:Tj b.M:=by rw[eM];exact Pu m.ail
   have eR:b.M.aK.length=M.aK.length:=by rw[eM]
   rcases Tp with⟨s0,rfl⟩|⟨n,c,e,rfl⟩|⟨y,rfl⟩
   ·have hk:df (.span s0)="span":=rfl;rw[hk]at yi;have Vv:some (bp M)=so:=ZZ;have q:=v7 st;obtain⟨S0,hS, -⟩:=m.street q;rw[fw (by rw[eM];exact q)]at QU;obtain⟨b2,B2,G2,f1,f2,f3,f4,f5,f6,f7⟩:=B.Og aok s1 (r:=⟨.span s0,aO M,so,M.points,none⟩) nx ig XC (fun k' z=>by cases z);have eL:bp b.M=bp M:=by rw[eM];rfl
    have hS2:b2.M.ae[bp M]? =some S0:=by rw[f2];show b.M.ae[_]? =_;rw[eS];exact hS
    obtain⟨dxs,Zt,hls,M5,es2,es3⟩:=B.street (bp M) S0 (by rw[eS];exact hS);have Si:=s1 _ _ (B.same _ _ M5);rw[eL]at QU;have ez:b2.z.street=b.z.street:=by rw[f5];rfl
    walk_at "d";obtain⟨z1,z2⟩:=sz.bh _ S0 hS;have Xw:b2.z.run M.aK.length=rp:=by rw[f5];show(if M.aK.length=b.M.aK.length then rp else _)=rp;rw[eR,if_pos rfl]
    refine⟨_,lp,rp,rfl,b2,bp M,S0,s0,na,dx,M.aK.length,B2,f1.symm,⟨hS2,by rw[ez]⟩,ig.same G2.fs,fz.mp ok,Xw.symm,fun o=>(m.S.Xe hS o).DR,fun o=>?_,fun b3 B3 G3 g1 g2 g3=>?_⟩
    ·unfold hv;split<;>omega
    ·have Yo:=B3.aL;rw[G3.bk,G2.bk]at Yo;have ew2:b3.M.az=M.az:=by rw[g1,f2,eM]
     have ew:c9 b3.M (bD (.span s0))=CL M.az (bD (.span s0)):=by unfold c9 CL;rw[ew2]
     refine⟨_,_,Yo,rfl,lp,rp,b3,.span s0,na,dx,M.aK.length,by rw[G3.bk,G2.bk],B3,rfl,ig.same (G2.fs.trans G3.fs),by rw[g2];exact Xw.symm,?_,?_,?_,?_,fun b4 B4 G4 h1 h2 h3=>?_⟩
     ·rw[ew];exact(m.W.Xd _).DR
     ·rw[ew];have:=sz.wk (bD (.span s0));show(c9 M (bD (.span s0))).length+2<_;omega
     ·rw[ew2];have:=sz.az;omega
     ·rw[ew2];exact m.W.nd
     ·refine tail ⟨.span s0,aO M,so,M.points,none⟩ (p7 b2.z ⟨.span s0,aO M,so,M.points,none⟩) b4 B4 ((G2.trans G3).trans G4) ?_ ?_ ?_ (f7.same (G3.fs.trans G4.fs)) rfl ?_ ?_
      ·rw[h1,g1,f2,eM]
      ·rw[h1,g1,f2,eM]
      ·rw[h3,g2];exact Xw
      ·rw[h2,g3,f3]
      ·rw[h1,g1,f2,eM,←Vv];rfl
   ·have hk:df (.letters n c e)="letters":=rfl;rw[hk]at yi;have Vv:some (bp M)=so:=ZZ;obtain⟨q,S0,k0,hS,Z5⟩:=oa st;have Z9:=hb;rw[fw (by rw[eM];exact q)]at QU Z9;have eL:bp b.M=bp M:=by rw[eM];rfl
    rw[eL]at QU Z9;obtain⟨dxs,Zt,hls,M5,es2,es3⟩:=B.street (bp M) S0 (by rw[eS];exact hS);have Si:=s1 _ _ (B.same _ _ M5);walk_at "d";refine⟨_,n,rfl,{b with H:=H1},bp M,S0,B1,rfl,⟨by show b.M.ae[_]? =_;rw[eS];exact hS,rfl⟩,m.S.Xe hS _,?_⟩;have ek:kV b.z (cD S0 n)=.ref (b.z.run k0):=by rw[Z5];rfl
    show(fun y H1=>_) (kV b.z (cD S0 n)) H1;rw[ek];have ahF:k0<b.M.aK.length:=by
     unfold cD at Z5;obtain⟨iv,Tr,rfl⟩:=apF.mp Z5;exact aok.iv (.bh (bp M) (n % 2)) (hv S0 (n % 2)) (B.bh (by rw[eS];exact hS) (arP _ (by decide))) iv (qD Tr).1
    have s2:aV b.H (aJ (aJ b.H dr (.own rp)) rp (.bR A.gZ dr (xh (.ref lp) (.int (aO M)) (.int (yP so)) (.int M.points) (.ref (b.z.run k0))))):=aV.new nx nd;refine⟨_,_,_,XC,C.V4,C.g4,IX .. ▸trivial,?_⟩;rw[sG,hu];obtain⟨b2,B2,G2,f1,f2,f3,f4,f5,f6,f7⟩:=B.Og aok s2 (r:=⟨.letters n c e,aO M,so,M.points,some k0⟩) nx ig au (fun k' z=>by cases z;exact ahF);have hS2:b2.M.ae[bp M]? =some S0:=by rw[f2];show b.M.ae[_]? =_;rw[eS];exact hS
    have ez:b2.z.street=b.z.street:=by rw[f5];rfl
    have Xw:b2.z.run M.aK.length=rp:=by rw[f5];show(if M.aK.length=b.M.aK.length then rp else _)=rp;rw[eR,if_pos rfl]
    have M4:=vL m q hS (e9.mp ok);rw[cl]at M4;have z1:=sz.aU _ S0 hS;have z2:=m.LX hS n;refine⟨_,_,_,s2 _ _ Z9,C.cO,C.d4,_,rfl,_,rfl,_,_,s2 _ _ (B.same _ _ M5),rfl,?_⟩;refine⟨_,lp,rp,rfl,b2,bp M,S0,n,c,e,na,dx,⟨.letters n c e,aO M,so,M.points,some k0⟩,_,B2,f1.symm,⟨hS2,by rw[ez]⟩,ig.same G2.fs,e9.mp ok,f7,fun l l1 l2=>?_,by omega,by omega,(m.S.ln S0 (aps hS)).1,fun b3 B3 G3 g1 g2 g3=>?_⟩
    ·obtain⟨_,_,o3,o4,o5⟩:=e9.mp ok;have:=arA.mp M4 (l-(c.toNat-96)) (by rw[apP];omega);rw[show c.toNat-96+(l-(c.toNat-96))=l by omega]at this;cases z:(aS S0 n).lookup l with
     |none=>rfl
     |some i=>rw[z]at this;exact absurd rfl this
    ·refine tail ⟨.letters n c e,aO M,so,M.points,some k0⟩ (p7 b2.z ⟨.letters n c e,aO M,so,M.points,some k0⟩) b3 B3 (G2.trans G3) ?_ ?_ ?_ (f7.same G3.fs) rfl ?_ ?_
     ·rw[g1,f2,eM]
     ·rw[g1,f2,eM]
     ·rw[g2];exact Xw
     ·rw[g3,f3]
     ·rw[g1,f2,eM,←Vv];have es:((M.ae[bp M]?).bind fun S=>cD S n)=some k0:=by rw[hS];exact Z5
      show _=({FH M (.letters n c e) (some (bp M)) ((M.ae[bp M]?).bind fun S=>cD S n)with ae:=M.ae.modify (bp M) (cU n (c.toNat-96) (e.toNat-96) M.points)}:Bk);rw[es];rfl
   ·have hk:df (.boxes y)="boxes":=rfl;rw[hk]at yi;have Vv:none=so:=ZZ;obtain⟨T0,hT, -⟩:=m.town To;have eL:aO b.M=aO M:=by rw[eM];rfl
    rw[eL]at QU;obtain⟨b2,B2,G2,f1,f2,f3,f4,f5,f6,f7⟩:=B.Og aok s1 (r:=⟨.boxes y,aO M,so,M.points,none⟩) nx ig XC (fun k' z=>by cases z);have hT2:b2.M.ao[aO M]? =some T0:=by rw[f2];show b.M.ao[_]? =_;rw[eT];exact hT
    obtain⟨dxt,nat,VP,XO⟩:=B.town (aO M) T0 (by rw[eT];exact hT);have QL:=s1 _ _ (B.same _ _ VP);have eI:bV b2.M (.boxes (aO M))=some T0.boxes:=by show(b2.M.ao[aO M]?).map _=_;rw[hT2];rfl
    have I:=cS.EH B2 eI;have Bf:=cS.Vp B2 eI;have Xw:b2.z.run M.aK.length=rp:=by rw[f5];show(if M.aK.length=b.M.aK.length then rp else _)=rp;rw[eR,if_pos rfl]
    have ezi:b2.z.iv (.boxes (aO M))=b.z.iv (.boxes (aO M)):=by rw[f5];rfl
    rw[f1,ezi]at I;obtain⟨Wx,io⟩:=I.obj;walk_at "d";have Wv:=B2.aL;rw[G2.bk,f1]at Wv;obtain⟨z1, -⟩:=sz.box _ T0 hT;refine⟨_,_,_,_,rfl,_,_,_,_,I,yh (m.T.ok T0 (aps hT)).DR,by rw[CV];omega,Bf,?_⟩;obtain⟨P1,P2⟩:=B2.Hs eI (bE T0.boxes ⟨(y.a:Int),(y.b:Int),M.aK.length⟩);have eA:=va b2.z.run T0.boxes ⟨(y.a:Int),(y.b:Int),M.aK.length⟩;obtain⟨b3,B3,G3,g0,g1,g2,g3⟩:∃b3,a0 A b3∧dn A b2 b3∧b3.H=pZ b2.H (b2.g (.cN (.boxes (aO M)))) (b2.g (.bJ (.boxes (aO M)))) (b2.g (.holds (.boxes (aO M)))) (wR b2.z.run (bE T0.boxes ⟨(y.a:Int),(y.b:Int),M.aK.length⟩))∧b3.M=dG b2.M (.boxes (aO M)) (bE T0.boxes ⟨(y.a:Int),(y.b:Int),M.aK.length⟩)∧b3.z=b2.z∧b3.tx=b2.tx:=⟨_,P1,P2,rfl,rfl,rfl,rfl⟩;clear P1 P2;rw[←eA,f1,Xw]at g0;have g0':pZ H1 (b2.g (.cN (.boxes (aO M)))) (b2.g (.bJ (.boxes (aO M)))) (b2.g (.holds (.boxes (aO M)))) (bE (wR b2.z.run T0.boxes) ⟨(fB (.boxes y):Int),(QA (.boxes y):Int),V.ref rp⟩)=b3.H:=g0.symm;rw[g0'];have Yo:=B3.aL;rw[G3.bk,G2.bk]at Yo;have ew2:b3.M.az=M.az:=by rw[g1];show b2.M.az=_;rw[f2,eM]
    have ew:c9 b3.M (bD (.boxes y))=CL M.az (bD (.boxes y)):=by unfold c9 CL;rw[ew2]
    refine⟨_,_,Yo,rfl,lp,rp,b3,.boxes y,na,dx,M.aK.length,by rw[G3.bk,G2.bk],B3,rfl,ig.same (G2.fs.trans G3.fs),by rw[g2];exact Xw.symm,?_,?_,?_,?_,fun b4 B4 G4 h1 h2 h3=>?_⟩
    ·rw[ew];exact(m.W.Xd _).DR
    ·rw[ew];have:=sz.wk (bD (.boxes y));show(c9 M (bD (.boxes y))).length+2<_;omega
    ·rw[ew2];have:=sz.az;omega
    ·rw[ew2];exact m.W.nd
    ·refine tail ⟨.boxes y,aO M,so,M.points,none⟩ (p7 b2.z ⟨.boxes y,aO M,so,M.points,none⟩) b4 B4 ((G2.trans G3).trans G4) ?_ ?_ ?_ (f7.same (G3.fs.trans G4.fs)) rfl ?_ ?_
     ·rw[h1];show b3.M.points=_;rw[g1];show b2.M.points=_;rw[f2,eM]
     ·rw[h1];show b3.M.bS=_;rw[g1];show b2.M.bS=_;rw[f2,eM]
     ·rw[h3,g2];exact Xw
     ·rw[h2,g3,f3]
     ·rw[h1,g1,f2,eM,←Vv];show({M with aF:=M.aF++[.boxes y],ao:=M.ao.modify (aO M) fun T=>{T with boxes:=bE T0.boxes ⟨(y.a:Int),(y.b:Int),M.aK.length⟩},az:=_,bS:=_,aK:=_,points:=_}:Bk)={FH M (.boxes y) none none with ao:=M.ao.modify (aO M) (fm y M.aK.length),az:=jC M (.boxes y)};have et:(M.ao.modify (aO M) fun T=>{T with boxes:=bE T0.boxes ⟨(y.a:Int),(y.b:Int),M.aK.length⟩})=M.ao.modify (aO M) (fm y M.aK.length):=jZ hT rfl;rw[et];rfl
  walk_at "d";rcases Tp with⟨s0,rfl⟩|⟨n,c,e,rfl⟩|⟨y,rfl⟩
  ·have q:=v7 st;have h0:0<M.ae.length:=aq1.mpr (m.BH q).1;rw[if_neg (c:=df (.span s0)=aqQ "boxes") (by show¬(aqQ "span"=aqQ "boxes");decide),show((M.ae.length:Int)-1)=yP (some (bp M)) by show _=((bp M:Nat):Int);unfold bp;omega];exact nxt _ rfl
  ·have q:=(oa st).1;have h0:0<M.ae.length:=aq1.mpr (m.BH q).1;rw[if_neg (c:=df (.letters n c e)=aqQ "boxes") (by show¬(aqQ "letters"=aqQ "boxes");decide),show((M.ae.length:Int)-1)=yP (some (bp M)) by show _=((bp M:Nat):Int);unfold bp;omega];exact nxt _ rfl
  ·rw[if_pos (show df (.boxes y)="boxes" from rfl)];exact nxt none rfl
theorem Ph(d:aqG)(x:DLine):∃c:Nat,vS (c7 d) (df x)=some (.int (c:Int))∧mh (c7 d) (.inr (df x)) (.int ((c:Int)+1))=c7 (d++[x]):=by
 have e1:∀y:DLine,townsIn (d++[y])=townsIn d+([y].filter isTown).length:=fun y=>by unfold townsIn;rw[atl,apr]
 have e2:∀y:DLine,(codesIn (d++[y])).length=(codesIn d).length+(codesIn [y]).length:=fun y=>by unfold codesIn;rw[aqp,apr]
 have e3:∀y:DLine,streetsIn (d++[y])=streetsIn d+([y].filter isStreet).length:=fun y=>by unfold streetsIn;rw[atl,apr]
 have e4:∀y:DLine,(spansIn (d++[y])).length=(spansIn d).length+(spansIn [y]).length:=fun y=>by unfold spansIn;rw[aqp,apr]
 have e5:∀y:DLine,((d++[y]).filter aqD).length=(d.filter aqD).length+([y].filter aqD).length:=fun y=>by rw[atl,apr]
 have e6:∀y:DLine,(boxesIn (d++[y])).length=(boxesIn d).length+(boxesIn [y]).length:=fun y=>by unfold boxesIn;rw[aqp,apr]
 cases x with
 |town l=>
  refine⟨townsIn d,rfl,?_⟩;show[((apY "town":Key),V.int ((townsIn d:Int)+1)),((apY "code":Key),V.int (((codesIn d).length:Int))),((apY "street":Key),V.int ((streetsIn d:Int))),((apY "span":Key),V.int (((spansIn d).length:Int))),((apY "letters":Key),V.int (((d.filter aqD).length:Int))),((apY "boxes":Key),V.int (((boxesIn d).length:Int)))]=_;unfold c7;rw[e1,e2,e3,e4,e5,e6];rfl
 |code c=>
  refine⟨(codesIn d).length,rfl,?_⟩;show[((apY "town":Key),V.int ((townsIn d:Int))),((apY "code":Key),V.int (((codesIn d).length:Int)+1)),((apY "street":Key),V.int ((streetsIn d:Int))),((apY "span":Key),V.int (((spansIn d).length:Int))),((apY "letters":Key),V.int (((d.filter aqD).length:Int))),((apY "boxes":Key),V.int (((boxesIn d).length:Int)))]=_;unfold c7;rw[e1,e2,e3,e4,e5,e6];rfl
 |street l=>
  refine⟨streetsIn d,rfl,?_⟩;show[((apY "town":Key),V.int ((townsIn d:Int))),((apY "code":Key),V.int (((codesIn d).length:Int))),((apY "street":Key),V.int ((streetsIn d:Int)+1)),((apY "span":Key),V.int (((spansIn d).length:Int))),((apY "letters":Key),V.int (((d.filter aqD).length:Int))),((apY "boxes":Key),V.int (((boxesIn d).length:Int)))]=_;unfold c7;rw[e1,e2,e3,e4,e5,e6];rfl
 |span s=>
  refine⟨(spansIn d).length,rfl,?_⟩;show[((apY "town":Key),V.int ((townsIn d:Int))),((apY "code":Key),V.int (((codesIn d).length:Int))),((apY "street":Key),V.int ((streetsIn d:Int))),((apY "span":Key),V.int (((spansIn d).length:Int)+1)),((apY "letters":Key),V.int (((d.filter aqD).length:Int))),((apY "boxes":Key),V.int (((boxesIn d).length:Int)))]=_;unfold c7;rw[e1,e2,e3,e4,e5,e6];rfl
 |letters n c e=>
  refine⟨(d.filter aqD).length,rfl,?_⟩;show[((apY "town":Key),V.int ((townsIn d:Int))),((apY "code":Key),V.int (((codesIn d).length:Int))),((apY "street":Key),V.int ((streetsIn d:Int))),((apY "span":Key),V.int (((spansIn d).length:Int))),((apY "letters":Key),V.int (((d.filter aqD).length:Int)+1)),((apY "boxes":Key),V.int (((boxesIn d).length:Int)))]=_;unfold c7;rw[e1,e2,e3,e4,e5,e6];rfl
 |boxes y=>
  refine⟨(boxesIn d).length,rfl,?_⟩;show[((apY "town":Key),V.int ((townsIn d:Int))),((apY "code":Key),V.int (((codesIn d).length:Int))),((apY "street":Key),V.int ((streetsIn d:Int))),((apY "span":Key),V.int (((spansIn d).length:Int))),((apY "letters":Key),V.int (((d.filter aqD).length:Int))),((apY "boxes":Key),V.int (((boxesIn d).length:Int)+1))]=_;unfold c7;rw[e1,e2,e3,e4,e5,e6];rfl
theorem a0.aF{b:Bs}(B:a0 A b)(x:DLine):∃b',a0 A b'∧dn A b b'∧b'.H=aJ (aJ b.H (b.g .aL) (.bR A.cb b.dX (iV (.ref b.ta) (.int ((b.M.aF.length:Int)+1)) (.ref (b.g .bI)) (.ref (b.g .ao)) (.ref (b.g .ae)) (kl b.z b.M) (eK b.z b.M) (.ref (b.g .az)) (.ref (b.z.iv .bS)) (.int b.M.points)))) (b.g .bI) (.dK (c7 (b.M.aF++[x])))∧b'.M={b.M with aF:=b.M.aF++[x]}∧b'.tx=b.tx∧b'.z=b.z∧b'.F=b.F∧b'.g=b.g∧b'.dX=b.dX∧b'.ta=b.ta:=by
 have pb:iW A b .aL:=rfl;have pc:iW A b .bI:=rfl;have bF:=(B.vc pb).2;have cF:=(B.vc pc).2;have nbc:b.g .aL≠b.g .bI:=fun z=>by cases B.inj _ _ pb pc z
 have aci:∀r,r≠.aL→r≠.bI→mc A b.g b.z {b.M with aF:=b.M.aF++[x]} b.ta b.dX r=mc A b.g b.z b.M b.ta b.dX r:=fun r h1 h2=>by
  cases r with
  |aL=>exact absurd rfl h1
  |bI=>exact absurd rfl h2
  |cN i=>cases i<;>rfl
  |bJ i=>cases i<;>rfl
  |holds i=>cases i<;>rfl
  |_=>rfl
 have PP:=B.change (b':={b with H:=aJ (aJ b.H (b.g .aL) (.bR A.cb b.dX (iV (.ref b.ta) (.int ((b.M.aF.length:Int)+1)) (.ref (b.g .bI)) (.ref (b.g .ao)) (.ref (b.g .ae)) (kl b.z b.M) (eK b.z b.M) (.ref (b.g .az)) (.ref (b.z.iv .bS)) (.int b.M.points)))) (b.g .bI) (.dK (c7 (b.M.aF++[x]))),M:={b.M with aF:=b.M.aF++[x]}})
  (fun _=>False) (aV.refl _) (fun a h=>.inl h) (fun a o e=>by
   show aJ (aJ b.H (b.g .aL) _) (b.g .bI) _ a=some o;rw[ai (aj e cF),ai (aj e bF)];exact B.same _ _ e) (fun r _=>rfl) (fun r h=>h.elim) (fun r r' h=>h.elim) (fun r h _=>by
   by_cases h1:r=.aL
   ·rw[h1];exact pb
   ·by_cases h2:r=.bI
    ·rw[h2];exact pc
    ·have h':(mc A b.g b.z {b.M with aF:=b.M.aF++[x]} b.ta b.dX r).isSome=true:=h;rw[aci r h1 h2]at h';exact h') (fun r o e=>by
   have e':mc A b.g b.z {b.M with aF:=b.M.aF++[x]} b.ta b.dX r=some o:=e;show aJ (aJ b.H (b.g .aL) _) (b.g .bI) _ (b.g r)=some o;by_cases h1:r=.aL
   ·subst h1;rw[ai nbc,au,←e'];show some (HO.bR _ _ (iV _ _ _ _ _ _ _ _ _ _))=some (HO.bR _ _ (iV _ (.int ((b.M.aF++[x]).length:Int)) _ _ _ _ _ _ _ _));rw[apr];rfl
   ·by_cases h2:r=.bI
    ·subst h2;rw[au];exact e'
    ·rw[aci r h1 h2]at e';have pr:iW A b r:=by show arq _=true;rw[e'];rfl
     rw[ai (fun z=>h2 (B.inj _ _ pr pc z)),ai (fun z=>h1 (B.inj _ _ pr pb z))];exact(B.mt r o e').1) (fun a o e n=>by
   show aJ (aJ b.H (b.g .aL) _) (b.g .bI) _ a=some o;rw[ai (ap1 (n _ pc)),ai (ap1 (n _ pb))];exact e) rfl ⟨fun i h=>B.iv i (by cases i<;>exact h),B.town,B.street,B.run,B.text⟩
 exact⟨_,PP.1,PP.2,rfl,rfl,rfl,rfl,rfl,rfl,rfl,rfl⟩
def XM(g:bO→Addr)(r0:bO)(a:Addr):bO→Addr:=fun r=>if r=r0 then a else g r
theorem VH(g:bO→Addr)(r0:bO)(a:Addr):XM g r0 a r0=a:=if_pos rfl
theorem Q7{g:bO→Addr}{r0 r:bO}{a:Addr}(h:r≠r0):XM g r0 a r=g r:=if_neg h
def GC(g:bO→Addr)(t:Nat)(c l h q:Addr):bO→Addr:=E6 (XM g (.bj t) c) (.boxes t) l h q
def WA(z:Fz)(t:Nat)(p iv:Addr):Fz:={Tw z (.boxes t) iv with town:=fun j=>if j=t then p else z.town j}
def NTw(t:Nat)(r:bO):Prop:=r=.bj t∨r=.cN (.boxes t)∨r=.bJ (.boxes t)∨r=.holds (.boxes t)
theorem tR{g:bO→Addr}{t:Nat}{c l h q:Addr}{r:bO}(n:¬NTw t r):GC g t c l h q r=g r:=by
 unfold GC;rw[iI (fun z=>n (.inr (.inl z))) (fun z=>n (.inr (.inr (.inl z)))) (fun z=>n (.inr (.inr (.inr z)))),Q7 (fun z=>n (.inl z))]
theorem QZ(g:bO→Addr)(t:Nat)(c l h q:Addr):GC g t c l h q (.bj t)=c:=by
 unfold GC;rw[iI (by nofun) (by nofun) (by nofun),VH]
theorem QX(g:bO→Addr)(t:Nat)(c l h q:Addr):GC g t c l h q (.cN (.boxes t))=l:=E4 ..
theorem QY(g:bO→Addr)(t:Nat)(c l h q:Addr):GC g t c l h q (.bJ (.boxes t))=h:=E5 ..
theorem QW(g:bO→Addr)(t:Nat)(c l h q:Addr):GC g t c l h q (.holds (.boxes t))=q:=E3 ..
def Tg(M:Bk)(nm:List Name):Bk:={M with ao:=M.ao++[⟨nm,[],[]⟩],aY:=false}
theorem gy{α:Type}{l:List α}{x:α}{j:Nat}(h:j≠l.length):(l++[x])[j]? =l[j]? :=by
 by_cases e:j<l.length
 ·rw[aql e]
 ·rw[aqJ (by rw[apr,ap5];omega),aqJ (by omega)]
theorem d7{α:Type}{l:List α}{x:α}:(l++[x])[l.length]? =some x:=by
 rw[aqh (apE _),atJ];rfl
theorem JD{M:Bk}{nm:List Name}{i:kN}(h:i≠.boxes M.ao.length):bV (Tg M nm) i=bV M i:=by
 cases i with
 |boxes t=>
  show((M.ao++[_])[t]?).map dk.boxes=_;rw[gy (fun z=>h (by rw[z]))];rfl
 |_=>rfl
theorem Yf{b:Bs}{nm:List Name}{p iv c l h q:Addr}{r:bO}(n:¬NTw b.M.ao.length r)(n1:r≠.aL)(n2:r≠.ao):
  mc A (GC b.g b.M.ao.length c l h q) (WA b.z b.M.ao.length p iv) (Tg b.M nm) b.ta b.dX r=mc A b.g b.z b.M b.ta b.dX r:=by
 cases r with
 |aL=>exact absurd rfl n1
 |ao=>exact absurd rfl n2
 |bI=>rfl
 |ae=>rfl
 |az=>rfl
 |cN i=>show(bV (Tg b.M nm) i).map _=(bV b.M i).map _;rw[JD (fun z=>n (.inr (.inl (by rw[z]))))]
 |bJ i=>show(bV (Tg b.M nm) i).map _=(bV b.M i).map _;rw[JD (fun z=>n (.inr (.inr (.inl (by rw[z])))))]
 |holds i=>show(bV (Tg b.M nm) i).map _=(bV b.M i).map _;rw[JD (fun z=>n (.inr (.inr (.inr (by rw[z])))))];rfl
 |bj t=>show((b.M.ao++[_])[t]?).map _=(b.M.ao[t]?).map _;rw[gy (fun z=>n (.inl (by rw[z])))]
 |letters s=>
  show(b.M.ae[s]?).map _=(b.M.ae[s]?).map _;congr 1
 |aU s n=>rfl
theorem Hr(f f':Nat→Addr)(n:Nat)(h:∀j,j<n→f' j=f j):oB f' (n+1)=oB f n++[.ref (f' n)]:=by
 unfold oB;rw[arT,apB];congr 1;apply aqk;intro j hj;rw[h j (apP.mp hj)]
theorem a0.Xk{b:Bs}(B:a0 A b){H1 H2:Hp}{p na c iv l h q:Addr}{nm:List Name}(n:Yt A b.H H1 p (.ref na) c iv l h q)(OR:b.F na=some (.aN (Of nm)))
  (EU:H2 (b.g .aL)=some (.bR A.cb b.dX (iV (.ref b.ta) (.int b.M.aF.length) (.ref (b.g .bI)) (.ref (b.g .ao)) (.ref (b.g .ae)) (.ref p) .cx (.ref (b.g .az)) (.ref (b.z.iv .bS)) (.int b.M.points))))
  (QL:H2 (b.g .ao)=some (.aN (oB b.z.town b.M.ao.length++[.ref p])))(XA:∀a,a≠b.g .aL→a≠b.g .ao→H2 a=H1 a):
  ∃b',a0 A b'∧dn A b b'∧b'.H=H2∧b'.M=Tg b.M nm∧b'.tx=b.tx:=by
 obtain⟨dp,hp⟩:=n.obj;obtain⟨dv,hi⟩:=n.box.at_.obj;have pb:iW A b .aL:=rfl;have pt:iW A b .ao:=rfl;obtain⟨⟨ob,hb0⟩,bF⟩:=B.vc pb;obtain⟨⟨ot,ht0⟩,tF⟩:=B.vc pt;have fresh:∀{a},b.H a=none→a≠b.g .aL∧a≠b.g .ao:=fun{a} e=>⟨ap1 (aj hb0 e),ap1 (aj ht0 e)⟩;have on:∀{a o},b.H a=none→H1 a=some o→H2 a=some o:=fun{a o} e e1=>by rw[XA a (fresh e).1 (fresh e).2];exact e1
 have npi:p≠iv:=fun z=>by
  rw[z,hi]at hp;have:=apC hp;injection this with _ _ e3;cases e3
 have Fp0:b.F p=none:=B.same.free n.fp;have Fi0:b.F iv=none:=B.same.free n.box.fi;have sF1:aV b.F (aJ b.F p (.bR A.jz dp (C5 (.ref na) (.ref c) (.ref iv)))):=gk Fp0;have sF2:aV (aJ b.F p (.bR A.jz dp (C5 (.ref na) (.ref c) (.ref iv)))) (aJ (aJ b.F p (.bR A.jz dp (C5 (.ref na) (.ref c) (.ref iv)))) iv (.bR A.dR dv (rS (.ref l) (.ref h) (.ref q)))):=gk (by rw[ai (ap1 npi)];exact Fi0);have sF:=sF1.trans sF2;have Tn:iv≠l:=dy hi n.box.at_.lo nofun;have ivh:iv≠h:=dy hi n.box.at_.hi nofun;have ivq:iv≠q:=dy hi n.box.at_.at_ nofun;have ivc:iv≠c:=dy hi n.cod nofun;have pl:p≠l:=dy hp n.box.at_.lo nofun;have ph:p≠h:=dy hp n.box.at_.hi nofun;have pq:p≠q:=dy hp n.box.at_.at_ nofun;have pc:p≠c:=dy hp n.cod nofun;have cl:c≠l:=dy n.cod n.box.at_.lo nofun;have ch:c≠h:=dy n.cod n.box.at_.hi nofun;have cq:c≠q:=dy n.cod n.box.at_.at_ nofun;obtain⟨lh,lq,hq⟩:=n.box.ne;have PP:=B.change (b':={b with F:=aJ (aJ b.F p (.bR A.jz dp (C5 (.ref na) (.ref c) (.ref iv)))) iv (.bR A.dR dv (rS (.ref l) (.ref h) (.ref q))),H:=H2,g:=GC b.g b.M.ao.length c l h q,z:=WA b.z b.M.ao.length p iv,M:=Tg b.M nm})
  (NTw b.M.ao.length) sF (fun a ha=>by
   have h':aJ (aJ b.F p _) iv _ a≠none:=ha;by_cases e:a=iv
   ·exact .inr (by rw[e];exact n.box.fi)
   ·rw[ai e]at h';by_cases e2:a=p
    ·exact .inr (by rw[e2];exact n.fp)
    ·rw[ai e2]at h';exact .inl h') (fun a o e=>by
   have e':aJ (aJ b.F p _) iv _ a=some o:=e;by_cases z:a=iv
   ·subst z;rw[au]at e';cases e';exact on n.box.fi hi
   ·rw[ai z]at e';by_cases z2:a=p
    ·subst z2;rw[au]at e';cases e';exact on n.fp hp
    ·rw[ai z2]at e';show H2 a=some o;rw[XA a (aj e' bF) (aj e' tF)];exact n.same _ _ (B.same _ _ e')) (fun r hr=>tR hr) (fun r hr=>by
   show b.H (GC b.g _ c l h q r)=none∧aJ (aJ b.F p _) iv _ (GC b.g _ c l h q r)=none;rcases hr with rfl|rfl|rfl|rfl
   ·rw[QZ,ai (ap1 ivc),ai (ap1 pc)];exact⟨n.fc,B.same.free n.fc⟩
   ·rw[QX,ai (ap1 Tn),ai (ap1 pl)];exact⟨n.box.fl,B.same.free n.box.fl⟩
   ·rw[QY,ai (ap1 ivh),ai (ap1 ph)];exact⟨n.box.fh,B.same.free n.box.fh⟩
   ·rw[QW,ai (ap1 ivq),ai (ap1 pq)];exact⟨n.box.fq,B.same.free n.box.fq⟩) (fun r r' hr OO e=>by
   have e':GC b.g b.M.ao.length c l h q r=GC b.g b.M.ao.length c l h q r':=e;rcases hr with rfl|rfl|rfl|rfl<;>rcases OO with rfl|rfl|rfl|rfl<;>first|rfl|(exfalso;simp only[QZ,QX,QY,QW]at e';first|exact cl e'|exact ch e'|exact cq e'|exact lh e'|exact lq e'|exact hq e'|exact cl e'.symm|exact ch e'.symm|exact cq e'.symm|exact lh e'.symm|exact lq e'.symm|exact hq e'.symm)) (fun r OP hr=>by
   by_cases h1:r=.aL
   ·rw[h1];exact pb
   ·by_cases h2:r=.ao
    ·rw[h2];exact pt
    ·have h':(mc A (GC b.g b.M.ao.length c l h q) (WA b.z b.M.ao.length p iv) (Tg b.M nm) b.ta b.dX r).isSome=true:=OP;rw[Yf hr h1 h2]at h';exact h') (fun r o e=>by
   have e':mc A (GC b.g b.M.ao.length c l h q) (WA b.z b.M.ao.length p iv) (Tg b.M nm) b.ta b.dX r=some o:=e;show H2 (GC b.g b.M.ao.length c l h q r)=some o;by_cases hr:NTw b.M.ao.length r
   ·rcases hr with rfl|rfl|rfl|rfl
    ·have e2:((b.M.ao++[⟨nm,[],[]⟩])[b.M.ao.length]?).map (fun T:dk=>HO.dK (T.bj.map fun c=>((apY (bB c):Key),V.bl true)))=some o:=e';rw[d7]at e2;rw[QZ,←e2];exact on n.fc n.cod
    ·have e2:(((b.M.ao++[⟨nm,[],[]⟩])[b.M.ao.length]?).map dk.boxes).map (fun L=>HO.aN (L.map fun x=>V.int x.lo))=some o:=e';rw[d7]at e2;rw[QX,←e2];exact on n.box.fl n.box.at_.lo
    ·have e2:(((b.M.ao++[⟨nm,[],[]⟩])[b.M.ao.length]?).map dk.boxes).map (fun L=>HO.aN (L.map fun x=>V.int x.hi))=some o:=e';rw[d7]at e2;rw[QY,←e2];exact on n.box.fh n.box.at_.hi
    ·have e2:(((b.M.ao++[⟨nm,[],[]⟩])[b.M.ao.length]?).map dk.boxes).map (fun L=>HO.aN (L.map fun x=>V.ref (b.z.run x.at_)))=some o:=e';rw[d7]at e2;rw[QW,←e2];exact on n.box.fq n.box.at_.at_
   ·rw[tR hr];by_cases h1:r=.aL
    ·subst h1;rw[EU,←e'];have eT:kl (WA b.z b.M.ao.length p iv) (Tg b.M nm)=.ref p:=by
      rw[dN (by show b.M.ao++[_]≠[];simp)];show V.ref (if aO (Tg b.M nm)=b.M.ao.length then p else _)=_;rw[if_pos (by unfold aO;show(b.M.ao++[_]).length-1=_;rw[apr,ap5];omega)]
     show _=some (HO.bR _ _ (iV _ _ _ _ _ (kl (WA b.z b.M.ao.length p iv) (Tg b.M nm)) _ _ _ _));rw[eT];rfl
    ·by_cases h2:r=.ao
     ·subst h2;rw[QL,←e'];show _=some (HO.aN (oB (WA b.z b.M.ao.length p iv).town (b.M.ao++[_]).length));rw[apr,ap5,Hr b.z.town (WA b.z b.M.ao.length p iv).town b.M.ao.length (fun j hj=>if_neg (aqo hj))];show _=some (HO.aN (_++[V.ref (if b.M.ao.length=b.M.ao.length then p else _)]));rw[if_pos rfl]
     ·rw[Yf hr h1 h2]at e';have pr:iW A b r:=by show arq _=true;rw[e'];rfl
      rw[XA _ (fun z=>h1 (B.inj _ _ pr pb z)) (fun z=>h2 (B.inj _ _ pr pt z))];exact n.same _ _ (B.mt r o e').1) (fun a o e na=>by
   show H2 a=some o;rw[XA a (ap1 (na _ pb)) (ap1 (na _ pt))];exact n.same _ _ e) (tR (g:=b.g) (t:=b.M.ao.length) (c:=c) (l:=l) (h:=h) (q:=q) (r:=.aL) (by rintro(z|z|z|z)<;>cases z)) ⟨fun i OS=>by
   have h':(bV (Tg b.M nm) i).isSome=true:=OS;show∃dx,aJ (aJ b.F p _) iv _ ((WA b.z b.M.ao.length p iv).iv i)=some (.bR A.dR dx (rS (.ref (GC b.g b.M.ao.length c l h q (.cN i))) (.ref (GC b.g b.M.ao.length c l h q (.bJ i))) (.ref (GC b.g b.M.ao.length c l h q (.holds i)))));by_cases z:i=.boxes b.M.ao.length
   ·subst z;rw[QX,QY,QW];show∃dx,aJ (aJ b.F p _) iv _ (if _=_ then iv else _)=_;rw[if_pos rfl,au];exact⟨dv,rfl⟩
   ·rw[JD z]at h';obtain⟨vg,e⟩:=B.iv i h';rw[tR (r:=.cN i) (by rintro(y|y|y|y)<;>first|exact z (bO.cN.inj y)|cases y),tR (r:=.bJ i) (by rintro(y|y|y|y)<;>first|exact z (bO.bJ.inj y)|cases y),tR (r:=.holds i) (by rintro(y|y|y|y)<;>first|exact z (bO.holds.inj y)|cases y)];show∃dx,aJ (aJ b.F p _) iv _ (if _=_ then iv else b.z.iv i)=_;rw[if_neg z];exact⟨vg,sF _ _ e⟩,fun t T hT=>by
   have hT':(b.M.ao++[⟨nm,[],[]⟩])[t]? =some T:=hT;show∃dx na,aJ (aJ b.F p _) iv _ (if t=b.M.ao.length then p else b.z.town t)=some (.bR A.jz dx (C5 (.ref na) (.ref (GC b.g b.M.ao.length c l h q (.bj t))) (.ref (if kN.boxes t=kN.boxes b.M.ao.length then iv else b.z.iv (.boxes t)))))∧aJ (aJ b.F p _) iv _ na=some (.aN (Of T.names));by_cases z:t=b.M.ao.length
   ·subst z;rw[d7]at hT';cases hT';rw[if_pos rfl,if_pos rfl,QZ,ai npi,au];exact⟨dp,na,rfl,sF _ _ OR⟩
   ·rw[gy z]at hT';obtain⟨vg,Jn,e1,e2⟩:=B.town t T hT';rw[if_neg z,if_neg (fun y=>z (kN.boxes.inj y)),tR (r:=.bj t) (by rintro(y|y|y|y)<;>first|exact z (bO.bj.inj y)|cases y)];exact⟨vg,Jn,sF _ _ e1,sF _ _ e2⟩,fun s S hS=>by
   obtain⟨vg,Jn,hl,e1,e2,e3⟩:=B.street s S hS;refine⟨vg,Jn,hl,?_,sF _ _ e2,sF _ _ e3⟩;show aJ (aJ b.F p _) iv _ (b.z.street s)=some (.bR A.eE vg (vn (.ref Jn) (.int S.town) (.ref hl) (.ref (GC b.g b.M.ao.length c l h q (.letters s)))));rw[tR (r:=.letters s) (by rintro(y|y|y|y)<;>cases y)];exact sF _ _ e1,fun j r' OO=>(B.run j r' OO).same sF,sF _ _ B.text⟩
 exact⟨_,PP.1,PP.2,rfl,rfl,rfl⟩
def yR(g:bO→Addr)(s:Nat)(lt l h q l' h' q':Addr):bO→Addr:=E6 (E6 (XM g (.letters s) lt) (.bh s 0) l h q) (.bh s 1) l' h' q'
def WB(z:Fz)(s:Nat)(p iv lN:Addr):Fz:={Tw (Tw z (.bh s 0) iv) (.bh s 1) lN with street:=fun j=>if j=s then p else z.street j}
def NSr(s:Nat)(r:bO):Prop:=r=.letters s∨r=.cN (.bh s 0)∨r=.bJ (.bh s 0)∨r=.holds (.bh s 0)∨r=.cN (.bh s 1)∨r=.bJ (.bh s 1)∨r=.holds (.bh s 1)
section
variable{g:bO→Addr}{s:Nat}{lt l h q l' h' q':Addr}
theorem tS{r:bO}(n:¬NSr s r):yR g s lt l h q l' h' q' r=g r:=by
 unfold yR;rw[iI (fun z=>n (.inr (.inr (.inr (.inr (.inl z)))))) (fun z=>n (.inr (.inr (.inr (.inr (.inr (.inl z))))))) (fun z=>n (.inr (.inr (.inr (.inr (.inr (.inr z))))))),iI (fun z=>n (.inr (.inl z))) (fun z=>n (.inr (.inr (.inl z)))) (fun z=>n (.inr (.inr (.inr (.inl z))))),Q7 (fun z=>n (.inl z))]
theorem Q3:yR g s lt l h q l' h' q' (.letters s)=lt:=by
 unfold yR;rw[iI (by nofun) (by nofun) (by nofun),iI (by nofun) (by nofun) (by nofun),VH]
theorem Q5:yR g s lt l h q l' h' q' (.cN (.bh s 0))=l:=by
 unfold yR;rw[iI (by nofun) (by nofun) (by nofun),E4]
theorem Q6:yR g s lt l h q l' h' q' (.bJ (.bh s 0))=h:=by
 unfold yR;rw[iI (by nofun) (by nofun) (by nofun),E5]
theorem Q4:yR g s lt l h q l' h' q' (.holds (.bh s 0))=q:=by
 unfold yR;rw[iI (by nofun) (by nofun) (by nofun),E3]
theorem JS:yR g s lt l h q l' h' q' (.cN (.bh s 1))=l':=E4 ..
theorem JT:yR g s lt l h q l' h' q' (.bJ (.bh s 1))=h':=E5 ..
theorem JR:yR g s lt l h q l' h' q' (.holds (.bh s 1))=q':=E3 ..
end
def Ir(M:Bk)(nm:List Name):Bk:={M with ae:=M.ae++[⟨nm,aO M,[],[],[]⟩],aY:=true}
theorem JE{M:Bk}{nm:List Name}{i:kN}(h0:i≠.bh M.ae.length 0)(h1:i≠.bh M.ae.length 1):bV (Ir M nm) i=bV M i:=by
 cases i with
 |bh s o=>
  show(if o<2 then((M.ae++[_])[s]?).map (fun S=>hv S o)else none)=if o<2 then(M.ae[s]?).map (fun S=>hv S o)else none
  by_cases e:s=M.ae.length
  ·by_cases q:o<2
   ·rcases(by omega:o=0∨o=1)with z|z
    ·exact absurd (by rw[e,z]) h0
    ·exact absurd (by rw[e,z]) h1
   ·rw[if_neg q,if_neg q]
  ·rw[gy e]
 |_=>rfl
theorem uO{M:Bk}{nm:List Name}{o:Nat}(ho:o<2):bV (Ir M nm) (.bh M.ae.length o)=some []:=by
 show(if o<2 then((M.ae++[_])[M.ae.length]?).map (fun S=>hv S o)else none)=_;rw[if_pos ho,d7];show some (hv _ o)=some [];unfold hv;split<;>rfl
theorem Yg{b:Bs}{nm:List Name}{p iv lN lt l h q l' h' q':Addr}{r:bO}(n:¬NSr b.M.ae.length r)(n1:r≠.aL)(n2:r≠.ae):
  mc A (yR b.g b.M.ae.length lt l h q l' h' q') (WB b.z b.M.ae.length p iv lN) (Ir b.M nm) b.ta b.dX r=mc A b.g b.z b.M b.ta b.dX r:=by
 cases r with
 |aL=>exact absurd rfl n1
 |ae=>exact absurd rfl n2
 |bI=>rfl
 |ao=>rfl
 |az=>rfl
 |cN i=>show(bV (Ir b.M nm) i).map _=(bV b.M i).map _;rw[JE (fun z=>n (.inr (.inl (by rw[z])))) (fun z=>n (.inr (.inr (.inr (.inr (.inl (by rw[z])))))))]
 |bJ i=>show(bV (Ir b.M nm) i).map _=(bV b.M i).map _;rw[JE (fun z=>n (.inr (.inr (.inl (by rw[z]))))) (fun z=>n (.inr (.inr (.inr (.inr (.inr (.inl (by rw[z]))))))))]
 |holds i=>show(bV (Ir b.M nm) i).map _=(bV b.M i).map _;rw[JE (fun z=>n (.inr (.inr (.inr (.inl (by rw[z])))))) (fun z=>n (.inr (.inr (.inr (.inr (.inr (.inr (by rw[z]))))))))];rfl
 |bj t=>rfl
 |letters s=>
  show((b.M.ae++[_])[s]?).map _=(b.M.ae[s]?).map _;rw[gy (fun z=>n (.inl (by rw[z])))];congr 1
 |aU s m=>
  show((b.M.ae++[_])[s]?).bind _=(b.M.ae[s]?).bind _;by_cases e:s=b.M.ae.length
  ·subst e;rw[d7,aqJ (apE _)];rfl
  ·rw[gy e]
theorem a0.R4{b:Bs}(B:a0 A b){H1 H2:Hp}{p na hl lt iv l h q lN l' h' q':Addr}{nm:List Name}(n:Yu A b.H H1 p (.ref na) (.int (aO b.M)) hl lt iv l h q lN l' h' q')(OR:b.F na=some (.aN (Of nm)))
  (EU:H2 (b.g .aL)=some (.bR A.cb b.dX (iV (.ref b.ta) (.int b.M.aF.length) (.ref (b.g .bI)) (.ref (b.g .ao)) (.ref (b.g .ae)) (kl b.z b.M) (.ref p) (.ref (b.g .az)) (.ref (b.z.iv .bS)) (.int b.M.points))))
  (QL:H2 (b.g .ae)=some (.aN (oB b.z.street b.M.ae.length++[.ref p])))(XA:∀a,a≠b.g .aL→a≠b.g .ae→H2 a=H1 a):
  ∃b',a0 A b'∧dn A b b'∧b'.H=H2∧b'.M=Ir b.M nm∧b'.tx=b.tx:=by
 obtain⟨dp,hp⟩:=n.obj;obtain⟨dv,hi⟩:=n.i0.at_.obj;obtain⟨dv',OS⟩:=n.i1.at_.obj;have pb:iW A b .aL:=rfl;have pt:iW A b .ae:=rfl;obtain⟨⟨ob,hb0⟩,bF⟩:=B.vc pb;obtain⟨⟨ot,ht0⟩,tF⟩:=B.vc pt;have fresh:∀{a},b.H a=none→a≠b.g .aL∧a≠b.g .ae:=fun{a} e=>⟨ap1 (aj hb0 e),ap1 (aj ht0 e)⟩;have on:∀{a o},b.H a=none→H1 a=some o→H2 a=some o:=fun{a o} e e1=>by rw[XA a (fresh e).1 (fresh e).2];exact e1
 have npi:p≠iv:=fun z=>by
  rw[z,hi]at hp;have:=apC hp;injection this with _ _ e3;cases e3
 have agG:p≠lN:=fun z=>by
  rw[z,OS]at hp;have:=apC hp;injection this with _ _ e3;cases e3
 have nph:p≠hl:=dy hp n.hal nofun;have nhi:hl≠iv:=dy n.hal hi nofun;have agJ:hl≠lN:=dy n.hal OS nofun;have nii:iv≠lN:=n.nd.1;have yB:=n.nd.2;let F1:Hp:=aJ b.F p (.bR A.eE dp (vn (.ref na) (.int (aO b.M)) (.ref hl) (.ref lt)));let F2:Hp:=aJ F1 hl (.aN [.ref iv,.ref lN]);let F3:Hp:=aJ F2 iv (.bR A.dR dv (rS (.ref l) (.ref h) (.ref q)));let F4:Hp:=aJ F3 lN (.bR A.dR dv' (rS (.ref l') (.ref h') (.ref q')));have fr:∀{a},b.H a=none→b.F a=none:=fun{a} e=>B.same.free e;have s1:aV b.F F1:=gk (fr n.fp);have s2:aV F1 F2:=gk (by show aJ b.F p _ hl=none;rw[ai (ap1 nph)];exact fr n.fh);have s3:aV F2 F3:=gk (by show aJ (aJ b.F p _) hl _ iv=none;rw[ai (ap1 nhi),ai (ap1 npi)];exact fr n.i0.fi);have s4:aV F3 F4:=gk (by show aJ (aJ (aJ b.F p _) hl _) iv _ lN=none;rw[ai (ap1 nii),ai (ap1 agJ),ai (ap1 agG)];exact fr n.i1.fi);have sF:aV b.F F4:=((s1.trans s2).trans s3).trans s4;have F4p:F4 p=some (.bR A.eE dp (vn (.ref na) (.int (aO b.M)) (.ref hl) (.ref lt))):=((s2.trans s3).trans s4) _ _ au;have F4h:F4 hl=some (.aN [.ref iv,.ref lN]):=(s3.trans s4) _ _ au;have F4i:F4 iv=some (.bR A.dR dv (rS (.ref l) (.ref h) (.ref q))):=s4 _ _ au;have adA:F4 lN=some (.bR A.dR dv' (rS (.ref l') (.ref h') (.ref q'))):=au;have F4o:∀a,a≠p→a≠hl→a≠iv→a≠lN→F4 a=b.F a:=fun a z1 z2 z3 z4=>by
  show aJ (aJ (aJ (aJ b.F p _) hl _) iv _) lN _ a=_;rw[ai z4,ai z3,ai z2,ai z1]
 have F4n:∀a,b.H a=none→H1 a=some (.dK [])∨H1 a=some (.aN [])→F4 a=none:=fun a e e1=>by
  have k1:a≠p:=fun z=>by subst z;rw[hp]at e1;rcases e1 with e1|e1<;>cases e1
  have k2:a≠hl:=fun z=>by subst z;rw[n.hal]at e1;rcases e1 with e1|e1<;>cases e1
  have k3:a≠iv:=fun z=>by subst z;rw[hi]at e1;rcases e1 with e1|e1<;>cases e1
  have k4:a≠lN:=fun z=>by subst z;rw[OS]at e1;rcases e1 with e1|e1<;>cases e1
  rw[F4o a k1 k2 k3 k4];exact fr e
 have tl:lt≠l:=dy n.LY n.i0.at_.lo nofun;have th:lt≠h:=dy n.LY n.i0.at_.hi nofun;have tq:lt≠q:=dy n.LY n.i0.at_.at_ nofun;have tl':lt≠l':=dy n.LY n.i1.at_.lo nofun;have th':lt≠h':=dy n.LY n.i1.at_.hi nofun;have tq':lt≠q':=dy n.LY n.i1.at_.at_ nofun;obtain⟨lh,lq,hq⟩:=n.i0.ne;obtain⟨lh',lq',Xz⟩:=n.i1.ne;have c11:=yB l (.inl rfl) l' (.inl rfl);have c12:=yB l (.inl rfl) h' (.inr (.inl rfl));have c13:=yB l (.inl rfl) q' (.inr (.inr rfl));have c21:=yB h (.inr (.inl rfl)) l' (.inl rfl);have c22:=yB h (.inr (.inl rfl)) h' (.inr (.inl rfl));have c23:=yB h (.inr (.inl rfl)) q' (.inr (.inr rfl));have c31:=yB q (.inr (.inr rfl)) l' (.inl rfl);have c32:=yB q (.inr (.inr rfl)) h' (.inr (.inl rfl));have c33:=yB q (.inr (.inr rfl)) q' (.inr (.inr rfl));have PP:=B.change (b':={b with F:=F4,H:=H2,g:=yR b.g b.M.ae.length lt l h q l' h' q',z:=WB b.z b.M.ae.length p iv lN,M:=Ir b.M nm})
  (NSr b.M.ae.length) sF (fun a ha=>by
   by_cases k1:a=p
   ·exact .inr (by rw[k1];exact n.fp)
   ·by_cases k2:a=hl
    ·exact .inr (by rw[k2];exact n.fh)
    ·by_cases k3:a=iv
     ·exact .inr (by rw[k3];exact n.i0.fi)
     ·by_cases k4:a=lN
      ·exact .inr (by rw[k4];exact n.i1.fi)
      ·left;have h':F4 a≠none:=ha;rw[F4o a k1 k2 k3 k4]at h';exact h') (fun a o e=>by
   have e':F4 a=some o:=e;show H2 a=some o;by_cases k1:a=p
   ·subst k1;rw[F4p]at e';cases e';exact on n.fp hp
   ·by_cases k2:a=hl
    ·subst k2;rw[F4h]at e';cases e';exact on n.fh n.hal
    ·by_cases k3:a=iv
     ·subst k3;rw[F4i]at e';cases e';exact on n.i0.fi hi
     ·by_cases k4:a=lN
      ·subst k4;rw[adA]at e';cases e';exact on n.i1.fi OS
      ·rw[F4o a k1 k2 k3 k4]at e';rw[XA a (aj e' bF) (aj e' tF)];exact n.same _ _ (B.same _ _ e')) (fun r hr=>tS hr) (fun r hr=>by
   show b.H (yR b.g _ lt l h q l' h' q' r)=none∧F4 (yR b.g _ lt l h q l' h' q' r)=none;rcases hr with rfl|rfl|rfl|rfl|rfl|rfl|rfl
   ·rw[Q3];exact⟨n.fl,F4n _ n.fl (.inl n.LY)⟩
   ·rw[Q5];exact⟨n.i0.fl,F4n _ n.i0.fl (.inr n.i0.at_.lo)⟩
   ·rw[Q6];exact⟨n.i0.fh,F4n _ n.i0.fh (.inr n.i0.at_.hi)⟩
   ·rw[Q4];exact⟨n.i0.fq,F4n _ n.i0.fq (.inr n.i0.at_.at_)⟩
   ·rw[JS];exact⟨n.i1.fl,F4n _ n.i1.fl (.inr n.i1.at_.lo)⟩
   ·rw[JT];exact⟨n.i1.fh,F4n _ n.i1.fh (.inr n.i1.at_.hi)⟩
   ·rw[JR];exact⟨n.i1.fq,F4n _ n.i1.fq (.inr n.i1.at_.at_)⟩) (fun r r' hr OO e=>by
   have e':yR b.g b.M.ae.length lt l h q l' h' q' r=yR b.g b.M.ae.length lt l h q l' h' q' r':=e;rcases hr with rfl|rfl|rfl|rfl|rfl|rfl|rfl<;>rcases OO with rfl|rfl|rfl|rfl|rfl|rfl|rfl<;>first|rfl|(exfalso;simp only[Q3,Q5,Q6,Q4,JS,JT,JR]at e';first|exact absurd e' (by assumption)|exact absurd e'.symm (by assumption))) (fun r OP hr=>by
   by_cases h1:r=.aL
   ·rw[h1];exact pb
   ·by_cases h2:r=.ae
    ·rw[h2];exact pt
    ·have h3:(mc A (yR b.g b.M.ae.length lt l h q l' h' q') (WB b.z b.M.ae.length p iv lN) (Ir b.M nm) b.ta b.dX r).isSome=true:=OP;rw[Yg hr h1 h2]at h3;exact h3) (fun r o e=>by
   have e':mc A (yR b.g b.M.ae.length lt l h q l' h' q') (WB b.z b.M.ae.length p iv lN) (Ir b.M nm) b.ta b.dX r=some o:=e;show H2 (yR b.g b.M.ae.length lt l h q l' h' q' r)=some o;by_cases hr:NSr b.M.ae.length r
   ·rcases hr with rfl|rfl|rfl|rfl|rfl|rfl|rfl
    ·have e2:((b.M.ae++[⟨nm,aO b.M,[],[],[]⟩])[b.M.ae.length]?).map (fun S:aQ=>HO.dK (S.aU.map fun p=>((apT (p.1:Int):Key),V.ref (yR b.g b.M.ae.length lt l h q l' h' q' (.aU b.M.ae.length p.1)))))=some o:=e';rw[d7]at e2;rw[Q3,←e2];exact on n.fl n.LY
    ·have e2:(bV (Ir b.M nm) (.bh b.M.ae.length 0)).map (fun L=>HO.aN (L.map fun x=>V.int x.lo))=some o:=e';rw[uO (by decide)]at e2;rw[Q5,←e2];exact on n.i0.fl n.i0.at_.lo
    ·have e2:(bV (Ir b.M nm) (.bh b.M.ae.length 0)).map (fun L=>HO.aN (L.map fun x=>V.int x.hi))=some o:=e';rw[uO (by decide)]at e2;rw[Q6,←e2];exact on n.i0.fh n.i0.at_.hi
    ·have e2:(bV (Ir b.M nm) (.bh b.M.ae.length 0)).map (fun L=>HO.aN (L.map fun x=>V.ref (b.z.run x.at_)))=some o:=e';rw[uO (by decide)]at e2;rw[Q4,←e2];exact on n.i0.fq n.i0.at_.at_
    ·have e2:(bV (Ir b.M nm) (.bh b.M.ae.length 1)).map (fun L=>HO.aN (L.map fun x=>V.int x.lo))=some o:=e';rw[uO (by decide)]at e2;rw[JS,←e2];exact on n.i1.fl n.i1.at_.lo
    ·have e2:(bV (Ir b.M nm) (.bh b.M.ae.length 1)).map (fun L=>HO.aN (L.map fun x=>V.int x.hi))=some o:=e';rw[uO (by decide)]at e2;rw[JT,←e2];exact on n.i1.fh n.i1.at_.hi
    ·have e2:(bV (Ir b.M nm) (.bh b.M.ae.length 1)).map (fun L=>HO.aN (L.map fun x=>V.ref (b.z.run x.at_)))=some o:=e';rw[uO (by decide)]at e2;rw[JR,←e2];exact on n.i1.fq n.i1.at_.at_
   ·rw[tS hr];by_cases h1:r=.aL
    ·subst h1;rw[EU,←e'];have eT:eK (WB b.z b.M.ae.length p iv lN) (Ir b.M nm)=.ref p:=by
      rw[fw rfl];show V.ref (if bp (Ir b.M nm)=b.M.ae.length then p else _)=_;rw[if_pos (by unfold bp;show(b.M.ae++[_]).length-1=_;rw[apr,ap5];omega)]
     show _=some (HO.bR _ _ (iV _ _ _ _ _ _ (eK (WB b.z b.M.ae.length p iv lN) (Ir b.M nm)) _ _ _));rw[eT];rfl
    ·by_cases h2:r=.ae
     ·subst h2;rw[QL,←e'];show _=some (HO.aN (oB (WB b.z b.M.ae.length p iv lN).street (b.M.ae++[_]).length));rw[apr,ap5,Hr b.z.street (WB b.z b.M.ae.length p iv lN).street b.M.ae.length (fun j hj=>if_neg (aqo hj))];show _=some (HO.aN (_++[V.ref (if b.M.ae.length=b.M.ae.length then p else _)]));rw[if_pos rfl]
     ·rw[Yg hr h1 h2]at e';have pr:iW A b r:=by show arq _=true;rw[e'];rfl
      rw[XA _ (fun z=>h1 (B.inj _ _ pr pb z)) (fun z=>h2 (B.inj _ _ pr pt z))];exact n.same _ _ (B.mt r o e').1) (fun a o e na=>by
   show H2 a=some o;rw[XA a (ap1 (na _ pb)) (ap1 (na _ pt))];exact n.same _ _ e) (tS (g:=b.g) (s:=b.M.ae.length) (lt:=lt) (l:=l) (h:=h) (q:=q) (l':=l') (h':=h') (q':=q') (r:=.aL) (by rintro(z|z|z|z|z|z|z)<;>cases z)) ⟨fun i hi0=>by
   have h0:(bV (Ir b.M nm) i).isSome=true:=hi0;show∃dx,F4 ((WB b.z b.M.ae.length p iv lN).iv i)=some (.bR A.dR dx (rS (.ref (yR b.g b.M.ae.length lt l h q l' h' q' (.cN i))) (.ref (yR b.g b.M.ae.length lt l h q l' h' q' (.bJ i))) (.ref (yR b.g b.M.ae.length lt l h q l' h' q' (.holds i)))));by_cases z1:i=.bh b.M.ae.length 1
   ·subst z1;rw[JS,JT,JR];show∃dx,F4 (if _=_ then lN else _)=_;rw[if_pos rfl,adA];exact⟨dv',rfl⟩
   ·by_cases z0:i=.bh b.M.ae.length 0
    ·subst z0;rw[Q5,Q6,Q4];show∃dx,F4 (if kN.bh b.M.ae.length 0=kN.bh b.M.ae.length 1 then lN else if _=_ then iv else _)=_;rw[if_neg z1,if_pos rfl,F4i];exact⟨dv,rfl⟩
    ·rw[JE z0 z1]at h0;obtain⟨vg,e⟩:=B.iv i h0;rw[tS (r:=.cN i) (by rintro(y|y|y|y|y|y|y)<;>first|exact z0 (bO.cN.inj y)|exact z1 (bO.cN.inj y)|cases y),tS (r:=.bJ i) (by rintro(y|y|y|y|y|y|y)<;>first|exact z0 (bO.bJ.inj y)|exact z1 (bO.bJ.inj y)|cases y),tS (r:=.holds i) (by rintro(y|y|y|y|y|y|y)<;>first|exact z0 (bO.holds.inj y)|exact z1 (bO.holds.inj y)|cases y)];show∃dx,F4 (if i=kN.bh b.M.ae.length 1 then lN else if i=kN.bh b.M.ae.length 0 then iv else b.z.iv i)=_;rw[if_neg z1,if_neg z0];exact⟨vg,sF _ _ e⟩,fun t T hT=>by
   obtain⟨vg,Jn,e1,e2⟩:=B.town t T hT;refine⟨vg,Jn,?_,sF _ _ e2⟩;show F4 (b.z.town t)=some (.bR A.jz vg (C5 (.ref Jn) (.ref (yR b.g b.M.ae.length lt l h q l' h' q' (.bj t))) (.ref (b.z.iv (.boxes t)))));rw[tS (r:=.bj t) (by rintro(y|y|y|y|y|y|y)<;>cases y)];exact sF _ _ e1,fun s S hS=>by
   have CY:(b.M.ae++[⟨nm,aO b.M,[],[],[]⟩])[s]? =some S:=hS;show∃dx na hl,F4 (if s=b.M.ae.length then p else b.z.street s)=some (.bR A.eE dx (vn (.ref na) (.int S.town) (.ref hl) (.ref (yR b.g b.M.ae.length lt l h q l' h' q' (.letters s)))))∧F4 na=some (.aN (Of S.names))∧F4 hl=some (.aN [.ref (if kN.bh s 0=kN.bh b.M.ae.length 1 then lN else if kN.bh s 0=kN.bh b.M.ae.length 0 then iv else b.z.iv (.bh s 0)),.ref (if kN.bh s 1=kN.bh b.M.ae.length 1 then lN else if kN.bh s 1=kN.bh b.M.ae.length 0 then iv else b.z.iv (.bh s 1))]);by_cases z:s=b.M.ae.length
   ·subst z;rw[d7]at CY;cases CY;rw[if_pos rfl,if_neg (by intro y;cases y),if_pos rfl,if_pos rfl,Q3];exact⟨dp,na,hl,F4p,sF _ _ OR,F4h⟩
   ·rw[gy z]at CY;obtain⟨vg,Jn,tN,e1,e2,e3⟩:=B.street s S CY;rw[if_neg z,if_neg (fun y=>z (kN.bh.inj y).1),if_neg (fun y=>z (kN.bh.inj y).1),if_neg (fun y=>z (kN.bh.inj y).1),if_neg (fun y=>z (kN.bh.inj y).1),tS (r:=.letters s) (by rintro(y|y|y|y|y|y|y)<;>first|exact z (bO.letters.inj y)|cases y)];exact⟨vg,Jn,tN,sF _ _ e1,sF _ _ e2,sF _ _ e3⟩,fun j r' OO=>(B.run j r' OO).same sF,sF _ _ B.text⟩
 exact⟨_,PP.1,PP.2,rfl,rfl,rfl⟩
local macro_rules|`(tactic|walk_at "o")=>zzR " vi KJ mU KH AV vj vX vW DN DM Ng vY BG DS KI AU Kn L7 Bb L6 Yk Yj kD"
theorem XT{g:bO→Addr}{z:Fz}{M:Bk}{ta dX:Addr}{t:Nat}{c:Bytes}(r:bO)(hr:r≠.bj t):
  mc A g z {M with ao:=M.ao.modify t (cV c)} ta dX r=mc A g z M ta dX r:=by
 have iv:∀i,bV {M with ao:=M.ao.modify t (cV c)} i=bV M i:=fun i=>by
  cases i with
  |boxes u=>
   show((M.ao.modify t (cV c))[u]?).map dk.boxes=(M.ao[u]?).map dk.boxes;rw[aA];by_cases e:u=t
   ·rw[if_pos e];cases M.ao[u]? <;>rfl
   ·rw[if_neg e]
  |_=>rfl
 cases r with
 |aL=>
  show some _=some _;congr 2;have e:(M.ao.modify t (cV c)=[])↔M.ao=[]:=by rw[←aqN,←aqN,aqg]
  unfold SS kl eK aO bp;by_cases q:M.ao=[]
  ·rw[if_pos q];simp only[if_pos (e.mpr q)]
  ·rw[if_neg q];simp only[if_neg (fun z=>q (e.mp z)),aqg]
 |bI=>rfl
 |ao=>show some (HO.aN (oB z.town (M.ao.modify _ _).length))=_;rw[aqg];rfl
 |ae=>rfl
 |az=>rfl
 |cN i=>show(bV _ i).map _=(bV _ i).map _;rw[iv]
 |bJ i=>show(bV _ i).map _=(bV _ i).map _;rw[iv]
 |holds i=>show(bV _ i).map _=(bV _ i).map _;rw[iv]
 |bj u=>
  show((M.ao.modify t (cV c))[u]?).map _=(M.ao[u]?).map _;rw[aA,if_neg (fun e=>hr (by rw[e]))]
 |letters u=>rfl
 |aU u m=>rfl
theorem a0.newCode{b:Bs}(B:a0 A b){t:Nat}{T:dk}(hT:b.M.ao[t]? =some T)(c:Bytes):
  ∃b',a0 A b'∧dn A b b'∧b'.H=aJ b.H (b.g (.bj t)) (.dK ((T.bj.map fun c=>((apY (bB c):Key),V.bl true))++[(.inr (bB c),.bl true)]))∧b'.M={b.M with ao:=b.M.ao.modify t (cV c)}∧b'.tx=b.tx:=by
 have gs:∀(u:Nat) T',(b.M.ao.modify t (cV c))[u]? =some T'→∃T0,b.M.ao[u]? =some T0∧T'.names=T0.names∧T'.boxes=T0.boxes:=fun u T' h=>by
  obtain⟨T0,h0,e⟩:=iH h;rcases e with rfl|rfl
  ·exact⟨_,h0,rfl,rfl⟩
  ·exact⟨_,h0,rfl,rfl⟩
 have PP:=B.one (.bj t) {b.M with ao:=b.M.ao.modify t (cV c)} (o':=.dK ((T.bj.map fun c=>((apY (bB c):Key),V.bl true))++[(.inr (bB c),.bl true)]))
  (by show((b.M.ao[t]?).map _).isSome=true;rw[hT];rfl) (by
   show((b.M.ao.modify t (cV c))[t]?).map _=_;rw[aA,if_pos rfl,hT];show some (HO.dK ((T.bj++[c]).map _))=_;rw[apB];rfl) (fun r hr=>XT r hr) ⟨fun i h=>B.iv i (by
    cases i with
    |boxes u=>
     have h':(((b.M.ao.modify t (cV c))[u]?).map dk.boxes).isSome=true:=h;rw[apX]at h';obtain⟨T',hT'⟩:=apZ.mp h';obtain⟨T0,h0,_⟩:=gs u T' hT';show((b.M.ao[u]?).map dk.boxes).isSome=true;rw[h0];rfl
    |_=>exact h),fun u T' h=>by
    obtain⟨T0,h0,e1,_⟩:=gs u T' h;rw[e1];exact B.town u T0 h0,B.street,B.run,B.text⟩
 exact⟨_,PP.1,PP.2,rfl,rfl,rfl⟩
def K6(A:Ad):Sp:=fun vs H Q _=>∃lp b x na dx d,vs=[.ref (b.g .aL),.ref lp]∧a0 A b∧H=b.H∧cX d b.M∧Sz b.M∧lI A b.F lp na dx x∧x.ok=true∧eu b.M x=true∧clashes d x=false∧∀b',a0 A b'→dn A b b'→b'.M=b.M.add x→b'.tx=b.tx→Q .cx b'.H
theorem Ed(T:Tx K mg A):bN P w K mg base fU 6 A.ia A.ki ["self","line"] (K6 A):=by
 have sc:=DJ;have F:=T.Bz.F;walk_at "f"
 ·obtain⟨lp,b,x,na,dx,d,rfl,_⟩:=h;rfl
 ·obtain⟨lp,b,x,na,dx,d,rfl,B,rfl,m,sz,ig,ok,st,cl,k⟩:=h;refine⟨_,(ag (Ht (pv 0) ay OL)
 (ag (W4 (iP hr) (aq (pv 0) rfl) (aq (pv 1) rfl) ay OL (fun _ _ _=>rfl))
 (aw (bo (aD cy (aq (pv 1) rfl) aR (aH _)) (ag (aW (pv 0) (UP T hr.mn rfl (aq (pv 1) rfl)) rfl)
 (ag (cQ (jQ aqM aqT jY (aq (pv 0) rfl) (af (aq (pv 0) rfl) ax)))
 (aw (aW (pv 0) cj rfl)))) (aw (bo (aD cy (aq (pv 1) rfl) aR (aH _)) (aw (W2 (iP hr) (aq (aq (pv 0) rfl) rfl) (aq (pv 1) rfl) vp rfl)) (aw (bo (aD cy (aq (pv 1) rfl) aR (aH _)) (ag (aW (pv 0) (UQ T hr.mn rfl (aq (pv 1) rfl) (aZ dS (bH cv (by rfl) T.ft ap8 (af (aq (pv 0) rfl) ax)) ay)) rfl)
 (aw (cQ (jQ aqM aqT jY (aq (pv 0) rfl) (af (aq (pv 0) rfl) ax))))) (aw (cQ (bg (pv 0) T.c.cO T.Cn (zV T) hr.mn T.vP.b .nil aP (af (pv 1) ax)))))))))))),?_⟩
  walk_at "z";have hb:=B.aL;have dP:=(ig.same B.same).obj;unfold iS at dP;have hs:=sizeLine_eq;have hll:b.M.aF.length≤4096:=by rw[m.aF];exact(d6 m.dA).1
  walk_at "g";walk_at "n";obtain⟨cn,Z8,hc2⟩:=Ph b.M.aF x;have hcs:=B.bI;have nbc:b.g .bI≠b.g .aL:=fun z=>by cases B.inj .bI .aL rfl rfl z
  have nbl:lp≠b.g .aL:=aj ig.obj (B.vc (r:=.aL) rfl).2;refine bt fun R n1=>?_;refine⟨_,rfl,_,_,_,_,_,rfl,au,C.cO,C.iL,rfl,_,rfl,_,_,_,_,_,rfl,(ai nbl).trans dP,C.pR,C.o8,rfl,b.g .bI,.int cn,rfl,.inl ⟨_,.inr (df x),.inl ((ai nbc).trans hcs),rfl,Z8.symm⟩,?_⟩;refine⟨_,_,rfl,rfl,_,.inl ⟨_,.inr (df x),(ai nbc).trans hcs,rfl,by rw[hs];show 6<16777216;decide,rfl⟩,n1.go _ _ ?_⟩;clear n1 R;rw[hc2];obtain⟨b1,B1,G1,h1,h2,h3,h4,h5,h6,h7,h8⟩:=B.aF x;rw[←h1];clear h1 hb dP hcs;have hb:=B1.aL;rw[h6,h4,h7,h8]at hb;have XE:lI A b1.F lp na dx x:=by rw[h5];exact ig
  have dP:=(XE.same B1.same).obj;unfold iS at dP;have eT:b1.M.ao=b.M.ao:=by rw[h2]
  have eS:b1.M.ae=b.M.ae:=by rw[h2]
  have etV:kl b.z b1.M=kl b.z b.M:=by rw[h2];rfl
  have esV:eK b.z b1.M=eK b.z b.M:=by rw[h2];rfl
  have hTs:=B1.ao;have hSs:=B1.ae;have lT:=mf b.z.town b.M.ao.length;have lS:=mf b.z.street b.M.ae.length;rw[h6,h4,eT]at hTs;rw[h6,h4,eS]at hSs;rw[etV,esV]at hb;have ptl:Wi x→vo A [V.ref (b.g .aL),V.ref lp] b1.H (fun _ H'=>Q .cx H') E0:=by
   intro hp;exact⟨lp,b1,x,na,dx,b.M,d,by rw[h6],B1,rfl,⟨h2,m,sz,ok,st,cl⟩,XE,hp,fun b2 B2 G2 e1 e2=>k b2 B2 (G1.trans G2) e1 (e2.trans h3)⟩
  cases x with
  |town l=>
   have hk:df (.town l)="town":=rfl;rw[hk]at dP;walk_at "d";refine⟨_,rfl,_,_,_,_,_,rfl,dP,C.pR,C.gv,rfl,fun H' p c iv l' h' q' n=>?_⟩;have Yc:b.g .ao≠b.g .aL:=fun z=>by cases B.inj .ao .aL rfl rfl z
   have Wv:=n.same _ _ hb;have hT2:=n.same _ _ hTs;refine⟨_,_,_,Wv,C.cO,C.jX,(u9 ..).mpr trivial,C.cO,C.jW,_,rfl,⟨_,rfl,_,(ai Yc).trans hT2⟩,C.cO,C.jX,_,rfl,_,_,_,rfl,rfl,(ai Yc).trans hT2,?_,_,_,_,(ai (ap1 Yc)).trans au,C.cO,C.d4,(u9 ..).mpr trivial,?_⟩
   ·rw[lT,hs];have:=(d6 m.dA).2.1;rw[m.Jr];omega
   ·have h6b:b1.g .aL=b.g .aL:=by rw[h6]
    have h6t:b1.g .ao=b.g .ao:=by rw[h6]
    obtain⟨b2,B2,G2,e0,e1,e2⟩:=B1.Xk (nm:=l) (H2:=aJ (aJ (aJ H' (b.g .aL) (.bR A.cb b.dX (iV (.ref b.ta) (.int b1.M.aF.length) (.ref (b.g .bI)) (.ref (b.g .ao)) (.ref (b.g .ae)) (.ref p) (eK b.z b.M) (.ref (b.g .az)) (.ref (b.z.iv .bS)) (.int b1.M.points)))) (b.g .ao) (.aN (oB b.z.town b.M.ao.length++[.ref p]))) (b.g .aL) (.bR A.cb b.dX (iV (.ref b.ta) (.int b1.M.aF.length) (.ref (b.g .bI)) (.ref (b.g .ao)) (.ref (b.g .ae)) (.ref p) .cx (.ref (b.g .az)) (.ref (b.z.iv .bS)) (.int b1.M.points)))) n XE.Oe
     (by rw[h6b,au,h4,h6,h7,h8]) (by rw[h6t,ai Yc,au,h4,eT]) (fun a z1 z2=>by
      rw[h6b]at z1;rw[h6t]at z2;rw[ai z1,ai z2,ai z1])
    have kk:=k b2 B2 (G1.trans G2) (by rw[e1,h2];rfl) (e2.trans h3);rw[e0]at kk;exact kk
  |code c=>
   have hk:df (.code c)="code":=rfl;rw[hk]at dP;have To:b.M.ao≠[]:=lQ m st (fun l=>by intro z;cases z);obtain⟨T0,hT, -⟩:=m.town To;have hT1:b1.M.ao[aO b.M]? =some T0:=by rw[eT];exact hT
   have Bi:=B1.bj hT1;obtain⟨dxt,nat,VP,XO⟩:=B1.town _ T0 hT1;have QL:=B1.same _ _ VP;rw[h4,h6]at QL;rw[h6]at Bi;rw[dN To]at hb;have htV:=dN (z:=b.z) To;have hbx:=sz.box _ T0 hT;obtain⟨b2,B2,G2,e0,e1,e2⟩:=B1.newCode hT1 c;have Me:mh (T0.bj.map fun c=>((apY (bB c):Key),V.bl true)) (.inr (bB c)) (.bl true)=(T0.bj.map fun c=>((apY (bB c):Key),V.bl true))++[(.inr (bB c),.bl true)]:=by
    refine Lp _ ?_;have yQ:=xk T0.bj (HY ok);rw[Fn m hT,cl]at yQ;unfold vS at yQ;cases z:vb (T0.bj.map fun c=>((apY (bB c):Key),V.bl true)) (.inr (bB c))with
    |none=>rfl
    |some v=>rw[z]at yQ;cases yQ
   walk_at "d";refine⟨by omega,?_⟩;have kk:=k b2 B2 (G1.trans G2) (by rw[e1,h2];rfl) (e2.trans h3);rw[e0,h6,←Me]at kk;exact kk
  |street l=>
   have hk:df (.street l)="street":=rfl;rw[hk]at dP;walk_at "d";have To:b.M.ao≠[]:=lQ m st (fun l=>by intro z;cases z);have Sh:0<b.M.ao.length:=aq1.mpr To;have iT:((b.M.ao.length:Int)-1)=((aO b.M:Nat):Int):=by unfold aO;omega
   refine⟨_,rfl,_,_,_,_,_,rfl,dP,C.pR,C.gv,rfl,?_⟩;walk_at "d";intro H' p hl lt iv l' h' q' iv2 l2 h2' q2 n;have Yc:b.g .ae≠b.g .aL:=fun z=>by cases B.inj .ae .aL rfl rfl z
   have Wv:=n.same _ _ hb;have hT2:=n.same _ _ hSs;refine⟨_,_,_,Wv,C.cO,C.d4,(u9 ..).mpr trivial,C.cO,C.gM,_,rfl,⟨_,rfl,_,(ai Yc).trans hT2⟩,C.cO,C.d4,_,rfl,_,_,_,rfl,rfl,(ai Yc).trans hT2,?_,?_⟩
   ·rw[lS,hs];have:=(d6 m.dA).2.2.1;rw[m.Js];omega
   ·have h6b:b1.g .aL=b.g .aL:=by rw[h6]
    have h6t:b1.g .ae=b.g .ae:=by rw[h6]
    have eLT:aO b1.M=aO b.M:=by unfold aO;rw[eT]
    rw[←eLT]at n;obtain⟨b2,B2,G2,e0,e1,e2⟩:=B1.R4 (nm:=l) (H2:=aJ (aJ H' (b.g .aL) (.bR A.cb b.dX (iV (.ref b.ta) (.int b1.M.aF.length) (.ref (b.g .bI)) (.ref (b.g .ao)) (.ref (b.g .ae)) (kl b.z b.M) (.ref p) (.ref (b.g .az)) (.ref (b.z.iv .bS)) (.int b1.M.points)))) (b.g .ae) (.aN (oB b.z.street b.M.ae.length++[.ref p]))) n XE.Oe
     (by rw[h6b,ai (ap1 Yc),au,h4,h6,h7,h8,etV]) (by rw[h6t,au,h4,eS]) (fun a z1 z2=>by
      rw[h6b]at z1;rw[h6t]at z2;rw[ai z2,ai z1])
    have kk:=k b2 B2 (G1.trans G2) (by rw[e1,h2];rfl) (e2.trans h3);rw[e0]at kk;exact kk
  |span s0=>
   have hk:df (.span s0)="span":=rfl;rw[hk]at dP;have pp:=ptl (.inl ⟨s0,rfl⟩);clear ptl;walk_at "d"
  |letters n c e=>
   have hk:df (.letters n c e)="letters":=rfl;rw[hk]at dP;have pp:=ptl (.inr (.inl ⟨n,c,e,rfl⟩));clear ptl;walk_at "d"
  |boxes y=>
   have hk:df (.boxes y)="boxes":=rfl;rw[hk]at dP;have pp:=ptl (.inr (.inr ⟨y,rfl⟩));clear ptl;walk_at "d"
local macro_rules|`(tactic|walk_at "o")=>zzR " vi KJ mU KH AV vj vX vW DN DM Ng vY BG DS KI AU Kn RR uz xH UG UD L7 Bb L6 Yk Yj kD"
def mS(d:aqG)(row:Bytes):Nat:=match lineIn row with
 |none=>1
 |some x=>wrongOf d x
def x8(d:aqG)(M:Bk)(row:Bytes):Bk:=match lineIn row with
 |none=>M
 |some x=>if wrongOf d x=0 then M.add x else M
theorem dn.same{b:Bs}{H':Hp}(s:aV b.H H'):dn A b {b with H:=H'}:=⟨aV.refl _,fun a o e _=>s a o e,fun a h=>.inl h,rfl⟩
theorem a0.addLine{b:Bs}(B:a0 A b){H1:Hp}(s:aV b.H H1){p na dx:Addr}{x:DLine}(hp:b.H p=none)(OR:b.H na=none)(ig:lI A H1 p na dx x):
  ∃b',a0 A b'∧dn A b b'∧b'.H=H1∧b'.M=b.M∧b'.tx=b.tx∧b'.g=b.g∧lI A b'.F p na dx x:=by
 have pn:p≠na:=dy ig.obj ig.Oe nofun;have f1:b.F p=none:=B.same.free hp;have f2:b.F na=none:=B.same.free OR;have s1:aV b.F (aJ b.F p (.bR A.dU dx (iS x na))):=gk f1;have s2:aV (aJ b.F p (.bR A.dU dx (iS x na))) (aJ (aJ b.F p (.bR A.dU dx (iS x na))) na (.aN (abU x))):=gk (by rw[ai (ap1 pn)];exact f2);obtain⟨Q1,Q2⟩:=B.aip s (s1.trans s2) (fun a o e=>by
  by_cases z:a=na
  ·subst z;rw[au]at e;cases e;exact ig.Oe
  ·rw[ai z]at e;by_cases z2:a=p
   ·subst z2;rw[au]at e;cases e;exact ig.obj
   ·rw[ai z2]at e;exact s _ _ (B.same _ _ e)) (fun a h=>by
  by_cases z:a=na
  ·subst z;exact .inr OR
  ·rw[ai z]at h;by_cases z2:a=p
   ·subst z2;exact .inr hp
   ·rw[ai z2]at h;exact .inl h)
 exact⟨_,Q1,Q2,rfl,rfl,rfl,rfl,⟨s2 _ _ au,au⟩⟩
def KY(A:Ad):Sp:=fun vs H Q _=>∃row b d,vs=[.ref (b.g .aL),.str (bB row)]∧row.length≤7000000∧a0 A b∧H=b.H∧cX d b.M∧Sz b.M∧∀b',a0 A b'→dn A b b'→b'.M=x8 d b.M row→b'.tx=b.tx→Q (.int (mS d row)) b'.H
theorem Eb(T:Tx K mg A)(D:Kd w K A):bN P w K mg base fU 7 A.hX A.kg ["self","row"] (KY A):=by
 have sc:=DH;have F:=T.Bw.F;walk_at "f"
 ·obtain⟨row,b,d,rfl,_⟩:=h;rfl
 ·obtain⟨row,b,d,rfl,hlen,B,rfl,m,sz,k⟩:=h;refine⟨_,(ag (aX (i:=2) sc.nd rfl (apN rfl) (br (Jk T) hr.mn rfl T.Mj T.zJ.F.kp T.zJ.b .nil aP (af (pv 1) ax)))
 (ag (bo (aD kY (pv 2) cj (aH _)) (aw (aB (bz T.lB))) aM)
 (ag (bo (sL (kX (bg (pv 0) T.c.cO T.Eo (Ce T) hr.mn T.yH.b .nil aP (af (pv 2) ax)))) (aw (aB (bz T.mB))) aM)
 (ag (bo (kX (bg (pv 0) T.c.cO T.Jo (Gk T) hr.mn T.Fx.b .nil aP (af (pv 2) ax))) (aw (aB (bz T.Ak))) aM)
 (ag (bo (kX (bg (pv 0) T.c.cO T.Af (xX T D) hr.mn T.ue.b .nil aP (af (pv 2) ax))) (aw (aB (bz T.wN))) aM)
 (ag (cQ (bg (pv 0) T.c.cO T.Gv (Ed T) hr.mn T.Bz.b .nil aP (af (pv 2) ax)))
 (aw (aB (bz T.Aj))))))))),?_⟩
  walk_at "z";walk_at "e";refine⟨row,rfl,hlen,?_⟩;cases q:lineIn row with
  |none=>
   intro H1 s1;refine bQ ?_;have kk:=k {b with H:=H1} (B.on s1) (dn.same s1) (by unfold x8;rw[q]) rfl;have ew:mS d row=1:=by unfold mS;rw[q]
   rw[ew]at kk;show eV _ _ _ [some (V.ref (b.g .aL)),some (V.str (bB row)),some V.cx] H1;walk_at "e";exact kk
  |some x=>
   intro H1 lp na dx s1 hp OR ig;refine bQ ?_;have ok:=(nB q).1;have ew:mS d row=wrongOf d x:=by unfold mS;rw[q]
   have eN:x8 d b.M row=if wrongOf d x=0 then b.M.add x else b.M:=by unfold x8;rw[q]
   have j7:=m.T4 x;have htm:=m.YR x;walk_at "e";refine bQ ?_;refine Dz ?_;have QU:=s1 _ _ B.aL;walk_at "d";refine⟨lp,{b with H:=H1},x,na,dx,d,rfl,B.on s1,rfl,m,ig,ok,fun H2 s2=>⟨_,rfl,?_⟩⟩;have s12:=s1.trans s2;cases w1:eu b.M x with
   |false=>
    have e:wrongOf d x=3:=by unfold wrongOf;rw[←j7,w1];rfl
    have kk:=k {b with H:=H2} (B.on s12) (dn.same s12) (by rw[eN,e];rfl) rfl;rw[ew,e]at kk;exact kk
   |true=>
    refine bW (fun z=>by cases z) fun _=>bQ ?_;have acP:=ig.same s2;have Wv:=s12 _ _ B.aL;walk_at "e";refine⟨lp,{b with H:=H2},x,na,dx,d,rfl,B.on s12,rfl,m,acP,ok,w1,fun H3 s3=>⟨_,rfl,?_⟩⟩;have Zd:=s12.trans s3;cases w2:clashes d x with
    |true=>
     have e:wrongOf d x=4:=by unfold wrongOf;rw[←j7,w1,w2];rfl
     have kk:=k {b with H:=H3} (B.on Zd) (dn.same Zd) (by rw[eN,e];rfl) rfl;rw[ew,e]at kk;exact kk
    |false=>
     refine bW (fun z=>by cases z) fun _=>bQ ?_;have acO:=acP.same s3;have Yo:=Zd _ _ B.aL;walk_at "e";refine⟨lp,{b with H:=H3},x,na,dx,d,rfl,B.on Zd,rfl,m,acO,_,rfl,?_⟩;show if n9 b.M x=true then _ else _
     cases w3:n9 b.M x with
     |true=>
      have e:wrongOf d x=2:=by unfold wrongOf;rw[←j7,w1,w2,←htm,w3];rfl
      have kk:=k {b with H:=H3} (B.on Zd) (dn.same Zd) (by rw[eN,e];rfl) rfl;rw[ew,e]at kk;exact kk
     |false=>
      refine bW (fun z=>by cases z) fun _=>bQ ?_;have e:wrongOf d x=0:=by unfold wrongOf;rw[←j7,w1,w2,←htm,w3];rfl
      rw[e,if_pos rfl]at eN;obtain⟨b3,B3,G3,f1,f2,f3,f4,f5⟩:=B.addLine Zd hp OR acO;have hb4:=B3.aL;rw[f4,f1]at hb4;walk_at "e";refine⟨lp,b3,x,na,dx,d,by rw[f4],B3,f1.symm,by rw[f2];exact m,by rw[f2];exact sz,f5,ok,by rw[f2];exact w1,w2,fun b4 B4 G4 g1 g2=>bQ ?_⟩;have kk:=k b4 B4 (G3.trans G4) (by rw[g1,f2,eN]) (g2.trans f3);rw[ew,e]at kk;walk_at "d";exact kk
theorem J9:bootBuiltins "list"=some (arB "list"):=by rfl
theorem a0.newText{b:Bs}(B:a0 A b){tn:Addr}(h:b.H tn=none)(l:List Int):
  ∃b',a0 A b'∧dn A b b'∧b'.H=aJ (aJ b.H tn (.aN (l.map V.int))) (b.g .aL) (.bR A.cb b.dX (SS b.g b.z b.M tn))∧b'.M=b.M∧b'.tx=l∧b'.g=b.g:=by
 have EU:iW A b .aL:=rfl;obtain⟨⟨o,hbo⟩,hbF⟩:=B.vc EU;have fn:b.F tn=none:=B.same.free h;have nb:tn≠b.g .aL:=fun e=>by rw[e,hbo]at h;cases h
 have PP:a0 A {b with F:=aJ b.F tn (.aN (l.map V.int)),H:=aJ (aJ b.H tn (.aN (l.map V.int))) (b.g .aL) (.bR A.cb b.dX (SS b.g b.z b.M tn)),ta:=tn,tx:=l}∧dn A b {b with F:=aJ b.F tn (.aN (l.map V.int)),H:=aJ (aJ b.H tn (.aN (l.map V.int))) (b.g .aL) (.bR A.cb b.dX (SS b.g b.z b.M tn)),ta:=tn,tx:=l}:=by
  have f:aV b.F (aJ b.F tn (.aN (l.map V.int))):=gk fn;refine B.change (b':={b with F:=aJ b.F tn (.aN (l.map V.int)),H:=aJ (aJ b.H tn (.aN (l.map V.int))) (b.g .aL) (.bR A.cb b.dX (SS b.g b.z b.M tn)),ta:=tn,tx:=l}) (fun _=>False) f (fun a h'=>?_) (fun a o e=>?_) (fun r _=>rfl) (fun r h=>h.elim) (fun r r' h=>h.elim) (fun r h' _=>?_) (fun r o e=>?_) (fun a o e n=>?_) rfl
   ⟨fun i h=>let⟨dx,e⟩:=B.iv i h;⟨dx,f _ _ e⟩,fun t T h=>let⟨dx,na,e1,e2⟩:=B.town t T h;⟨dx,na,f _ _ e1,f _ _ e2⟩,
  fun t T h=>let⟨dx,na,hl,e1,e2,e3⟩:=B.street t T h;⟨dx,na,hl,f _ _ e1,f _ _ e2,f _ _ e3⟩,fun k r h=>(B.run k r h).same f,au⟩
  ·by_cases z:a=tn
   ·subst z;exact .inr h
   ·left;intro q;apply h';show aJ b.F tn _ a=none;rw[ai z];exact q
  ·have e':aJ b.F tn (.aN (l.map V.int)) a=some o:=e;show aJ (aJ b.H tn _) (b.g .aL) _ a=some o;by_cases z:a=tn
   ·subst z;rw[au]at e';rw[ai nb,au];exact e'
   ·rw[ai z]at e';have z2:a≠b.g .aL:=fun q=>by rw[q,hbF]at e';cases e'
    rw[ai z2,ai z];exact B.same _ _ e'
  ·cases r<;>exact h'
  ·have e':mc A b.g b.z b.M tn b.dX r=some o:=e;show aJ (aJ b.H tn _) (b.g .aL) _ (b.g r)=some o;by_cases q:r=.aL
   ·subst q;rw[au];exact e'
   ·have e2:mc A b.g b.z b.M b.ta b.dX r=some o:=by
     cases r<;>first|exact e'|exact absurd rfl q
    have q2:b.g r≠b.g .aL:=fun z=>q (B.inj r .aL (by rw[e2];rfl) EU z);obtain⟨m1,_⟩:=B.mt r o e2;rw[ai q2,ai (aj m1 h)];exact m1
  ·show aJ (aJ b.H tn _) (b.g .aL) _ a=some o;rw[ai (fun z=>n .aL EU z.symm),ai (aj e h)];exact e
 exact⟨_,PP.1,PP.2,rfl,rfl,rfl,rfl⟩
theorem J2(c:UInt8):∀(b:Bytes),∀x∈cutAt c b,x.length≤b.length
 |[],x,h=>by
  have:x=[]:=by simpa[cutAt]using h
  rw[this];exact apE _
 |y::r,x,h=>by
  by_cases e:y=c
  ·subst e;rw[fT]at h;rcases apA.mp h with h|h
   ·rw[h];exact apV _
   ·exact auQ (J2 y r x h)
  ·cases q:cutAt c r with
   |nil=>exact absurd q (dC c r)
   |cons u l=>
    rw[eD e q]at h;rcases apA.mp h with h|h
    ·rw[h];have:=J2 c r u (by rw[q];exact apD);simp only[apz];omega
    ·exact auQ (J2 c r x (by rw[q];exact apy _ h))
theorem OV{rows:List Bytes}{i:Nat}{row:Bytes}{d:aqG}(h:bP 0 [] (rows.take i)=.ok d)(hi:rows[i]? =some row)(w:mS d row≠0):bP 0 [] rows=.error (i,mS d row):=by
 have hl:i<rows.length:=(apu.mp hi).1;have e:rows=rows.take i++row::rows.drop (i+1):=by
  conv=>lhs;rw[←arl i rows]
  rw[asi hl,(apu.mp hi).2]
 rw[e,wW,h];have e2:(rows.take i).length=i:=by rw[aqm];omega
 show bP (0+(rows.take i).length) d (row::_)=_;rw[e2,bP,ar2];unfold mS at w ⊢;cases q:lineIn row with
 |none=>rfl
 |some x=>
  rw[q]at w;show(if wrongOf d x=0 then _ else _)=_;rw[if_neg w]
theorem Sq{rows:List Bytes}{i:Nat}{row:Bytes}{d:aqG}(h:bP 0 [] (rows.take i)=.ok d)(hi:rows[i]? =some row)(w:mS d row=0):∃x,lineIn row=some x∧wrongOf d x=0∧bP 0 [] (rows.take (i+1))=.ok (d++[x]):=by
 unfold mS at w;cases q:lineIn row with
 |none=>rw[q]at w;exact absurd w avf
 |some x=>
  rw[q]at w;refine⟨x,rfl,w,?_⟩;rw[aq6,hi,wW,h];show bP _ d [row]=_;rw[bP,q];show(if wrongOf d x=0 then _ else _)=_;rw[if_pos w];rfl
def tV(t:Bytes)(b:Bs)(why:Nat):Prop:=match readDir t with
 | .ok d=>why=0∧cX d b.M∧Sz b.M∧b.tx=cf t
 | .error e=>why≠0∧why=e.2∧b.M.aF.length=e.1
theorem Qg(u:Bytes):bB u=("":Str)↔u=[]:=by
 constructor
 ·intro h;have:=congrArg atu h;rw[bL]at this;exact aqN.mp this
 ·intro h;subst h;rfl
structure FlI(A:Ad)(b1:Bs)(rows:List Bytes)(t:Bytes)(i:Nat)(b':Bs)(d:aqG):Prop where
 at_:a0 A b'
 gr:dn A b1 b'
 go:bP 0 [] (rows.take i)=.ok d
 A6:cX d b'.M
 sz:Sz b'.M
 tx:b'.tx=cf t
def WU(A:Ad):Sp:=fun vs H Q _=>∃b ta t,vs=[.ref (b.g .aL),.ref ta]∧a0 A b∧H=b.H∧b.M=Bk.empty∧b.H ta=some (.aN ((cf t).map V.int))∧t.length≤7000000∧¬Fp A b ta∧∀b' why,a0 A b'→dn A b b'→tV t b' why→Q (.int (why:Nat)) b'.H
theorem Oc(T:Tx K mg A)(D:Kd w K A):bN P w K mg base fU 8 A.pP A.u6 ["self","text"] (WU A):=by
 have sc:=NG;have F:=T.Rh.F;walk_at "f"
 ·obtain⟨b,ta,t,rfl,_⟩:=h;rfl
 ·obtain⟨b,ta,t,rfl,B,rfl,eM,M3,hlen,Vy,k⟩:=h;refine⟨_,(ag (aW (pv 0) (uA J7 (by rfl) T.Pt J9 (af (pv 1) ax)) rfl)
 (ag (aX (i:=2) sc.nd rfl (apN rfl) (D0 (br (LB T) hr.mn rfl T.OW T.Ds.F.kp T.Ds.b .nil aP (af (pv 1) ax)) aR))
 (ag (aX (i:=3) sc.nd rfl (apN rfl) (W9 auD PySem.F.type_list_pop Zu (pv 2)))
 (ag (wA ara rfl (mZ (pv 2)) (fW (i:=4) sc.nd rfl (apN rfl)) (ag (aX (i:=5) sc.nd rfl (apN rfl) (bg (pv 0) T.c.cO T.Gs (Eb T D) hr.mn T.Bw.b .nil aP (af (pv 4) ax)))
 (aw (bo (aD m9 (pv 5) (bz T.Aj) (aH _)) (aw (aB (pv 5))) aM))))
 (aw (aB (i9 (aD cy (pv 3) aR (aH _)) (bz T.Aj) (bz T.lB)))))))),?_⟩
  walk_at "z";have EU:=B.aL;unfold SS at EU;have ig:b.g .aL≠ta:=fun z=>Vy (.inr ⟨.aL,rfl,z⟩);walk_at "g";refine⟨(cf t).map V.int,.inl (jH.of M3),fun tn To=>?_⟩;have nb:b.g .aL≠tn:=aj EU To;obtain⟨b1,B1,G1,e1,e2,e3,e4⟩:=B.newText To (cf t);refine⟨_,_,_,by rw[ai nb];exact EU,C.cO,C.lL,by rw[u9];trivial,?_⟩;rw[Fy];unfold SS at e1;rw[←e1];walk_at "n";have aha:=G1.fr _ _ M3 Vy;have eM1:b1.M=Bk.empty:=e2.trans eM;have ahs:=Vy;rw[←e4];clear EU nb e1 M3 ig ahs e4;obtain⟨rows,u,er⟩:∃rows u,cutAt 10 t=rows++[u]:=⟨(cutAt 10 t).dropLast,(cutAt 10 t).getLast (dC 10 t),(aru _).symm⟩;show eV _ _ _ [some (V.ref (b1.g .aL)),some (V.ref ta),none,none,none,none] b1.H;walk_at "g";have hs:=sizeLine_eq;refine⟨ta,rfl,t,jH.of aha,hlen,fun H2 s2=>⟨⟨_,rfl⟩,_,rfl,rfl,by rw[bL,hs];omega,fun ra hra=>n1.go _ _ ?_⟩⟩;clear n1 R;rw[Nl,er,apJ];generalize hG:aJ H2 ra _=H3;have s3:aV b1.H H3:=by rw[←hG];exact s2.trans (bZ hra)
  have Gz:H3 ra=some (.aN ((rows++[u]).map fun r=>V.str (bB r))):=by rw[←hG];exact au
  have Z3:b1.H ra=none:=s2.free hra;clear hG hra s2 H2;show eV _ _ _ [some (V.ref (b1.g .aL)),some (V.ref ta),some (V.ref ra),none,none,none] H3;walk_at "g";have hL:((rows++[u]).map fun r=>V.str (bB r))=(rows.map fun r=>V.str (bB r))++[V.str (bB u)]:=by rw[apB];rfl
  rw[hL]at Gz;refine⟨ra,_,.str (bB u),rfl,rfl,Gz,?_,n1.go _ _ ?_⟩
  ·rw[apr,ap5,Nat.add_sub_cancel,aqh (apE _),atJ];rfl
  clear n1 R;rw[auj];generalize hG:aJ H3 ra _=H4;have s4:aV b1.H H4:=fun x o e=>by rw[←hG,ai (aj e Z3)];exact s3 x o e
  have hr4:H4 ra=some (.aN (rows.map fun r=>V.str (bB r))):=by rw[←hG];exact au
  clear hG Gz hL s3 H3;have B4:=B1.on s4;have G4:dn A b {b1 with H:=H4}:=G1.trans (dn.same s4);have Zs:¬Fp A {b1 with H:=H4} ra:=fun z=>by
   have z':Fp A b1 ra:=z;rcases z' with z'|⟨r,z1,z2⟩
   ·exact z' (B1.same.free Z3)
   ·obtain⟨⟨o,q⟩,_⟩:=B1.vc z1;rw[z2,Z3]at q;cases q
  have I0:FlI A {b1 with H:=H4} rows t 0 {b1 with H:=H4} []:=⟨B4,dn.refl _ _,by rw[aub];rfl,by show cX [] b1.M;rw[eM1];exact Qt,by show Sz b1.M;rw[eM1];exact Y6,e3⟩;clear e3 e2 eM eM1;have ahi:∀r∈rows,r.length≤7000000:=fun r hr=>aqa (J2 10 t r (by rw[er];exact aqr _ hr)) hlen;show eV _ _ _ [some (V.ref (b1.g .aL)),some (V.ref ta),some (V.ref ra),some (V.str (bB u)),none,none] H4;refine bt fun R n1=>?_;refine⟨_,rfl,ra,rfl,⟨_,jH.of hr4⟩,?_⟩;refine yr (K:=K) (a:=ra) (xs:=rows.map fun r=>V.str (bB r)) (fun i σ H'=>∃v4 v5 b' d',σ=[some (V.ref (b1.g .aL)),some (V.ref ta),some (V.ref ra),some (V.str (bB u)),v4,v5]∧H'=b'.H∧FlI A {b1 with H:=H4} rows t i b' d')
   ⟨none,none,_,_,rfl,rfl,I0⟩ (fun i σ H' _ ⟨_,_,b',_,_,e,I⟩=>by rw[e];exact jH.of (I.gr.fr _ _ hr4 Zs)) ?_ ?_
  ·rintro i x σ H' hi ⟨v4,v5,b',d',rfl,rfl,I⟩;rw[apH]at hi;obtain⟨row,QN,rfl⟩:=apF.mp hi;clear n1;have EU:=I.at_.aL;have ebk:b1.g .aL=b'.g .aL:=I.gr.bk.symm;have hlr:=ahi row (aps QN);show eV _ _ _ [some (V.ref (b1.g .aL)),some (V.ref ta),some (V.ref ra),some (V.str (bB u)),some (V.str (bB row)),v5] b'.H;refine bt fun R2 n2=>?_;walk_at "d";refine⟨row,b',d',rfl,hlr,I.at_,rfl,I.A6,I.sz,fun b2 B2 G2 em et=>n2.go _ _ ?_⟩;clear n2 R2;have em2:b2.M=x8 d' b'.M row:=em;clear em;walk_at "d";refine bW (fun c=>k b2 (mS d' row) B2 (G4.trans (I.gr.trans G2)) ?_) fun c=>?_
   ·have Bf:mS d' row≠0:=fun z=>c (by rw[z];rfl);unfold tV;rw[lx t rows u er,OV I.go QN Bf];refine⟨Bf,rfl,?_⟩;have e1:x8 d' b'.M row=b'.M:=by
     unfold x8;unfold mS at Bf;cases q:lineIn row with
     |none=>rfl
     |some x=>
      rw[q]at Bf;show(if wrongOf d' x=0 then _ else _)=_;rw[if_neg Bf]
    have hl:=wV _ _ _ _ I.go;have Z6:=(apu.mp QN).1;rw[aqm]at hl;rw[em2,e1,I.A6.aF,hl];show 0+_=i;omega
   ·have hz:mS d' row=0:=by
     have:=auR.mp c;omega
    obtain⟨x,q1,q2,q3⟩:=Sq I.go QN hz;have e1:x8 d' b'.M row=b'.M.add x:=by
     unfold x8;rw[q1];show(if wrongOf d' x=0 then _ else _)=_;rw[if_pos q2]
    exact⟨b2,rfl,_,⟨B2,I.gr.trans G2,q3,by rw[em2,e1];exact I.A6.step (nB q1).1 q2,by rw[em2,e1];exact I.sz.step x,et.trans I.tx⟩⟩
  ·rintro σ H' ⟨v4,v5,b',d',rfl,rfl,I⟩;walk_at "n";have Z7:=I.go;rw[apt,aq2]at Z7;walk_at "d";have Xx:=lx t rows u er;rw[Z7]at Xx;dsimp only at Xx;refine bW (fun c=>k b' 0 I.at_ (G4.trans I.gr) ?_) fun c=>k b' 1 I.at_ (G4.trans I.gr) ?_
   ·rw[if_pos ((Qg u).mp c)]at Xx;unfold tV;rw[Xx];exact⟨rfl,I.A6,I.sz,I.tx⟩
   ·rw[if_neg (fun z=>c ((Qg u).mpr z))]at Xx;unfold tV;rw[Xx];refine⟨avf,rfl,?_⟩;have hl:=wV _ _ _ _ Z7;rw[I.A6.aF,hl];exact ar2 _
local macro_rules|`(tactic|walk_at "o")=>zzR " vi BG RR"
theorem Bv:bootBuiltins "str"=some (arB "str"):=by rfl
theorem p9(a b:Bytes):bB a++bB b=bB (a++b):=by
 apply wY;rw[yW,iX,iX,iX,apB]
theorem uw{s:String}{v:Bytes}(hv:v.all cE=true)(h:s.toList.map ass=v.map fun c=>c.toNat):aqQ s=bB v:=((j1 hv h v).mpr rfl).symm
theorem VU(n:Nat):(decimal n).map (fun c=>c.toNat)=RZ n:=by
 induction n using as0 with
 |_ n ih=>
  rw[gI];by_cases q:n<10
  ·rw[if_pos q,Xh q];show[(apM (48+n)).toNat]=_;rw[cJ (by omega)]
  ·rw[if_neg q,apB,RY (n:=n) (by omega),ih (n / 10) (by omega)];show _++[(apM (48+n % 10)).toNat]=_;rw[cJ (by omega)]
theorem P7(n:Nat):aqQ (toString ((n:Nat):Int))=bB (decimal n):=by
 apply wY;rw[YS,iX,ny (qG n),VU]
theorem Iy{v:Bytes}(h:v.all cE=true):(tl (bB v)).map (fun(c:Nat)=>(c:Int))=cf v:=by
 rw[iX,ny h,apJ];rfl
theorem ZG{x:Str}{g:TG}{tt:TT}{te:TE}{vs:List Nat}{σ:L2.Internal.St}{H1:Hp}{D:Addr}{Qd:Hp→Prop}(Pv:Nat→Hp→Prop)(h0:Pv 0 (aJ H1 D (.aN [])))
  (hs:∀i c H,(tl x)[i]? =some c→Pv i H→g (.str ⟨#[c]⟩) (fV σ vs) H fun σ2 H2=>fV σ2 vs=fV σ vs∧tt σ2 H2 fun b H3=>
   if b=true then te σ2 H3 fun y H4=>∃acc,H4 D=some (.aN acc)∧acc.length<sizeLine∧Pv (i+1) (aJ H4 D (.aN (acc++[y])))else Pv (i+1) H3)(hd:∀H,Pv (tl x).length H→Qd H):
  ∃W:Nat→Nat→Hp→Prop,(∃m,W 0 m (aJ H1 D (.aN [])))∧∀i m H,W i m H→
   ((Its x).stop i H∧Qd H)∨((Its x).go i H∧∃Nx:Hp→Prop,(∀H',Nx H'→∃m',m'<m∧W (i+1) m' H')∧∀v H',(Its x).Wl i H v H'→g v (fV σ vs) H' fun σ2 H2=>fV σ2 vs=fV σ vs∧tt σ2 H2 fun b H3=>
    if b=true then te σ2 H3 fun y H4=>∃acc,H4 D=some (.aN acc)∧acc.length<sizeLine∧Nx (aJ H4 D (.aN (acc++[y])))else Nx H3):=by
 have hz:x.cps.size=(tl x).length:=ars.symm;refine⟨fun i m H=>m=(tl x).length-i∧i≤(tl x).length∧Pv i H,⟨_,rfl,apV _,h0⟩,?_⟩;rintro i m H ⟨rfl,hi,p⟩;by_cases gX:i<(tl x).length
 ·refine .inr ⟨by show i<x.cps.size;rw[hz];exact gX,Pv (i+1),fun H' p'=>⟨(tl x).length-(i+1),by omega,rfl,gX,p'⟩,?_⟩;rintro v H' ⟨rfl,c,hc,rfl⟩;exact hs i c _ (by rw[←hc];exact asO) p
 ·have e:i=(tl x).length:=by omega
  subst e;exact .inl ⟨by show x.cps.size≤_;rw[hz];exact apE _,hd H p⟩
def dg(l:List Int)(H:Hp)(Q:VK):Prop:=∀H' a,aV H H'→H a=none→H' a=some (.aN (l.map V.int))→Q (.ref a) H'
theorem oS(v:V):[v].length≤sizeLine:=by rw[sizeLine_eq];show 1≤16777216;decide
theorem dg.new{l:List Int}{H:Hp}{Q:VK}(k:dg l H Q)(p:Addr)(hp:H p=none):Q (.ref p) (aJ H p (.aN (l.map V.int))):=k _ p (bZ hp) hp au
def K4:Sp:=fun vs H Q _=>∃z,vs=[.str z]∧z.length<sizeLine∧dg ((tl z).map fun(c:Nat)=>(c:Int)) H Q
theorem LG(T:Tx K mg A):bN P w K mg base fU 1 A.mK A.qO ["signs"] (K4):=by
 have sc:=Lh;have F:=T.Fu.F;walk_at "f"
 ·obtain⟨z,rfl,_⟩:=h;rfl
 ·obtain⟨z,rfl,hz,k⟩:=h;refine⟨_,(aw (aB (Hx rfl sc.nd (Zl (pv 0)) (mM (own:=[("sign",1)]) rfl) (fun _ _ _ _ _=>fW (i:=1) sc.nd rfl (apN rfl)) (fun _ _ _ _ _=>qj) (fun _ _ _ _ _=>bH Fs (by rfl) T.MN asT (af (pv 1) ax))))),?_⟩;walk_at "z";show xo _ _ [some (V.str z),none] H;rw[qv]at hz;refine⟨_,rfl,z,rfl,fun D hD=>ZG (fun i H'=>aV H H'∧H' D=some (.aN (((tl z).take i).map fun(c:Nat)=>V.int (c:Int)))) ⟨fun c o e=>by rw[ai (aj e hD)];exact e,au⟩ ?_ ?_⟩
  ·rintro i c H' hi ⟨s1,oK⟩;refine⟨rfl,?_⟩;simp only[KG,↓reduceIte];refine⟨_,rfl,_,rfl,rfl,_,oK,?_,fun x o e=>?_,?_⟩
   ·rw[apt,aqm];omega
   ·rw[ai (aj e hD)];exact s1 x o e
   ·rw[au,aq6,hi,apB];rfl
  ·rintro H' ⟨s1,oK⟩;rw[aq2]at oK;exact k H' D s1 hD (by rw[oK,apJ];rfl)
def Nm:Sp:=fun vs H Q _=>∃z,vs=[.str z]∧z.length+1<sizeLine∧dg ((z.length:Int)::(tl z).map fun(c:Nat)=>(c:Int)) H Q
theorem wF(T:Tx K mg A):bN P w K mg base fU 2 A.pN A.u4 ["signs"] (Nm):=by
 have sc:=ND;have F:=T.qS.F;walk_at "f"
 ·obtain⟨z,rfl,_⟩:=h;rfl
 ·obtain⟨z,rfl,hz,k⟩:=h;refine⟨_,(aw (aB (aZ wC (cG (af (bH jy (by rfl) T.ft ap8 (af (pv 0) ax)) ax)) (br (LG T) hr.mn rfl T.O0 T.Fu.F.kp T.Fu.b .nil aP (af (pv 0) ax))))),?_⟩;walk_at "z";walk_at "d";have hs:=sizeLine_eq;refine⟨by omega,oS _,fun p hp=>⟨z,rfl,by omega,fun H2 a s2 ha ha2=>?_⟩⟩;have hpa:p≠a:=(aE ha).1.symm;refine⟨a,rfl,_,s2 _ _ au,_,ha2,?_,fun q hq=>?_⟩
  ·rw[apt,apt,←qv];show 1+_≤_;omega
  ·exact k _ q (fun x o e=>by rw[ai (aj (s2 _ _ ((bZ hp) _ _ e)) hq)];exact s2 _ _ ((bZ hp) _ _ e)) (((bZ hp).trans s2).free hq) au
def Um:Sp:=fun vs H Q _=>∃v,vs=[v]∧((v=.cx∧dg [-3] H Q)∨∃i,v=.int i∧dg [i] H Q)
theorem rf(T:Tx K mg A):bN P w K mg base fU 1 A.gG A.jv ["i"] (Um):=by
 have sc:=BU;have F:=T.ji.F;walk_at "f"
 ·obtain⟨v,rfl,_⟩:=h;rfl
 ·obtain⟨v,rfl,k⟩:=h;refine⟨_,(aw (aB (i9 (aD kY (pv 0) cj (aH _)) (cG (af (bz T.tJ) ax)) (cG (af (pv 0) ax))))),?_⟩;walk_at "z";rcases k with⟨rfl,k⟩|⟨i,rfl,k⟩
  ·walk_at "d";exact⟨oS _,k.new⟩
  ·walk_at "d";rw[if_neg (by nofun)];exact⟨oS _,k.new⟩
local macro_rules|`(tactic|walk_at "o")=>zzR " vi KJ mU KH AV vj vX vW DN DM Ng vY BG DS KI AU Kn RR uz xH UG UD L7 Bb L6 Yk Yj kD"
theorem a0.TK{b:Bs}(B:a0 A b){d:aqG}(m:cX d b.M){t:Nat}(h:t<townsIn d):∃dx na l,b.H (b.z.town t)=some (.bR A.jz dx (C5 (.ref na) (.ref (b.g (.bj t))) (.ref (b.z.iv (.boxes t)))))∧b.H na=some (.aN (Of l))∧(townNames d)[t]? =some l∧w8 l:=by
 rw[←m.Jr]at h;have hT:=apO h;obtain⟨dx,na,e1,e2⟩:=B.town t _ hT;have e3:(townNames d)[t]? =some b.M.ao[t].names:=by rw[←m.tn,apH,hT];rfl
 exact⟨dx,na,_,B.same _ _ e1,B.same _ _ e2,e3,Hd m.dA (aps e3)⟩
theorem a0.KN{b:Bs}(B:a0 A b){d:aqG}(m:cX d b.M){s:Nat}(h:s<streetsIn d):∃dx na l y z,b.H (b.z.street s)=some (.bR A.eE dx (vn (.ref na) y z (.ref (b.g (.letters s)))))∧b.H na=some (.aN (Of l))∧(streetNames d)[s]? =some l∧w8 l:=by
 rw[←m.Js]at h;have hS:=apO h;obtain⟨dx,na,hl,e1,e2,e4⟩:=B.street s _ hS;have e3:(streetNames d)[s]? =some b.M.ae[s].names:=by rw[←m.sn,apH,hS];rfl
 exact⟨dx,na,_,_,_,B.same _ _ e1,B.same _ _ e2,e3,AW m.dA (aps e3)⟩
theorem LI{n:Name}{r:List Name}:mP (Of (n::r)) 0=some (.str (bB (spaced n))):=fZ (j:=0) rfl
theorem Xn:("box ":Str)=bB (ascii "box "):=uw (by decide) (by decide)
theorem OB:("number ":Str)=bB (ascii "number "):=uw (by decide) (by decide)
theorem OA:("street ":Str)=bB (ascii "street "):=uw (by decide) (by decide)
theorem Vh:("town ":Str)=bB (ascii "town "):=uw (by decide) (by decide)
theorem Vj:("code ":Str)=bB (ascii "code "):=uw (by decide) (by decide)
theorem Vi:("\n":Str)=bB [10]:=uw (by decide) (by decide)
theorem log2_small{n:Nat}(h:n≤999999):((n:Nat):Int).natAbs.log2<1920:=by
 rw[Int.natAbs_natCast];by_cases q:n=0
 ·subst q;decide
 ·have:n.log2<20:=(Nat.log2_lt q).mpr (by omega);omega
theorem R8{p:Point}(ok:adv p):aqt p.letter≤26∧LR (aqt p.letter)=if p.letter=0 then[]else[p.letter]:=by
 unfold aqt LR;by_cases q:p.letter=0
 ·rw[if_pos q,if_pos q];exact⟨by decide,rfl⟩
 ·rw[if_neg q,if_neg q];rcases ok.l with z|z
  ·exact absurd z q
  ·rw[if_neg (by omega),show p.letter.toNat-96+96=p.letter.toNat by omega,auP];exact⟨by omega,rfl⟩
theorem HG:∀r:List Bytes,vB [] (r.map fun w=>w.map sg)=r.flatten.map sg
 |[]=>rfl
 |[w]=>by simp[vB]
 |w::v::r=>by
  have ih:=HG (v::r);show w.map sg++([]++vB [] ((v::r).map fun w=>w.map sg))=_;rw[ih];simp
theorem join_none(r:List Bytes):atb ("":Str) (r.map bB)=bB r.flatten:=by
 apply wY;rw[join_eq,CM,apJ];exact HG r
def qZ(L:List Bytes):List V:=L.map fun r=>V.str (bB r)
def Ui(A:Ad):Sp:=fun vs H Q _=>∃b d a dx p,vs=[.ref (b.g .aL),.ref a]∧a0 A b∧H=b.H∧cX d b.M∧b.H a=some (.bR A.jA dx (ptV p))∧p∈pointsOf d∧∀H',aV H H'→Q (.str (bB (partsText (pointParts d p)))) H'
theorem LD(T:Tx K mg A):bN P w K mg base fU 2 A.mG A.qK ["book","point"] (Ui A):=by
 have sc:=Ld;have F:=T.D3.F;walk_at "f"
 ·obtain⟨b,d,a,dx,p,rfl,_⟩:=h;rfl
 ·obtain⟨b,d,a,dx,p,rfl,B,rfl,m,ha,hp,k⟩:=h;refine⟨_,(ag (aX (i:=2) sc.nd rfl (apN rfl) (cG (af (aZ cu aR (uA yF (by rfl) T.Rj Bv (af (aq (pv 1) rfl) ax))) ax)))
 (ag (bo (aD m9 (aq (pv 1) rfl) (bz T.ku) (aH _)) (ag (aX (i:=3) sc.nd rfl (apN rfl) (aZ cu (uA yF (by rfl) T.Rj Bv (af (aq (pv 1) rfl) ax)) (br (D8 T) hr.mn rfl T.GB T.tH.F.kp T.tH.b .nil aP (af (aq (pv 1) rfl) ax))))
 (aw (aX (i:=2) sc.nd rfl (apN rfl) (cG (af (aZ cu aR (pv 3)) (af (aZ cu aR (bC dm (aq (bC dm (aq (pv 0) rfl) (aq (pv 1) rfl) (fun _ _=>rfl)) rfl) ay (fun _ _=>rfl))) ax)))))) aM)
 (ag (cQ (jQ aqM aqT jY (pv 2) (af (aZ cu aR (bC dm (aq (bC dm (aq (pv 0) rfl) (aq (pv 1) rfl) (fun _ _=>rfl)) rfl) ay (fun _ _=>rfl))) ax)))
 (ag (cQ (jQ aqM aqT jY (pv 2) (af (aZ cu aR (aq (pv 1) rfl)) ax)))
 (aw (aB (Jf aR (Hx rfl sc.nd (mZ (pv 2)) (mM (own:=[("row",4)]) rfl) (fun _ _ _ _ _=>fW (i:=4) sc.nd rfl (apN rfl)) (fun _ _ _ _ _=>qj) (fun _ _ _ _ _=>aZ cu (pv 4) aR))))))))),?_⟩
  walk_at "z";have ok:=UH m.dA p hp;have hs:=sizeLine_eq;have h6:=Bp ok.n2;have hlg:=log2_small ok.n2;unfold ptV at ha;walk_at "g";rw[Xn,P7,p9];refine⟨by rw[bL,bL];show 4+_≤_;omega,by show 1≤_;omega,fun q hq=>n1.go _ _ ?_⟩;clear n1 R;generalize hG:aJ b.H q _=H1;have s1:aV b.H H1:=by rw[←hG];exact bZ hq
  have hq1:H1 q=some (.aN (qZ [ascii "box "++decimal p.number])):=by rw[←hG];exact au
  clear hG;have hfa:=m.tW.town p hp;obtain⟨tdx,tna,tnl,ZX,ht2,ht3,ht4,ht5⟩:=B.TK m hfa.1;obtain⟨tn,tr,rfl⟩:∃tn tr,tnl=tn::tr:=by cases tnl with|nil=>exact absurd rfl ht4|cons x r=>exact⟨x,r,rfl⟩
  have Sh:=(ht5 tn apD).2;have QL:p.town<b.M.ao.length:=by rw[m.Jr];exact hfa.1
  have EU:=B.aL;have ag4:=B.ao;have hat:=uy b.z.town QL;have hnm:=LI (n:=tn) (r:=tr);have ec1:=ok.c2;clear hs;show eV _ _ _ [some (V.ref (b.g .aL)),some (V.ref a),some (V.ref q),none,none] H1;refine bt fun R n1=>?_;have tail:∀(L:List Bytes) (H2:Hp) (q:Addr) (v:Option V),aV b.H H2→b.H q=none→H2 q=some (.aN (qZ L))→L.length≤2→(∀r∈L,r.length≤300)→(L++[ascii "town "++spaced tn,ascii "code "++p.code]).flatMap (fun r=>r++[10])=partsText (pointParts d p)→R [some (.ref (b.g .aL)),some (.ref a),some (.ref q),v,none] H2:=fun L H2 q v s2 hq Sl hl hL eq=>n1.go _ _ (by
   clear n1 R hq1;have z1:=s2 _ _ ha;have z2:=s2 _ _ EU;have z3:=s2 _ _ ag4;have z4:=s2 _ _ ZX;have z5:=s2 _ _ ht2;walk_at "g";have hs:=sizeLine_eq;have hrl:∀L,(qZ L).length=L.length:=fun L=>apt _;rw[Vh,p9];refine⟨by rw[bL,bL,hs];show 5+_≤_;omega,by rw[hrl];omega,n1.go _ _ ?_⟩;clear n1 R;generalize hG:aJ H2 q _=H3;have s3:aV b.H H3:=fun x o e=>by rw[←hG,ai (aj e hq)];exact s2 x o e
   have hq3:H3 q=some (.aN (qZ (L++[ascii "town "++spaced tn]))):=by rw[←hG,au];unfold qZ;rw[apB];rfl
   clear hG z1 z2 z3 z4 z5 Sl s2 H2 hs;have z1:=s3 _ _ ha;show eV _ _ _ [some (V.ref (b.g .aL)),some (V.ref a),some (V.ref q),v,none] H3;walk_at "g";have hs:=sizeLine_eq;rw[Vj,p9];refine⟨by rw[bL,bL,hs];show 5+_≤_;omega,by rw[apr,ap5];omega,n1.go _ _ ?_⟩;clear n1 R;generalize hG:aJ H3 q _=H4;have s4:aV b.H H4:=fun x o e=>by rw[←hG,ai (aj e hq)];exact s3 x o e
   have Xy:H4 q=some (.aN (qZ (L++[ascii "town "++spaced tn,ascii "code "++p.code]))):=by
    rw[←hG,au];unfold qZ;rw[apB,apB,aqF];rfl
   clear hG z1 hq3 s3 H3;have hL4:∀r∈L++[ascii "town "++spaced tn,ascii "code "++p.code],r.length≤300:=fun r hr=>by
    rcases apx.mp hr with hr|hr
    ·exact hL r hr
    ·rcases apA.mp hr with hr|hr
     ·rw[hr,apr];show 5+_≤_;omega
     ·rw[ap2.mp hr,apr];show 5+_≤_;omega
   have hl4:(L++[ascii "town "++spaced tn,ascii "code "++p.code]).length≤4:=by rw[apr];show _+2≤4;omega
   generalize hLL:L++[ascii "town "++spaced tn,ascii "code "++p.code]=L4 at Xy hL4 hl4 eq;clear hLL;show xo _ _ [some (V.ref (b.g .aL)),some (V.ref a),some (V.ref q),v,none] H4;refine⟨⟨_,rfl⟩,_,rfl,q,rfl,⟨_,jH.of Xy⟩,fun D hD=>CS (K:=K) (a:=q) (xs:=qZ L4) (fun i H'=>aV H4 H'∧H' D=some (.aN (qZ ((L4.take i).map fun r=>r++[10])))) ⟨bZ hD,au⟩ (fun i H' _ h=>jH.of (h.1 _ _ Xy)) ?_ ?_⟩
   ·rintro i x H' hi ⟨s5,oK⟩;unfold qZ at hi;rw[apH]at hi;obtain⟨r,hr,rfl⟩:=apF.mp hi;have anh:=hL4 r (aps hr);refine⟨rfl,?_⟩;simp only[KG,↓reduceIte];refine⟨_,rfl,_,_,rfl,rfl,by rw[bL,hs];show _+1≤_;omega,_,oK,?_,fun x o e=>?_,?_⟩
    ·rw[hrl,apt,aqm];omega
    ·rw[ai (aj e hD)];exact s5 x o e
    ·rw[au,aq6,hr,Vi,p9];unfold qZ;rw[apB,apB];rfl
   ·rintro H' ⟨s5,oK⟩;rw[hrl,aq2]at oK;refine⟨_,D,(L4.map fun r=>r++[10]).map bB,rfl,rfl,.inl (jH.of ?_),?_,?_⟩
    ·rw[oK];unfold qZ;rw[apJ,apJ,apJ];rfl
    ·have e3:("":Str).length=0:=rfl;rw[e3,avU,atB,apJ,apJ];have:∀(l:List Bytes),(∀r∈l,r.length≤300)→(l.map ((fun x=>atu x)∘bB∘fun r=>r++[10])).sum≤301*l.length:=by
      intro l
      induction l with
      |nil=>intro _;exact apV _
      |cons x r ih=>
       intro h;have h1:=ih fun y hy=>h y (apy _ hy);have h2:=h x apD;have e:((fun x=>atu x)∘bB∘fun r=>r++[10]) x=x.length+1:=by
        show(bB (x++[10])).length=_;rw[bL,apr];rfl
       rw[apG,ato,e,apz];omega
     have:=this L4 hL4;refine aqa this ?_;omega
    ·rw[join_none];have e:(L4.map fun r=>r++[10]).flatten=partsText (pointParts d p):=by rw[←eq,List.flatMap_def]
     rw[e];exact k _ (s4.trans s5))
  have z1:=s1 _ _ ha;cases j7:p.street with
  |none=>
   rw[j7]at z1;have e0:yP none= -1:=rfl;rw[e0]at z1;walk_at "d";refine tail _ _ _ _ s1 hq hq1 (by show 1≤2;decide) (fun r hr=>?_) ?_
   ·rw[ap2.mp hr,apr];show 4+_≤_;omega
   ·unfold pointParts partsText;rw[j7,ht3];rfl
  |some st=>
   rw[j7]at z1;have e0:yP (some st)=(st:Int):=rfl;rw[e0]at z1;have hss:=hfa.2 st j7;obtain⟨sdx,sna,snl,sy,sz,hs1,Z0,hs3,hs4,hs5⟩:=B.KN m hss;obtain⟨sn,sr,rfl⟩:∃sn sr,snl=sn::sr:=by cases snl with|nil=>exact absurd rfl hs4|cons x r=>exact⟨x,r,rfl⟩
   have hsl:=(hs5 sn apD).2;rw[←m.Js]at hss;have y1:=s1 _ _ EU;have y2:=s1 _ _ B.ae;have y3:=uy b.z.street hss;have y4:=s1 _ _ hs1;have y5:=s1 _ _ Z0;have y6:=LI (n:=sn) (r:=sr);obtain⟨ln1,ln2⟩:=R8 ok;walk_at "d";refine bW (fun _=>⟨_,rfl,ln1,_,rfl,?_⟩) fun z=>absurd (by omega) z;rw[ln2,P7];walk_at "d";have hs:=sizeLine_eq;have gX:(if p.letter=0 then([]:Bytes)else[p.letter]).length≤1:=by split<;>simp
   rw[p9,OB,OA,p9,p9];refine⟨by rw[bL,bL,hs];omega,by rw[bL,bL,apr,hs];show 7+_≤_;omega,by rw[bL,bL,hs];show 7+_≤_;omega,by rw[hs];show 2≤16777216;decide,fun q2 Sl=>tail [ascii "number "++(decimal p.number++_),ascii "street "++spaced sn] _ _ _ (s1.trans (bZ Sl)) (s1.free Sl) au (apE 2) (fun r hr=>?_) ?_⟩
   ·rcases apA.mp hr with hr|hr
    ·rw[hr,apr,apr];show 7+_≤_;omega
    ·rw[ap2.mp hr,apr];show 7+_≤_;omega
   ·unfold pointParts partsText;rw[j7,ht3];dsimp only;rw[hs3];rfl
theorem a0.put{b:Bs}(B:a0 A b){a:Addr}(n:¬Fp A b a)(o:HO):a0 A {b with H:=aJ b.H a o}:=by
 have nF:b.F a=none:=auR.mp fun z=>n (.inl z);refine⟨fun x u e=>?_,fun r u e=>⟨?_,(B.mt r u e).2⟩,B.inj,B.iv,B.town,B.street,B.run,B.text⟩
 ·show aJ b.H a o x=some u;rw[ai (aj e nF)];exact B.same x u e
 ·show aJ b.H a o (b.g r)=some u;rw[ai (fun z=>n (.inr ⟨r,by show arq _=true;rw[e];rfl,z⟩))];exact(B.mt r u e).1
theorem a0.ah9{b:Bs}(B:a0 A b){a:Addr}(h:Fp A b a):∃o,b.H a=some o:=by
 rcases h with h|⟨r,h1,h2⟩
 ·cases q:b.F a with
  |none=>exact absurd q h
  |some o=>exact⟨o,B.same _ _ q⟩
 ·obtain⟨⟨o,e⟩,_⟩:=B.vc h1;rw[h2]at e;exact⟨o,e⟩
structure FU(A:Ad)(b:Bs)(d:aqG)(h hx:Addr):Prop where
 at_:a0 A b
 A6:cX d b.M
 tx:b.tx=cf (dirText d)
 held:Km d
 obj:b.H h=some (.bR A.f9 hx (JL (.ref (b.g .aL))))
 Zs:¬Fp A b h
theorem FU.same{b:Bs}{d:aqG}{h hx:Addr}{H':Hp}(I:FU A b d h hx)(s:aV b.H H'):FU A {b with H:=H'} d h hx:=⟨I.at_.on s,I.A6,I.tx,I.held,s _ _ I.obj,I.Zs⟩
theorem FU.put{b:Bs}{d:aqG}{h hx:Addr}(I:FU A b d h hx){a:Addr}(n:¬Fp A b a)(na:a≠h)(o:HO):FU A {b with H:=aJ b.H a o} d h hx:=
 ⟨I.at_.put n o,I.A6,I.tx,I.held,by show aJ b.H a o h=_;rw[ai na.symm];exact I.obj,I.Zs⟩
structure Stp(A:Ad)(b b':Bs)(h:Addr):Prop where
 fr:∀a o,b.H a=some o→¬Fp A b a→a≠h→b'.H a=some o
 fp:∀a,Fp A b' a→Fp A b a∨b.H a=none
theorem Stp.same{b:Bs}{h:Addr}{H':Hp}(s:aV b.H H'):Stp A b {b with H:=H'} h:=⟨fun a o e _ _=>s a o e,fun a z=>.inl z⟩
def nY(A:Ad)(b:Bs)(h hx:Addr)(d:aqG)(l:List Int)(Q:VK):Prop:=∀b' r,FU A b' d h hx→Stp A b b' h→b.H r=none→b'.H r=some (.aN (l.map V.int))→Q (.ref r) b'.H
theorem nY.tell{b:Bs}{h hx:Addr}{d:aqG}{l:List Int}{Q:VK}(k:nY A b h hx d l Q)(I:FU A b d h hx):dg l b.H Q:=fun H' r s hr e=>k {b with H:=H'} r (I.same s) (Stp.same s) hr e
theorem nY.on{b:Bs}{h hx:Addr}{d:aqG}{l:List Int}{Q:VK}{H1:Hp}(k:nY A b h hx d l Q)(s:aV b.H H1):nY A {b with H:=H1} h hx d l Q:=fun b' r I S hr e=>
 k b' r I ⟨fun a o ea n nh=>S.fr a o (s a o ea) n nh,fun a z=>(S.fp a z).elim .inl fun z=>.inr (s.free z)⟩ (s.free hr) e
def RH(A:Ad):Sp:=fun vs H Q _=>∃p,vs=[.ref p]∧∃dx,H p=some (.bR A.f9 dx [])∧∀b,FU A b [] p dx→(∀x o,H x=some o→x≠p→b.H x=some o)→(∀a,Fp A b a→H a=none)→Q .cx b.H
theorem Oa(T:Tx K mg A):bN P w K mg base fU 5 A.pM A.u0 ["self"] (RH A):=by
 have sc:=NC;have F:=T.QR.F;walk_at "f"
 ·obtain⟨p,rfl,_⟩:=h;rfl
 ·obtain⟨p,rfl,dx,hp,k⟩:=h;refine⟨_,(aw (aW (pv 0) (Lv T hr.mn rfl) rfl)),?_⟩;walk_at "z";walk_at "s";refine fun b B e1 e2 s fp=>?_;have nf:¬Fp A b p:=fun z=>by rw[fp p z]at hp;cases hp
  walk_at "s";refine Rl (s _ _ hp) C.nU C.pj (by decide:0<1000) ?_;walk_at "s";refine k {b with H:=aJ b.H p (.bR A.f9 dx (JL (.ref (b.g .aL))))} ⟨B.put nf _,?_,e2,Mf,au,nf⟩ (fun x o e n=>?_) fp
  ·show cX [] b.M;rw[e1];exact Qt
  ·show aJ b.H p _ x=some o;rw[ai n];exact s x o e
def YZ(A:Ad):TE:=fun _ H Q=>∀b h hx,FU A b [] h hx→H h=none→aV H b.H→(∀a,Fp A b a→H a=none)→Q (.ref h) b.H
theorem UR{X:Cx}{pos p:Pos}(T:Tx X.K X.mg A)(hr:gb 6 X.A)(hg:Gl X "Holder"):PE X (.Call (.Name "Holder" p) [] [] pos) (YZ A):=
 jP (D1 T.ab5 (Oa T) hr hg T.ace T.QR.b .nil aP) fun σ H Q h=>by
  intro x dx nx nd ne;refine⟨x,rfl,dx,au,fun b I fr fp=>⟨rfl,?_⟩⟩;refine h b x dx I nx (fun y o e=>fr y o ?_ (aj e nx)) fun a ha=>?_
  ·rw[ai (aj e nx),ai (aj e nd)];exact e
  ·exact(aE (aE (fp a ha)).2).2
def WS(A:Ad):Sp:=fun vs H Q _=>∃b d h hx ta t,vs=[.ref h,.ref ta]∧FU A b d h hx∧H=b.H∧b.H ta=some (.aN ((cf t).map V.int))∧nY A b h hx (aqw d t).1 (iQ (aqw d t).2) Q
theorem Ea(T:Tx K mg A)(D:Kd w K A):bN P w K mg base fU 9 A.pK A.uY ["self","text"] (WS A):=by
 have sc:=NA;have F:=T.JK.F;walk_at "f"
 ·obtain⟨b,d,h,hx,ta,t,rfl,_⟩:=h;rfl
 ·obtain⟨b,d,h,hx,ta,t,rfl,I,rfl,M3,k⟩:=h;refine⟨_,(ag (bo (aD vq (bH cv (by rfl) T.ft ap8 (af (pv 1) ax)) (bz T.qA) (aH _)) (aw (aB (cG (af (bz T.wO) ax)))) aM)
 (ag (aX (i:=2) sc.nd rfl (apN rfl) (Lv T hr.mn rfl))
 (ag (aX (i:=3) sc.nd rfl (apN rfl) (bg (pv 2) T.c.cO T.R7 (Oc T D) hr.mn T.Rh.b .nil aP (af (pv 1) ax)))
 (ag (bo (aD m9 (pv 3) (bz T.Aj) (aH _)) (aw (aB (cG (af (bz T.ED) (af (aq (pv 2) rfl) (af (pv 3) ax)))))) aM)
 (ag (aW (pv 0) (pv 2) rfl)
 (aw (aB (cG (af ay ax))))))))),?_⟩
  walk_at "z";walk_at "g";have hlen:=eF t;refine bW (fun c=>?_) fun c=>n1.go _ _ ?_
  ·rw[Nd (by rw[hlen]at c;omega)]at k;exact⟨oS _,(k.tell I).new⟩
  clear n1 R;have hl:t.length≤65536:=by rw[hlen]at c;omega
  clear c;refine bt fun R n1=>?_;intro b1 B1 e1 e2 s1 fp1;walk_at "n";show eV _ _ _ [some (V.ref h),some (V.ref ta),some (V.ref (b1.g .aL)),none] b1.H;have QU:=B1.aL;have Zr:∀a o,b.H a=some o→¬Fp A b1 a:=fun a o e z=>by rw[fp1 a z]at e;cases e
  walk_at "g";refine⟨b1,ta,t,rfl,B1,rfl,e1,s1 _ _ M3,by omega,Zr _ _ M3,fun b2 why B2 G2 fb=>n1.go _ _ ?_⟩;clear n1 R QU;have s2:aV b.H b2.H:=fun a o e=>G2.fr a o (s1 a o e) (Zr a o e);have agK:∀a o,b.H a=some o→¬Fp A b2 a:=fun a o e z=>by
   rcases G2.fp a z with z|z
   ·exact Zr a o e z
   ·rw[s1 a o e]at z;cases z
  have Wv:=B2.aL;rw[G2.bk]at Wv;unfold tV at fb;show eV _ _ _ [some (V.ref h),some (V.ref ta),some (V.ref (b1.g .aL)),some (V.int why)] b2.H;cases q:readDir t with
  |error e=>
   rw[q]at fb;obtain⟨Bf,f1,f2⟩:=fb;rw[Rt hl q]at k;clear e1 e2;walk_at "g";have hs:=sizeLine_eq;refine bW (fun _=>⟨by rw[hs];show 3≤16777216;decide,fun p hp=>?_⟩) fun c=>absurd (by omega) c;have s3:=s2.trans (bZ hp (o:=.aN [V.int (-6),V.int e.1,V.int e.2]));exact k {b with H:=_} p (I.same s3) (Stp.same s3) (s2.free hp) au
  |ok e=>
   rw[q]at fb;obtain⟨rfl,m2,z2,x2⟩:=fb;rw[TN hl q]at k;obtain⟨hd1,hd2⟩:=QO q;have ho2:=s2 _ _ I.obj;clear e1 e2;walk_at "g";walk_at "n";show eV _ _ _ [some (V.ref h),some (V.ref ta),some (V.ref (b1.g .aL)),some (V.int 0)] b2.H;walk_at "g";walk_at "n";walk_at "d";refine⟨oS _,fun p hp=>?_⟩;obtain⟨ph,hp2⟩:=aE hp;have nfh:=agK _ _ I.obj;have B3:a0 A {b2 with H:=aJ (aJ b2.H h (.bR A.f9 hx (JL (.ref (b1.g .aL))))) p (.aN [.int 0])}:=a0.on (B2.put nfh _) (bZ hp);refine k {b2 with H:=aJ (aJ b2.H h (.bR A.f9 hx (JL (.ref (b1.g .aL))))) p (.aN [.int 0])} p ⟨B3,m2,by rw[hd2];exact x2,hd1,?_,nfh⟩ ⟨fun a o ea na nh=>?_,fun a z=>?_⟩ (s2.free hp2) au
   ·show aJ (aJ b2.H h _) p _ h=some (.bR A.f9 hx (JL (.ref (b2.g .aL))));rw[ai (ap1 ph),au,G2.bk]
   ·show aJ (aJ b2.H h _) p _ a=some o;rw[ai (aj (s2 a o ea) hp2),ai nh];exact s2 a o ea
   ·right;have z':Fp A b2 a:=z;rcases G2.fp a z' with z2|z2
    ·exact fp1 a z2
    ·exact s1.free z2
def WT(A:Ad):Sp:=fun vs H Q _=>∃b d h hx ta t,vs=[.ref h,.ref ta]∧FU A b d h hx∧H=b.H∧b.H ta=some (.aN ((cf t).map V.int))∧(dirText d).length+t.length≤7000000∧nY A b h hx (aqw d (dirText d++t)).1 (iQ (aqw d (dirText d++t)).2) Q
theorem N9(T:Tx K mg A)(D:Kd w K A):bN P w K mg base fU 10 A.pL A.uZ ["self","text"] (WT A):=by
 have sc:=NB;have F:=T.QQ.F;walk_at "f"
 ·obtain⟨b,d,h,hx,ta,t,rfl,_⟩:=h;rfl
 ·obtain⟨b,d,h,hx,ta,t,rfl,I,rfl,M3,hlen,k⟩:=h;refine⟨_,(aw (aB (bg (pv 0) T.c.nU T.HD (Ea T D) hr.mn T.JK.b .nil aP (af (aZ wC (aq (aq (pv 0) rfl) rfl) (pv 1)) ax)))),?_⟩;walk_at "z";have ho:=I.obj;have hb:=I.at_.aL;have ht:=I.at_.same _ _ I.at_.text;rw[I.tx]at ht;walk_at "d";have hs:=sizeLine_eq;refine⟨by rw[eF,eF,hs];omega,fun p hp=>⟨{b with H:=_},d,h,hx,p,dirText d++t,rfl,I.same (bZ hp),rfl,?_,k.on (bZ hp)⟩⟩;show aJ b.H p _ p=_;rw[au,Pp,apB]
def WQ(A:Ad):Sp:=fun vs H Q _=>∃b d h hx,vs=[.ref h]∧FU A b d h hx∧H=b.H∧(dirText d).length≤7000000∧dg (((dirText d).length:Int)::cf (dirText d)) H Q
theorem Cb(T:Tx K mg A):bN P w K mg base fU 1 A.gD A.js ["self"] (WQ A):=by
 have sc:=BQ;have F:=T.yk.F;walk_at "f"
 ·obtain⟨b,d,h,hx,rfl,_⟩:=h;rfl
 ·obtain⟨b,d,h,hx,rfl,I,rfl,hlen,k⟩:=h;refine⟨_,(aw (aB (aZ wC (cG (af (bH cv (by rfl) T.ft ap8 (af (aq (aq (pv 0) rfl) rfl) ax)) ax)) (aq (aq (pv 0) rfl) rfl)))),?_⟩;walk_at "z";have ho:=I.obj;have hb:=I.at_.aL;have ht:=I.at_.same _ _ I.at_.text;rw[I.tx]at ht;walk_at "d";have hs:=sizeLine_eq;refine⟨oS _,fun p hp=>?_⟩;generalize hG:aJ b.H p _=H1;have s1:aV b.H H1:=by rw[←hG];exact bZ hp
  clear hG;have XC:=s1 _ _ ho;have QU:=s1 _ _ hb;have ZX:=s1 _ _ ht;clear hs;walk_at "d";have hs:=sizeLine_eq;refine⟨by rw[eF,hs];show 1+_≤_;omega,fun q hq=>?_⟩;rw[eF];exact k _ q (s1.trans (bZ hq)) (s1.free hq) au
def Ju:List V:=[.str "town",.str "street",.str "code",.str "span",.str "letters",.str "boxes"]
def si(d:aqG):List Int:=[(townsIn d:Int),(streetsIn d:Int),((codesIn d).length:Int),((spansIn d).length:Int),((d.filter aqD).length:Int),((boxesIn d).length:Int)]
theorem Vo(d:aqG):∀{i:Nat} {x:V},Ju[i]? =some x→∃z v,x=.str z∧vS (c7 d) z=some (.int v)∧(si d)[i]? =some v
 |0,_,h=>by cases h;exact⟨_,_,rfl,rfl,rfl⟩
 |1,_,h=>by cases h;exact⟨_,_,rfl,rfl,rfl⟩
 |2,_,h=>by cases h;exact⟨_,_,rfl,rfl,rfl⟩
 |3,_,h=>by cases h;exact⟨_,_,rfl,rfl,rfl⟩
 |4,_,h=>by cases h;exact⟨_,_,rfl,rfl,rfl⟩
 |5,_,h=>by cases h;exact⟨_,_,rfl,rfl,rfl⟩
 |_+6,_,h=>by cases h
theorem Up{b:Bs}{d:aqG}(m:cX d b.M):(asw d).map arh=si d++[(b.M.points:Int),(b.M.az.length:Int)]:=by
 rw[m.sizes,m.Jr,m.Js];rfl
def Uh(A:Ad):Sp:=fun vs H Q _=>∃b d h hx,vs=[.ref h]∧FU A b d h hx∧H=b.H∧dg (0::(asw d).map arh) H Q
theorem zQ(T:Tx K mg A):bN P w K mg base fU 1 A.fJ A.ik ["self"] (Uh A):=by
 have sc:=zd;have F:=T.vD.F;walk_at "f"
 ·obtain⟨b,d,h,hx,rfl,_⟩:=h;rfl
 ·obtain⟨b,d,h,hx,rfl,I,rfl,k⟩:=h;refine⟨_,(ag (aX (i:=1) sc.nd rfl (apN rfl) (sQ (af aR (af aR (af aR (af aR (af aR (af aR ax))))))))
 (ag (UI (i:=2) (te:=vj (Iz K (Iz K (mR 0) "book") "counts") (mR 3)) rfl sc.nd rfl rfl (WL rfl rfl rfl rfl) (UN (pv 1)) (mM (own:=[("kind",3)]) rfl) (fun _ _ _ _ _=>fW (i:=3) sc.nd rfl (apN rfl)) (fun _ _ _ _ _=>qj) (fun _ _ _ _ _=>Qq (iP hr) (aq (aq (pv 0) rfl) rfl) (pv 3) (fun _ _=>rfl)))
 (aw (aB (aZ wC (aZ wC (cG (af ay ax)) (pv 2)) (cG (af (aq (aq (pv 0) rfl) rfl) (af (bH SQ (by rfl) T.ft ap8 (af (aq (aq (pv 0) rfl) rfl) ax)) ax)))))))),?_⟩
  walk_at "z";have ho:=I.obj;have hb:=I.at_.aL;have hc:=I.at_.bI;rw[I.A6.aF]at hc;rw[Up I.A6]at k;walk_at "g";have hs:=sizeLine_eq;refine⟨by rw[hs];show 6≤16777216;decide,fun p hp=>n1.go _ _ ?_⟩;clear n1 R;generalize hG:aJ b.H p _=H1;have s1:aV b.H H1:=by rw[←hG];exact bZ hp
  have hp1:H1 p=some (.fR Ju):=by rw[←hG];exact au
  clear hG;show eV _ _ _ [some (V.ref h),some (V.ref p),none,none] H1;refine bt fun R n1=>?_;refine⟨_,rfl,p,rfl,⟨_,AK.of hp1⟩,fun D hD=>ZF (K:=K) (a:=p) (xs:=Ju) (fun i H'=>aV H1 H'∧H' D=some (.aN (((si d).take i).map V.int))) ⟨bZ hD,au⟩ (fun i H' _ z=>AK.of (z.1 _ _ hp1)) ?_ ?_⟩
  ·rintro i x H' hi ⟨s2,oK⟩;obtain⟨z,v,rfl,e1,e2⟩:=Vo d hi;have s3:=s1.trans s2;have XC:=s3 _ _ ho;have QU:=s3 _ _ hb;have Z8:=s3 _ _ hc;refine⟨rfl,?_⟩;simp only[KG,↓reduceIte];clear n1 hs;show vj _ _ [some (V.ref h),some (V.ref p),none,some (V.str z)] H' _;walk_at "d";refine⟨?_,fun x o e=>by rw[ai (aj e hD)];exact s2 x o e,?_⟩
   ·have:(si d).length=6:=rfl;rw[aqm,this,sizeLine_eq];omega
   ·rw[aq6,e2,apB];rfl
  ·rintro H' ⟨s2,oK⟩;have e6:(si d).take Ju.length=si d:=rfl;rw[e6]at oK;have s3:=s1.trans s2;have XC:=s3 _ _ ho;have QU:=s3 _ _ hb;walk_at "n";have hw:=s3 _ _ (I.at_.mt .az _ rfl).1;show xo _ _ [some (V.ref h),some (V.ref p),some (V.ref D),none] H';walk_at "d";refine⟨by show 1≤16777216;decide,fun q hq=>⟨_,by rw[ai (aj oK hq)];exact oK,by rw[apt];show 1+6≤16777216;decide,fun q2 Sl=>?_⟩⟩;have s4:=(bZ hq (o:=.aN [V.int 0])).trans (bZ Sl (o:=.aN (V.int 0::(si d).map V.int)));generalize hG:aJ (aJ H' q _) q2 _=H5 at s4 ⊢;have hq5:H5 q2=some (.aN (V.int 0::(si d).map V.int)):=by rw[←hG];exact au
   clear hG Sl hq;have s5:=s3.trans s4;have ho5:=s5 _ _ ho;have hb5:=s5 _ _ hb;have hw5:=s4 _ _ hw;clear XC QU hw;walk_at "d";refine⟨by show 2≤16777216;decide,fun q3 hq3=>⟨_,by rw[ai (aj hq5 hq3)];exact hq5,by rw[apz,apt];show 7+2≤16777216;decide,fun q4 Xy=>?_⟩⟩;exact k _ q4 (s5.trans ((bZ hq3).trans (bZ Xy))) (s5.free (aE Xy).2) (by rw[au,apG,apB];rfl)
theorem WM(s:Option Nat):yP s=au1 s:=by cases s<;>rfl
def Rz(A:Ad):Sp:=fun vs H Q _=>∃b d h hx i,vs=[.ref h,.int ((i:Nat):Int)]∧FU A b d h hx∧H=b.H∧dg (match(pointsOf d)[i]? with|some p=>0::arj p|none=>[-4]) H Q
theorem zR(T:Tx K mg A):bN P w K mg base fU 7 A.fK A.ip ["self","i"] (Rz A):=by
 have sc:=ze;have F:=T.vE.F;walk_at "f"
 ·obtain⟨b,d,h,hx,i,rfl,_⟩:=h;rfl
 ·obtain⟨b,d,h,hx,i,rfl,I,rfl,k⟩:=h;refine⟨_,(ag (aX (i:=2) sc.nd rfl (apN rfl) (bg (aq (pv 0) rfl) T.c.cO T.En (A5 T) hr.mn T.Fw.b .nil aP (af (pv 1) ax)))
 (ag (bo (aD kY (pv 2) cj (aH _)) (aw (aB (cG (af (bz T.kx) ax)))) aM)
 (ag (aX (i:=3) sc.nd rfl (apN rfl) (cG (af ay (af (aq (pv 2) rfl) (af (aq (pv 2) rfl) (af (aq (pv 2) rfl) (af (aq (pv 2) rfl) (af (aq (pv 2) rfl) (af (aq (pv 2) rfl) ax)))))))))
 (aw (aB (aZ wC (pv 3) (br (wF T) hr.mn rfl T.Ao T.qS.F.kp T.qS.b .nil aP (af (aq (pv 2) rfl) ax)))))))),?_⟩
  walk_at "z";have ho:=I.obj;have hb:=I.at_.aL;walk_at "e";refine⟨i,b,d,rfl,I.at_,rfl,I.A6,?_⟩;cases q:(pointsOf d)[i]? with
  |none=>
   rw[q]at k;refine bQ ?_;show eV _ _ _ [some (V.ref h),some (V.int i),some V.cx,none] b.H;walk_at "e";exact⟨oS _,k.new⟩
  |some p=>
   rw[q]at k;have ok:=UH I.A6.dA p (aps q);intro H1 a dx s1 ha Ts;unfold ptV at Ts;refine bQ ?_;show eV _ _ _ [some (V.ref h),some (V.int i),some (V.ref a),none] H1;walk_at "e";refine bQ ?_;walk_at "e";have hs:=sizeLine_eq;refine⟨by rw[hs];show 7≤16777216;decide,fun q1 hq1=>bQ ?_⟩;have s2:=bZ hq1 (o:=.aN [V.int 0,V.int p.town,V.int (yP p.street),V.int p.number,V.int (aqt p.letter),V.int p.walk,V.int p.place]);generalize hG:aJ H1 q1 _=H2 at s2 ⊢;have Sl:H2 q1=some (.aN [V.int 0,V.int p.town,V.int (yP p.street),V.int p.number,V.int (aqt p.letter),V.int p.walk,V.int p.place]):=by rw[←hG];exact au
   clear hG;have ha2:=s2 _ _ Ts;clear hs;show xo _ _ [some (V.ref h),some (V.int i),some (V.ref a),some (V.ref q1)] H2;walk_at "d";have hs:=sizeLine_eq;have M4:=ok.c2;refine⟨_,rfl,by rw[bL];omega,fun H3 r s3 hr Gz=>?_⟩;rw[bL,Iy (lz ok.c3)]at Gz;refine⟨_,rfl,_,s3 _ _ Sl,_,Gz,?_,fun q4 Xy=>?_⟩
   ·rw[apt];show 7+((cf p.code).length+1)≤_;rw[eF,hs];omega
   ·have s4:=((s1.trans s2).trans s3);refine k _ q4 (s4.trans (bZ Xy)) (s4.free Xy) ?_;rw[au];show some (HO.aN (_++_))=some (HO.aN ((0::arj p).map V.int));rw[xM,WM];rfl
def RA(A:Ad):Sp:=fun vs H Q _=>∃b d h hx i,vs=[.ref h,.int ((i:Nat):Int)]∧FU A b d h hx∧H=b.H∧(dirText d).length≤7000000∧dg (match(pointsOf d)[i]? with|some p=>((partsText (pointParts d p)).length:Int)::cf (partsText (pointParts d p))|none=>[-4]) H Q
theorem zS(T:Tx K mg A):bN P w K mg base fU 7 A.fL A.ir ["self","i"] (RA A):=by
 have sc:=zf;have F:=T.vF.F;walk_at "f"
 ·obtain⟨b,d,h,hx,i,rfl,_⟩:=h;rfl
 ·obtain⟨b,d,h,hx,i,rfl,I,rfl,hlen,k⟩:=h;refine⟨_,(ag (aX (i:=2) sc.nd rfl (apN rfl) (bg (aq (pv 0) rfl) T.c.cO T.En (A5 T) hr.mn T.Fw.b .nil aP (af (pv 1) ax)))
 (ag (bo (aD kY (pv 2) cj (aH _)) (aw (aB (cG (af (bz T.kx) ax)))) aM)
 (aw (aB (br (wF T) hr.mn rfl T.Ao T.qS.F.kp T.qS.b .nil aP (af (br (LD T) hr.mn rfl T.OY T.D3.F.kp T.D3.b .nil aP (af (aq (pv 0) rfl) (af (pv 2) ax))) ax)))))),?_⟩
  walk_at "z";have ho:=I.obj;have hb:=I.at_.aL;walk_at "e";refine⟨i,b,d,rfl,I.at_,rfl,I.A6,?_⟩;cases q:(pointsOf d)[i]? with
  |none=>
   rw[q]at k;refine bQ ?_;show eV _ _ _ [some (V.ref h),some (V.int i),some V.cx] b.H;walk_at "e";exact⟨oS _,k.new⟩
  |some p=>
   rw[q]at k;have hp:=aps q;intro H1 a dx s1 ha Ts;refine bQ ?_;show eV _ _ _ [some (V.ref h),some (V.int i),some (V.ref a)] H1;walk_at "e";refine bQ ?_;have XC:=s1 _ _ ho;walk_at "d";have hs:=sizeLine_eq;have ano:=Lz I.A6.dA hp;refine⟨{b with H:=H1},d,a,dx,p,rfl,I.at_.on s1,rfl,I.A6,Ts,hp,fun H2 s2=>⟨_,rfl,by rw[bL];omega,fun H3 r s3 hr Gz=>?_⟩⟩;rw[bL,Iy (NV I.A6.dA hp)]at Gz;exact k _ r ((s1.trans s2).trans s3) ((s1.trans s2).free hr) Gz
def Ug(A:Ad):Sp:=fun vs H Q _=>∃b d h hx t s n c,vs=[.ref h,.int ((t:Nat):Int),.int ((s:Nat):Int),.int ((n:Nat):Int),.int ((c:Nat):Int)]∧FU A b d h hx∧H=b.H∧dg (if 26<c then[-1]else iQ (aqv d t (some s) n c)) H Q
theorem Cd(T:Tx K mg A):bN P w K mg base fU 6 A.gF A.ju ["self","town","street","number","letter"] (Ug A):=by
 have sc:=BS;have F:=T.ym.F;walk_at "f"
 ·obtain⟨b,d,h,hx,t,s,n,c,rfl,_⟩:=h;rfl
 ·obtain⟨b,d,h,hx,t,s1,n,c,rfl,I,rfl,k⟩:=h;refine⟨_,(ag (bo (aD vq (pv 4) (bz T.oI) (aH _)) (aw (aB (cG (af (bz T.jd) ax)))) aM)
 (aw (aB (br (rf T) hr.mn rfl T.tQ T.ji.F.kp T.ji.b .nil aP (af (bg (aq (pv 0) rfl) T.c.cO T.Cm (zU T) hr.mn T.vO.b .nil aP (af (pv 1) (af (pv 2) (af (pv 3) (af (pv 4) ax))))) ax))))),?_⟩
  walk_at "z";have ho:=I.obj;have hb:=I.at_.aL;walk_at "e";refine bW (fun c1=>?_) fun c1=>bQ ?_
  ·rw[if_pos (by omega)]at k;exact⟨oS _,k.new⟩
  ·rw[if_neg (by omega)]at k;walk_at "d";refine⟨t,s1,n,c,b,d,rfl,I.at_,rfl,I.A6,fun H1 o s2 e=>⟨_,rfl,?_⟩⟩;cases o with
   |none=>exact .inl ⟨rfl,fun H3 r s3 hr Gz=>k _ r (s2.trans s3) (s2.free hr) (by rw[e];exact Gz)⟩
   |some i=>exact .inr ⟨i,rfl,fun H3 r s3 hr Gz=>k _ r (s2.trans s3) (s2.free hr) (by rw[e];exact Gz)⟩
def WR(A:Ad):Sp:=fun vs H Q _=>∃b d h hx t n,vs=[.ref h,.int ((t:Nat):Int),.int ((n:Nat):Int)]∧FU A b d h hx∧H=b.H∧dg (iQ (aqv d t none n 0)) H Q
theorem D9(T:Tx K mg A):bN P w K mg base fU 5 A.hW A.kf ["self","town","number"] (WR A):=by
 have sc:=DG;have F:=T.Bh.F;walk_at "f"
 ·obtain⟨b,d,h,hx,t,n,rfl,_⟩:=h;rfl
 ·obtain⟨b,d,h,hx,t,n,rfl,I,rfl,k⟩:=h;refine⟨_,(aw (aB (br (rf T) hr.mn rfl T.tQ T.ji.F.kp T.ji.b .nil aP (af (bg (aq (pv 0) rfl) T.c.cO T.Gu (Ec T) hr.mn T.Bx.b .nil aP (af (pv 1) (af (pv 2) ax))) ax)))),?_⟩;walk_at "z";have ho:=I.obj;have hb:=I.at_.aL;walk_at "d";refine⟨t,n,b,d,rfl,I.at_,rfl,I.A6,fun o e=>⟨_,rfl,?_⟩⟩;cases o with
  |none=>exact .inl ⟨rfl,fun H3 r s3 hr Gz=>k _ r s3 hr (by rw[e];exact Gz)⟩
  |some i=>exact .inr ⟨i,rfl,fun H3 r s3 hr Gz=>k _ r s3 hr (by rw[e];exact Gz)⟩
def Ud(A:Ad):Sp:=fun vs H Q _=>∃b d h hx wk,vs=[.ref h,.int ((wk:Nat):Int)]∧FU A b d h hx∧H=b.H∧dg (((walkOf d wk).length:Int)::(walkOf d wk).map fun(i:Nat)=>(i:Int)) H Q
theorem Ca(T:Tx K mg A):bN P w K mg base fU 5 A.gC A.jr ["self","walk"] (Ud A):=by
 have sc:=BP;have F:=T.yj.F;walk_at "f"
 ·obtain⟨b,d,h,hx,wk,rfl,_⟩:=h;rfl
 ·obtain⟨b,d,h,hx,wk,rfl,I,rfl,k⟩:=h;refine⟨_,(ag (aX (i:=2) sc.nd rfl (apN rfl) (bg (aq (pv 0) rfl) T.c.cO T.Ae (xW T) hr.mn T.ud.b .nil aP (af (pv 1) ax)))
 (aw (aB (aZ wC (cG (af (bH cv (by rfl) T.ft ap8 (af (pv 2) ax)) ax)) (pv 2))))),?_⟩
  walk_at "z";have ho:=I.obj;have hb:=I.at_.aL;walk_at "e";refine⟨b,d,wk,rfl,I.at_,rfl,I.A6,fun H1 a s1 ha Ts=>bQ ?_⟩;rw[←I.A6.PV wk]at Ts;have Vt:(walkOf d wk).length≤65536:=by
   have h1:=Iw d wk;have h2:=Hu I.A6.dA;omega
  show xo _ _ [some (V.ref h),some (V.int wk),some (V.ref a)] H1;walk_at "d";refine⟨oS _,fun q hq=>?_⟩;have hs:=sizeLine_eq;refine⟨_,by rw[ai (aj Ts hq)];exact Ts,?_,fun q2 Sl=>?_⟩
  ·rw[apt,hs];show 1+_≤_;omega
  ·refine k _ q2 (s1.trans ((bZ hq).trans (bZ Sl))) (s1.free (aE Sl).2) ?_;rw[au,apG,apJ];rfl
def Ue(A:Ad):Sp:=fun vs H Q _=>∃b d h hx wh i j,vs=[.ref h,.int ((wh:Nat):Int),.int ((i:Nat):Int),.int ((j:Nat):Int)]∧FU A b d h hx∧H=b.H∧dg (if 1<wh then[-1]else match ari d wh i j with|some n=>((spaced n).length:Int)::cf (spaced n)|none=>[-4]) H Q
theorem Cc(T:Tx K mg A):bN P w K mg base fU 3 A.gE A.jt ["self","what","i","j"] (Ue A):=by
 have sc:=BR;have F:=T.yl.F;walk_at "f"
 ·obtain⟨b,d,h,hx,wh,i,j,rfl,_⟩:=h;rfl
 ·obtain⟨b,d,h,hx,wh,i,j,rfl,I,rfl,k⟩:=h;refine⟨_,(ag (bo (PW.pt (wz (aD m9 (pv 1) (bz T.nG) (aH _)) (qi (aD m9 (pv 1) (bz T.oG) (aH _))))) (aw (aB (cG (af (bz T.jd) ax)))) aM)
 (ag (aX (i:=4) sc.nd rfl (apN rfl) (i9 (aD cy (pv 1) (bz T.nG) (aH _)) (aq (aq (pv 0) rfl) rfl) (aq (aq (pv 0) rfl) rfl)))
 (ag (bo (PW.pt (k8 (aD D5 (pv 2) (bH cv (by rfl) T.ft ap8 (af (pv 4) ax)) (aH _)) (i6 (aD D5 (pv 3) (bH cv (by rfl) T.ft ap8 (af (aq (bC dm (pv 4) (pv 2) (fun _ _=>rfl)) rfl) ax)) (aH _))))) (aw (aB (cG (af (bz T.kx) ax)))) aM)
 (aw (aB (br (wF T) hr.mn rfl T.Ao T.qS.F.kp T.qS.b .nil aP (af (bC dm (aq (bC dm (pv 4) (pv 2) (fun _ _=>rfl)) rfl) (pv 3) (fun _ _=>rfl)) ax))))))),?_⟩
  walk_at "z";have ho:=I.obj;have hb:=I.at_.aL;walk_at "g";have tail:wh≤1→R [some (V.ref h),some (V.int (wh:Int)),some (.int (i:Int)),some (.int (j:Int)),none] b.H:=fun hw=>n1.go _ _ (by
   clear n1 R;rw[if_neg (by omega)]at k;refine bt fun R n1=>?_;have fin:∀(la:Addr) (f:Nat→Addr) (L:List (List Name)),b.H la=some (.aN (oB f L.length))→(ari d wh i j=(L[i]?).bind fun l=>l[j]?)→
     (∀l,L[i]? =some l→w8 l∧∃c dx fs na,b.H (f i)=some (.bR c dx fs)∧AL K c∧aG K c "names"∧fs.lookup ("names":Str)=some (.ref na)∧b.H na=some (.aN (Of l)))→
     R [some (V.ref h),some (V.int (wh:Int)),some (.int (i:Int)),some (.int (j:Int)),some (.ref la)] b.H:=fun la f L hla en hL=>n1.go _ _ (by
    clear n1 R;have hrl:=mf f L.length;walk_at "g";refine bW (fun c1=>?_) fun c1=>?_
    ·have:L[i]? =none:=aqJ (by omega);rw[en,this]at k;exact⟨oS _,k.new⟩
    ·have gX:i<L.length:=by omega
     have hli:=apO gX;obtain⟨nt,c,dx,fs,na,z1,z2,z3,z4,z5⟩:=hL _ hli;have hat:=uy f gX;generalize L[i]=l at*;have hnl:(Of l).length=l.length:=apt _;walk_at "d";rw[en,hli]at k;have k1:dg (match l[j]? with|some n=>((spaced n).length:Int)::cf (spaced n)|none=>[-4]) b.H Q:=k;clear k;refine bW (fun c2=>?_) fun c2=>n1.go _ _ ?_
     ·have:l[j]? =none:=aqJ (by omega);rw[this]at k1;exact⟨oS _,k1.new⟩
     ·clear n1 R;have hj:j<l.length:=by omega
      have hlj:=apO hj;have hnj:mP (Of l) (j:Int)=some (.str (bB (spaced l[j]))):=fZ (by unfold Of;rw[apH,hlj];rfl);obtain⟨g1,g2⟩:=nt.2 _ (au0 hj);rw[hlj]at k1;have k2:dg (((spaced l[j]).length:Int)::cf (spaced l[j])) b.H Q:=k1;clear k1 hlj;generalize l[j]=nm at*;walk_at "d";refine⟨_,rfl,by rw[bL,sizeLine_eq];omega,?_⟩;rw[bL,Iy g1];exact k2)
   walk_at "d";refine bW (fun c1=>fin _ b.z.town (townNames d) (by rw[jI,←I.A6.Jr];exact I.at_.ao) ?_ fun l hl=>?_) fun c1=>fin _ b.z.street (streetNames d) (by rw[iC,←I.A6.Js];exact I.at_.ae) ?_ fun l hl=>?_
   ·unfold ari;rw[if_pos (by omega)]
   ·obtain⟨dx,na,l',y1,y2,y3,y4⟩:=I.at_.TK I.A6 (t:=i) (by rw[←jI];exact(apu.mp hl).1);rw[hl]at y3;cases y3;exact⟨y4,_,_,_,na,y1,C.Fo,C.jT,rfl,y2⟩
   ·unfold ari;rw[if_neg (by omega)]
   ·obtain⟨dx,na,l',u1,u2,y1,y2,y3,y4⟩:=I.at_.KN I.A6 (s:=i) (by rw[←iC];exact(apu.mp hl).1);rw[hl]at y3;cases y3;exact⟨y4,_,_,_,na,y1,C.lj,C.jU,rfl,y2⟩)
  refine bW (fun c1=>bW (fun c2=>?_) fun c2=>tail (by omega)) fun c1=>tail (by omega);rw[if_pos (by omega)]at k;exact⟨oS _,k.new⟩
def qU:List (Key×V):=[(.inl 2,.int 0),(.inl 3,.int 0),(.inl 4,.int 1),(.inl 5,.int 4),(.inl 6,.int 2),(.inl 7,.int 1),(.inl 8,.int 3),(.inl 9,.int 1)]
theorem SU{p:Int}(h:2≤p∧p≤9):vI qU p=some (.int (MO p:Nat)):=by
 have:p=2∨p=3∨p=4∨p=5∨p=6∨p=7∨p=8∨p=9:=by omega
 rcases this with rfl|rfl|rfl|rfl|rfl|rfl|rfl|rfl<;>rfl
theorem Kf{ns:List Int}{i k:Nat}{r:List Int}(h:ns.drop i=r)(hk:k<r.length):mP (ns.map V.int) ((i+k:Nat):Int)=some (.int (r[k]'hk)):=by
 subst h;refine fZ ?_;rw[apH,←auK,apO hk];rfl
def K3(K:apw):Sp:=fun vs H Q _=>∃(a:Addr) (i:Nat) (ns:List Int) (c:List (List Int)) (t:List Int),vs=[.ref a,.int ((i:Nat):Int)]∧jH K H a (ns.map V.int)∧BF (ns.drop i) c t∧∀H',aV H H'→Q (.int ((i+((ns.drop i).length-t.length):Nat):Int)) H'
theorem LF(T:Tx K mg A):bN P w K mg base fU 1 A.mJ A.qN ["calls","at"] (K3 K):=by
 have sc:=Lg;have F:=T.Ft.F;walk_at "f"
 ·obtain⟨a,i,ns,c,t,rfl,_⟩:=h;rfl
 ·obtain⟨a,i,ns,c,t,rfl,ha,f,k⟩:=h;refine' ⟨_,ag ?s1 (ag ?s2 (ag ?s3 (ag ?s4 (aw ?s5)))),?rest⟩
  case s1=>exact aX (i:=2) sc.nd rfl (apN rfl) (bC JC (pv 0) (pv 1) (fun _ _=>rfl))
  case s2=>exact(bo (PW.pt (k8 (aD cy (pv 2) (bz T.Jx) (aH _)) (i6 (aD cy (pv 2) (bz T.JA) (aH _))))) (aw (aB (aZ dD (aZ dD (pv 1) ay) (bC JC (pv 0) (aZ dD (pv 1) ay) (fun _ _=>rfl))))) aM)
  case s3=>
   refine' aX (i:=3) sc.nd rfl (apN rfl) ?dd ?hs ?hf
   case hs=>rfl
   case hf=>exact .inl rfl
   case dd=>
    refine' Qr ?p1 ?p2 ?p3 ?p4 ?p5
    case p2=>rfl
    case p3=>rfl
    case p4=>intro z;cases z
    case p5=>decide
    case p1=>exact dZ (bz T.Jw) ay (dZ (bz T.CT) ay (dZ (bz T.CU) ay (dZ (bz T.JB) ay (dZ (bz T.QC) ay (dZ (bz T.Jv) ay (dZ (bz T.Jz) ay (dZ (bz T.Jy) ay Qm)))))))
  case s4=>exact(bo (IZ (zO (iP hr) (pv 2) (pv 3)) rfl) (aw UJ) aM)
  case s5=>exact(aB (aZ dD (aZ dD (pv 1) ay) (xQ (iP hr) (pv 3) (pv 2) (fun _ _=>rfl))))
  walk_at "z";generalize hm:ns.drop i=m at*;cases f with
  |text p n u t hp hn=>
   have h0:mP (ns.map V.int) (i:Int)=some (.int p):=Kf hm (k:=0) (atL _);have h1:mP (ns.map V.int) ((i:Int)+1)=some (.int n):=Kf hm (k:=1) (Nat.succ_lt_succ (atL _));walk_at "g";refine⟨_,ha,_,h0,n1.go _ _ ?_⟩;clear n1 R;show eV _ _ _ [some (V.ref a),some (V.int i),some (V.int p),none] H;walk_at "g";have kk:∃x,jH K H a x∧∃y,mP x ((i:Int)+1)=some y∧∃z,y=V.int z∧Q (.int ((i:Int)+2+z)) H:=⟨_,ha,_,h1,_,rfl,by
    have e:(i:Int)+2+n=((i+((p::n::(u++t)).length-t.length):Nat):Int):=by
     rw[apz,apz,apr];omega
    rw[e];exact k H (aV.refl _)⟩
   exact bW (fun _=>kk) fun _=>bW (fun _=>kk) fun z=>by omega
  |nums p u t hp hn=>
   have h0:mP (ns.map V.int) (i:Int)=some (.int p):=Kf hm (k:=0) (atL _);walk_at "g";refine⟨_,ha,_,h0,n1.go _ _ ?_⟩;clear n1 R;show eV _ _ _ [some (V.ref a),some (V.int i),some (V.int p),none] H;walk_at "g";refine bW (fun z=>absurd z (by omega)) fun _=>bW (fun z=>absurd z (by omega)) fun _=>n1.go _ _ ?_;clear n1 R;refine bt fun R n1=>?_;intro q hq;refine⟨au,qU,rfl,by show 8≤15;decide,n1.go _ _ ?_⟩;clear n1 R;have s1:aV H (aJ (aJ H q (.dK [])) q (.dK (sW [] qU))):=by rw[j5];exact bZ hq
   have e1:aJ (aJ H q (.dK [])) q (.dK (sW [] qU)) q=some (.dK qU):=by rw[au];rfl
   have hb:=SU hp;have Wv:(vI qU p).isSome=true:=by rw[hb];rfl
   generalize aJ (aJ H q (.dK [])) q (.dK (sW [] qU))=H2 at s1 e1 ⊢;show eV _ _ _ [some (V.ref a),some (V.int i),some (V.int p),some (V.ref q)] H2;walk_at "g";refine bW (fun z=>by cases z) fun _=>n1.go _ _ ?_;clear n1 R;walk_at "d";have e:(i:Int)+1+(MO p:Nat)=((i+((p::(u++t)).length-t.length):Nat):Int):=by
    rw[apz,apr];omega
   rw[e];exact k H2 s1
def nL:List (List Int)→List Int
 |[[p],u]=>p::(u.length:Int)::u
 |[r]=>r
 |_=>[]
theorem adj(x y:V)(r:List V):qQ (x::y::r) (some 2) none=r:=by
 simp[qQ,HT.Gg]
theorem skip{l:Addr}{n k:Int}{r:List V}{t u:TS}{D:w9}{σ:L2.Internal.St}{H:Hp}(h1:H l=some (.aN (V.int n::r)))(e:σ[1]? =some (some (.ref l)))(hk:n≠k)(h:u D σ H):eV (WI (Hg (Ru rEq (Ru UE (mR 1) (tC (.int 0))) (tC (.int k)))) t C8) u D σ H:=by
 cases D;refine X1 (abo (Tz (YA (YA (X0 e (x_c (X2 h1 (fZ (j:=0) rfl) (x_c (abq rfl (abe (YL ?_ (TB h))))))))))));simp[hk]
set_option hygiene false in
local macro_rules|`(tactic|walk_at "1")=>`(tactic|refine skip GA rfl (by decide) ?_)
def II(A:Ad):Sp:=fun vs H Q _=>∃b d h hx ca c,vs=[.ref h,.ref ca]∧FU A b d h hx∧H=b.H∧b.H ca=some (.aN ((nL c).map V.int))∧aqY c=true∧(dirText d).length+weight c≤7000000∧nY A b h hx (gW d c).1 (gW d c).2 Q
theorem Jm(T:Tx K mg A)(D:Kd w K A):bN P w K mg base fU 11 A.kL A.nS ["holder","call"] (II A):=by
 have sc:=IT;have F:=T.AB.F;walk_at "f"
 ·obtain⟨b,d,h,hx,ca,c,rfl,_⟩:=h;rfl
 ·obtain⟨b,d,h,hx,ca,c,rfl,I,rfl,HM,hc,hlen,k⟩:=h;refine⟨_,(ag (bo (aD cy (bC dm (pv 1) ay (fun _ _=>rfl)) (bz T.Jx) (aH _)) (aw (aB (bg (pv 0) T.c.nU T.HD (Ea T D) hr.mn T.JK.b .nil aP (af (sR WX (pv 1) (qk ay) Je) ax)))) aM)
 (ag (bo (aD cy (bC dm (pv 1) ay (fun _ _=>rfl)) (bz T.JA) (aH _)) (aw (aB (bg (pv 0) T.c.nU T.R6 (N9 T D) hr.mn T.QQ.b .nil aP (af (sR WX (pv 1) (qk ay) Je) ax)))) aM)
 (ag (bo (aD cy (bC dm (pv 1) ay (fun _ _=>rfl)) (bz T.Jw) (aH _)) (aw (aB (Lw (pv 0) T.c.nU T.Ek (Cb T) hr.mn T.yk.b .nil aP))) aM)
 (ag (bo (aD cy (bC dm (pv 1) ay (fun _ _=>rfl)) (bz T.CT) (aH _)) (aw (aB (Lw (pv 0) T.c.nU T.Cg (zQ T) hr.mn T.vD.b .nil aP))) aM)
 (ag (bo (aD cy (bC dm (pv 1) ay (fun _ _=>rfl)) (bz T.CU) (aH _)) (aw (aB (bg (pv 0) T.c.nU T.Ci (zR T) hr.mn T.vE.b .nil aP (af (bC dm (pv 1) ay (fun _ _=>rfl)) ax)))) aM)
 (ag (bo (aD cy (bC dm (pv 1) ay (fun _ _=>rfl)) (bz T.JB) (aH _)) (aw (aB (bg (pv 0) T.c.nU T.Em (Cd T) hr.mn T.ym.b .nil aP (af (bC dm (pv 1) ay (fun _ _=>rfl)) (af (bC dm (pv 1) ay (fun _ _=>rfl)) (af (bC dm (pv 1) ay (fun _ _=>rfl)) (af (bC dm (pv 1) ay (fun _ _=>rfl)) ax))))))) aM)
 (ag (bo (aD cy (bC dm (pv 1) ay (fun _ _=>rfl)) (bz T.QC) (aH _)) (aw (aB (bg (pv 0) T.c.nU T.Gr (D9 T) hr.mn T.Bh.b .nil aP (af (bC dm (pv 1) ay (fun _ _=>rfl)) (af (bC dm (pv 1) ay (fun _ _=>rfl)) ax))))) aM)
 (ag (bo (aD cy (bC dm (pv 1) ay (fun _ _=>rfl)) (bz T.Jv) (aH _)) (aw (aB (bg (pv 0) T.c.nU T.Ej (Ca T) hr.mn T.yj.b .nil aP (af (bC dm (pv 1) ay (fun _ _=>rfl)) ax)))) aM)
 (ag (bo (aD cy (bC dm (pv 1) ay (fun _ _=>rfl)) (bz T.Jz) (aH _)) (aw (aB (bg (pv 0) T.c.nU T.El (Cc T) hr.mn T.yl.b .nil aP (af (bC dm (pv 1) ay (fun _ _=>rfl)) (af (bC dm (pv 1) ay (fun _ _=>rfl)) (af (bC dm (pv 1) ay (fun _ _=>rfl)) ax)))))) aM)
 (aw (aB (bg (pv 0) T.c.nU T.Cj (zS T) hr.mn T.vF.b .nil aP (af (bC dm (pv 1) ay (fun _ _=>rfl)) ax))))))))))))),?_⟩
  walk_at "z";have ho:=I.obj;have i0:∀(x:V) (r:List V),mP (x::r) 0=some x:=fun x r=>fZ (j:=0) rfl;have i1:∀(x y:V) (r:List V),mP (x::y::r) 1=some y:=fun x y r=>fZ (j:=1) rfl;have i2:∀(x y z:V) (r:List V),mP (x::y::z::r) 2=some z:=fun x y z r=>fZ (j:=2) rfl;have i3:∀(x y z u:V) (r:List V),mP (x::y::z::u::r) 3=some u:=fun x y z u r=>fZ (j:=3) rfl;have i4:∀(x y z u v:V) (r:List V),mP (x::y::z::u::v::r) 4=some v:=fun x y z u v r=>fZ (j:=4) rfl;have nat:∀{z:Int},0≤z→∃m:Nat,z=(m:Int):=fun{z} hz=>⟨z.toNat,by omega⟩;rcases qX hc with⟨t,rfl,ht⟩|⟨t,rfl,ht⟩|rfl|rfl|⟨i,rfl,h0,h1⟩|⟨t,s1,n,l,rfl,h1,h2,h3,h4⟩|⟨t,n,rfl,h1,h2⟩|⟨wk,rfl,h1⟩|⟨wh,i,j,rfl,h1,h2,h3⟩|⟨i,rfl,h0,h1⟩
  ·have GA:b.H ca=some (.aN (V.int 0::V.int (t.length:Int)::t.map V.int)):=HM;clear HM;rw[step_take]at k;walk_at "e";intro p hp;refine⟨{b with H:=_},d,h,hx,p,aqj t,rfl,I.same (bZ hp),rfl,?_,k.on (bZ hp)⟩;rw[vM ht,adj];exact au
  ·have GA:b.H ca=some (.aN (V.int 1::V.int (t.length:Int)::t.map V.int)):=HM;clear HM;rw[y9]at k;walk_at "1";walk_at "e";intro p hp;refine⟨{b with H:=_},d,h,hx,p,aqj t,rfl,I.same (bZ hp),rfl,?_,?_,k.on (bZ hp)⟩
   ·rw[vM ht,adj];exact au
   ·have e1:(aqj t).length=t.length:=apt _;have e2:weight [[1],t]=1+t.length:=by simp[weight]
    omega
  ·have GA:b.H ca=some (.aN [V.int 2]):=HM;clear HM;rw[yY]at k;walk_at "1";walk_at "1";walk_at "e";exact⟨b,d,h,hx,rfl,I,rfl,by omega,k.tell I⟩
  ·have GA:b.H ca=some (.aN [V.int 3]):=HM;clear HM;rw[vZ]at k;(iterate 3 walk_at "1");walk_at "e";exact⟨b,d,h,hx,rfl,I,rfl,k.tell I⟩
  ·obtain⟨i,rfl⟩:=nat h0;have GA:b.H ca=some (.aN [V.int 4,V.int (i:Int)]):=HM;clear HM;rw[step_point,aqE]at k;(iterate 4 walk_at "1");walk_at "e";exact⟨b,d,h,hx,i,rfl,I,rfl,k.tell I⟩
  ·obtain⟨t,rfl⟩:=nat h1;obtain⟨s1,rfl⟩:=nat h2;obtain⟨n,rfl⟩:=nat h3;obtain⟨l,rfl⟩:=nat h4;have GA:b.H ca=some (.aN [V.int 5,V.int (t:Int),V.int (s1:Int),V.int (n:Int),V.int (l:Int)]):=HM;clear HM;rw[za]at k;simp only[aqE]at k;(iterate 5 walk_at "1");walk_at "e";exact⟨b,d,h,hx,t,s1,n,l,rfl,I,rfl,k.tell I⟩
  ·obtain⟨t,rfl⟩:=nat h1;obtain⟨n,rfl⟩:=nat h2;have GA:b.H ca=some (.aN [V.int 6,V.int (t:Int),V.int (n:Int)]):=HM;clear HM;rw[Dc]at k;simp only[aqE]at k;(iterate 6 walk_at "1");walk_at "e";exact⟨b,d,h,hx,t,n,rfl,I,rfl,k.tell I⟩
  ·obtain⟨wk,rfl⟩:=nat h1;have GA:b.H ca=some (.aN [V.int 7,V.int (wk:Int)]):=HM;clear HM;rw[yX]at k;simp only[aqE]at k;(iterate 7 walk_at "1");walk_at "e";exact⟨b,d,h,hx,wk,rfl,I,rfl,k.tell I⟩
  ·obtain⟨wh,rfl⟩:=nat h1;obtain⟨i,rfl⟩:=nat h2;obtain⟨j,rfl⟩:=nat h3;have GA:b.H ca=some (.aN [V.int 8,V.int (wh:Int),V.int (i:Int),V.int (j:Int)]):=HM;clear HM;rw[yZ]at k;simp only[aqE]at k;(iterate 8 walk_at "1");walk_at "e";exact⟨b,d,h,hx,wh,i,j,rfl,I,rfl,k.tell I⟩
  ·obtain⟨i,rfl⟩:=nat h0;have GA:b.H ca=some (.aN [V.int 9,V.int (i:Int)]):=HM;clear HM;rw[v3,aqE]at k;(iterate 9 walk_at "1");walk_at "d";exact⟨b,d,h,hx,i,rfl,I,rfl,by omega,k.tell I⟩
abbrev xN:=aqO aqc art
theorem E8{m:List Int}{c:List (List Int)}{t:List Int}(f:BF m c t):m=nL c++t∧1≤(nL c).length:=by
 cases f with
 |text p n u t hp hn=>subst hn;exact⟨rfl,aqz _ _⟩
 |nums p u t hp hn=>cases u<;>exact⟨rfl,aqz _ _⟩
theorem RT(cs:List (List (List Int)))(c:List (List Int)):aqA (xN (cs++[c]))=aqA (xN cs)++(((gW (after art cs) c).2.length:Int)::(gW (after art cs) c).2):=by
 unfold xN;rw[wB,Kz];congr 1;show((_:Int)::_)++[]=_;rw[apK]
theorem WH{SN XS cs:List (List (List Int))}(h:SN++XS=cs):(aqA (xN SN)).length≤(aqA (xN cs)).length:=by
 subst h;unfold xN;rw[wB,Kz,apr];exact aqC _ _
theorem VZ(l m r:List V):qQ (l++m++r) (some (l.length:Int)) (some ((l.length+m.length:Nat):Int))=m:=by
 unfold qQ;rw[HT.xE,HT.xE,apr,apr,asj (by omega),asj (by omega),aqF,ata,asz,aua]
structure AnI(A:Ad)(H0:Hp)(ns:List Int)(cs:List (List (List Int)))(h hx tl:Addr)(i:Nat)(b:Bs)(d:aqG)(SN XS:List (List (List Int))):Prop where
 hd:FU A b d h hx
 s:aV H0 b.H
 fp:∀x,Fp A b x→H0 x=none
 ecs:SN++XS=cs
 go:∃f,arG PyWqatcm.shape f (ns.drop i)=some XS
 ed:after art SN=d
 len:(dirText d).length+aqf XS≤aqf cs
 told:b.H tl=some (.aN ((aqA (xN SN)).map V.int))
 nt:¬Fp A b tl
 ilt:i≤ns.length
def adq(A:Ad)(H0:Hp)(ns:List Int)(cs:List (List (List Int)))(a h hx tl:Addr):L2.Internal.St→Hp→Prop:=fun σ H'=>∃(i:Nat) (b:Bs) (d:aqG) (SN XS:List (List (List Int))) (v4 v5:Option V),σ=[some (V.ref a),some (V.ref h),some (V.ref tl),some (V.int (i:Int)),v4,v5]∧H'=b.H∧AnI A H0 ns cs h hx tl i b d SN XS
def aio(n:Nat)(σ:L2.Internal.St):Nat:=match σ with|[_,_,_,some (.int i),_,_]=>n-i.toNat|_=>0
def wa(K:apw):Sp:=fun vs H Q _=>∃(a:Addr) (ns:List Int),vs=[.ref a]∧jH K H a (ns.map V.int)∧PyWqatcm.answers_asked ns=true∧∀(H':Hp) (p:Addr),H' p=some (.aN ((PyWqatcm.answers ns).map V.int))→Q (.ref p) H'
theorem Od(T:Tx K mg A)(D:Kd w K A):bN P w K mg base fU 12 A.uP A.pQ ["calls"] (wa K):=by
 have sc:=NH;have F:=T.answers.F;walk_at "f"
 ·obtain⟨a,ns,rfl,_⟩:=h;rfl
 ·obtain⟨a,ns,rfl,ha,aaa,k⟩:=h;refine⟨_,(ag (aX (i:=1) sc.nd rfl (apN rfl) (UR T hr.mn rfl))
 (ag (aX (i:=2) sc.nd rfl (apN rfl) (cG ax))
 (ag (aX (i:=3) sc.nd rfl (apN rfl) ay)
 (ag (Lr ara (aD LA (pv 3) (bH yG (by rfl) T.ft ap8 (af (pv 0) ax)) (aH _)) (ag (aX (i:=4) sc.nd rfl (apN rfl) (br (LF T) hr.mn rfl T.OZ T.Ft.F.kp T.Ft.b .nil aP (af (pv 0) (af (pv 3) ax))))
 (ag (aX (i:=5) sc.nd rfl (apN rfl) (br (Jm T D) hr.mn rfl T.Mm T.AB.F.kp T.AB.b .nil aP (af (pv 1) (af (sR Qc (pv 0) (qk (pv 3)) (qk (pv 4))) ax))))
 (ag (cQ (jQ aqM aqT jY (pv 2) (af (bH cv (by rfl) T.ft ap8 (af (pv 5) ax)) ax)))
 (ag (cQ (jQ arN asr zZ (pv 2) (af (pv 5) ax)))
 (aw (aX (i:=3) sc.nd rfl (apN rfl) (pv 4))))))))
 (aw (aB (pv 2))))))),?_⟩
  walk_at "z";obtain⟨cs,asked,aif⟩:=Wd aaa;rw[aif]at k;have Yl:(aqA (xN cs)).length≤4000000:=Nc asked;have ans:aqf cs≤1000000:=by
   have h1:=asked.all;have h2:=asked.one;have h3:1*(aqf cs+1000)≤cs.length*(aqf cs+1000):=Nat.mul_le_mul_right _ h2;omega
  have hs:=sizeLine_eq;refine bt fun R n1=>?_;intro b0 h hx I0 hh s0 fp0;walk_at "n";show eV _ _ _ [some (V.ref a),some (V.ref h),none,none,none,none] b0.H;refine bt fun R n1=>?_;refine⟨apV _,fun tl Sh=>n1.go _ _ ?_⟩;clear n1 R;have s1:=bZ Sh (o:=.aN []);have ZX:aJ b0.H tl (.aN []) tl=some (.aN []):=au;show eV _ _ _ [some (V.ref a),some (V.ref h),some (V.ref tl),none,none,none] (aJ b0.H tl (.aN []));have J0:AnI A H ns cs h hx tl 0 {b0 with H:=aJ b0.H tl (.aN [])} [] [] cs:=by
   refine⟨I0.same s1,s0.trans s1,fp0,rfl,⟨_,asked.calls⟩,rfl,?_,au,fun z=>?_,apV _⟩
   ·show 0+_≤_;omega
   ·obtain⟨o,e⟩:=I0.at_.ah9 (show Fp A b0 tl from z);rw[e]at Sh;cases Sh
  have nth:tl≠h:=fun z=>by rw[z,I0.obj]at Sh;cases Sh
  have ag8:H tl=none:=s0.free Sh;generalize hb:({b0 with H:=aJ b0.H tl (.aN [])}:Bs)=b1 at J0;have hH:aJ b0.H tl (.aN [])=b1.H:=by rw[←hb]
  rw[hH];clear hH hb s1 ZX Sh I0 s0 fp0;walk_at "g";walk_at "n";show eV _ _ _ [some (V.ref a),some (V.ref h),some (V.ref tl),some (V.int 0),none,none] b1.H;refine bt fun R n1=>?_;refine Kr (adq A H ns cs a h hx tl) (fun σ _=>aio ns.length σ) ⟨0,b1,[],[],cs,none,none,rfl,rfl,J0⟩ ?_ (fun σ H Q Q' m ⟨v,e1,u,e2,p,ys,e3,sq,i,j,e4,e5,c,e6,q⟩=>⟨v,e1,u,e2,p,ys,e3,sq,i,j,e4,e5,c,e6,m _ _ q⟩);rintro σ H' ⟨i,b,d,SN,XS,v4,v5,rfl,rfl,J⟩;have Ts:=J.s.seq ha;refine⟨_,rfl,_,rfl,a,_,rfl,.inl Ts,_,_,rfl,rfl,_,rfl,?_⟩;obtain⟨f,Z7⟩:=J.go;rw[apt];refine bW (fun c=>?_) fun c=>n1.go _ _ ?_
  ·have c':=of_decide_eq_true c;have gX:i<ns.length:=by omega
   clear c c' n1;rcases Br Z7 with⟨z,_⟩|⟨c,t,Yq,f',hf,acU,rfl⟩
   ·have:=congrArg arD z;rw[aqX]at this;exact absurd this (by show¬_=0;omega)
   obtain⟨ef,hf1⟩:=E8 hf;have I:=J.hd;refine bt fun R2 n2=>?_;walk_at "d";refine⟨a,i,ns,c,t,rfl,Ts,hf,fun H2 s2=>n2.go _ _ ?_⟩;clear n2 R2;have el:(ns.drop i).length-t.length=(nL c).length:=by rw[ef,apr];omega
   rw[el];have ha2:=s2.seq Ts;have ens:ns.map V.int=(ns.take i).map V.int++(nL c).map V.int++t.map V.int:=by rw[←apB,←apB,aqF,←ef,arl]
   have Ss:qQ (ns.map V.int) (some (i:Int)) (some ((i+(nL c).length:Nat):Int))=(nL c).map V.int:=by
    have:=VZ ((ns.take i).map V.int) ((nL c).map V.int) (t.map V.int);rw[←ens,apt,apt,aqm,asj J.ilt]at this;exact this
   have et:ns.drop (i+(nL c).length)=t:=by rw[←auc,ef,ata]
   have hil:i+(nL c).length≤ns.length:=by
    have:=congrArg arD ef;rw[aqX,apr]at this;omega
   generalize he:i+(nL c).length=e at*;show eV _ _ _ [some (V.ref a),some (V.ref h),some (V.ref tl),some (V.int i),some (V.int (e:Int)),v5] H2;refine bt fun R2 n2=>?_;walk_at "d";have Z8:aqY c=true:=asked.each c (by rw[←J.ecs];exact ap3 _ apD);have hlen:=J.len;rw[xZ]at hlen;refine⟨_,ha2,fun p hp=>?_⟩;rw[Ss];have s3:=s2.trans (bZ hp (o:=.aN ((nL c).map V.int)));refine⟨{b with H:=_},d,h,hx,p,c,rfl,I.same s3,rfl,au,Z8,by omega,fun b' r I' S hr OO=>n2.go _ _ ?_⟩;clear n2 R2;have am5:=S.fr tl _ (s3 _ _ J.told) J.nt nth;have nt':¬Fp A b' tl:=fun z=>by
    rcases S.fp tl z with z|z
    ·exact J.nt z
    ·have z':aJ H2 p (.aN ((nL c).map V.int)) tl=none:=z;rw[s3 _ _ J.told]at z';cases z'
   have ss:aV H b'.H:=fun x o e=>S.fr x o (s3 _ _ (J.s _ _ e)) (fun z=>by rw[J.fp x z]at e;cases e) (fun z=>by rw[z,hh]at e;cases e);have fp':∀x,Fp A b' x→H x=none:=fun x z=>by
    rcases S.fp x z with z|z
    ·exact J.fp x z
    ·exact(J.s.trans s3).free z
   have nrt:r≠tl:=fun z=>by
    have hr2:aJ H2 p (.aN ((nL c).map V.int)) r=none:=hr;rw[z,s3 _ _ J.told]at hr2;cases hr2
   obtain⟨hh1,hh2⟩:=Hj I.held Z8;have XO:=RT SN c;rw[J.ed]at XO;have ada:(SN++[c])++Yq=cs:=by rw[aqF];exact J.ecs
   have ag7:=WH ada;rw[XO,apr,apz]at ag7;generalize hT1:aqA (xN SN)=T1 at*;generalize VA:(gW d c).2=l1 at*;show eV _ _ _ [some (V.ref a),some (V.ref h),some (V.ref tl),some (V.int i),some (V.int (e:Int)),some (V.ref r)] b'.H;refine bt fun R2 n2=>?_;walk_at "d";refine⟨by omega,n2.go _ _ ?_⟩;clear n2 R2;have Gz:aJ b'.H tl (.aN (T1.map V.int++[V.int l1.length])) r=some (.aN (l1.map V.int)):=by rw[ai nrt];exact OO
   show eV _ _ _ [some (V.ref a),some (V.ref h),some (V.ref tl),some (V.int i),some (V.int (e:Int)),some (V.ref r)] (aJ b'.H tl (.aN (T1.map V.int++[V.int l1.length])));refine bt fun R2 n2=>?_;walk_at "d";refine⟨by rw[apr,apt];show _+1+_≤_;omega,n2.go _ _ ?_⟩;clear n2 R2;refine⟨_,rfl,⟨e,{b' with H:=_},(gW d c).1,SN++[c],Yq,_,_,rfl,rfl,⟨I'.put nt' nth _,fun x o ex=>?_,fp',ada,⟨f',by rw[et];exact acU⟩,?_,by omega,?_,nt',hil⟩⟩,?_⟩
   ·show aJ b'.H tl _ x=some o;rw[ai (aj ex ag8)];exact ss x o ex
   ·rw[S4,J.ed];rfl
   ·show aJ b'.H tl _ tl=_;rw[au,XO,apB,aqF];rfl
   ·show ns.length-(e:Int).toNat<ns.length-(i:Int).toNat;omega
  ·clear n1 R;have hge:ns.length≤i:=by
    have:¬((i:Int)<(ns.length:Int)):=fun z=>c (decide_eq_true z);omega
   have c0:XS=[]:=by
    rw[List.drop_eq_nil_of_le hge]at Z7;rcases Br Z7 with⟨_,z⟩|⟨c,t,Yq,f',hf,acU,rfl⟩
    ·exact z
    ·obtain⟨ef,hf1⟩:=E8 hf;have:=congrArg arD ef;rw[apr]at this;exact absurd this (by show¬0=_;omega)
   subst c0;have ht:=J.told;have e1:=J.ecs;rw[apK]at e1;subst e1;refine⟨_,rfl,k _ _ ht⟩
def j3(K:apw)(x:Str)(st:Stmt)(ps:List Str):Prop:=∃f fd,apU K mainGlobals x=some (some (.ref f))∧Df K x x st ps f fd
def eh(K:apw)(C:Addr)(x qn:Str)(st:Stmt)(ps:List Str):Prop:=∃f fd,fo K C x f∧Df K x qn st ps f fd
def fQ(K:apw)(x:Str)(n:Int):Prop:=∃t,apU K mainGlobals x=some (some (.int n t))
theorem Yp{K:apw}{x qn:Str}{st:Stmt}{ps:List Str}{f:Addr}{fd:FuncData}(F:Fun K x qn st f fd)(h:∀(kV doc pm:Value) (an:Option Addr) (yS ct:Value) (us:List Value),us.length=ps.length→bindArgs (ar1 x qn (yx st) (uQ st) (aC st) .none kV doc pm an yS ct) ⟨us,[]⟩=pure (ps.zip us)):Df K x qn st ps f fd:=⟨F,F.binds h⟩
structure MZ(K:apw)(C:Addr):Prop where
 cl:AL K C
 mkk:atY K C=true
 kp:ar0 K (.ref C)=true
structure KdA(w:World)(K:apw)(ak:Addr):Prop where
 at_:∃es n,K.lookup ak=some ⟨.type "dict",none,.dict es n,#[]⟩∧avb w.params es.toList
 lo:(ak==sysModules)=false
 town:∃t,apU K ak "town"=some (some (.int 512 t))
 street:∃t,apU K ak "street"=some (some (.int 1024 t))
 code:∃t,apU K ak "code"=some (some (.int 1024 t))
 span:apU K ak "span"=some none
 letters:apU K ak "letters"=some none
 boxes:apU K ak "boxes"=some none
theorem kb1{α:Type}{p:List α→Prop}(h:∀a,p [a]):∀us:List α,us.length=1→p us
 |[a],_=>h a
theorem kb2{α:Type}{p:List α→Prop}(h:∀a b,p [a,b]):∀us:List α,us.length=2→p us
 |[a,b],_=>h a b
theorem kb3{α:Type}{p:List α→Prop}(h:∀a b c,p [a,b,c]):∀us:List α,us.length=3→p us
 |[a,b,c],_=>h a b c
theorem kb4{α:Type}{p:List α→Prop}(h:∀a b c d,p [a,b,c,d]):∀us:List α,us.length=4→p us
 |[a,b,c,d],_=>h a b c d
theorem kb5{α:Type}{p:List α→Prop}(h:∀a b c d e,p [a,b,c,d,e]):∀us:List α,us.length=5→p us
 |[a,b,c,d,e],_=>h a b c d e
theorem all_mk{P:Program}{w:World}{K:apw}{h:Heap}{mg:Str→Option Value}{fa dR dU gZ jA jz eE cb f9 ak:Addr}(X:K.In h)(G:h.Ns mainGlobals mg)(hfa:mg "answers"=some (.ref fa)):
  apU K mainGlobals "Intervals"=some (some (.ref dR))→
  MZ K dR→
  aG K dR "lows"→
  aG K dR "highs"→
  aG K dR "holders"→
  eh K dR "__init__" "Intervals.__init__" zy ["self"]→
  eh K dR "begun_by" "Intervals.begun_by" ou ["self","number"]→
  eh K dR "meets" "Intervals.meets" wj ["self","low","high"]→
  eh K dR "holder_of" "Intervals.holder_of" l0 ["self","number"]→
  eh K dR "add" "Intervals.add" DL ["self","low","high","holder"]→
  apU K mainGlobals "Line"=some (some (.ref dU))→
  MZ K dU→
  aG K dU "kind"→
  aG K dU "names"→
  aG K dU "code"→
  aG K dU "number"→
  aG K dU "low"→
  aG K dU "high"→
  aG K dU "step"→
  aG K dU "walk"→
  aG K dU "first"→
  aG K dU "back"→
  aG K dU "point_count"→
  eh K dU "__init__" "Line.__init__" zr ["self","kind"]→
  apU K mainGlobals "Run"=some (some (.ref gZ))→
  MZ K gZ→
  aG K gZ "line"→
  aG K gZ "town"→
  aG K gZ "street"→
  aG K gZ "begin"→
  aG K gZ "span_run"→
  eh K gZ "__init__" "Run.__init__" zo ["self","line","town","street","begin"]→
  apU K mainGlobals "Point"=some (some (.ref jA))→
  MZ K jA→
  aG K jA "town"→
  aG K jA "street"→
  aG K jA "number"→
  aG K jA "letter"→
  aG K jA "code"→
  aG K jA "walk"→
  aG K jA "place"→
  eh K jA "__init__" "Point.__init__" zq ["self","town","street","number"]→
  apU K mainGlobals "Town"=some (some (.ref jz))→
  MZ K jz→
  aG K jz "names"→
  aG K jz "codes"→
  aG K jz "boxes"→
  eh K jz "__init__" "Town.__init__" zk ["self","names"]→
  eh K jz "find_box" "Town.find_box" oh ["self","number"]→
  apU K mainGlobals "Street"=some (some (.ref eE))→
  MZ K eE→
  aG K eE "names"→
  aG K eE "town"→
  aG K eE "halves"→
  aG K eE "letters"→
  eh K eE "__init__" "Street.__init__" zm ["self","names","town"]→
  eh K eE "span_run_of" "Street.span_run_of" jK ["self","number"]→
  eh K eE "has_some_number" "Street.has_some_number" gn ["self","line"]→
  eh K eE "add_span" "Street.add_span" oj ["self","line","run"]→
  eh K eE "has_some_letter" "Street.has_some_letter" gp ["self","line"]→
  eh K eE "add_letters" "Street.add_letters" jL ["self","line","run"]→
  eh K eE "find_point" "Street.find_point" kO ["self","number","letter"]→
  eh K eE "lettered_points" "Street.lettered_points" gm ["self","number"]→
  apU K mainGlobals "Book"=some (some (.ref cb))→
  MZ K cb→
  aG K cb "text"→
  aG K cb "line_count"→
  aG K cb "counts"→
  aG K cb "towns"→
  aG K cb "streets"→
  aG K cb "town"→
  aG K cb "street"→
  aG K cb "walks"→
  aG K cb "runs"→
  aG K cb "point_count"→
  eh K cb "__init__" "Book.__init__" zF ["self"]→
  eh K cb "fill" "Book.fill" zG ["self","text"]→
  eh K cb "take_row" "Book.take_row" oy ["self","row"]→
  eh K cb "can_stand" "Book.can_stand" me ["self","line"]→
  eh K cb "clashes" "Book.clashes" qg ["self","line"]→
  eh K cb "has_some_place" "Book.has_some_place" gY ["self","line"]→
  eh K cb "is_too_much" "Book.is_too_much" jO ["self","line"]→
  eh K cb "add_line" "Book.add_line" oA ["self","line"]→
  eh K cb "add_points" "Book.add_points" kU ["self","line"]→
  eh K cb "add_places" "Book.add_places" kW ["self","line","run"]→
  eh K cb "point" "Book.point" wu ["self","i"]→
  eh K cb "find_point" "Book.find_point" kT ["self","town","street","number","letter"]→
  eh K cb "find_box" "Book.find_box" oz ["self","town","number"]→
  eh K cb "walk_points" "Book.walk_points" jN ["self","walk"]→
  eh K cb "run_points" "Book.run_points" kS ["self","run"]→
  apU K mainGlobals "Holder"=some (some (.ref f9))→
  MZ K f9→
  aG K f9 "book"→
  eh K f9 "__init__" "Holder.__init__" zD ["self"]→
  eh K f9 "take" "Holder.take" zB ["self","text"]→
  eh K f9 "more" "Holder.more" zC ["self","text"]→
  eh K f9 "tell_text" "Holder.tell_text" l8 ["self"]→
  eh K f9 "tell_sizes" "Holder.tell_sizes" kP ["self"]→
  eh K f9 "tell_point" "Holder.tell_point" kQ ["self","i"]→
  eh K f9 "tell_find" "Holder.tell_find" ma ["self","town","street","number","letter"]→
  eh K f9 "tell_box" "Holder.tell_box" ox ["self","town","number"]→
  eh K f9 "tell_walk" "Holder.tell_walk" l7 ["self","walk"]→
  eh K f9 "tell_name" "Holder.tell_name" l9 ["self","what","i","j"]→
  eh K f9 "tell_parts" "Holder.tell_parts" kR ["self","i"]→
  j3 K "signs_of" wb ["text"]→
  j3 K "bytes_of" wt ["signs"]→
  j3 K "read_line" su ["row"]→
  j3 K "read_names" qc ["kind","told"]→
  j3 K "read_code" sv ["told"]→
  j3 K "read_span" sk ["told"]→
  j3 K "read_boxes" qd ["told"]→
  j3 K "read_stretch" lY ["kind","told","most"]→
  j3 K "read_letters" lZ ["told"]→
  j3 K "is_word" zA ["word","most"]→
  j3 K "is_of_side" qe ["number","side"]→
  j3 K "read_number" om ["word","least","most"]→
  j3 K "read_letter" oo ["word"]→
  j3 K "letter_sign" oq ["letter"]→
  j3 K "point_of" wd ["run","i"]→
  j3 K "point_at" we ["run","offset"]→
  j3 K "turned" DK ["line","offset"]→
  j3 K "offset_of" sx ["line","number"]→
  j3 K "index_of" wm ["run","number"]→
  j3 K "lettered_point" jM ["run","offset"]→
  j3 K "halves_of" sC ["line"]→
  j3 K "parts_of" wg ["book","point"]→
  j3 K "counted" zE ["signs"]→
  j3 K "found_or_not" md ["i"]→
  j3 K "call_end" wo ["calls","at"]→
  j3 K "answer_of" sD ["holder","call"]→
  j3 K "answers" zH ["calls"]→
  fQ K "MOST_WORDS" (8)→
  fQ K "MOST_WORD_SIGNS" (32)→
  fQ K "MOST_CODE_SIGNS" (12)→
  fQ K "MOST_NUMBER" (99999)→
  fQ K "MOST_BOX" (999999)→
  fQ K "MOST_WALK" (9999)→
  fQ K "MOST_FIRST" (900000)→
  fQ K "MOST_DIGITS" (6)→
  fQ K "NO_NUMBER" (-1)→
  fQ K "NO_LETTER" (0)→
  (∃t,apU K mainGlobals "LETTERS"=some (some (.str "abcdefghijklmnopqrstuvwxyz" t)))→
  fQ K "NO_STREET" (-1)→
  fQ K "MOST_LINES" (4096)→
  fQ K "MOST_POINTS" (65536)→
  apU K mainGlobals "MOST_OF_KIND"=some (some (.ref ak))→
  fQ K "FINE" (0)→
  fQ K "NOT_FORMED" (1)→
  fQ K "TOO_MUCH" (2)→
  fQ K "CANNOT_STAND" (3)→
  fQ K "CLASHES" (4)→
  fQ K "TAKE" (0)→
  fQ K "MORE" (1)→
  fQ K "TEXT" (2)→
  fQ K "SIZES" (3)→
  fQ K "POINT" (4)→
  fQ K "FIND" (5)→
  fQ K "BOX" (6)→
  fQ K "WALK" (7)→
  fQ K "NAME" (8)→
  fQ K "PARTS" (9)→
  fQ K "OUT_OF_RANGE" (-1)→
  fQ K "TOO_LONG" (-2)→
  fQ K "NOT_FOUND" (-3)→
  fQ K "NOT_THERE" (-4)→
  fQ K "FAULTY" (-6)→
  fQ K "MOST_BYTES" (65536)→
  fQ K "MOST_LETTER" (26)→
  fQ K "TOWN_NAME" (0)→
  fQ K "STREET_NAME" (1)→
  apU K mainGlobals "len"=some none→
  apU K mainGlobals "any"=some none→
  apU K mainGlobals "sorted"=some none→
  apU K mainGlobals "ord"=some none→
  apU K mainGlobals "int"=some none→
  apU K mainGlobals "str"=some none→
  apU K mainGlobals "range"=some none→
  apU K mainGlobals "list"=some none→
  KdA w K ak→
  ∃fd:FuncData,(∀(s:Shared) (us:List Value),us.length=(["calls"]:List Str).length→BindsTo s fd ⟨us,[]⟩ ((["calls"]:List Str).zip us))∧∀base:Heap,K.In base→base.Ns mainGlobals mg→bN P w K mg base fU 12 fa fd ["calls"] (wa K):=by
 intro ah6 z1 pd mr gL z5 z6 z7 z8 z9 ah5 z11 o8 gv o9 nu o7 lK uJ uI qt uK eY z23 ah3 z25 uE uD ni qp g4 z31 ah4 z33 uG nj nq nr uH uF qr z41 ah1 z43 jT mm mq z47 z48 ah2 z50 jU oZ kr jc z55 z56 z57 z58 z59 z60 z61 z62 ah8 z64 lL fG iL jW gM jX d4 jV pk eZ z75 z76 z77 z78 z79 z80 z81 z82 z83 z84 z85 z86 z87 z88 z89 ah7 z91 pj z93 z94 z95 z96 z97 z98 z99 aeO aeN aeM aeL aeK aeJ aeI aeH aeG aeF aeE aeD aeC aeB aeA aez aey aex aew aev aeu aet aes aer aeq aep aeo aen aem ael aek qx je fY j6 wQ tK qz oJ gx iO uN ku qy oH jf Aj lB wN mB Ak Jx JA Jw CT CU JB QC Jv Jz Jy jd wO tJ kx ED qA oI nG oG ft Rk FF MN Wa Rj yL Pt kd;refine op fun R hn=>?_;obtain⟨aiC,ZA,acx⟩:=z1;obtain⟨pI,uW,Im,SA⟩:=z5;obtain⟨hU,ke,GY,GK⟩:=z6;obtain⟨mH,qL,PD,O9⟩:=z7;obtain⟨gB,jq,FL,Fd⟩:=z8;obtain⟨tY,yz,Wh,VT⟩:=z9;obtain⟨aiB,Zz,acw⟩:=z11;obtain⟨pH,uV,Il,Sy⟩:=z23;obtain⟨aiz,Zx,acu⟩:=z25;obtain⟨pF,uT,Ij,Sw⟩:=z31;obtain⟨aiA,Zy,acv⟩:=z33;obtain⟨pG,uU,Ik,Sx⟩:=z41;obtain⟨aix,Zv,acr⟩:=z43;obtain⟨pD,uR,Ih,Su⟩:=z47;obtain⟨g8,j8,GS,GF⟩:=z48;obtain⟨aiy,Zw,acs⟩:=z50;obtain⟨pE,uS,Ii,Sv⟩:=z55;obtain⟨fe,gR,AF,Ap⟩:=z56;obtain⟨di,d9,uj,t5⟩:=z57;obtain⟨g9,j9,GU,GG⟩:=z58;obtain⟨dj,ee,uk,t6⟩:=z59;obtain⟨ff,gS,AG,Aq⟩:=z60;obtain⟨fI,ij,CB,Cs⟩:=z61;obtain⟨dh,d8,ui,t4⟩:=z62;obtain⟨aiE,ZD,acz⟩:=z64;obtain⟨pO,u5,Ip,SI⟩:=z75;obtain⟨pP,u6,S9,SJ⟩:=z76;obtain⟨hX,kg,G0,GN⟩:=z77;obtain⟨gH,jw,FT,Fj⟩:=z78;obtain⟨jm,lH,Kl,JY⟩:=z79;obtain⟨dB,eO,vh,vf⟩:=z80;obtain⟨fk,gV,AJ,Au⟩:=z81;obtain⟨ia,ki,G6,GP⟩:=z82;obtain⟨fO,iy,CI,Cz⟩:=z83;obtain⟨fP,iz,CJ,CA⟩:=z84;obtain⟨mL,qP,PK,Pe⟩:=z85;obtain⟨fN,iw,CH,Cy⟩:=z86;obtain⟨hZ,kh,G5,GO⟩:=z87;obtain⟨fj,gU,AI,As⟩:=z88;obtain⟨fM,iu,CG,Cw⟩:=z89;obtain⟨aiD,ZC,acy⟩:=z91;obtain⟨pM,u0,Io,SG⟩:=z93;obtain⟨pK,uY,S6,SE⟩:=z94;obtain⟨pL,uZ,S7,SF⟩:=z95;obtain⟨gD,js,FO,Ff⟩:=z96;obtain⟨fJ,ik,CC,Ct⟩:=z97;obtain⟨fK,ip,CD,Cu⟩:=z98;obtain⟨gF,ju,FQ,Fh⟩:=z99;obtain⟨hW,kf,GZ,GL⟩:=aeO;obtain⟨gC,jr,FN,Fe⟩:=aeN;obtain⟨gE,jt,FP,Fg⟩:=aeM;obtain⟨fL,ir,CF,Cv⟩:=aeL;obtain⟨mD,qH,Px,O5⟩:=aeK;obtain⟨mK,qO,PJ,Pd⟩:=aeJ;obtain⟨kH,nO,MR,Mq⟩:=aeI;obtain⟨jj,lE,Ki,JV⟩:=aeH;obtain⟨kI,nP,MS,Mr⟩:=aeG;obtain⟨kG,nN,MQ,Mp⟩:=aeF;obtain⟨jk,lF,Kj,JW⟩:=aeE;obtain⟨gz,jn,FJ,Fb⟩:=aeD;obtain⟨gA,jo,FK,Fc⟩:=aeC;obtain⟨pJ,uX,S5,SD⟩:=aeB;obtain⟨jl,lG,Kk,JX⟩:=aeA;obtain⟨hC,ka,GV,GH⟩:=aez;obtain⟨hE,kb,GW,GI⟩:=aey;obtain⟨hJ,kc,GX,GJ⟩:=aex;obtain⟨mE,qI,Py,O6⟩:=aew;obtain⟨mF,qJ,Pz,O7⟩:=aev;obtain⟨tX,yy,Wg,VS⟩:=aeu;obtain⟨kJ,nQ,MT,Ms⟩:=aet;obtain⟨mI,qM,PF,Pa⟩:=aes;obtain⟨fg,gT,AH,Ar⟩:=aer;obtain⟨kK,nR,MU,Mt⟩:=aeq;obtain⟨mG,qK,PB,O8⟩:=aep;obtain⟨pN,u4,S8,SH⟩:=aeo;obtain⟨gG,jv,FR,Fi⟩:=aen;obtain⟨mJ,qN,PH,Pc⟩:=aem;obtain⟨kL,nS,MV,Mu⟩:=ael;obtain⟨uP,pQ,Iq,HR⟩:=aek;refine hn ?_;clear hn R;have G1:∀{x:Str} {o:Value},apU K mainGlobals x=some (some o)→mg x=some o:=fun e=>PySem.W.mg_of X G e;have G2:∀{x:Str} {n:Int},fQ K x n→∃t,mg x=some (.int n t):=fun⟨t,e⟩=>⟨t,G1 e⟩;have e:=hfa.symm.trans (G1 Iq);cases e;let A:Ad:=⟨dR,dU,gZ,jA,jz,eE,cb,f9,pI,uW,hU,ke,mH,qL,gB,jq,tY,yz,pH,uV,mD,qH,mK,qO,kH,nO,jj,lE,kI,nP,kG,nN,jk,lF,gz,jn,gA,jo,pJ,uX,jl,lG,hC,ka,hE,kb,hJ,kc,pF,uT,pG,uU,mE,qI,mF,qJ,tX,yy,kJ,nQ,mI,qM,fg,gT,pD,uR,g8,j8,pE,uS,fe,gR,di,d9,g9,j9,dj,ee,ff,gS,fI,ij,dh,d8,kK,nR,pO,u5,pP,u6,hX,kg,gH,jw,jm,lH,dB,eO,fk,gV,ia,ki,fO,iy,fP,iz,mL,qP,fN,iw,hZ,kh,fj,gU,fM,iu,mG,qK,pM,u0,pK,uY,pL,uZ,gD,js,fJ,ik,fK,ip,gF,ju,hW,kf,gC,jr,gE,jt,fL,ir,pN,u4,gG,jv,mJ,qN,kL,nS,fa,pQ,ak⟩;have T:Tx K mg A:=⟨⟨aiC,pd,mr,gL,aiB,o8,gv,o9,nu,o7,lK,uJ,uI,qt,uK,eY,aiz,uE,uD,ni,qp,g4,aiA,uG,nj,nq,nr,uH,uF,qr,aix,jT,mm,mq,aiy,jU,oZ,kr,jc,aiE,lL,fG,iL,jW,gM,jX,d4,jV,pk,eZ,aiD,pj⟩,⟨ZA,Im.at_,Im.fn,acx⟩,G1 ah6,⟨Zz,Il.at_,Il.fn,acw⟩,G1 ah5,⟨Zx,Ij.at_,Ij.fn,acu⟩,G1 ah3,⟨Zy,Ik.at_,Ik.fn,acv⟩,G1 ah4,⟨Zv,Ih.at_,Ih.fn,acr⟩,G1 ah1,⟨Zw,Ii.at_,Ii.fn,acs⟩,G1 ah2,⟨ZD,Ip.at_,Ip.fn,acz⟩,G1 ah8,⟨ZC,Io.at_,Io.fn,acy⟩,G1 ah7,SA,GK,GY,O9,PD,Fd,FL,VT,Wh,Sy,O5,G1 Px,Pd,G1 PJ,Mq,G1 MR,JV,G1 Ki,Mr,G1 MS,Mp,G1 MQ,JW,G1 Kj,Fb,G1 FJ,Fc,G1 FK,SD,G1 S5,JX,G1 Kk,GH,G1 GV,GI,G1 GW,GJ,G1 GX,Sw,Sx,O6,G1 Py,O7,G1 Pz,VS,G1 Wg,Ms,G1 MT,Pa,G1 PF,Ar,G1 AH,Su,GF,GS,Sv,Ap,AF,t5,uj,GG,GU,t6,uk,Aq,AG,Cs,CB,t4,ui,Mt,G1 MU,SI,SJ,S9,GN,G0,Fj,FT,JY,Kl,vf,vh,Au,AJ,GP,G6,Cz,CI,CA,CJ,Pe,PK,Cy,CH,GO,G5,As,AI,Cw,CG,O8,G1 PB,SG,SE,S6,SF,S7,Ff,FO,Ct,CC,Cu,CD,Fh,FQ,GL,GZ,Fe,FN,Fg,FP,Cv,CF,SH,G1 S8,Fi,G1 FR,Pc,G1 PH,Mu,G1 MV,HR,G1 Iq,G2 qx,G2 je,G2 fY,G2 j6,G2 wQ,G2 tK,G2 qz,G2 oJ,G2 gx,G2 iO,let⟨t,e⟩:=uN;⟨t,G1 e⟩,G2 ku,G2 qy,G2 oH,G1 jf,G2 Aj,G2 lB,G2 wN,G2 mB,G2 Ak,G2 Jx,G2 JA,G2 Jw,G2 CT,G2 CU,G2 JB,G2 QC,G2 Jv,G2 Jz,G2 Jy,G2 jd,G2 wO,G2 tJ,G2 kx,G2 ED,G2 qA,G2 oI,G2 nG,G2 oG,aq3 X G ft,aq3 X G Rk,aq3 X G FF,aq3 X G MN,aq3 X G Wa,aq3 X G Rj,aq3 X G yL,aq3 X G Pt⟩;refine⟨pQ,?_,fun base _ _=>Od T ⟨kd.at_,kd.lo,kd.town,kd.street,kd.code,kd.span,kd.letters,kd.boxes⟩⟩;obtain⟨oc,od,kV,doc,pm,an,yS,ct,Xa,rfl,lk,Bi⟩:=HR.F.ex;exact fun s us hu=>match us,hu with|[_],_=>.of_eq rfl
end Pb.Internal
namespace PySem.W.Fast
def tw9632925919604132233:=0
def tw6790480975864021991:=0
def tw16284906134634349552:=0
def tw7054494508249342116:=0
def tw15380959326914820935:=0
def tw14122018503355713626:=0
def tw17805501226572641672:=0
def tw15793239694473453281:=0
def tw1591435497172573040:=0
def tw18320077375678223522:=0
def tw10250248945177504236:=0
def tw7929491620314260926:=0
def tw3550905610060727143:=0
def tw6315318225727472732:=0
def tw16429811896087721426:=0
def tw11363274891953368821:=0
def tw14684598819100517048:=0
def tw3412862188338990428:=0
def tw17107928367164261854:=0
def tw3859536524965267551:=0
def tw6973806826437214174:=0
def tw12915007656095225162:=0
def tw8326739508124332853:=0
def tw15062876307191733273:=0
def tw5627192554096881145:=0
def tw8644049392770880361:=0
def tw12364607402079343709:=0
def tw8001922046860644046:=0
def tw1711410862593656879:=0
def tw11616849879084210530:=0
def tw5929057938204935093:=0
def tw12528883529152781790:=0
def tw2839475643246278204:=0
def tw12158993166429153127:=0
def tw16815857453049671994:=0
def tw1937683952505556263:=0
def tw9566484328776963031:=0
def tw7491079246409898865:=0
def tw11213255263452814728:=0
def tw1016673436580167688:=0
def tw14624591462140605898:=0
def tw1343042580267086433:=0
def tw9726400822319168696:=0
def tw1369429102543658517:=0
def tw2782218018936212908:=0
def tw9953602765237365069:=0
def tw4532979965735819118:=0
def tw8636728949010963210:=0
def tw828340571213241568:=0
def tw1925636641809198530:=0
def tw2943256898951147289:=0
def tw324318083831896033:=0
def tw3403704638124163261:=0
def tw1759967772098063971:=0
def tw13703386277548077745:=0
def tw14166583653503698792:=0
def tw13058230536451025068:=0
def tw3380098064962293626:=0
def tw16467717875063413699:=0
def tw6951138328784921243:=0
def tw14339222592583525036:=0
def tw12763138828862810386:=0
def tw3682517535037211292:=0
def tw582293836670377580:=0
def tw6594258752406377967:=0
def tw2780357607443385147:=0
def tw9358643073293524757:=0
def tw14737116934994745490:=0
def tw258313916645989666:=0
def tw2594641118106827872:=0
def tw4997049567794629243:=0
def tw10141426736643904952:=0
def tw13185568623714445769:=0
def tw6486120722816941038:=0
def tw18239165206133490501:=0
def tw6514523800114088478:=0
def tw4084127701998526311:=0
def tw4597386732504590191:=0
def tw6429788463413438357:=0
def tw2178688615273308938:=0
def tw2474959879084896603:=0
def tw6974151297349981980:=0
def tw17333744151136316948:=0
def tw4632455306325138698:=0
def tw8839151475945185027:=0
def tw6012421733490446222:=0
def tw5032796232874520350:=0
def tw16115394298042681130:=0
def tw17684534024062022967:=0
def tw5445840102623276117:=0
def tw9789114431450974370:=0
def tw9855360799073105690:=0
def tw2545347635939385612:=0
def tw13250969187483072955:=0
def tw15303245803715120889:=0
def tw5096763784601383927:=0
def tw16167277570679134176:=0
def tw9466097082915080149:=0
def tw2487911436865536611:=0
def tw10896004696275840867:=0
def tw6089358182806684642:=0
def tw8425161715255449025:=0
def tw7580013289654364014:=0
def tw3665406585713659739:=0
def tw1119450398751718592:=0
def tw14622073676597158028:=0
def tw16194111110599549453:=0
def tw672669927529734956:=0
def tw4301185522138557683:=0
def tw15637286300496648557:=0
def tw9738271713950397761:=0
def tw2001511214341195740:=0
def tw4263321396449298058:=0
def tw13127023805481220222:=0
def tw11883065344824084782:=0
def tw6750021349301032114:=0
def tw10258305141759585748:=0
def tw16988271285376058008:=0
def tw8112937166704634892:=0
def tw17432153168566318530:=0
def tw3437740549048288756:=0
def tw2301458208833535251:=0
def tw8014816092173950622:=0
def tw16114569701386385003:=0
def tw1159373732853216020:=0
def tw17906466806918295525:=0
def tw12417025696748320340:=0
def tw545139450356850639:=0
def tw12970570306130958741:=0
def tw3910937239282883589:=0
def tw13634459912740444717:=0
def tw4299189455253915390:=0
def tw14055244807438539294:=0
def tw8775485489447412013:=0
def tw15699798430974218600:=0
def tw10271740066373217999:=0
def tw13956215028574232563:=0
def tw4428266813007445311:=0
def tw17960582661721849030:=0
def tw1222750498889984651:=0
def tw9936033251646813400:=0
def tw4706569437781357740:=0
def tw1768825184555236698:=0
def tw5959066345359873731:=0
def tw13395450429877109191:=0
def tw10466790067514103336:=0
def tw14457261173830013072:=0
def tw44587103213021872:=0
def tw7020930034353450962:=0
def tw17817740493824603837:=0
def tw13549940756306504207:=0
def tw6230144293743134001:=0
def tw8527524257778122425:=0
def tw14371903356283367465:=0
def tw12576871378713026298:=0
def tw11585484287978836142:=0
def tw5797851012523901909:=0
def tw5975272943032458478:=0
def tw14234381563356359847:=0
def tw17921970228275247654:=0
def tw15341965776046393649:=0
def tw14924260348615409130:=0
def tw2214101148366129587:=0
def tw1967520890077958644:=0
def tw1916114183748231835:=0
def tw458373114540911667:=0
def tw14567204031826994685:=0
def tw9466376471140177033:=0
def tw18199792482362080890:=0
def tw13923415922719750373:=0
def tw3804107594115661655:=0
def tw2468179946605499086:=0
def tw10469173543568911790:=0
def tw14746512346535736255:=0
def tw2388379888855615196:=0
def tw5465611788806690604:=0
def tw4562559275720783408:=0
def tw13864962184986131606:=0
def tw11495505736275518566:=0
def tw6535246857972281603:=0
def tw3641880491883535439:=0
def tw5470156949569213870:=0
def tw8265634421280871435:=0
end PySem.W.Fast
end
open PySem PySem.W PyProof.Rows
local macro_rules|`(tactic|walk_at "k_con")=>`(tactic|(refine' ⟨_,aul (?a:_=?a1) ?a2⟩;(case a=>k_is);(case a2=>rfl)))
set_option maxRecDepth 100000 in
set_option maxHeartbeats 0 in
theorem PySem.Challenge.cw_pointbook_s01_answers_holds : PySem.Challenge.rw_pointbook_s01_answers.Holds := by
 w_on;k_headS;(case hw=>exact⟨[.list [.int 2]],by decide +kernel,by decide +kernel⟩)
 k_fillS
 refine L2.Internal.M9 (r:=ar9) (k:=12) (CX:=L2.Internal.fU) (ps:=["calls"]) (sp:=Pb.Internal.wa) (by decide +kernel) rfl rfl ⟨rfl,by decide,by decide⟩ (fun w h Y=>PySem.W.kIn_of Y) ?F ?S (fun _ _ _ _ z=>z)
 case F=>
  intro w mg fa h Y KX G hmg;refine' Pb.Internal.all_mk KX G hmg ?q0 ?q1 ?q2 ?q3 ?q4 ?q5 ?q6 ?q7 ?q8 ?q9 ?q10 ?q11 ?q12 ?q13 ?q14 ?q15 ?q16 ?q17 ?q18 ?q19 ?q20 ?q21 ?q22 ?q23 ?q24 ?q25 ?q26 ?q27 ?q28 ?q29 ?q30 ?q31 ?q32 ?q33 ?q34 ?q35 ?q36 ?q37 ?q38 ?q39 ?q40 ?q41 ?q42 ?q43 ?q44 ?q45 ?q46 ?q47 ?q48 ?q49 ?q50 ?q51 ?q52 ?q53 ?q54 ?q55 ?q56 ?q57 ?q58 ?q59 ?q60 ?q61 ?q62 ?q63 ?q64 ?q65 ?q66 ?q67 ?q68 ?q69 ?q70 ?q71 ?q72 ?q73 ?q74 ?q75 ?q76 ?q77 ?q78 ?q79 ?q80 ?q81 ?q82 ?q83 ?q84 ?q85 ?q86 ?q87 ?q88 ?q89 ?q90 ?q91 ?q92 ?q93 ?q94 ?q95 ?q96 ?q97 ?q98 ?q99 ?agC ?agB ?agA ?agz ?agy ?agx ?agw ?agv ?agu ?agt ?ags ?agr ?agq ?agp ?ago ?agn ?agm ?agl ?agk ?agj ?agi ?agh ?agg ?agf ?age ?agd ?agc ?agb ?aga ?af9 ?af8 ?af7 ?af6 ?af5 ?af4 ?af3 ?af2 ?af1 ?af0 ?afZ ?afY ?afX ?afW ?afV ?afU ?afT ?afS ?afR ?afQ ?afP ?afO ?afN ?afM ?afL ?afK ?afJ ?afI ?afH ?afG ?afF ?afE ?afD ?afC ?afB ?afA ?afz ?afy ?afx ?afw ?afv ?afu ?aft ?afs ?afr ?afq ?afp ?afo ?afn ?afm
  case q0|q10|q24|q32|q42|q49|q63|q90|afT|afu|aft|afs|afr|afq|afp|afo|afn=>k_is
  case q1|q11|q25|q33|q43|q50|q64|q91=>refine' ⟨⟨?a,?b,?c,?d⟩,?e,?f⟩;(case a=>k_is);(case b=>k_is);(case c=>k_is);(case d=>k_is);(case e=>k_is);(case f=>k_is)
  case q2|q3|q4|q12|q13|q14|q15|q16|q17|q18|q19|q20|q21|q22|q26|q27|q28|q29|q30|q34|q35|q36|q37|q38|q39|q40|q44|q45|q46|q51|q52|q53|q54|q65|q66|q67|q68|q69|q70|q71|q72|q73|q74|q92=>show aq5 _ _ _=_;k_is
  case q5|q6|q7|q8|q9|q23|q31|q41|q47|q48|q55|q56|q57|q58|q59|q60|q61|q62|q75|q76|q77|q78|q79|q80|q81|q82|q83|q84|q85|q86|q87|q88|q89|q93|q94|q95|q96|q97|q98|q99|agC|agB|agA|agz=>refine' ⟨_,_,⟨?a,?i,?j⟩,Pb.Internal.Yp (L2.Internal.VI ?l ?c ?k) ?b⟩;(case a=>k_is);(case i=>k_is);(case j=>k_is);(case l=>k_is);(case c=>k_is);(case k=>k_is);(case b=>first|(exact fun _ _ _ _ _ _=>Pb.Internal.kb1 fun _=>rfl)|(exact fun _ _ _ _ _ _=>Pb.Internal.kb2 fun _ _=>rfl)|(exact fun _ _ _ _ _ _=>Pb.Internal.kb3 fun _ _ _=>rfl)|(exact fun _ _ _ _ _ _=>Pb.Internal.kb4 fun _ _ _ _=>rfl)|(exact fun _ _ _ _ _ _=>Pb.Internal.kb5 fun _ _ _ _ _=>rfl))
  case agy|agx|agw|agv|agu|agt|ags|agr|agq|agp|ago|agn|agm|agl|agk|agj|agi|agh|agg|agf|age|agd|agc|agb|aga|af9|af8=>refine' ⟨_,_,?a,Pb.Internal.Yp (L2.Internal.VI ?l ?c ?k) ?b⟩;(case a=>k_is);(case l=>k_is);(case c=>k_is);(case k=>k_is);(case b=>first|(exact fun _ _ _ _ _ _=>Pb.Internal.kb1 fun _=>rfl)|(exact fun _ _ _ _ _ _=>Pb.Internal.kb2 fun _ _=>rfl)|(exact fun _ _ _ _ _ _=>Pb.Internal.kb3 fun _ _ _=>rfl)|(exact fun _ _ _ _ _ _=>Pb.Internal.kb4 fun _ _ _ _=>rfl)|(exact fun _ _ _ _ _ _=>Pb.Internal.kb5 fun _ _ _ _ _=>rfl))
  case af7|af6|af5|af4|af3|af2|af1|af0|afZ|afY|afX|afW|afV|afU|afS|afR|afQ|afP|afO|afN|afM|afL|afK|afJ|afI|afH|afG|afF|afE|afD|afC|afB|afA|afz|afy|afx|afw|afv=>walk_at "k_con"
  case afm=>refine' ⟨⟨_,_,aul (?a:_=?a1) ?a2,?b⟩,?c,⟨_,aul (?d:_=?d1) ?d2⟩,⟨_,aul (?e:_=?e1) ?e2⟩,⟨_,aul (?f:_=?f1) ?f2⟩,?g,?h,?i⟩;(case a=>k_is);(case a2=>rfl);(case b=>exact⟨⟨_,_,rfl,rfl⟩,⟨_,_,rfl,rfl⟩,⟨_,_,rfl,rfl⟩,trivial⟩);(case c=>first|rfl|decide);(case d=>k_is);(case d2=>rfl);(case e=>k_is);(case e2=>rfl);(case f=>k_is);(case f2=>rfl);(case g=>k_is);(case h=>k_is);(case i=>k_is)
 case S=>
  intro K H xs a hO hwi aaa hx;cases hx with
  |cons h1 h2=>
   cases h2;cases h1 with
   |aN hs ha=>
    have e:=L2.Internal.QH a.1 _ ha;subst e;exact⟨_,a.1,rfl,hs,aaa,fun H' p hp=>.aN (L2.Internal.jH.of hp) (L2.Internal.Q8 _)⟩
