import PyProof.Rows.All
import Wide.All
import OpenK.AllK
import Wide.FinOn
import PyProof.EqAt
import PyProof.EqKinds
import PyProof.TupleCall
import KE.BitLaws
import Open.SpecLaws
import KE.OsHead
import KE.OsGo
import KE.KDictList
import PyProof.Rows.SortShellAny
import PySem.Challenge.RW_margintext_s01_answers
set_option Elab.async false
set_option linter.all false
set_option compiler.extract_closed false
set_option maxRecDepth 100000
set_option maxHeartbeats 2000000
open Array renaming length_toList→j9,getElem?_eq_getElem→yf,toList→Io
open Bool renaming false_ne_true→bG,eq_iff_iff→bH,and_eq_true→dh,noConfusion→dX,false_and→gL,true_and→hW,false_eq_true→pz,and_false→rK,or_eq_true→CI,and_eq_true_iff→Ez,or_eq_false_iff→EC,false_or→PD
open False renaming elim→fR
open ForInStep renaming yield→uT
open Int renaming toNat_natCast→yZ,toNat→Fh,lt_or_le→Sx
open List renaming length_map→ab,length_append→ae,getElem?_eq_some_iff→ay,mem_filter→aA,mem_cons_self→aE,mem_append_right→aF,mem_cons_of_mem→aI,length_cons→aN,mem_map→aR,mem_append_left→aS,map_cons→aT,mem_append→aX,mem_of_getElem?→a7,size_toArray→a8,mem_cons→bx,map_append→bz,flatten_cons→bC,map_map→bD,filter_cons→bK,append_assoc→bM,flatMap_cons→bW,length_filter_le→bX,getElem?_map→b0,pairwise_map→b7,length_take→cc,take_length→cz,any_eq_true→cA,pairwise_append→cC,exists_mem_of_ne_nil→cG,getElem?_eq_getElem→cM,take_append_drop→cR,nodup_iff_pairwise_ne→c4,pairwise_cons→c5,append_nil→c7,length→c8,mem_flatten→dr,filter_append→dt,filter_eq_self→dz,length_drop→dH,zip_cons_cons→dM,cons_append→dW,flatMap_append→eh,mem_of_mem_take→eJ,filter_eq_nil_iff→eM,flatten_append→eY,any_cons→fG,take_of_length_le→fI,mem_flatMap→fJ,drop_eq_getElem_cons→fP,mem_map_of_mem→fS,map_congr_left→fT,drop_left→gf,find?_cons→gh,all_eq_true→gC,length_pos_iff→gQ,nodup_cons→gT,length_zip→gU,getElem?_zip_eq_some→g0,length_eq_zero_iff→iz,nodup_append→iA,map_drop→i7,map_take→i8,lookup_cons→jf,of_mem_zip→jG,nil_append→jI,filter_map→jJ,getElem?_of_mem→jR,drop_succ_cons→ka,filter_sublist→kb,take_left→kP,flatMap_eq_nil_iff→kQ,lookup→kU,range'→kW,getLast?_eq_some_getLast→kY,perm_append_comm→l0,filterMap_append→l4,getLast?_concat→mY,isPrefixOf_iff_prefix→mZ,isEmpty_iff→nB,take_succ_cons→nP,length_nil→oV,getElem?_cons_zero→pP,getLast?_cons_cons→pQ,map_id→pR,pairwise_mergeSort→pS,getElem?_set_self→rf,map_nil→rA,drop_of_length_le→rD,map_eq_append_iff→rF,drop_zero→rG,eq_nil_or_concat→rS,concat_eq_append→rT,range'_succ→sN,append_inj'→sO,getElem?_set_ne→uh,drop_append_of_le_length→um,mem_of_mem_drop→uo,zip_append→uY,any_append→uZ,filter_nil→va,filterMap_cons→vd,all_map→vW,range→xM,getElem?_append_right→xP,take_take→xS,mem_singleton→xV,append_of_mem→x3,mem_of_find?_eq_some→yg,filter_congr→y8,all_cons→zW,length_filterMap_le→zX,getElem?_cons_succ→AF,map_snd_zip→AG,map_fst_zip→AH,map→AK,flatMap_nil→AM,range_succ_eq_map→Ci,any_map→Cj,findIdx_eq_length→Cs,pairwise_flatMap→C1,drop_drop→EH,findIdx_append→Ft,sum_cons→FR,mem_filterMap→GK,length_range'→GU,getElem?_take→GW,filter_filter→GX,any_eq_false→Iu,take_add_one→IJ,getLast?_map→IK,findIdx_cons→IM,getElem_inj→JR,drop_length→J1,map_flatMap→J6,length_set→Ll,foldl_cons→Ln,isPrefixOf→Lo,forIn_nil→NR,drop_take→NZ,map_id'→Sv,set_set→Sy,take→Zp,drop→Zq
open List.Nodup renaming length_le_of_subset→J4,not_mem_erase→PJ
open List.Pairwise renaming imp_of_mem→dD,nil→X6
open List.Perm renaming append_left→jv,append_right→lh
open List.Sublist renaming append_left→PL,append→Vw,refl→X7
open List.cons renaming inj→tG
open Nat renaming le_refl→aJ,le_trans→bg,le_succ_of_le→bh,zero_le→bZ,lt_of_lt_of_le→ck,ne_of_lt→cI,le_succ→fE,lt_irrefl→gH,min_self→iV,min_eq_left→jH,lt_succ_of_lt→jQ,lt_succ_self→kM,lt_or_ge→nA,add_sub_cancel→pA,le_of_succ_le→rB,le_of_eq→B9,not_lt_zero→CK,le_of_lt→Il,succ_pos→II,le_add_right→J2,succ_le_succ→J3,ne_of_gt→Sr,sub_zero→SA,add_comm→SE
open Ne renaming symm→dv
open Option renaming map_some→oU,isSome_map→y0,isSome_iff_exists→zV,map_eq_some_iff→Cg,isSome_some→GP,getD_none→JX,none→Vg
open Option.some renaming inj→bu,injEq→eE
open Or renaming inl→bc,inr→Su
open Prod.mk renaming injEq→lZ
open PyFlat renaming call→ie,rows→kX,calls→rH,told→KJ,row→N0,played→PK
open PyProof.Rows renaming slot_tuple_getitem→ee,callWith_type1→vU,callWith_builtin1→JW,iadd_int→SM
open PySem renaming sizeLine→ag,Value→ak,wpAny_bind→ax,Shared→az,FuncData→aG,wpAny_pure→aY,wpAny→bO,sizeLine_eq→bS,boot_len→bV,starEach→cw,mainGlobals→cF,Program→cN,mem_of_lookup→cP,wpAny_truthy_bool→de,World→dS,compareOp→d8,cellsFrom→fk,sysModules→gK,wpAny_newObj_type→gN,wpAny_typeNameOfWhole_keyiter→ic,backTo→iH,wpAny_mono→iI,wpAny_call_entry→je,wpAny_Call_Name_kw→jm,NameKind→jn,wpAny_passesOwn→jF,keywordEach→jP,wpAny_typeNameOf_keyiter→j4,wpAny_callSpecial?_slot→kO,tupleKind_room_in1→lg,compEnvC→lF,behindInMarks→lW,wpAny_holding→lX,attributeBase→lY,Scope→mV,DictEntry→nz,sliceBounds→pO,foldedSetIterable→rg,backToKw→rj,pushCells→sJ,binaryOp→ui,bindArgs→uj,wpAny_execs_nil→uQ,letOwnedTupleGo→uR,pushCells_keeps→uS,bootBuiltins→vS,getItem→vV,swapsWith→wk,getMethod→wm,Keyword→yY,wpAny_dictEntries→y4,tupleKind→Az,cLine→AA,noFill_tuple_add→AB,standAt→B7,codeAny_mono→Ca,wpAny_Call_method_late→Cf,valueAt→Cm,call_meetsIn→Cn,wpAny_dictEpoch→CJ,wpAny_isTrue_Compare1→CU,wpAny_isOneOf_keyiter→CZ,wpAny_loadName_local→Ew,callWith→Ex,Params→Ey,codeAny→Fg,wpAny_loadName_cell→Fo,wpAny_standAt→FO,seq_tuple_add→FP,call_meets→GN,PyData→GO,Within→Ik,CmpOp→Im,Operator→Ip,wpAny_assign_Name→Iq,wpAny_pyIter_list→Ir,BindsTo→Iy,concat_meets→Iz,wpAny_sequenceKey→IA,wpAny_typeOf→IB,seqIndex_neg→IC,slot_list_getitem→ID,notedBy→IE,wpAny_Call_method→IF,wpAny_pyIter_slot→IG,callerA→IH,wpAny_execs_cons→JS,pyNext→JT,lastMarks→JU,wpAny_Dict_empty→JY,wpAny_field→KG,seqIndex_of→KH,atKey→KI,builtinsNs→NJ,isTrue→NK,wpAny_Name→NL,rawInt→NM,recursionLimit→NN,bindL→NO,bindC→NP,newFunctionEnv→NS,wpAny_fieldsOf→NT,wpAny_setField→NU,firstArgMember→NV,evalPart_none→Pz,call_list_seq→PB,wpAny_attempt→PF,storeName→QH,inplaceOp→QI,pyIter→Ss,Model→U8,compPost→Ve,Result→WV,call→W2
open PySem.Around renaming under→Iv
open PySem.Builtin.Dict renaming showsAll→CY,dictSlotNone→Oh
open PySem.Builtin.Dict_items renaming ownsTuple→uU
open PySem.Builtin.List renaming listTooLong→j3
open PySem.Builtin.Range renaming rangeSize→QJ
open PySem.Builtin.Slice renaming slicePlaces→jA,sliceAdjust→nJ,sliceApplied→xQ,slicePartIndex→Lk,sliceFields→Og
open PySem.Builtin.Tuple renaming tupleExact→j2,tupleItemsOf→xR,tupleIsExact→N1
open PySem.Calls renaming callWith_builtin→la,evalArgs_plain→mW,spliced_cons→pk,Name_function_global→xN,spliced_nil→yX
open PySem.Challenge renaming rw_margintext_s01_answers→lI,pw_margintext_s01_answers→CO
open PySem.CmpOp renaming NotIn→U9
open PySem.Code renaming isFrame→Iw,frames→Va
open PySem.Data renaming seq→NW,dict→Zo
open PySem.EqMixed renaming eq_bool_str→N9,eq_str_bool→Oa,ne_bool_str→Oe,ne_str_bool→Of,eq_int_str→Po,eq_str_int→Pq,ne_int_str→Pw,ne_str_int→Py
open PySem.EqNone renaming eq_none_none→N6,eq_none_bool→N7,eq_bool_none→N8,ne_none_none→Ob,ne_none_bool→Oc,ne_bool_none→Od,eq_none_int→Pk,eq_none_str→Pl,eq_int_none→Pn,eq_str_none→Pp,ne_none_int→Pr,ne_none_str→Pt,ne_int_none→Pu,ne_str_none→Px
open PySem.F renaming plainAttrs_list→bF,slot_list_append→cV,type_list_append→cW,slot_list_extend→dE,type_list_extend→dF,slot_dict_keyiterator_next→eN,args_tuple_add_2→oB,entry_tuple_add→pN,slot_tuple_add→rm,slot_dict_get→rR,args_dict_keyiterator_next_1→sL,entry_dict_keyiterator_next→uk,slot_dict_keyiterator_iter→uV,slot_dict_delitem→ye,slot_tuple_index→zY,args_dict_get_3→AD,plainAttrs_dict→AE,entry_dict_get→Co,slot_dict_pop→CW,args_list_extend_2→EE,entry_list_extend→Fs,slot_list_extend→GV,slot_dict_iter→JZ
open PySem.Heap renaming get?_push_of_some→bp,get?_push_size→b4,lt_size→cp,size_push→fD,SameBut→vT,get?_update_other→Ce,get?_update_self→CV
open PySem.Heap.DictOf renaming new→Zv
open PySem.Heap.IsSliceOf renaming new→WW
open PySem.Heap.SameBut renaming update→Fq
open PySem.NameKind renaming free→oC,cell→FQ
open PySem.Obj renaming mapSeq→Cd,data_mapFields→GQ,mapFields→PH
open PySem.Paired renaming length→b9,snoc→Vf
open PySem.PassesOwn renaming never→cS
open PySem.PyData renaming eqvAll→oF,int→pC,canLayAll0→y6,depthAll→CQ,canLay0→N3,depth→SF,eqv→W0
open PySem.SeqAt renaming shaped→Ck,EqAt→NQ
open PySem.SeqAt.EqAt renaming int_str→GH,str_int→GJ,none_bool→Vb,bool_none→Vc,bool_bool→Vd,none_int→Vo,none_str→Vp,bool_int→Vq,bool_str→Vr,int_none→Vs,int_bool→Vt,str_none→Vu,str_bool→Vv,int_int→WX,str_str→WY,same→Zu
open PySem.Str renaming ofString→Cc,empty→Zn
open PySem.Value renaming ref→c9,none→mU,bool→ph,int→sH,type→sI,str→Ff,isStrOf→Pj,isInt→U5,bytes→U6,float→U7
open PySem.Value.type renaming inj→NX
open PySem.W renaming Frag→aq,findIn→bI,nsIn→d7,fnOf→fg,emptyDict→fU,mg_none_of→gu,keepIn→gM,mg_of→hX,instObj→iG,plainGet→nu,callWith_K→pq,hasDictIn→rh,codeIn→rk,methodCall_KW→rQ,length_le_weightAllW→uW,plainGet_of→ve,lookIn→xO,methodObj→yV,plainOver→yW,isFn→B8,cellsFrom_some→Cb,takerIn→CG,makesIn→CH,callWith_K0→Fp,handedIn→JV,WRecords→J0,WalkOS→NY
open PySem.W.Looks renaming here→WU
open PySem.Walks renaming list→WZ
open PySem.Within renaming cons→X5
open PyVatrkg renaming shape→cq,answers_asked→rJ,answers→sM,whole→ED
open Std.Legacy.Range renaming forIn_eq_forIn_range'→EF,size→SN
open Sum renaming inl→dR,inr→Fe
open True renaming intro→pj
open Vatrka renaming State→aC,within→bo,step→bq,count→bJ,next→cJ,newPieces→di,has→du,isStretch→dZ,cutPiece→eO,isSign→eU,stood→fh,finish→gd,below→gi,commonTags→iw,answered→lG,doMove→oE,stretch→rE,outright→u6,stepMove→u7,rowPlace→u9,bears→vX,shown→vY,stepPut→xX,stepCut→xY,acceptPiece→xZ,acceptRow→AI,rejectRow→AJ,doTag→Cp,doPut→Cq,authorOf→CP,Call→EG,Answer→FT,carried→N2,visible→N4,props→Sw,doCut→SD
open Vatrkc renaming without→dm,verdictIn→dY,verdictRow→iu,settleIn→CL,acceptIn→CM,rejectIn→CN
open Vatrkg renaming Comment→aw,carries→aB,Call→bw,toldList→bE,Bookmark→bT,step→bY,stretches→c6,toldPiece→dI,start→dP,textOf→eF,shownWith→fK,isNoteText→fV,tagOf→gj,toldMark→gW,insertBy→iJ,isName→i9,foundFrom→jg,markTag→jo,Answer→j6,isPlaces→lH,lastWriter→me,condition→nE,toldReply→nF,isWanted→oW,Out→pB,cleaned→rL,marksOn→rN,bookmark→uX,comment→xT,waiting→xU,command→x4,changed→x5,row→x6,commentsOn→y9,markNamed→AL,wrote→Cr,list→EA,text→EB,quoteOf→EI,signsOf→EJ,at_→GR,Reply→IL,commentAt→J5,spotsOf→N5,QUOTE→SG,reach→SH,drop→Vh
open VatrkgNeutral renaming encode→mX,step→xW,callOf→Vi
namespace L2
open PySem PySem.Spec PyProof.Rows
abbrev Key:=Sum Int Str
def J7:Key→ak→Bool
 | .inl k,v=>U5 k v
 | .inr x,v=>Pj x v
def aeA (w:dS):Key→Int
 | .inl k=>hashInt k
 | .inr x=>hashStr w x
def iW:∀{k:Key} {v:ak},J7 k v=true→(∃i t,k=dR i∧v=sH i t)∨(∃x t,k=Fe x∧v=Ff x t)
 | .inl i,v,h=>by
  obtain⟨t,e⟩:=Value.isInt_shape (k:=i) (v:=v) h
  exact .inl ⟨i,t,rfl,e⟩
 | .inr x,v,h=>by
  obtain⟨t,e⟩:=Value.isStrOf_shape (x:=x) (v:=v) h
  exact .inr ⟨x,t,rfl,e⟩
def X8 (i:Int) (t:Tok):J7 (.inl i) (.int i t)=true:=by simp[J7,U5]
def X9 (x:Str) (t:Tok):J7 (.inr x) (.str x t)=true:=by simp[J7,Pj]
def acs (a b:Int):decide ((dR a:Key)=dR b)=(a==b):=by
 by_cases e:a=b
 ·subst e;simp
 ·have h:¬(dR a:Key)=dR b:=fun q=>e (Sum.inl.inj q)
  rw[decide_eq_false h]
  exact(beq_eq_false_iff_ne.mpr e).symm
def acu (a b:Str):decide ((Fe a:Key)=Fe b)=decide (a=b):=by
 by_cases e:a=b
 ·subst e;simp
 ·have h:¬(Fe a:Key)=Fe b:=fun q=>e (Sum.inr.inj q)
  rw[decide_eq_false h,decide_eq_false e]
def acv (a:Int) (b:Str):decide ((dR a:Key)=Fe b)=false:=decide_eq_false (fun q=>nomatch q)
def acw (a:Str) (b:Int):decide ((Fe a:Key)=dR b)=false:=decide_eq_false (fun q=>nomatch q)
def ik (prog:cN) (w:dS):PySem.KeyKind prog w Key where
 is:=J7
 hash:=aeA w
 inj:=fun v a b ha hb=>by
  rcases iW ha with⟨i,t,rfl,rfl⟩ | ⟨x,t,rfl,rfl⟩
  ·rcases iW hb with⟨j,u,rfl,e⟩ | ⟨y,u,rfl,e⟩
   ·injection e with e1 _;rw[e1]
   ·exact nomatch e
  ·rcases iW hb with⟨j,u,rfl,e⟩ | ⟨y,u,rfl,e⟩
   ·exact nomatch e
   ·injection e with e1 _;rw[e1]
 byValue:=fun k v h=>by
  rcases iW h with⟨i,t,rfl,rfl⟩ | ⟨x,t,rfl,rfl⟩ <;> rfl
 pyHash:=fun hv h=>by
  rcases iW hv with⟨i,t,rfl,rfl⟩ | ⟨x,t,rfl,rfl⟩
  ·exact wpAny_pyHash_int h
  ·exact wpAny_pyHash_str h
 eqBool:=fun hu hv h=>by
  rcases iW hu with⟨i,t,rfl,rfl⟩ | ⟨x,t,rfl,rfl⟩
  ·rcases iW hv with⟨j,u,rfl,rfl⟩ | ⟨y,u,rfl,rfl⟩
   ·rw[acs]at h;exact wpAny_eqBool_int h
   ·rw[acv]at h;exact GH i t y u _ _ _ _ h
  ·rcases iW hv with⟨j,u,rfl,rfl⟩ | ⟨y,u,rfl,rfl⟩
   ·rw[acw]at h;exact GJ x t j u _ _ _ _ h
   ·rw[acu]at h;exact wpAny_eqBool_str h
 «strs»:=fun k x t v h=>by
  rcases iW h with⟨i,u,rfl,e⟩ | ⟨y,u,rfl,e⟩
  ·exact nomatch e
  ·injection e with e1 _
   subst e1
   cases v <;> rfl
def SO (prog:cN) (w:dS) (i:Int) (t:Tok):(ik prog w).is (.inl i) (.int i t)=true:=X8 i t
def SQ (prog:cN) (w:dS) (x:Str) (t:Tok):(ik prog w).is (.inr x) (.str x t)=true:=X9 x t
end L2
namespace L2
open PySem PySem.Spec PyProof.Rows
inductive EX2{A B:Type}(z:A→B→Prop):Prop|mk(a:A)(b:B)(y:z a b):EX2 z
inductive EX3{A B C:Type}(z:A→B→C→Prop):Prop|mk(a:A)(b:B)(c:C)(y:z a b c):EX3 z
inductive EX4{A B C D:Type}(z:A→B→C→D→Prop):Prop|mk(a:A)(b:B)(c:C)(d:D)(y:z a b c d):EX4 z
inductive EX5{A B C D E:Type}(z:A→B→C→D→E→Prop):Prop|mk(a:A)(b:B)(c:C)(d:D)(e:E)(y:z a b c d e):EX5 z
inductive EX6{A B C D E F:Type}(z:A→B→C→D→E→F→Prop):Prop|mk(a:A)(b:B)(c:C)(d:D)(e:E)(f:F)(y:z a b c d e f):EX6 z
inductive EX7{A B C D E F G:Type}(z:A→B→C→D→E→F→G→Prop):Prop|mk(a:A)(b:B)(c:C)(d:D)(e:E)(f:F)(g:G)(y:z a b c d e f g):EX7 z
inductive EX8{A B C D E F G H:Type}(z:A→B→C→D→E→F→G→H→Prop):Prop|mk(a:A)(b:B)(c:C)(d:D)(e:E)(f:F)(g:G)(h:H)(y:z a b c d e f g h):EX8 z
inductive EX9{A B C D E F G H I:Type}(z:A→B→C→D→E→F→G→H→I→Prop):Prop|mk(a:A)(b:B)(c:C)(d:D)(e:E)(f:F)(g:G)(h:H)(i:I)(y:z a b c d e f g h i):EX9 z
inductive EX10{A B C D E F G H I J:Type}(z:A→B→C→D→E→F→G→H→I→J→Prop):Prop|mk(a:A)(b:B)(c:C)(d:D)(e:E)(f:F)(g:G)(h:H)(i:I)(j:J)(y:z a b c d e f g h i j):EX10 z
inductive EX12{A B C D E F G H I J K L:Type}(z:A→B→C→D→E→F→G→H→I→J→K→L→Prop):Prop|mk(a:A)(b:B)(c:C)(d:D)(e:E)(f:F)(g:G)(h:H)(i:I)(j:J)(k:K)(l:L)(y:z a b c d e f g h i j k l):EX12 z
inductive EX17{A B C D E F G H I J K L M N O P Q:Type}(z:A→B→C→D→E→F→G→H→I→J→K→L→M→N→O→P→Q→Prop):Prop|mk(a:A)(b:B)(c:C)(d:D)(e:E)(f:F)(g:G)(h:H)(i:I)(j:J)(k:K)(l:L)(m:M)(n:N)(o:O)(p:P)(q:Q)(y:z a b c d e f g h i j k l m n o p q):EX17 z
inductive V where
 | non | bl (b:Bool) | int (i:Int) | str (x:Str) | QK (b:Array UInt8) | flt (b:UInt64) | ref (a:Addr) | ty (n:String)
 deriving DecidableEq
def RelV:V→ak→Prop
 | .non,u=>u=mU
 | .bl b,u=>u=ph b
 | .int i,u=>∃t,u=sH i t
 | .str x,u=>∃t,u=Ff x t
 | .QK b,u=>∃t,u=U6 b t
 | .flt b,u=>∃t,u=U7 b t
 | .ref a,u=>u=c9 a
 | .ty n,u=>u=sI n
abbrev Vals:List V→List ak→Prop:=Paired RelV
def Vals.length {xs:List V} {us:List ak} (r:Vals xs us):xs.length=us.length:=b9 r
theorem Vals.get:∀{xs:List V} {us:List ak} {i:Nat} {x:V},Vals xs us→xs[i]? =some x→∃u,us[i]? =some u∧RelV x u
 | _,_,_,_,.nil,e=>by simp at e
 | _,_,0,_,.cons r _,e=>by simp at e;subst e;exact⟨_,rfl,r⟩
 | _,_,i+1,x,.cons _ t,e=>by
  obtain⟨u,h1,h2⟩:=Vals.get (i:=i) (x:=x) t (by simpa using e)
  exact⟨u,by simpa using h1,h2⟩
theorem Vals.set {x:V} {u:ak} (r:RelV x u):∀{xs:List V} {us:List ak} (i:Nat),Vals xs us→Vals (xs.set i x) (us.set i u)
 | _,_,_,.nil=>.nil
 | _,_,0,.cons _ t=>.cons r t
 | _,_,i+1,.cons q t=>.cons q (Vals.set r i t)
theorem Vals.append:∀{xs ys:List V} {us ws:List ak},Vals xs us→Vals ys ws→Vals (xs++ys) (us++ws)
 | _,_,_,_,.nil,s=>s
 | _,_,_,_,.cons r t,s=>.cons r (Vals.append t s)
theorem Vals.take:∀{xs:List V} {us:List ak} (n:Nat),Vals xs us→Vals (xs.take n) (us.take n)
 | _,_,0,_=>.nil
 | _,_,_+1,.nil=>.nil
 | _,_,n+1,.cons r t=>.cons r (Vals.take n t)
theorem Vals.drop:∀{xs:List V} {us:List ak} (n:Nat),Vals xs us→Vals (xs.drop n) (us.drop n)
 | _,_,0,r=>r
 | _,_,_+1,.nil=>.nil
 | _,_,n+1,.cons _ t=>Vals.drop n t
def AO:Option V→Option ak→Prop
 | some v,some u=>RelV v u
 | none,none=>True
 | _,_=>False
def KV {κ:Type}:List (κ×V)→List (κ×ak)→Prop:=Paired fun(p:κ×V) (q:κ×ak)=>p.1=q.1∧RelV p.2 q.2
def kV:Key→V
 | .inl i=>.int i
 | .inr x=>.str x
inductive HO where
 | lst (xs:List V)
 | tup (xs:List V)
 | dK (kvs:List (Key×V)) | dT (kvs:List (List Key×V))
 | set (S:Int→Bool) (n:Nat)
 | ins (C dx:Addr) (fs:List (Str×V))
 | own (x:Addr)
 | xd (fs:List (Str×V))
 | met (f x:Addr)
 | rng (lo hi:Int)
 | iK (o:Obj) (u:HO)
 | tbl (ps:Array ak)
 | ext (φ:Heap→Prop)
abbrev Hp:=Addr→Option HO
def upd (H:Hp) (a:Addr) (o:HO):Hp:=fun b=>if b=a then some o else H b
def af {H:Hp} {a:Addr} {o:HO}:upd H a o a=some o:=by unfold upd;rw[if_pos rfl]
def aD {H:Hp} {a b:Addr} {o:HO} (h:b≠a):upd H a o b=H b:=by unfold upd;rw[if_neg h]
def g7 {H:Hp} {a:Addr} {o u:HO}:upd (upd H a o) a u=upd H a u:=by
 funext b;unfold upd;split <;> rfl
def d5 {H:Hp} {a b:Addr} {o u:HO} (h:H a=some o) (h':H b=some u) (d:o≠u):a≠b:=by
 intro e;subst e;rw[h]at h';exact d (bu h')
def a9 {H:Hp} {a b:Addr} {o:HO} (h:H a=some o) (h':H b=none):a≠b:=by
 intro e;subst e;rw[h]at h';cases h'
def SR (h:Heap) (a:Addr) (items:Array ak):Prop:=∃n,h.get? a=some {cls:=.type "tuple",data:=.seq items n}
def SR.tup {h:Heap} {a:Addr} {items:Array ak} (x:SR h a items):IsTup h a items:=let ⟨n,e⟩:=x;⟨_,e,rfl,n,rfl⟩
def SR.new (h:Heap) (items:Array ak):SR (h.push {cls:=.type "tuple",data:=.seq items}) h.objs.size items:=⟨_,b4 _ rfl⟩
section
variable (P:cN) (w:dS)
def jw (H:Hp) (h:Heap) (a:Addr):HO→Prop
 | .lst xs=>xs.length≤ag∧∃(its:List ak) (n:Nat),Vals xs its∧h.get? a=some {cls:=.type "list",data:=.seq its.toArray n}
 | .tup xs=>xs.length≤ag∧∃its:List ak,Vals xs its∧SR h a its.toArray
 | .dK kvs=>kvs.length≤ag∧(a==gK)=false∧∃vs,KV kvs vs∧h.DictOf (ik P w) a vs
 | .dT kvs=>kvs.length≤ag∧(a==gK)=false∧∃xs:List (List Key×Addr×ak),
   Paired (fun(p:List Key×V) (q:List Key×Addr×ak)=>p.1=q.1∧H q.2.1=some (.tup (p.1.map kV))∧RelV p.2 q.2.2) kvs xs∧
   ∃o es ep,h.get? a=some o∧o.ExactDict∧o.data=.dict es ep∧es.toList=xs.map (entryOfKey (Az (ik P w)))∧(xs.map (·.1)).Nodup
 | .set S n=>h.SetOf (intKind P w) a S n
 | .ins C dx fs=>H dx=some (.own a)∧fs.length≤1000∧dx≠a∧h.get? a=some (iG C dx)∧
   ∃mA,h.Ns1 dx mA∧(∀f,AO (fs.lookup f) (mA f))∧Ik mA (fs.map (·.1))
 | .own _=>∃o,h.get? a=some o
 | .xd fs=>∃mA,h.Ns1 a mA∧∀f,AO (fs.lookup f) (mA f)
 | .rng lo hi=>∃t u v,h.get? a=some {cls:=.type "range",data:=.fields #[.int lo t,.int hi u,.int 1 v]}
 | .iK o u=>h.get? a=some o∧jw H h a u
 | .tbl ps=>h.get? a=some {cls:=.none,data:=.fields ps}
 | .met f x=>h.get? a=some (yV (.ref f) (.ref x))
 | .ext φ=>φ h∧(∃o,h.get? a=some o)∧∀h1 h2:Heap,φ h1→(∀o,h1.get? a=some o→h2.get? a=some o)→φ h2
def C2 (H:Hp) (h:Heap):Prop:=∀a o,H a=some o→jw P w H h a o
end
section
variable {P:cN} {w:dS} {H H':Hp} {h h':Heap} {a:Addr} {o:HO}
def jw.lt (x:jw P w H h a o):a < h.objs.size:=by
 cases o with
 | lst xs=>obtain⟨_,_,_,_,e⟩:=x;exact cp e
 | tup xs=>obtain⟨_,_,_,p⟩:=x;exact p.tup.lt
 | dK kvs=>obtain⟨_,_,_,_,o,_,_,e,_⟩:=x;exact cp e
 | dT kvs=>obtain⟨_,_,_,_,o,_,_,e,_⟩:=x;exact cp e
 | set S n=>obtain⟨o,_,_,_,e,_⟩:=x;exact cp e
 | ins C dx fs=>obtain⟨_,_,_,e,_⟩:=x;exact cp e
 | own y=>obtain⟨_,e⟩:=x;exact cp e
 | xd fs=>obtain⟨_,⟨_,_,_,e,_⟩,_⟩:=x;exact cp e
 | rng lo hi=>obtain⟨_,_,_,e⟩:=x;exact cp e
 | iK ob u=>obtain⟨e,_⟩:=x;exact cp e
 | tbl ps=>exact cp (show h.get? a=some _ from x)
 | met f y=>exact cp (show h.get? a=some _ from x)
 | ext φ=>obtain⟨_,⟨_,e⟩,_⟩:=x;exact cp e
theorem Paired.oX {α β:Type} {F G:α→β→Prop}:∀{l₁:List α} {l₂:List β},Paired F l₁ l₂→(∀a b,F a b→G a b)→Paired G l₁ l₂
 | _,_,.nil,_=>.nil
 | _,_,.cons r t,f=>.cons (f _ _ r) (Paired.oX t f)
def jw.SS (x:jw P w H h a o) (k:∀b u,(b=a∨H b=some (.own a))→h.get? b=some u→h'.get? b=some u)
  (ho:∀b,H b=some (.own a)→H' b=some (.own a)) (ht:∀b xs,H b=some (.tup xs)→H' b=some (.tup xs)):jw P w H' h' a o:=by
 induction o with
 | lst xs=>obtain⟨z,its,n,r,e⟩:=x;exact⟨z,its,n,r,k _ _ (.inl rfl) e⟩
 | tup xs=>obtain⟨z,its,r,n,e⟩:=x;exact⟨z,its,r,n,k _ _ (.inl rfl) e⟩
 | dK kvs=>obtain⟨z,y,vs,r,ob,es,ep,e,c⟩:=x;exact⟨z,y,vs,r,ob,es,ep,k _ _ (.inl rfl) e,c⟩
 | dT kvs=>
  obtain⟨z,y,xs,r,ob,es,ep,e,c⟩:=x
  exact⟨z,y,xs,Paired.oX r fun p q z=>⟨z.1,ht _ _ z.2.1,z.2.2⟩,ob,es,ep,k _ _ (.inl rfl) e,c⟩
 | set S n=>obtain⟨ob,es,ep,t,e,c⟩:=x;exact⟨ob,es,ep,t,k _ _ (.inl rfl) e,c⟩
 | ins C dx fs=>
  obtain⟨d,z,ne,e,mA,⟨od,es,ep,e2,c⟩,r⟩:=x
  exact⟨ho _ d,z,ne,k _ _ (.inl rfl) e,mA,⟨od,es,ep,k _ _ (.inr d) e2,c⟩,r⟩
 | own y=>obtain⟨ob,e⟩:=x;exact⟨ob,k _ _ (.inl rfl) e⟩
 | xd fs=>obtain⟨mA,⟨od,es,ep,e,c⟩,r⟩:=x;exact⟨mA,⟨od,es,ep,k _ _ (.inl rfl) e,c⟩,r⟩
 | rng lo hi=>obtain⟨t,u,v,e⟩:=x;exact⟨t,u,v,k _ _ (.inl rfl) e⟩
 | iK ob u ih=>obtain⟨e,q⟩:=x;exact⟨k _ _ (.inl rfl) e,ih q⟩
 | tbl ps=>
  have e:h.get? a=some {cls:=.none,data:=.fields ps}:=x
  show h'.get? a=some {cls:=.none,data:=.fields ps}
  exact k a _ (.inl rfl) e
 | met f y=>
  have e:h.get? a=some (yV (.ref f) (.ref y)):=x
  show h'.get? a=some (yV (.ref f) (.ref y))
  exact k a _ (.inl rfl) e
 | ext φ=>obtain⟨p,⟨o,e⟩,st⟩:=x;exact⟨st _ _ p fun o q=>k _ _ (.inl rfl) q,⟨o,k _ _ (.inl rfl) e⟩,st⟩
def C2.lt (x:C2 P w H h) (e:H a=some o):a < h.objs.size:=(x a o e).lt
def C2.fresh (x:C2 P w H h) (e:h.objs.size≤a):H a=none:=by
 cases q:H a with
 | none=>rfl
 | some u=>exact absurd (ck (x.lt q) e) (gH _)
def C2.kept (x:C2 P w H h) (k:∀b u,h.get? b=some u→h'.get? b=some u):C2 P w H h':=fun a o e=>
 (x a o e).SS (fun b u _ q=>k b u q) (fun _ q=>q) fun _ _ q=>q
def C2.laid (x:C2 P w H h) (k:∀b u,h.get? b=some u→h'.get? b=some u) (hp:h.objs.size≤a) (new:jw P w (upd H a o) h' a o):C2 P w (upd H a o) h':=fun b u e=>by
 have hn:=x.fresh hp
 by_cases hb:b=a
 ·subst hb;rw[af]at e;cases e;exact new
 ·rw[aD hb]at e
  exact(x b u e).SS (fun c v _ q=>k c v q) (fun c q=>by rw[aD (a9 q hn)];exact q) fun c xs q=>by rw[aD (a9 q hn)];exact q
end
def Rd (H:Hp) (a:Addr) (u:HO):Prop:=H a=some u∨∃o,H a=some (.iK o u)
def Rd.ok {P:cN} {w:dS} {H:Hp} {h:Heap} {a:Addr} {u:HO} (r:Rd H a u) (x:C2 P w H h):jw P w H h a u:=by
 rcases r with r | ⟨o,r⟩
 ·exact x a u r
 ·obtain⟨_,q⟩:=x a _ r
  exact q
def Mut:Option HO→Prop
 | some (.lst _)=>True
 | some (.dK _)=>True
 | some (.dT _)=>True
 | some (.set _ _)=>True
 | some (.ins _ _ _)=>True
 | some (.ext _)=>True
 | _=>False
section
variable {P:cN} {w:dS} {H:Hp} {h h':Heap} {x e:Addr} {o':HO}
def C2.write (ok:C2 P w H h) (mu:Mut (H x)) (he:e=x∨H e=some (.own x)) (k:∀b u,b≠e→h.get? b=some u→h'.get? b=some u) (heo:∃u,h'.get? e=some u)
  (new:jw P w (upd H x o') h' x o'):C2 P w (upd H x o') h':=fun b u q=>by
 have nown:∀c y,H c=some (.own y)→c≠x:=fun c y r z=>by subst z;rw[r]at mu;exact mu
 have ntup:∀c xs,H c=some (.tup xs)→c≠x:=fun c xs r z=>by subst z;rw[r]at mu;exact mu
 by_cases hb:b=x
 ·subst hb;rw[af]at q;cases q;exact new
 ·rw[aD hb]at q
  by_cases hbe:b=e
  ·have q':H b=some (.own x):=by
    rcases he with z | z
    ·exact absurd (hbe.trans z) hb
    ·rw[hbe];exact z
   rw[q]at q';cases q'
   obtain⟨v,hv⟩:=heo
   exact⟨v,by rw[hbe];exact hv⟩
  ·refine(ok b u q).SS (fun c v hc r=>k c v ?_ r) (fun c r=>by rw[aD (nown c b r)];exact r) fun c xs r=>by rw[aD (ntup c xs r)];exact r
   rcases hc with rfl | hc
   ·exact hbe
   ·rintro rfl
    rcases he with z | z
    ·exact nown c b hc z
    ·rw[hc]at z;cases z;exact hb rfl
end
structure Un (fs ex:List Addr) (H H':Hp) (h h':Heap):Prop where
 keep:∀b o,h.get? b=some o→H b=none→b∉fs→b∉ex→h'.get? b=some o
 slot:∀b o,h.get? b=some o→H b=none→b∈fs→b∉ex→∃sl,h'.get? b=some {o with slots:=sl}
 free:∀b o,h.get? b=some o→H b=none→b∉ex→H' b=none
 there:∀b o,h.get? b=some o→b∉ex→∃o',h'.get? b=some o'
 QL:∀b xs,H b=some (.tup xs)→H' b=some (.tup xs)
 LK:∀b o u,H b=some (.iK o u)→H' b=some (.iK o u)
 QM:∀b ps,H b=some (.tbl ps)→∃more,H' b=some (.tbl (ps++more))
section
variable {fs fs' ex ex':List Addr} {H H1 H2:Hp} {h h1 h2 h':Heap} {a x e:Addr} {o:HO}
def Un.any (u:Un fs ex H H1 h h1) {b:Addr} {ob:Obj} (q:h.get? b=some ob) (n:H b=none) (hx:b∉ex):∃sl,h1.get? b=some {ob with slots:=sl}:=by
 by_cases hb:b∈fs
 ·exact u.slot b ob q n hb hx
 ·exact⟨ob.slots,u.keep b ob q n hb hx⟩
def Un.kept (k:∀b u,h.get? b=some u→h'.get? b=some u):Un fs ex H H h h':=
 ⟨fun b ob q _ _ _=>k b ob q,fun b ob q _ _ _=>⟨ob.slots,k b ob q⟩,fun _ _ _ n _=>n,fun b ob q _=>⟨ob,k b ob q⟩,fun _ _ q=>q,fun _ _ _ q=>q,fun _ ps q=>⟨#[],by rw[q];simp⟩⟩
def Un.refl:Un fs ex H H h h:=Un.kept fun _ _ q=>q
def Un.laid (k:∀b u,h.get? b=some u→h'.get? b=some u) (hp:h.objs.size≤a) (hn:H a=none):Un fs ex H (upd H a o) h h' where
 keep:=fun b u q _ _ _=>k b u q
 slot:=fun b u q _ _ _=>⟨u.slots,k b u q⟩
 free:=fun b u q n _=>by rw[aD (cI (ck (cp q) hp))];exact n
 there:=fun b u q _=>⟨u,k b u q⟩
 QL:=fun b xs q=>by rw[aD (a9 q hn)];exact q
 LK:=fun b u xs q=>by rw[aD (a9 q hn)];exact q
 QM:=fun b ps q=>⟨#[],by rw[aD (a9 q hn),q];simp⟩
def Un.write (mu:Mut (H x)) (he:e=x∨H e=some (.own x)) (k:∀b u,b≠e→h.get? b=some u→h'.get? b=some u) (heo:∃u,h'.get? e=some u):Un fs ex H (upd H x o) h h':=by
 have hx:∀b,H b=none→b≠x:=fun b n z=>by subst z;rw[n]at mu;exact mu
 have hb:∀b,H b=none→b≠e:=fun b n z=>by
  subst z
  rcases he with r | r
  ·exact hx b n r
  ·rw[n]at r;cases r
 have hm:∀b u,H b=some u→¬Mut (some u)→b≠x:=fun b u q nm z=>by subst z;rw[q]at mu;exact nm mu
 refine⟨fun b u q n _ _=>k b u (hb b n) q,fun b u q n _ _=>⟨u.slots,k b u (hb b n) q⟩,fun b u q n _=>by rw[aD (hx b n)];exact n,fun b u q _=>?_,
  fun b xs q=>by rw[aD (hm b _ q fun z=>z)];exact q,fun b u xs q=>by rw[aD (hm b _ q fun z=>z)];exact q,fun b ps q=>⟨#[],by rw[aD (hm b _ q fun z=>z),q];simp⟩⟩
 by_cases hbe:b=e
 ·subst hbe;exact heo
 ·exact⟨u,k b u hbe q⟩
end
def trk (h:Heap) (H:Hp):List Addr:=(xM h.objs.size).filter fun a=>(H a).isSome
def QN (h:Heap) (H:Hp):Heap:=PySem.W.hideAll h (trk h H)
def Ya (h:Heap) (H:Hp):(QN h H).objs.size=h.objs.size:=PySem.W.hideAll_size _ _
def Zw {h:Heap} {H:Hp} {b:Addr} {o:Obj} (e:h.get? b=some o) (n:H b=none):(QN h H).get? b=some o:=
 PySem.W.hideAll_get _ e fun hm=>by
  have q:(H b).isSome=true:=(aA.mp hm).2
  rw[n]at q;simp at q
def aa0 {h:Heap} {H:Hp} {b:Addr} {o:Obj} (e:(QN h H).get? b=some o):h.get? b=some o∧H b=none:=by
 have e':h.get? b=some o:=PySem.W.of_hideAll (trk h H) e
 refine⟨e',?_⟩
 cases q:H b with
 | none=>rfl
 | some x=>
  have hm:b∈trk h H:=aA.mpr ⟨List.mem_range.mpr (cp e'),by simp[q]⟩
  have z:(QN h H).get? b=none:=PySem.W.hideAll_none (trk h H) hm
  rw[z]at e;cases e
end L2
namespace L2
open PySem PySem.Spec PyProof.Rows
structure Mod (K:aq) (mg:Str→Option ak) (base:Heap):Prop where
 kin:K.In base
 glob:base.Ns cF mg
 blt:∃mb,base.Ns NJ mb∧∀x:Str,x≠"__name__"→mb x=vS x
 nolimit:base.NoLimit
structure Cx where
 prog:cN
 w:dS
 K:aq
 mg:Str→Option ak
 base:Heap
 A:Around
 N:List Str
 PM:az
 H_0:Hp
 env:Env
 outer:List Env
 stack:List Env
 ex:List Addr
 fn:Str→Bool
 calm:Bool
 pn:List (Addr×Obj)
 xe:ak→az→Prop
def Zx (l:List Env):List Addr:=l.filterMap (·.frame)
abbrev Cx.fs (X:Cx):List Addr:=Zx X.outer
def Vis (sc:mV) (x:Str):Prop:=sc.names.lookup x=some .local∨sc.names.lookup x=some .cell∨sc.names.lookup x=some .free
def Loc (sc:mV) (x:Str):Prop:=sc.names.lookup x=some .local∨sc.names.lookup x=some .cell
def Look (env:Env) (h:Heap) (m:Str→Option ak) (x:Str) (u:ak):Prop:=
 (env.kindOf x=some .local∧m x=some u)∨((env.kindOf x=some .cell∨env.kindOf x=some .free)∧∃c,env.cells.lookup x=some c∧h.IsCell c (some u))
structure Cx.Ok (X:Cx):Prop where
 mod:Mod X.K X.mg X.base
 kind:X.env.scope.kind=.function
 glob:X.env.globals=cF
 blt:X.env.builtins=NJ
 above:X.PM.heap.objs.size≤X.env.locals
 inj:∀x y c,X.env.cells.lookup x=some c→X.env.cells.lookup y=some c→x=y
 has:∀x,(X.env.kindOf x=some .cell∨X.env.kindOf x=some .free)→∃c,X.env.cells.lookup x=some c
 cab:∀x c,X.fn x=true→X.env.cells.lookup x=some c→X.PM.heap.objs.size≤c
 hd:X.calm=true→X.A.handled=none
 frames:X.A.frames=some X.stack
 stk:X.stack=X.outer∨(X.stack=X.env::X.outer∧X.env.frame=some X.env.locals)
 exf:∀b∈X.ex,b≠X.env.locals∧∀x c,X.env.cells.lookup x=some c→c≠b
 bs:∀b o,X.base.get? b=some o→X.PM.heap.get? b=some o∧X.H_0 b=none
 bsz:X.base.objs.size≤X.PM.heap.objs.size
 Zy:∀b o,X.base.get? b=some o→b∉X.ex
 Zz:∀b∈X.ex,b∉X.fs
 KL:X.PM.heap.FunFrames X.base X.outer
 frf:∀b∈X.fs,X.H_0 b=none
structure Inv (X:Cx) (pins:List (Addr×Obj)) (σ:List (Option V)) (H:Hp) (s:az):Prop where
 ok:X.Ok
 os:s.os=X.PM.os
 bare:AllBare s.gens
 base:Un X.fs X.ex X.H_0 H X.PM.heap s.heap
 loc:∃m,s.heap.Ns X.env.locals m∧∀(i:Nat) (x:Str) (v:V),X.N[i]? =some x→σ[i]? =some (some v)→Vis X.env.scope x→∃u,RelV v u∧Look X.env s.heap m x u
 cell:∀x c,X.env.cells.lookup x=some c→∃v,s.heap.IsCell c v
 free:H X.env.locals=none
 zZ:∀x c,X.env.cells.lookup x=some c→H c=none
 pin:∀p∈X.pn++pins,s.heap.get? p.1=some p.2∧H p.1=none∧p.1≠X.env.locals∧p.1∉X.fs∧∀v,p.2.data≠.cell v
 gX:C2 X.prog X.w H s.heap
 len:σ.length=X.N.length
section
variable {X:Cx} {pins:List (Addr×Obj)} {σ:List (Option V)} {H H':Hp} {s:az} {h':Heap}
def Cx.Ok.aeB (ok:X.Ok) {b:Addr} {o:Obj} (e:X.base.get? b=some o):b∉X.fs:=fun hb=>by
 have:=(ok.KL.mem hb).1
 rw[e]at this;cases this
def Inv.bs (I:Inv X pins σ H s):∀b o,X.base.get? b=some o→s.heap.get? b=some o∧H b=none:=fun b o e=>
 ⟨I.base.keep b o (I.ok.bs b o e).1 (I.ok.bs b o e).2 (I.ok.aeB e) (I.ok.Zy b o e),I.base.free b o (I.ok.bs b o e).1 (I.ok.bs b o e).2 (I.ok.Zy b o e)⟩
def Inv.bk (I:Inv X pins σ H s):∀b o,X.base.get? b=some o→s.heap.get? b=some o:=fun b o e=>(I.bs b o e).1
def Inv.mod (I:Inv X pins σ H s):Mod X.K X.mg X.base:=I.ok.mod
def Inv.Vj (I:Inv X pins σ H s):X.K.In s.heap:=I.ok.mod.kin.keeps I.bk
def Inv.fr (I:Inv X pins σ H s):∃m,Fr X.base X.env.locals s.heap m:=
 let ⟨m,hn,_⟩:=I.loc
 ⟨m,hn,I.bk,bg I.ok.bsz I.ok.above⟩
def Inv.lt (I:Inv X pins σ H s):X.env.locals < s.heap.objs.size:=let ⟨_,hn,_⟩:=I.loc;hn.lt
def Inv.sz (I:Inv X pins σ H s):X.PM.heap.objs.size≤s.heap.objs.size:=bg I.ok.above (Il I.lt)
def Inv.aeC (I:Inv X pins σ H s) {a:Addr} (h:s.heap.objs.size≤a):a∉X.fs:=fun hb=>by
 obtain⟨_,o,ho,_⟩:=I.ok.KL.mem hb
 exact absurd (ck (cp ho) (bg I.sz h)) (gH _)
def Inv.cne (I:Inv X pins σ H s):∀x c,X.env.cells.lookup x=some c→c≠X.env.locals:=fun x c e z=>by
 obtain⟨v,o,ho,hd⟩:=I.cell x c e
 obtain⟨m,⟨o',es,ep,ho',hd',_⟩,_⟩:=I.loc
 rw[z,ho']at ho;cases ho;rw[hd']at hd;cases hd
def Inv.KL (I:Inv X pins σ H s):s.heap.FunFrames X.base X.outer:=by
 have all:∀(l:List Env),(∀b∈Zx l,b∈X.fs)→X.PM.heap.FunFrames X.base l→s.heap.FunFrames X.base l:=by
  intro l
  induction l with
  | nil=>intro _ _;trivial
  | cons env r ih=>
   intro hs hl
   obtain⟨hk,⟨L,o,hf,hn,ho,hd⟩,hr⟩:=hl
   have hL:L∈X.fs:=hs L (by unfold Zx;rw[vd,hf];exact aE)
   obtain⟨sl,e⟩:=I.base.slot L o ho (I.ok.frf L hL) hL fun z=>I.ok.Zz L z hL
   exact⟨hk,⟨L,_,hf,hn,e,hd⟩,ih (fun b hb=>hs b (by unfold Zx;rw[vd,hf];exact aI _ hb)) hr⟩
 exact all X.outer (fun _ hb=>hb) I.ok.KL
def Inv.stack (I:Inv X pins σ H s):s.heap.FunFrames X.base X.stack:=by
 rcases I.ok.stk with e | ⟨e,hf⟩
 ·rw[e];exact I.KL
 ·rw[e]
  obtain⟨m,hn,_⟩:=I.loc
  refine .cons (by rw[I.ok.kind];decide) hf hn ?_ I.KL
  exact Heap.get?_none_of_le (bg I.ok.bsz I.ok.above)
def Inv.Vx (I:Inv X pins σ H s):∀b∈Zx X.stack,b∈X.env.locals::X.fs:=fun b hb=>by
 rcases I.ok.stk with e | ⟨e,hf⟩
 ·rw[e]at hb;exact aI _ hb
 ·rw[e]at hb
  unfold Zx at hb
  rw[vd,hf]at hb
  exact hb
def Inv.W3 (I:Inv X pins σ H s):∀b∈Zx X.stack,H b=none:=fun b hb=>by
 rcases bx.mp (I.Vx b hb)with e | hb
 ·rw[e];exact I.free
 ·obtain⟨_,o,ho,_⟩:=I.ok.KL.mem hb
  exact I.base.free b o ho (I.ok.frf b hb) fun z=>I.ok.Zz b z hb
def Inv.step {g':Array GenState} {t':Nat} {d':Drawn} {ch:List Addr} (I:Inv X pins σ H s)
  (hch:∀b∈ch,(b∈X.ex∨X.PM.heap.objs.size≤b)∧b≠X.env.locals∧(∀x c,X.env.cells.lookup x=some c→c≠b)∧∀p∈X.pn++pins,p.1≠b)
  (keep:∀b o,b≠X.env.locals→b∉X.fs→b∉ch→s.heap.get? b=some o→H b=none→h'.get? b=some o)
  (slot:∀b o,b≠X.env.locals→b∈X.fs→b∉ch→s.heap.get? b=some o→H b=none→∃sl,h'.get? b=some {o with slots:=sl}) (free:∀b o,b∉ch→s.heap.get? b=some o→H b=none→H' b=none)
  (there:∀b o,b∉ch→s.heap.get? b=some o→∃o',h'.get? b=some o')
  (QL:∀b xs,H b=some (.tup xs)→H' b=some (.tup xs)) (LK:∀b o u,H b=some (.iK o u)→H' b=some (.iK o u)) (QM:∀b ps,H b=some (.tbl ps)→∃more,H' b=some (.tbl (ps++more)))
  (ns:∀m,s.heap.Ns X.env.locals m→h'.Ns X.env.locals m) (gX:C2 X.prog X.w H' h') (hg:AllBare g'):
  Inv X pins σ H' {s with heap:=h',gens:=g',drawn:=d',toks:=t'}:=by
 have neL:∀b o,X.PM.heap.get? b=some o→b≠X.env.locals:=fun b o e=>cI (ck (cp e) I.ok.above)
 have neC:∀b o,X.PM.heap.get? b=some o→b∉X.ex→b∉ch:=fun b o e hx hb=>by
  rcases(hch b hb).1 with z | z
  ·exact hx z
  ·exact absurd (ck (cp e) z) (gH _)
 have cellK:∀x c,X.env.cells.lookup x=some c→∀v,s.heap.IsCell c v→h'.IsCell c v:=fun x c e v ⟨o,ho,hd⟩=>by
  have nch:c∉ch:=fun z=>(hch c z).2.2.1 x c e rfl
  by_cases hc:c∈X.fs
  ·obtain⟨sl,q⟩:=slot c o (I.cne x c e) hc nch ho (I.zZ x c e)
   exact⟨_,q,hd⟩
  ·exact⟨o,keep c o (I.cne x c e) hc nch ho (I.zZ x c e),hd⟩
 refine⟨I.ok,I.os,hg,⟨fun b o e n hb hx=>?_,fun b o e n hb hx=>?_,fun b o e n hx=>?_,fun b o e hx=>?_,fun b xs e=>QL b xs (I.base.QL b xs e),fun b o xs e=>LK b o xs (I.base.LK b o xs e),fun b ps e=>?_⟩,?_,fun x c e=>?_,?_,fun x c e=>?_,fun p hp=>?_,gX,I.len⟩
 ·exact keep b o (neL b o e) hb (neC b o e hx) (I.base.keep b o e n hb hx) (I.base.free b o e n hx)
 ·obtain⟨sl,e1⟩:=I.base.slot b o e n hb hx
  obtain⟨sl',e2⟩:=slot b _ (neL b o e) hb (neC b o e hx) e1 (I.base.free b o e n hx)
  exact⟨sl',e2⟩
 ·obtain⟨o',e1⟩:=I.base.there b o e hx
  exact free b o' (neC b o e hx) e1 (I.base.free b o e n hx)
 ·obtain⟨o',e1⟩:=I.base.there b o e hx
  exact there b o' (neC b o e hx) e1
 ·obtain⟨m1,e1⟩:=I.base.QM b ps e
  obtain⟨m2,e2⟩:=QM b _ e1
  exact⟨m1++m2,by rw[e2,Array.append_assoc]⟩
 ·obtain⟨m,hn,hl⟩:=I.loc
  refine⟨m,ns m hn,fun i x v e1 e2 e3=>?_⟩
  obtain⟨u,r,l⟩:=hl i x v e1 e2 e3
  refine⟨u,r,?_⟩
  rcases l with l | ⟨k,c,e,z⟩
  ·exact .inl l
  ·exact .inr ⟨k,c,e,cellK x c e _ z⟩
 ·obtain⟨v,z⟩:=I.cell x c e
  exact⟨v,cellK x c e v z⟩
 ·obtain⟨m,⟨o,_,_,ho,_⟩,_⟩:=I.loc
  exact free _ o (fun z=>(hch _ z).2.1 rfl) ho I.free
 ·obtain⟨v,o,ho,hd⟩:=I.cell x c e
  exact free c o (fun z=>(hch c z).2.2.1 x c e rfl) ho (I.zZ x c e)
 ·obtain⟨e,n,ne,nf,d⟩:=I.pin p hp
  have nch:p.1∉ch:=fun z=>(hch p.1 z).2.2.2 p hp rfl
  exact⟨keep p.1 p.2 ne nf nch e n,free p.1 p.2 nch e n,ne,nf,d⟩
def Inv.un {t':Nat} (I:Inv X pins σ H s) (u:Un X.fs [] H H' s.heap h') (gX:C2 X.prog X.w H' h'):Inv X pins σ H' {s with heap:=h',toks:=t'}:=by
 obtain⟨m,⟨o,es,ep,ho,r⟩,_⟩:=id I.loc
 obtain⟨sl,hL⟩:=u.any ho I.free (by simp)
 exact I.step (g':=s.gens) (d':=s.drawn) (ch:=[]) (fun _ z=>nomatch z) (fun b o _ hb _ e n=>u.keep b o e n hb (by simp)) (fun b o _ hb _ e n=>u.slot b o e n hb (by simp)) (fun b o _ e n=>u.free b o e n (by simp)) (fun b o _ e=>u.there b o e (by simp)) u.QL u.LK u.QM (fun m' hm=>by
  obtain⟨o',es',ep',ho',r'⟩:=hm
  rw[ho]at ho';cases ho'
  exact⟨_,es',ep',hL,r'⟩) gX I.bare
def Inv.call {g':Array GenState} {t':Nat} {d':Drawn} {ch:List Addr} (I:Inv X pins σ H s) (u:Un (Zx X.stack) ch H H' s.heap h') (gX:C2 X.prog X.w H' h') (hg:AllBare g')
  (hch:∀b∈ch,(b∈X.ex∨X.PM.heap.objs.size≤b)∧b≠X.env.locals∧(∀x c,X.env.cells.lookup x=some c→c≠b)∧∀p∈X.pn++pins,p.1≠b):
  Inv X pins σ H' {s with heap:=h',gens:=g',drawn:=d',toks:=t'}:=by
 obtain⟨m,⟨o,es,ep,ho,r⟩,_⟩:=id I.loc
 obtain⟨sl,hL⟩:=u.any ho I.free fun z=>(hch _ z).2.1 rfl
 exact I.step (ch:=ch) hch (fun b o hL hb hc e n=>u.keep b o e n (fun z=>(bx.mp (I.Vx b z)).elim hL hb) hc) (fun b o _ _ hc e n=>u.any e n hc) (fun b o hc e n=>u.free b o e n hc) (fun b o hc e=>u.there b o e hc) u.QL u.LK u.QM (fun m' hm=>by
  obtain⟨o',es',ep',ho',r'⟩:=hm
  rw[ho]at ho';cases ho'
  exact⟨_,es',ep',hL,r'⟩) gX hg
def Inv.turned {t':Nat} {it:Addr} (I:Inv X pins σ H s) (k:∀b o,b≠it→s.heap.get? b=some o→h'.get? b=some o) (hn:H it=none) (hL:it≠X.env.locals)
  (h1:it∈X.ex∨X.PM.heap.objs.size≤it) (h2:∀x c,X.env.cells.lookup x=some c→c≠it) (h3:∀p∈X.pn++pins,p.1≠it):Inv X pins σ H {s with heap:=h',toks:=t'}:=by
 have nit:∀b u,H b=some u→b≠it:=fun b u e z=>by rw[z,hn]at e;cases e
 refine I.step (g':=s.gens) (d':=s.drawn) (ch:=[it]) (fun b hb=>?_) (fun b o _ _ hc e _=>k b o (fun z=>hc (by simp[z])) e) (fun b o _ _ hc e _=>⟨o.slots,k b o (fun z=>hc (by simp[z])) e⟩) (fun _ _ _ _ n=>n)
  (fun b o hc e=>⟨o,k b o (fun z=>hc (by simp[z])) e⟩) (fun _ _ e=>e) (fun _ _ _ e=>e) (fun b ps e=>⟨#[],by rw[e];simp⟩) (fun m hm=>?_) (fun b u e=>?_) I.bare
 ·have e:b=it:=by simpa using hb
  subst e
  exact⟨h1,hL,h2,h3⟩
 ·obtain⟨o,es,ep,ho,r⟩:=hm
  exact⟨o,es,ep,k _ o (dv hL) ho,r⟩
 ·refine(I.gX b u e).SS (fun c v hc q=>k c v ?_ q) (fun _ q=>q) fun _ _ q=>q
  rcases hc with z | z
  ·rw[z];exact nit b u e
  ·exact nit c _ z
def Inv.tok (I:Inv X pins σ H s) (t:Nat):Inv X pins σ H {s with toks:=t}:=I.un (h':=s.heap) (t':=t) Un.refl I.gX
def Inv.kept {t':Nat} (I:Inv X pins σ H s) (k:∀b u,s.heap.get? b=some u→h'.get? b=some u):Inv X pins σ H {s with heap:=h',toks:=t'}:=I.un (Un.kept k) (I.gX.kept k)
def Inv.laid {a:Addr} {o:HO} {t':Nat} (I:Inv X pins σ H s) (k:∀b u,s.heap.get? b=some u→h'.get? b=some u) (hp:s.heap.objs.size≤a) (new:jw X.prog X.w (upd H a o) h' a o):
  Inv X pins σ (upd H a o) {s with heap:=h',toks:=t'}:=I.un (Un.laid k hp (I.gX.fresh hp)) (I.gX.laid k hp new)
def Inv.write {x e:Addr} {o:HO} {t':Nat} (I:Inv X pins σ H s) (mu:Mut (H x)) (he:e=x∨H e=some (.own x)) (k:∀b u,b≠e→s.heap.get? b=some u→h'.get? b=some u) (heo:∃u,h'.get? e=some u)
  (new:jw X.prog X.w (upd H x o) h' x o):Inv X pins σ (upd H x o) {s with heap:=h',toks:=t'}:=I.un (Un.write mu he k heo) (I.gX.write mu he k heo new)
def Inv.weak {σ':List (Option V)} (I:Inv X pins σ H s) (hl:σ'.length=σ.length) (w:∀(i:Nat) v,σ'[i]? =some (some v)→σ[i]? =some (some v)):Inv X pins σ' H s:=
 ⟨I.ok,I.os,I.bare,I.base,let ⟨m,hn,hl'⟩:=I.loc;⟨m,hn,fun i x v e1 e2 e3=>hl' i x v e1 (w i v e2) e3⟩,I.cell,I.free,I.zZ,I.pin,I.gX,hl.trans I.len⟩
def Inv.W4 {pins':List (Addr×Obj)} (I:Inv X pins σ H s) (h:∀p∈pins',s.heap.get? p.1=some p.2∧H p.1=none∧p.1≠X.env.locals∧p.1∉X.fs∧∀v,p.2.data≠.cell v):Inv X pins' σ H s:=
 ⟨I.ok,I.os,I.bare,I.base,I.loc,I.cell,I.free,I.zZ,fun p hp=>(aX.mp hp).elim (fun z=>I.pin p (aS _ z)) (h p),I.gX,I.len⟩
def LL {N:List Str} (hN:N.Nodup) {i j:Nat} {x:Str} (a:N[i]? =some x) (b:N[j]? =some x):i=j:=by
 obtain⟨h1,e1⟩:=ay.mp a
 obtain⟨h2,e2⟩:=ay.mp b
 exact(JR hN).mp (e1.trans e2.symm)
def PN {M:U8} {A:Around} {E:ak→az→Prop} {i:Nat} {x:Str} {v:V} {u:ak} {Q:Unit→az→Prop} (I:Inv X pins σ H s) (hN:X.N.Nodup) (hi:X.N[i]? =some x) (hx:Loc X.env.scope x) (r:RelV v u)
  (h:∀s',Inv X pins (σ.set i (some v)) H s'→(∃a,vT a s.heap s'.heap∧(a=X.env.locals∨X.env.cells.lookup x=some a))→Q () s') (hf:X.fn x=true∨X.env.scope.names.lookup x=some .local:=by first | exact .inl rfl | exact .inr rfl | assumption):bO M A (QH X.env x u) Q E s:=by
 obtain⟨m,hn,hl⟩:=id I.loc
 have hcls:(X.env.scope.kind==.class||(X.env.scope.kind==.module&&X.env.locals !=X.env.globals))=false:=by rw[I.ok.kind];rfl
 have hiσ:i < σ.length:=by rw[I.len];exact(ay.mp hi).1
 have cne:=I.cne
 have tracked:∀{a:Addr} {h':Heap},(∃o,s.heap.get? a=some o∧H a=none)→vT a s.heap h'→C2 X.prog X.w H h':=fun {a h'} ha hs b ob e=>by
  obtain⟨_,_,hfree⟩:=ha
  refine(I.gX b ob e).SS (fun c w' hc q=>(hs.2 c ?_).trans q) (fun _ q=>q) fun _ _ q=>q
  rintro rfl
  rcases hc with rfl | hc
  ·rw[hfree]at e;cases e
  ·rw[hfree]at hc;cases hc
 rcases hx with hk | hk
 ·refine wpAny_storeName_local hk hn (fun h' hn' hs=>?_) hcls
  obtain⟨oL,_,_,hoL,_⟩:=id hn
  refine h _ ⟨I.ok,I.os,I.bare,⟨fun b o e n hb hx=>?_,fun b o e n hb hx=>?_,I.base.free,fun b o e hx=>?_,I.base.QL,I.base.LK,I.base.QM⟩,⟨_,hn',fun j y v' e1 e2 e3=>?_⟩,fun y c e=>?_,I.free,I.zZ,fun p hp=>?_,tracked ⟨oL,hoL,I.free⟩ hs,by simpa using I.len⟩ ⟨_,hs,.inl rfl⟩
  ·exact(hs.2 b (cI (ck (cp e) I.ok.above))).trans (I.base.keep b o e n hb hx)
  ·obtain⟨sl,e1⟩:=I.base.slot b o e n hb hx
   exact⟨sl,(hs.2 b (cI (ck (cp e) I.ok.above))).trans e1⟩
  ·obtain⟨o',e1⟩:=I.base.there b o e hx
   exact⟨o',(hs.2 b (cI (ck (cp e) I.ok.above))).trans e1⟩
  ·by_cases hj:j=i
   ·subst hj
    rw[hi]at e1;cases e1
    rw[rf hiσ]at e2
    cases e2
    exact⟨u,r,.inl ⟨hk,by simp⟩⟩
   ·rw[uh (dv hj)]at e2
    obtain⟨u',r',q⟩:=hl j y v' e1 e2 e3
    refine⟨u',r',?_⟩
    rcases q with⟨k,e⟩ | ⟨k,c,e,z⟩
    ·refine .inl ⟨k,?_⟩
     have:y≠x:=fun e=>hj (LL hN e1 (e▸hi))
     simp[this,e]
    ·exact .inr ⟨k,c,e,z.sameBut hs (cne y c e)⟩
  ·obtain⟨w',z⟩:=I.cell y c e
   exact⟨w',z.sameBut hs (cne y c e)⟩
  ·obtain⟨e,n,ne,nf,d⟩:=I.pin p hp
   exact⟨(hs.2 p.1 ne).trans e,n,ne,nf,d⟩
 ·have hfn:X.fn x=true:=by
   rcases hf with z | z
   ·exact z
   ·rw[z]at hk;cases hk
  obtain⟨c,hc⟩:=I.ok.has x (.inl hk)
  obtain⟨w',z⟩:=I.cell x c hc
  refine wpAny_storeName_cell I.ok.kind hk hc z (fun h' hc' hs=>?_)
  obtain⟨oc,hoc,hocd⟩:=id z
  refine h {s with heap:=h'} ⟨I.ok,I.os,I.bare,⟨fun b o e n hb hx=>?_,fun b o e n hb hx=>?_,I.base.free,fun b o e hx=>?_,I.base.QL,I.base.LK,I.base.QM⟩,⟨m,hn.sameBut hs (dv (cne x c hc)),fun j y v' e1 e2 e3=>?_⟩,fun y c' e=>?_,I.free,I.zZ,fun p hp=>?_,tracked ⟨oc,hoc,I.zZ x c hc⟩ hs,by simpa using I.len⟩ ⟨c,hs,.inr hc⟩
  ·exact(hs.2 b (cI (ck (cp e) (I.ok.cab x c hfn hc)))).trans (I.base.keep b o e n hb hx)
  ·obtain⟨sl,e1⟩:=I.base.slot b o e n hb hx
   exact⟨sl,(hs.2 b (cI (ck (cp e) (I.ok.cab x c hfn hc)))).trans e1⟩
  ·obtain⟨o',e1⟩:=I.base.there b o e hx
   exact⟨o',(hs.2 b (cI (ck (cp e) (I.ok.cab x c hfn hc)))).trans e1⟩
  ·by_cases hj:j=i
   ·subst hj
    rw[hi]at e1;cases e1
    rw[rf hiσ]at e2
    cases e2
    exact⟨u,r,.inr ⟨.inl hk,c,hc,hc'⟩⟩
   ·rw[uh (dv hj)]at e2
    obtain⟨u',r',q⟩:=hl j y v' e1 e2 e3
    refine⟨u',r',?_⟩
    rcases q with q | ⟨k,c',e,z'⟩
    ·exact .inl q
    ·refine .inr ⟨k,c',e,z'.sameBut hs ?_⟩
     rintro rfl
     exact hj (LL hN e1 (I.ok.inj _ _ _ e hc▸hi))
  ·by_cases hcc:c'=c
   ·subst hcc;exact⟨_,hc'⟩
   ·obtain⟨w2,z2⟩:=I.cell y c' e
    exact⟨w2,z2.sameBut hs hcc⟩
  ·obtain⟨e,n,ne,nf,d⟩:=I.pin p hp
   refine⟨(hs.2 p.1 ?_).trans e,n,ne,nf,d⟩
   intro q
   rw[q,hoc]at e
   have q':oc=p.2:=bu e
   exact d w' (by rw[← q'];exact hocd)
def LM {M:U8} {A:Around} {E:ak→az→Prop} {i:Nat} {x:Str} {v:V} {u:ak} {Q:Unit→az→Prop} (I:Inv X pins σ H s) (hN:X.N.Nodup) (hi:X.N[i]? =some x) (hx:Loc X.env.scope x) (r:RelV v u)
  (h:∀s',Inv X pins (σ.set i (some v)) H s'→Q () s') (hf:X.fn x=true∨X.env.scope.names.lookup x=some .local:=by first | exact .inl rfl | exact .inr rfl | assumption):bO M A (QH X.env x u) Q E s:=
 PN I hN hi hx r (fun s' I' _=>h s' I') hf
def Inv.adM {s':az} {ch:List Addr} (I:Inv X pins σ H s) (ho:s'.os=s.os) (u:Un (Zx X.stack) ch H H' s.heap s'.heap) (gX:C2 X.prog X.w H' s'.heap) (hg:AllBare s'.gens)
  (hch:∀b∈ch,(b∈X.ex∨X.PM.heap.objs.size≤b)∧b≠X.env.locals∧(∀x c,X.env.cells.lookup x=some c→c≠b)∧∀p∈X.pn++pins,p.1≠b):Inv X pins σ H' s':=by
 obtain⟨h',g',d',t',o'⟩:=s'
 have e:o'=s.os:=ho
 subst e
 exact I.call (g':=g') (t':=t') (d':=d') u gX hg hch
end
abbrev XK:=ak→Option Addr→Hp→Prop
abbrev St:=List (Option V)
abbrev VK:=V→Hp→Prop
abbrev TE:=St→Hp→VK→Prop
abbrev TT:=St→Hp→(Bool→Hp→Prop)→Prop
abbrev TA:=St→Hp→(List V→Hp→Prop)→Prop
structure Ends where
 nx:St→Hp→Prop
 rt:VK
 bk:St→Hp→Prop:=fun _ _=>False
 ct:St→Hp→Prop:=fun _ _=>False
abbrev TS:=Ends→St→Hp→Prop
def EP (X:Cx) (pins:List (Addr×Obj)) (σ:St) (Q:VK) (u:ak) (s':az):Prop:=∃v H',Inv X pins σ H' s'∧RelV v u∧Q v H'
def TP (X:Cx) (pins:List (Addr×Obj)) (σ:St) (Q:Bool→Hp→Prop) (b:Bool) (s':az):Prop:=∃H',Inv X pins σ H' s'∧Q b H'
def AP (X:Cx) (pins:List (Addr×Obj)) (σ:St) (Q:List V→Hp→Prop) (us:List ak) (s':az):Prop:=∃vs H',Inv X pins σ H' s'∧Vals vs us∧Q vs H'
def SP (X:Cx) (pins:List (Addr×Obj)) (D:Ends) (f:Flow) (s':az):Prop:=
 match f with
 | .next=>∃σ' H',Inv X pins σ' H' s'∧D.nx σ' H'
 | .brk=>∃σ' H',Inv X pins σ' H' s'∧D.bk σ' H'
 | .cont=>∃σ' H',Inv X pins σ' H' s'∧D.ct σ' H'
 | .ret u=>∃v σ' H',Inv X pins σ' H' s'∧RelV v u∧D.rt v H'
def PE (X:Cx) (e:Expr) (t:TE):Prop:=
 ∀(pins:List (Addr×Obj)) (s:az) (σ:St) (H:Hp) (Q:VK),Inv X pins σ H s→t σ H Q→bO (model X.prog X.w) X.A (eval e X.env) (EP X pins σ Q) X.xe s
def PT (X:Cx) (e:Expr) (t:TT):Prop:=
 ∀(pins:List (Addr×Obj)) (s:az) (σ:St) (H:Hp) (Q:Bool→Hp→Prop),Inv X pins σ H s→t σ H Q→bO (model X.prog X.w) X.A (NK e X.env (eval e X.env)) (TP X pins σ Q) X.xe s
def PW (X:Cx) (e:Expr) (t:TT):Prop:=
 ∀(whole:Sem ak) (pins:List (Addr×Obj)) (s:az) (σ:St) (H:Hp) (Q:Bool→Hp→Prop),Inv X pins σ H s→t σ H Q→bO (model X.prog X.w) X.A (NK e X.env whole) (TP X pins σ Q) X.xe s
def PW.pt {X:Cx} {e:Expr} {t:TT} (h:PW X e t):PT X e t:=h _
def PA (X:Cx) (es:List Expr) (t:TA):Prop:=
 ∀(pos:Pos) (pins:List (Addr×Obj)) (s:az) (σ:St) (H:Hp) (Q:List V→Hp→Prop),Inv X pins σ H s→t σ H Q→bO (model X.prog X.w) X.A (spliced (iH pos (cw es X.env))) (AP X pins σ Q) X.xe s
def PS (X:Cx) (st:Stmt) (t:TS):Prop:=
 ∀(pins:List (Addr×Obj)) (s:az) (σ:St) (H:Hp) (D:Ends),Inv X pins σ H s→t D σ H→bO (model X.prog X.w) X.A (exec st X.env) (SP X pins D) X.xe s
def Vy (X:Cx) (st:List Stmt) (t:TS):Prop:=
 ∀(pins:List (Addr×Obj)) (s:az) (σ:St) (H:Hp) (D:Ends),Inv X pins σ H s→t D σ H→bO (model X.prog X.w) X.A (execs st X.env) (SP X pins D) X.xe s
def gR {α:Type} {t:Sem α} {Q Q':α→az→Prop} {M:U8} {A:Around} {E:ak→az→Prop} {s:az} (h:bO M A t Q E s) (hQ:∀a s,Q a s→Q' a s):bO M A t Q' E s:=iI h hQ fun _ _ x=>x
end L2
namespace L2
open PySem PySem.Spec PyProof.Rows
section
variable {X:Cx}
def bin {a b:Expr} {ta tb:TE} (ha:PE X a ta) (hb:PE X b tb) {pins:List (Addr×Obj)} {s:az} {σ:St} {H:Hp} {R:V→V→Hp→Prop} (I:Inv X pins σ H s) (h:ta σ H fun x H1=>tb σ H1 fun y H2=>R x y H2)
  {α:Type} {Q:α→az→Prop} {f:ak→ak→Sem α}
  (hf:∀v u s2 x y H2,Inv X pins σ H2 s2→RelV x v→RelV y u→R x y H2→bO (model X.prog X.w) X.A (f v u) Q X.xe s2):
  bO (model X.prog X.w) X.A (eval a X.env) (fun v s₁=>bO (model X.prog X.w) X.A (eval b X.env) (fun u s₂=>bO (model X.prog X.w) X.A (f v u) Q X.xe s₂) X.xe s₁) X.xe s:=by
 refine gR (ha pins s σ H _ I h) fun v s1 ⟨x,H1,I1,r1,q1⟩=>?_
 refine gR (hb pins s1 σ H1 _ I1 q1) fun u s2 ⟨y,H2,I2,r2,q2⟩=>?_
 exact hf v u s2 x y H2 I2 r1 r2 q2
inductive VrI (o:Option (Option V)) (Q:VK) (H:Hp):Prop|mk (v:V) (e:o=some (some v)) (q:Q v H):VrI o Q H
def kd (i:Nat):TE:=fun σ H Q=>VrI σ[i]? Q H
def tC (v:V):TE:=fun _ H Q=>Q v H
def acx {i:Nat} {x:Str} {pos:Pos} (hN:X.N[i]? =some x) (hv:Vis X.env.scope x) (hd:(x==("__debug__":Str))=false:=by decide) (hcd:(x==("__classdict__":Str))=false:=by decide):PE X (.Name x pos) (kd i):=by
 intro pins s σ H Q I h
 obtain⟨v,e,h⟩:=h
 obtain⟨m,hn,hl⟩:=I.loc
 obtain⟨u,r,l⟩:=hl i x v hN e hv
 have fin:EP X pins σ Q u s:=⟨v,H,I,r,h⟩
 rcases l with⟨hk,hm⟩ | ⟨hk,c,hc,hcell⟩
 ·exact NL (Ew I.ok.kind hk hn hm fin) hd
 ·rcases hk with hk | hk
  ·exact NL (Fo I.ok.kind hk hc hcell fin) hd
  ·exact NL (wpAny_loadName_free I.ok.kind hk hc hcell fin hcd) hd
def aP {i j pos}:PE X (.Constant (.int i) j pos) (tC (.int i)):=fun _ _ _ H _ I h=>wpAny_Constant_int ⟨.int i,H,I.tok _,⟨_,rfl⟩,h⟩
def PQ {b j pos}:PE X (.Constant (.bool b) j pos) (tC (.bl b)):=fun _ _ _ H _ I h=>Constant_bool ⟨.bl b,H,I,rfl,h⟩
def acy {j pos}:PE X (.Constant .none j pos) (tC .non):=fun _ _ _ H _ I h=>Constant_none ⟨.non,H,I,rfl,h⟩
def Gl (X:Cx) (x:Str):Prop:=X.env.kindOf x=some .globalImplicit
def Lp {E:ak→az→Prop} {pins:List (Addr×Obj)} {s:az} {σ:St} {H:Hp} {x:Str} {u:ak} {pos:Pos} {Q:ak→az→Prop} (I:Inv X pins σ H s) (hg:Gl X x) (hm:X.mg x=some u) (h:Q u s)
  (hd:(x==("__debug__":Str))=false:=by decide):bO (model X.prog X.w) X.A (eval (.Name x pos) X.env) Q E s:=
 xN I.ok.kind hg (Calls.loadGlobal_global (by rw[I.ok.glob];exact I.mod.glob.keeps I.bk) hm h) hd
def Vz {E:ak→az→Prop} {pins:List (Addr×Obj)} {s:az} {σ:St} {H:Hp} {x:Str} {u:ak} {pos:Pos} {Q:ak→az→Prop} (I:Inv X pins σ H s) (hg:Gl X x) (hm:X.mg x=none) (hv:vS x=some u) (h:Q u s)
  (hn:x≠"__name__":=by decide) (hd:(x==("__debug__":Str))=false:=by decide):bO (model X.prog X.w) X.A (eval (.Name x pos) X.env) Q E s:=by
 obtain⟨mb,h1,h2⟩:=I.mod.blt
 exact xN I.ok.kind hg (Calls.loadGlobal_builtin (by rw[I.ok.glob];exact I.mod.glob.keeps I.bk) hm (by rw[I.ok.blt];exact h1.keeps I.bk) ((h2 x hn).trans hv) h) hd
def GY {x:Str} {v:V} {u:ak} {pos:Pos} (hg:Gl X x) (hm:X.mg x=some u) (r:RelV v u) (hd:(x==("__debug__":Str))=false:=by decide):PE X (.Name x pos) (tC v):=
 fun _ _ _ H _ I h=>Lp I hg hm ⟨v,H,I,r,h⟩ hd
variable {a b:Expr} {ta tb:TE} {pos:Pos}
def PC (X:Cx) (op:Im) (a b:Expr) (t:TE):Prop:=
 ∀(pins:List (Addr×Obj)) (s:az) (σ:St) (H:Hp) (Q:VK),Inv X pins σ H s→t σ H Q→
  bO (model X.prog X.w) X.A (eval a X.env) (fun v s₁=>bO (model X.prog X.w) X.A (eval b X.env) (fun u s₂=>bO (model X.prog X.w) X.A (d8 op v u) (EP X pins σ Q) X.xe s₂) X.xe s₁) X.xe s
def ZA (b:Expr) {op:Im} (h:op≠.In) (h2:op≠.NotIn):lW op b=false:=by
 have e1:(op==CmpOp.In)=false:=by cases op <;> first | rfl | exact absurd rfl h
 have e2:(op==U9)=false:=by cases op <;> first | rfl | exact absurd rfl h2
 cases b <;> simp[lW,e1,e2]
def aeD (ta:TE):TE:=fun σ H Q=>ta σ H fun x H1=>Q (.bl (decide (x=.non))) H1
def adN (ta:TE):TE:=fun σ H Q=>ta σ H fun x H1=>Q (.bl (!decide (x=.non))) H1
def RelV.SU {x:V} {v:ak} (r:RelV x v):(v==mU)=decide (x=.non):=by
 cases x with
 | non=>cases r;rfl
 | bl _=>cases r;rfl
 | int _=>obtain⟨t,rfl⟩:=r;rfl
 | str _=>obtain⟨t,rfl⟩:=r;rfl
 | QK _=>obtain⟨t,rfl⟩:=r;rfl
 | flt _=>obtain⟨t,rfl⟩:=r;rfl
 | ref _=>cases r;rfl
 | ty _=>cases r;rfl
def ZC {j pos'} (ha:PE X a ta):PC X .Is a (.Constant .none j pos') (aeD ta):=by
 intro pins s σ H Q I h
 refine gR (ha pins s σ H _ I h) fun v s1 ⟨x,H1,I1,r1,q1⟩=>?_
 exact Constant_none (is_none_gen ⟨.bl _,H1,I1,by rw[r1.SU];rfl,q1⟩)
def aa1 {j pos'} (ha:PE X a ta):PC X .IsNot a (.Constant .none j pos') (adN ta):=by
 intro pins s σ H Q I h
 refine gR (ha pins s σ H _ I h) fun v s1 ⟨x,H1,I1,r1,q1⟩=>?_
 exact Constant_none (isnot_none_gen ⟨.bl _,H1,I1,by rw[r1.SU];rfl,q1⟩)
def tB (t:TE):TT:=fun σ H Q=>t σ H fun x H1=>∃c,x=.bl c∧Q c H1
def oY {op:Im} {t:TE} (h:PC X op a b t) (h1:lW op b=false:=by first | exact ZA _ (by decide) (by decide) | rfl):PT X (.Compare a [op] [b] pos) (tB t):=by
 intro pins s σ H Q I hw
 refine CU (gR (h pins s σ H _ I hw) fun v s1 h1=>gR h1 fun u s2 h2=>gR h2 fun c s3 ⟨x,H1,I1,r1,q1⟩=>?_) h1
 obtain⟨d,rfl,q⟩:=q1
 cases r1
 exact de ⟨H1,I1,q⟩
variable {tA tB':TT} {rest:List Expr}
def adO (t u:TT):TT:=fun σ H Q=>t σ H fun c H1=>if c=true then u σ H1 Q else Q false H1
def aeE (t:TT):TT:=fun σ H Q=>t σ H fun c H1=>Q (!c) H1
def Lq (ha:PT X a tA):PW X (.BoolOp .And [a] pos) tA:=by
 intro wh pins s σ H Q I h
 refine isTrue_and (gR (ha pins s σ H Q I h) fun c s1 e=>?_)
 cases c with
 | true=>exact isTrue_and_nil e
 | false=>exact e
def QO (ha:PT X a tA) (hb:PW X (.BoolOp .And (b::rest) pos) tB'):PW X (.BoolOp .And (a::b::rest) pos) (adO tA tB'):=by
 intro wh pins s σ H Q I h
 refine isTrue_and (gR (ha pins s σ H _ I h) fun c s1 ⟨H1,I1,q1⟩=>?_)
 cases c with
 | true=>exact hb wh pins s1 σ H1 Q I1 q1
 | false=>exact⟨H1,I1,q1⟩
def jh (ha:PT X a tA):PT X (.UnaryOp .Not a pos) (aeE tA):=by
 intro pins s σ H Q I h
 exact isTrue_not (ha pins s σ H (fun c H1=>Q (!c) H1) I h)
def adP (ta tb:TE):TE:=fun σ H Q=>ta σ H fun x H1=>∃c,x=.bl c∧if c=true then tb σ H1 Q else Q (.bl false) H1
def aeF (ta tb:TE):TE:=fun σ H Q=>ta σ H fun x H1=>∃c,x=.bl c∧if c=true then Q (.bl true) H1 else tb σ H1 Q
def adQ (ta:TE):TE:=fun σ H Q=>ta σ H fun x H1=>∃c,x=.bl c∧Q (.bl (!c)) H1
def FU {op} {t:TE} (h:PE X a t):PE X (.BoolOp op [a] pos) t:=fun pins s σ H Q I hw=>BoolOp_one (h pins s σ H Q I hw)
def IP (ha:PE X a ta) (hb:PE X (.BoolOp .And (b::rest) pos) tb):PE X (.BoolOp .And (a::b::rest) pos) (adP ta tb):=by
 intro pins s σ H Q I h
 refine BoolOp_and (gR (ha pins s σ H _ I h) fun v s1 ⟨x,H1,I1,r1,q1⟩=>?_)
 obtain⟨c,rfl,q1⟩:=q1
 cases r1
 refine de ?_
 cases c with
 | true=>exact hb pins s1 σ H1 Q I1 q1
 | false=>exact⟨.bl false,H1,I1,rfl,q1⟩
def ab9 (ha:PE X a ta) (hb:PE X (.BoolOp .Or (b::rest) pos) tb):PE X (.BoolOp .Or (a::b::rest) pos) (aeF ta tb):=by
 intro pins s σ H Q I h
 refine BoolOp_or (gR (ha pins s σ H _ I h) fun v s1 ⟨x,H1,I1,r1,q1⟩=>?_)
 obtain⟨c,rfl,q1⟩:=q1
 cases r1
 refine de ?_
 cases c with
 | false=>exact hb pins s1 σ H1 Q I1 q1
 | true=>exact⟨.bl true,H1,I1,rfl,q1⟩
def VA (ha:PE X a ta):PE X (.UnaryOp .Not a pos) (adQ ta):=by
 intro pins s σ H Q I h
 refine UnaryOp_ (gR (ha pins s σ H _ I h) fun v s1 ⟨x,H1,I1,r1,q1⟩=>?_)
 obtain⟨c,rfl,q1⟩:=q1
 cases r1
 exact not_of (de ⟨.bl (!c),H1,I1,rfl,q1⟩)
def tIf (t:TT) (ta tb:TE):TE:=fun σ H Q=>t σ H fun c H1=>if c=true then ta σ H1 Q else tb σ H1 Q
def z0 {c:Expr} (hc:PT X c tA) (ha:PE X a ta) (hb:PE X b tb):PE X (.IfExp c a b pos) (tIf tA ta tb):=by
 intro pins s σ H Q I h
 refine wpAny_IfExp (gR (hc pins s σ H _ I h) fun d s1 ⟨H1,I1,q1⟩=>?_)
 cases d with
 | true=>exact ha pins s1 σ H1 Q I1 q1
 | false=>exact hb pins s1 σ H1 Q I1 q1
end
end L2
namespace L2
open PySem PySem.Spec PyProof.Rows
def g6 (K:aq) (H:Hp) (a:Addr) (xs:List V):Prop:=
 Rd H a (.lst xs)∨
  ∃(o:Obj) (its:Array ak) (n:Nat),K.lookup a=some o∧o.cls=.type "list"∧o.dict=none∧o.data=.seq its n∧its.size≤ag∧Vals xs its.toList
def iB (K:aq) (H:Hp) (a:Addr) (xs:List V):Prop:=
 Rd H a (.tup xs)∨
  ∃(o:Obj) (its:Array ak) (n:Nat),K.lookup a=some o∧o.cls=.type "tuple"∧o.data=.seq its n∧its.size≤ag∧Vals xs its.toList
def aeG:ak→Option V
 | .none=>some .non
 | .bool b=>some (.bl b)
 | .int i _=>some (.int i)
 | .str x _=>some (.str x)
 | .bytes b _=>some (.QK b)
 | .float b _=>some (.flt b)
 | .ref a=>some (.ref a)
 | .type n=>some (.ty n)
 | _=>none
def RelV.abs {x:V} {u:ak} (r:RelV x u):aeG u=some x:=by
 cases x with
 | non=>cases r;rfl
 | bl _=>cases r;rfl
 | int _=>obtain⟨t,rfl⟩:=r;rfl
 | str _=>obtain⟨t,rfl⟩:=r;rfl
 | QK _=>obtain⟨t,rfl⟩:=r;rfl
 | flt _=>obtain⟨t,rfl⟩:=r;rfl
 | ref _=>cases r;rfl
 | ty _=>cases r;rfl
def RelV.inj {x y:V} {u:ak} (r:RelV x u) (q:RelV y u):x=y:=bu (r.abs.symm.trans q.abs)
theorem Vals.inj:∀{xs ys:List V} {us:List ak},Vals xs us→Vals ys us→xs=ys
 | _,_,_,.nil,.nil=>rfl
 | _,_,_,.cons r t,.cons r' t'=>by rw[r.inj r',Vals.inj t t']
section
variable {X:Cx} {pins:List (Addr×Obj)} {σ:St} {H:Hp} {s:az} {a:Addr} {xs ys:List V}
def g6.of {K:aq} (h:H a=some (.lst xs)):g6 K H a xs:=.inl (.inl h)
def iB.of {K:aq} (h:H a=some (.tup xs)):iB K H a xs:=.inl (.inl h)
def Inv.list (I:Inv X pins σ H s) (h:g6 X.K H a xs):∃its:List ak,Vals xs its∧PlainL s.heap a its.toArray∧xs.length≤ag:=by
 rcases h with h | ⟨o,its,n,hk,hc,hd,hs,hz,r⟩
 ·obtain⟨z,its,n,r,e⟩:=h.ok I.gX
  exact⟨its,r,⟨_,n,e,rfl,rfl,rfl⟩,z⟩
 ·refine⟨its.toList,r,⟨o,n,I.Vj a o hk,hc,hd,by simpa using hs⟩,?_⟩
  have e:=r.length
  simp only[j9]at e
  omega
def Inv.tuple (I:Inv X pins σ H s) (h:iB X.K H a xs):∃its:List ak,Vals xs its∧IsTup s.heap a its.toArray∧xs.length≤ag:=by
 rcases h with h | ⟨o,its,n,hk,hc,hs,hz,r⟩
 ·obtain⟨z,its,r,p⟩:=h.ok I.gX
  exact⟨its,r,p.tup,z⟩
 ·refine⟨its.toList,r,⟨o,I.Vj a o hk,hc,n,by simpa using hs⟩,?_⟩
  have e:=r.length
  simp only[j9]at e
  omega
def Inv.ZD (I:Inv X pins σ H s) (h:g6 X.K H a xs) (h':g6 X.K H a ys):xs=ys:=by
 obtain⟨its,r,⟨o,n,e,_,_,d⟩,_⟩:=I.list h
 obtain⟨its',r',⟨o',n',e',_,_,d'⟩,_⟩:=I.list h'
 rw[e]at e';cases e'
 rw[d]at d'
 injection d' with d1 _
 have:its=its':=by simpa using congrArg Io d1
 subst this
 exact r.inj r'
def Inv.Yb (I:Inv X pins σ H s) (h:iB X.K H a xs) (h':iB X.K H a ys):xs=ys:=by
 obtain⟨its,r,⟨o,e,_,n,d⟩,_⟩:=I.tuple h
 obtain⟨its',r',⟨o',e',_,n',d'⟩,_⟩:=I.tuple h'
 rw[e]at e';cases e'
 rw[d]at d'
 injection d' with d1 _
 have:its=its':=by simpa using congrArg Io d1
 subst this
 exact r.inj r'
end
abbrev Cx.Oi (X:Cx) (E:ak→az→Prop):Cx:={X with xe:=E}
abbrev Cx.nox (X:Cx):Cx:=X.Oi fun _ _=>False
def Cx.Ok.Oi {X:Cx} (ok:X.Ok) (E:ak→az→Prop):(X.Oi E).Ok:=
 ⟨ok.mod,ok.kind,ok.glob,ok.blt,ok.above,ok.inj,ok.has,ok.cab,ok.hd,ok.frames,ok.stk,ok.exf,ok.bs,ok.bsz,ok.Zy,ok.Zz,ok.KL,ok.frf⟩
def Cx.Ok.C3 {X:Cx} {E:ak→az→Prop} (ok:(X.Oi E).Ok):X.Ok:=
 ⟨ok.mod,ok.kind,ok.glob,ok.blt,ok.above,ok.inj,ok.has,ok.cab,ok.hd,ok.frames,ok.stk,ok.exf,ok.bs,ok.bsz,ok.Zy,ok.Zz,ok.KL,ok.frf⟩
section
variable {X:Cx} {pins:List (Addr×Obj)} {σ:St} {H:Hp} {s:az} {E:ak→az→Prop}
def Inv.Oi (I:Inv X pins σ H s) (E:ak→az→Prop):Inv (X.Oi E) pins σ H s:=⟨I.ok.Oi E,I.os,I.bare,I.base,I.loc,I.cell,I.free,I.zZ,I.pin,I.gX,I.len⟩
def Inv.C3 (I:Inv (X.Oi E) pins σ H s):Inv X pins σ H s:=⟨I.ok.C3,I.os,I.bare,I.base,I.loc,I.cell,I.free,I.zZ,I.pin,I.gX,I.len⟩
def SP.C3 {D:Ends} {f:Flow} {s':az} (h:SP (X.Oi E) pins D f s'):SP X pins D f s':=by
 cases f with
 | next=>obtain⟨σ',H',I,q⟩:=h;exact⟨σ',H',I.C3,q⟩
 | brk=>obtain⟨σ',H',I,q⟩:=h;exact⟨σ',H',I.C3,q⟩
 | cont=>obtain⟨σ',H',I,q⟩:=h;exact⟨σ',H',I.C3,q⟩
 | ret u=>obtain⟨v,σ',H',I,r,q⟩:=h;exact⟨v,σ',H',I.C3,r,q⟩
def Vy.nox {st:List Stmt} {t:TS} (h:Vy X.nox st t):Vy X st t:=fun pins s σ H D I hw=>
 iI (h pins s σ H D (I.Oi _) hw) (fun _ _ q=>q.C3) fun _ _ z=>fR z
end
section
variable {X:Cx} {st:Stmt} {rest:List Stmt} {t u:TS} {e:Expr} {te:TE} {pos:Pos}
def adR:TS:=fun D σ H=>D.nx σ H
def SV (t u:TS):TS:=fun D σ H=>t {D with nx:=u D} σ H
def b8:Vy X [] adR:=fun _ _ σ H _ I h=>uQ ⟨σ,H,I,h⟩
def ai (h1:PS X st t) (h2:Vy X rest u):Vy X (st::rest) (SV t u):=by
 intro pins s σ H D I h
 refine JS (gR (h1 pins s σ H {D with nx:=u D} I h) fun f s1 q=>?_)
 cases f with
 | next=>
  obtain⟨σ',H',I',q⟩:=q
  exact h2 pins s1 σ' H' D I' q
 | ret v=>exact q
 | brk=>exact q
 | cont=>exact q
def ao (h1:PS X st t):Vy X [st] t:=by
 intro pins s σ H D I h
 refine JS (gR (h1 pins s σ H D I h) fun f s1 q=>?_)
 cases f with
 | next=>exact uQ q
 | ret v=>exact q
 | brk=>exact q
 | cont=>exact q
def adS:TS:=fun D σ H=>D.ct σ H
def SW:PS X (.Continue pos) adS:=fun _ _ σ H _ I h=>wpAny_Continue ⟨σ,H,I,h⟩
def Inv.quiet {pins:List (Addr×Obj)} {σ:St} {H:Hp} {s:az} (I:Inv X pins σ H s):interactive X.env=false:=by simp[interactive,I.ok.kind]
def adT (te:TE):TS:=fun D σ H=>te σ H fun _ H1=>D.nx σ H1
def fo (he:PE X e te) (hs:wk e none pos.line X.env=pure false:=by rfl):PS X (.Expr e pos) (adT te):=by
 intro pins s σ H D I h
 exact wpAny_Expr_any (gR (he pins s σ H _ I h) fun v s1 ⟨x,H1,I1,r1,q1⟩=>⟨σ,H1,I1,q1⟩) I.quiet hs
def SX (te:TE):TS:=fun D σ H=>te σ H D.rt
def aU (he:PE X e te):PS X (.Return (some e) pos) (SX te):=by
 intro pins s σ H D I h
 exact wpAny_Return_some (gR (he pins s σ H _ I h) fun v s1 ⟨x,H1,I1,r1,q1⟩=>⟨x,σ,H1,I1,r1,q1⟩)
def adU:TS:=fun D _ H=>D.rt .non H
def aa2:PS X (.Return none pos) adU:=fun _ _ σ H _ I h=>wpAny_Return_none ⟨.non,σ,H,I,rfl,h⟩
def aeH (c:TT) (t u:TS):TS:=fun D σ H=>c σ H fun b H1=>if b=true then t D σ H1 else u D σ H1
def dC {c:Expr} {a b:List Stmt} {tc:TT} (hc:PT X c tc) (ha:Vy X a t) (hb:Vy X b u):PS X (.If c a b pos) (aeH tc t u):=by
 intro pins s σ H D I h
 refine wpAny_If (gR (hc pins s σ H _ I h) fun d s1 ⟨H1,I1,q1⟩=>?_)
 cases d with
 | true=>exact ha pins s1 σ H1 D I1 q1
 | false=>exact hb pins s1 σ H1 D I1 q1
end
abbrev TG:=V→St→Hp→(St→Hp→Prop)→Prop
def PG (X:Cx) (target:Expr) (t:TG):Prop:=
 ∀(pins:List (Addr×Obj)) (s:az) (σ:St) (H:Hp) (v:V) (u:ak) (Q:St→Hp→Prop),Inv X pins σ H s→RelV v u→t v σ H Q→
  bO (model X.prog X.w) X.A (assign target X.env u) (fun _ s'=>∃σ' H',Inv X pins σ' H' s'∧Q σ' H') X.xe s
abbrev acz:=V→V→V→Hp→(Hp→Prop)→Prop
def adV (X:Cx) (t:acz):Prop:=
 ∀(pins:List (Addr×Obj)) (s:az) (σ:St) (H:Hp) (o i v:V) (ov iv u:ak) (Q:Hp→Prop),Inv X pins σ H s→RelV o ov→RelV i iv→RelV v u→t o i v H Q→
  bO (model X.prog X.w) X.A (setItem ov iv u) (fun _ s'=>∃H',Inv X pins σ H' s'∧Q H') X.xe s
abbrev TIp:=V→V→Hp→VK→Prop
def PIp (X:Cx) (op:Ip) (t:TIp):Prop:=
 ∀(pins:List (Addr×Obj)) (s:az) (σ:St) (H:Hp) (x y:V) (v u:ak) (Q:VK),Inv X pins σ H s→RelV x v→RelV y u→t x y H Q→
  bO (model X.prog X.w) X.A (QI op v u) (EP X pins σ Q) X.xe s
section
variable {X:Cx} {pos:Pos}
def tH (i:Nat):TG:=fun v σ H Q=>Q (σ.set i (some v)) H
def da {i:Nat} {x:Str} (hN:X.N.Nodup) (hi:X.N[i]? =some x) (hx:Loc X.env.scope x) (hf:X.fn x=true∨X.env.scope.names.lookup x=some .local:=by first | exact .inl rfl | exact .inr rfl | assumption):PG X (.Name x pos) (tH i):=by
 intro pins s σ H v u Q I r h
 exact Iq (LM I hN hi hx r (fun s' I'=>⟨_,H,I',h⟩) hf)
def aeI (to ti:TE) (t:acz):TG:=fun v σ H Q=>to σ H fun o H1=>ti σ H1 fun i H2=>t o i v H2 fun H3=>Q σ H3
def acA {o i:Expr} {to ti:TE} {t:acz} (ho:PE X o to) (hi:PE X i ti) (hs:adV X t)
  (ha:∀v,assign (.Subscript o i pos) X.env v=(do
   let ov ← holding [v] (eval o X.env)
   let iv ← holding [v,ov] (eval i X.env)
   B7 pos
   holding [v,ov,iv] (setItem ov iv v)
   release [v,ov,iv] []):=by intro _;rfl):PG X (.Subscript o i pos) (aeI to ti t):=by
 intro pins s σ H v u Q I r h
 rw[ha]
 refine ax (lX (gR (ho pins s σ H _ I h) fun ov s1 ⟨x,H1,I1,r1,q1⟩=>?_))
 refine ax (lX (gR (hi pins s1 σ H1 _ I1 q1) fun iv s2 ⟨y,H2,I2,r2,q2⟩=>?_))
 refine ax (FO (ax (lX (gR (hs pins s2 σ H2 x y v ov iv u _ I2 r1 r2 r q2) fun _ s3 ⟨H3,I3,q3⟩=>?_))))
 exact wpAny_release ⟨σ,H3,I3,q3⟩
def Oj (te:TE) (g:TG):TS:=fun D σ H=>te σ H fun x H1=>g x σ H1 D.nx
def acB {tg e:Expr} {te:TE} {g:TG} (he:PE X e te) (hg:PG X tg g) (hs:swapsWithSole [tg] e pos.line X.env=pure false:=by rfl) (hw:swappedStores [tg] e X.env=pure none:=by rfl)
  (h1:(assignEach [tg] X.env).map (·.2)=[assign tg X.env]:=by rfl):PS X (.Assign [tg] e pos) (Oj te g):=by
 intro pins s σ H D I h
 refine wpAny_Assign_stores (gR (he pins s σ H _ I h) fun v s1 ⟨x,H1,I1,r1,q1⟩=>?_) hs hw
 rw[h1]
 exact gR (hg pins s1 σ H1 x v _ I1 r1 q1) fun _ s2 q=>q
def bP {i:Nat} {x:Str} {e:Expr} {te:TE} {pos':Pos} (hN:X.N.Nodup) (hi:X.N[i]? =some x) (hx:Loc X.env.scope x) (he:PE X e te) (hs:wk e (some (.Name x pos')) pos.line X.env=pure false:=by rfl) (hf:X.fn x=true∨X.env.scope.names.lookup x=some .local:=by first | exact .inl rfl | exact .inr rfl | assumption):
  PS X (.Assign [.Name x pos'] e pos) (Oj te (tH i)):=by
 intro pins s σ H D I h
 refine wpAny_Assign_Name (gR (he pins s σ H _ I h) fun v s1 ⟨y,H1,I1,r1,q1⟩=>?_) hs
 exact LM I1 hN hi hx r1 (fun s2 I2=>⟨_,H1,I2,q1⟩) hf
def aeJ (i:Nat) (te:TE) (ti:TIp):TS:=fun D σ H=>∃x,σ[i]? =some (some x)∧te σ H fun y H1=>ti x y H1 fun z H2=>D.nx (σ.set i (some z)) H2
def ZE {i:Nat} {x:Str} {e:Expr} {te:TE} {op:Ip} {ti:TIp} {pos':Pos} (hN:X.N.Nodup) (hi:X.N[i]? =some x) (hx:Loc X.env.scope x) (he:PE X e te) (ho:PIp X op ti) (hf:X.fn x=true∨X.env.scope.names.lookup x=some .local:=by first | exact .inl rfl | exact .inr rfl | assumption):
  PS X (.AugAssign (.Name x pos') op e pos) (aeJ i te ti):=by
 intro pins s σ H D I h
 obtain⟨v,e1,h⟩:=h
 obtain⟨m,hn,hl⟩:=I.loc
 have vis:Vis X.env.scope x:=by rcases hx with k | k;exact .inl k;exact .inr (.inl k)
 obtain⟨u,r,l⟩:=hl i x v hi e1 vis
 refine wpAny_AugAssign_Name ?_
 have go:bO (model X.prog X.w) X.A (eval e X.env) (fun w s₂=>bO (model X.prog X.w) X.A (QI op u w) (fun r s₃=>bO (model X.prog X.w) X.A (QH X.env x r) (fun _=>SP X pins D .next) X.xe s₃) X.xe s₂) X.xe s:=by
  refine gR (he pins s σ H _ I h) fun w s1 ⟨y,H1,I1,r1,q1⟩=>?_
  refine gR (ho pins s1 σ H1 v y u w _ I1 r r1 q1) fun z s2 ⟨zv,H2,I2,r2,q2⟩=>?_
  exact LM I2 hN hi hx r2 (fun s3 I3=>⟨_,H2,I3,q2⟩) hf
 rcases l with⟨hk,hm⟩ | ⟨hk,c,hc,hcell⟩
 ·exact Ew I.ok.kind hk hn hm go
 ·rcases hk with hk | hk
  ·exact Fo I.ok.kind hk hc hcell go
  ·rcases hx with k | k
   ·have:X.env.scope.names.lookup x=some .free:=hk
    rw[k]at this;cases this
   ·have:X.env.scope.names.lookup x=some .free:=hk
    rw[k]at this;cases this
def ipI (f:Int→Int→Int):TIp:=fun x y H Q=>∃i j,x=.int i∧y=.int j∧Q (.int (f i j)) H
def acC:PIp X .Add (ipI fun i j=>i+j):=by
 intro pins s σ H x y v u Q I r1 r2 h
 obtain⟨i,j,e1,e2,q⟩:=h
 subst e1;subst e2
 obtain⟨t,rfl⟩:=r1
 obtain⟨t',rfl⟩:=r2
 exact iadd_int ⟨.int _,H,I.tok _,⟨_,rfl⟩,q⟩
def acD:PIp X .Sub (ipI fun i j=>i - j):=by
 intro pins s σ H x y v u Q I r1 r2 h
 obtain⟨i,j,e1,e2,q⟩:=h
 subst e1;subst e2
 obtain⟨t,rfl⟩:=r1
 obtain⟨t',rfl⟩:=r2
 exact isub_int ⟨.int _,H,I.tok _,⟨_,rfl⟩,q⟩
end
section
variable {X:Cx} {pos:Pos}
def acE (c:TT) (tb:TS):TS:=fun D σ H=>∃W:Nat→St→Hp→Prop,(∃m,W m σ H)∧∀m σ H,W m σ H→
 c σ H fun b H1=>if b=true then∃N:St→Hp→Prop,(∀σ' H',N σ' H'→∃m',m' < m∧W m' σ' H')∧tb {D with nx:=N,ct:=N,bk:=D.nx} σ H1 else D.nx σ H1
def SY {c:Expr} {body:List Stmt} {tc:TT} {tb:TS} (hp:PassesOwn (model X.prog X.w) X.A X.env X.xe) (hc:PT X c tc) (hb:Vy X body tb):PS X (.While c body [] pos) (acE tc tb):=by
 intro pins s σ H D I h
 obtain⟨W,⟨m0,w0⟩,turn⟩:=h
 refine wpAny_While (codeAny_whileLoop (fun n s'=>∃σ' H',Inv X pins σ' H' s'∧W n σ' H') ?_ m0 ⟨σ,H,I,w0⟩)
 rintro n s1 ⟨σ1,H1,I1,w1⟩
 refine jF hp (gR (hc pins s1 σ1 H1 _ I1 (turn n σ1 H1 w1)) fun b s2 ⟨H2,I2,q2⟩=>?_)
 cases b with
 | true=>
  obtain⟨N,hN,q2⟩:=q2
  rw[if_pos rfl]
  refine jF hp (gR (hb pins s2 σ1 H2 _ I2 q2) fun f s3 q3=>?_)
  cases f with
  | next=>
   obtain⟨σ3,H3,I3,n3⟩:=q3
   obtain⟨m',hm,w3⟩:=hN σ3 H3 n3
   exact⟨m',hm,σ3,H3,I3,w3⟩
  | cont=>
   obtain⟨σ3,H3,I3,n3⟩:=q3
   obtain⟨m',hm,w3⟩:=hN σ3 H3 n3
   exact⟨m',hm,σ3,H3,I3,w3⟩
  | brk=>exact q3
  | ret v=>exact q3
 | false=>
  rw[if_neg bG]
  exact uQ ⟨σ1,H2,I2,q2⟩
end
structure It where
 go:Nat→Hp→Prop
 S0:Nat→Hp→V→Hp→Prop
 stop:Nat→Hp→Prop
def Ol (X:Cx) (pins:List (Addr×Obj)) (H:Hp) (b:Addr):Prop:=
 H b=none∧b≠X.env.locals∧b∉X.fs∧(b∈X.ex∨X.PM.heap.objs.size≤b)∧(∀x c,X.env.cells.lookup x=some c→c≠b)∧∀p∈X.pn++pins,p.1≠b
def Inv.ZF {X:Cx} {pins:List (Addr×Obj)} {σ:St} {H H':Hp} {s:az} {b:Addr} (I:Inv X pins σ H s) (hb:s.heap.objs.size≤b) (hn:H' b=none):Ol X pins H' b:=by
 refine⟨hn,Sr (ck I.lt hb),I.aeC hb,.inr (bg I.sz hb),fun x c e z=>?_,fun p hp z=>?_⟩
 ·obtain⟨v,q⟩:=I.cell x c e
  exact absurd (ck q.lt (by rw[z];exact hb)) (gH _)
 ·exact absurd (ck (cp (I.pin p hp).1) (by rw[z];exact hb)) (gH _)
structure Turn (P:cN) (w:dS) (K:aq) (tg:Expr) (J:It) (fp:List Addr) (it:Addr) (tn:Nat→Heap→Prop):Prop where
 mem:it∈fp
 obj:∀i h,tn i h→∀b∈fp,∃o,h.get? b=some o∧∀v,o.data≠.cell v
 keep:∀i h h',tn i h→(∀b∈fp,∀o,h.get? b=some o→h'.get? b=some o)→tn i h'
 item:∀(X:Cx),X.prog=P→X.w=w→X.K=K→X.calm=true→∀(i:Nat) (pins:List (Addr×Obj)) (s:az) (σ:St) (H:Hp) (E:ak→az→Prop),Inv X pins σ H s→(∀b∈fp,Ol X pins H b)→tn i s.heap→J.go i H→
  bO (model P w) X.A (JT (.ref it)) (fun r s1=>∃u,r=some u∧
   bO (model P w) X.A (uR tg (.ref it) u) (fun _ s2=>∃x H',Inv X pins σ H' s2∧RelV x u∧J.S0 i H x H'∧tn (i+1) s2.heap∧∀b∈fp,H' b=none) E s1) E s
 done:∀(X:Cx),X.prog=P→X.w=w→X.K=K→X.calm=true→∀(i:Nat) (pins:List (Addr×Obj)) (s:az) (σ:St) (H:Hp) (E:ak→az→Prop),Inv X pins σ H s→(∀b∈fp,Ol X pins H b)→tn i s.heap→J.stop i H→
  bO (model P w) X.A (JT (.ref it)) (fun r s1=>r=none∧Inv X pins σ H s1) E s
 self:∀(A:Around) (i:Nat) (s:az) (Q:ak→az→Prop) (E:ak→az→Prop),tn i s.heap→Q (.ref it) s→bO (model P w) A (Ss (.ref it)) Q E s
abbrev TI:=St→Hp→(It→Hp→Prop)→Prop
def PIE (X:Cx) (pins:List (Addr×Obj)) (σ:St) (tg:Expr) (R:It→Hp→Prop) (itv:ak) (s2:az):Prop:=
 ∃(it:Addr) (fp:List Addr) (tn:Nat→Heap→Prop) (J:It) (H':Hp),itv=.ref it∧Inv X pins σ H' s2∧Turn X.prog X.w X.K tg J fp it tn∧tn 0 s2.heap∧(∀b∈fp,Ol X pins H' b)∧R J H'
def PI (X:Cx) (tg iter:Expr) (wi:TI):Prop:=
 ∀(pins:List (Addr×Obj)) (s:az) (σ:St) (H:Hp) (R:It→Hp→Prop),Inv X pins σ H s→wi σ H R→
  bO (model X.prog X.w) X.A (eval iter X.env) (fun v s1=>bO (model X.prog X.w) X.A (Ss v) (PIE X pins σ tg R) X.xe s1) X.xe s
def S1 {M:U8} {A:Around} {E:ak→az→Prop} {s:az} {tg:Expr} {it:Addr} {u:ak} {o:Obj} {n:String} {vs:Array ak} {Q:Unit→az→Prop} (ho:s.heap.get? it=some o) (hc:o.cls=.type n) (hd:o.data=.fields vs)
    (hn:["enumerate","zip","dict_itemiterator","dict_reverseitemiterator","odict_iterator","itertools.zip_longest","itertools.pairwise"].contains n=false) (hQ:Q () s):bO M A (uR tg (.ref it) u) Q E s:=by
  unfold uR
  cases tg <;> first
    | exact aY hQ
    | (cases u <;> first
        | exact aY hQ
        | (refine ax (wpAny_load ho ?_)
           rw[hc,hd]
           show bO M A (if(["enumerate","zip","dict_itemiterator","dict_reverseitemiterator","odict_iterator","itertools.zip_longest","itertools.pairwise"].contains n&&vs[0]? ==some (NM _))=true then _ else _) Q E s
           rw[if_neg (by intro h;rw[hn,gL]at h;cases h)]
           exact aY hQ))
def PR (K:aq) (a:Addr):It:=
 ⟨fun i H=>∃xs x,g6 K H a xs∧xs[i]? =some x,fun i H x H'=>H'=H∧∀xs,g6 K H a xs→xs[i]? =some x,fun i H=>∃xs,g6 K H a xs∧xs.length≤i⟩
def ZG (K:aq) (a:Addr):It:=
 ⟨fun i H=>∃xs x,iB K H a xs∧xs[i]? =some x,fun i H x H'=>H'=H∧∀xs,iB K H a xs→xs[i]? =some x,fun i H=>∃xs,iB K H a xs∧xs.length≤i⟩
def Itr (lo:Int) (n:Nat):It:=⟨fun i _=>i < n,fun i H x H'=>H'=H∧x=.int (lo+i),fun i _=>n≤i⟩
def Yc {P:cN} {w:dS} {K:aq} {tg:Expr} (a it:Addr):Turn P w K tg (PR K a) [it] it (fun i h=>h.IsListIter it a i) where
 mem:=by simp
 obj:=fun i h st b hb=>by
  have e:b=it:=by simpa using hb
  subst e
  obtain⟨o,e,c,d⟩:=st
  exact⟨o,e,fun v z=>by rw[d]at z;cases z⟩
 keep:=fun i h h' st k=>st.at fun o e=>k it (by simp) o e
 item:=by
  intro X hP hw hK hc i pins s σ H E I hf st hg
  subst hP hw hK
  obtain⟨xs,x,hq,hx⟩:=hg
  obtain⟨its,rv,p,hz⟩:=I.list hq
  obtain⟨u,hu,ru⟩:=rv.get hx
  obtain⟨f0,f1,f2,f3,f4,f5⟩:=hf it (by simp)
  refine wpAny_pyNext_list_item st p.isList (x:=u) (by simpa using hu) fun h' st' sb=>?_
  have I1:Inv X pins σ H {s with heap:=h'}:=I.turned (t':=s.toks) (fun b o hb e=>(sb.2 b hb).trans e) f0 f1 f3 f4 f5
  obtain⟨o,e,c,d⟩:=id st'
  exact⟨u,rfl,S1 (s:={s with heap:=h'}) e c d (by decide) ⟨x,H,I1,ru,⟨rfl,fun ys hy=>by rw[I.ZD hy hq];exact hx⟩,st',fun b hb=>(hf b hb).1⟩⟩
 done:=by
  intro X hP hw hK hc i pins s σ H E I hf st hg
  subst hP hw hK
  obtain⟨xs,hq,hx⟩:=hg
  obtain⟨its,rv,p,hz⟩:=I.list hq
  obtain⟨f0,f1,f2,f3,f4,f5⟩:=hf it (by simp)
  have hl:=rv.length
  exact wpAny_pyNext_list_end (I.ok.hd hc) st p.isList (by simp;omega) fun h' eb=>⟨rfl,I.turned (t':=s.toks) (fun b o hb e=>eb b o hb e) f0 f1 f3 f4 f5⟩
 self:=fun _ _ _ _ _ st h=>wpAny_pyIter_listiter st h
def VB {P:cN} {w:dS} {K:aq} {tg:Expr} (a it:Addr):Turn P w K tg (ZG K a) [it] it (fun i h=>h.IsTupleIter it a i) where
 mem:=by simp
 obj:=fun i h st b hb=>by
  have e:b=it:=by simpa using hb
  subst e
  obtain⟨o,e,c,d⟩:=st
  exact⟨o,e,fun v z=>by rw[d]at z;cases z⟩
 keep:=fun i h h' st k=>st.at fun o e=>k it (by simp) o e
 item:=by
  intro X hP hw hK hc i pins s σ H E I hf st hg
  subst hP hw hK
  obtain⟨xs,x,hq,hx⟩:=hg
  obtain⟨its,rv,p,hz⟩:=I.tuple hq
  obtain⟨u,hu,ru⟩:=rv.get hx
  obtain⟨f0,f1,f2,f3,f4,f5⟩:=hf it (by simp)
  refine wpAny_pyNext_tuple_item st (show s.heap.IsTuple a its.toArray from p) (x:=u) (by simpa using hu) fun h' st' sb=>?_
  have I1:Inv X pins σ H {s with heap:=h'}:=I.turned (t':=s.toks) (fun b o hb e=>(sb.2 b hb).trans e) f0 f1 f3 f4 f5
  obtain⟨o,e,c,d⟩:=id st'
  exact⟨u,rfl,S1 (s:={s with heap:=h'}) e c d (by decide) ⟨x,H,I1,ru,⟨rfl,fun ys hy=>by rw[I.Yb hy hq];exact hx⟩,st',fun b hb=>(hf b hb).1⟩⟩
 done:=by
  intro X hP hw hK hc i pins s σ H E I hf st hg
  subst hP hw hK
  obtain⟨xs,hq,hx⟩:=hg
  obtain⟨its,rv,p,hz⟩:=I.tuple hq
  obtain⟨f0,f1,f2,f3,f4,f5⟩:=hf it (by simp)
  have hl:=rv.length
  exact wpAny_pyNext_tuple_end (I.ok.hd hc) st (show s.heap.IsTuple a its.toArray from p) (by simp;omega) fun h' eb=>⟨rfl,I.turned (t':=s.toks) (fun b o hb e=>eb b o hb e) f0 f1 f3 f4 f5⟩
 self:=fun _ _ _ _ _ st h=>wpAny_pyIter_tupleiter st h
def VC {P:cN} {w:dS} {K:aq} {tg:Expr} (it:Addr) (lo:Int) (n:Nat):Turn P w K tg (Itr lo n) [it] it (fun i h=>IsRangeIter h it (lo+(i:Nat)*1) ((n:Int) - (i:Nat)) 1) where
 mem:=by simp
 obj:=fun i h st b hb=>by
  have e:b=it:=by simpa using hb
  subst e
  exact⟨_,st,fun v z=>by
   have z':Data.fields _=Data.cell v:=z
   cases z'⟩
 keep:=fun i h h' st k=>k it (by simp) _ st
 item:=by
  intro X hP hw hK hc i pins s σ H E I hf st hg
  subst hP hw hK
  obtain⟨f0,f1,f2,f3,f4,f5⟩:=hf it (by simp)
  have W:=Walks.range (prog:=X.prog) (w:=X.w) (I.ok.hd hc) it lo 1 n
  refine W.item i s _ _ hg st fun v h' tk hv st' kk=>?_
  obtain⟨t,rfl⟩:=hv
  have I1:Inv X pins σ H {s with heap:=h',toks:=tk}:=I.turned (fun b o hb e=>kk b o (by simpa using hb) e) f0 f1 f3 f4 f5
  refine⟨_,rfl,S1 (s:={s with heap:=h',toks:=tk}) (n:="range_iterator") st' rfl rfl (by decide) ⟨.int (lo+i),H,I1,⟨t,?_⟩,⟨rfl,rfl⟩,st',fun b hb=>(hf b hb).1⟩⟩
  rw[Int.mul_one]
 done:=by
  intro X hP hw hK hc i pins s σ H E I hf st hg
  subst hP hw hK
  obtain⟨f0,f1,f2,f3,f4,f5⟩:=hf it (by simp)
  exact wpAny_pyNext_range_end (I.ok.hd hc) st (by have:n≤i:=hg;omega) fun h' eb=>⟨rfl,I.turned (t':=s.toks) (fun b o hb e=>eb b o hb e) f0 f1 f3 f4 f5⟩
 self:=fun _ _ _ _ _ st h=>wpAny_pyIter_rangeiter st h
end L2
namespace L2
open PySem PySem.Spec PyProof.Rows
section
variable {X:Cx} {tg:Expr}
def adW (K:aq) (tl:TE):TI:=fun σ H R=>tl σ H fun x H1=>∃a,x=.ref a∧(∃xs,g6 K H1 a xs)∧R (PR K a) H1
def aeK (K:aq) (tl:TE):TI:=fun σ H R=>tl σ H fun x H1=>∃a,x=.ref a∧(∃xs,iB K H1 a xs)∧R (ZG K a) H1
def dQ {l:Expr} {tl:TE} (hl:PE X l tl):PI X tg l (adW X.K tl):=by
 intro pins s σ H R I h
 refine gR (hl pins s σ H _ I h) fun v s1 ⟨x,H1,I1,r1,q1⟩=>?_
 obtain⟨a,e,⟨xs,hq⟩,q⟩:=q1
 subst e
 cases r1
 obtain⟨its,rv,p,hz⟩:=I1.list hq
 refine Ir p.isList ?_
 refine⟨s1.heap.objs.size,[s1.heap.objs.size],_,_,H1,rfl,I1.kept (t':=s1.toks) fun b o e=>bp _ e,Yc a _,⟨_,b4 _ rfl,rfl,rfl⟩,fun b hb=>?_,q⟩
 have e:b=s1.heap.objs.size:=by simpa using hb
 subst e
 exact I1.ZF (aJ _) (I1.gX.fresh (aJ _))
def ZH {l:Expr} {tl:TE} (hl:PE X l tl):PI X tg l (aeK X.K tl):=by
 intro pins s σ H R I h
 refine gR (hl pins s σ H _ I h) fun v s1 ⟨x,H1,I1,r1,q1⟩=>?_
 obtain⟨a,e,⟨xs,hq⟩,q⟩:=q1
 subst e
 cases r1
 obtain⟨its,rv,p,hz⟩:=I1.tuple hq
 refine wpAny_pyIter_tuple (show s1.heap.IsTuple a its.toArray from p) ?_
 refine⟨s1.heap.objs.size,[s1.heap.objs.size],_,_,H1,rfl,I1.kept (t':=s1.toks) fun b o e=>bp _ e,VB a _,⟨_,b4 _ rfl,rfl,rfl⟩,fun b hb=>?_,q⟩
 have e:b=s1.heap.objs.size:=by simpa using hb
 subst e
 exact I1.ZF (aJ _) (I1.gX.fresh (aJ _))
def ZI {pins:List (Addr×Obj)} {σ:St} {H:Hp} {s:az} {R:It→Hp→Prop} {E:ak→az→Prop} {lo hi:Int} {t u v:Tok} {tk:Nat} (I:Inv X pins σ H s) (h1:-(2 ^ 62)≤lo) (h2:lo < 2 ^ 62) (h3:-(2 ^ 62)≤hi) (h4:hi < 2 ^ 62)
  (q:R (Itr lo (hi - lo).toNat) H):bO (model X.prog X.w) X.A (Ss (.ref s.heap.objs.size)) (PIE X pins σ tg R) E {s with heap:=s.heap.push {cls:=.type "range",data:=.fields #[.int lo t,.int hi u,.int 1 v]},toks:=tk}:=by
 refine wpAny_pyIter_range (IsRange.new ..) (small_one h1 h2 h3 h4) ?_
 have I1:Inv X pins σ H {s with heap:=s.heap.push {cls:=.type "range",data:=.fields #[.int lo t,.int hi u,.int 1 v]},toks:=tk}:=I.kept fun b o e=>bp _ e
 refine⟨(s.heap.push {cls:=.type "range",data:=.fields #[.int lo t,.int hi u,.int 1 v]}).objs.size,[(s.heap.push {cls:=.type "range",data:=.fields #[.int lo t,.int hi u,.int 1 v]}).objs.size],_,_,H,rfl,
  I1.kept (t':=tk) fun b o e=>bp _ e,VC _ lo (hi - lo).toNat,?_,fun b hb=>?_,q⟩
 ·have e1:lo+((0:Nat):Int)*1=lo:=by simp
  have e2:(((hi - lo).toNat:Nat):Int) - ((0:Nat):Int)=QJ lo hi 1:=by rw[rangeSize_one];split <;> omega
  show IsRangeIter _ _ (lo+((0:Nat):Int)*1) ((((hi - lo).toNat:Nat):Int) - ((0:Nat):Int)) 1
  rw[e1,e2]
  exact b4 _ rfl
 ·have e:b=(s.heap.push {cls:=.type "range",data:=.fields #[.int lo t,.int hi u,.int 1 v]}).objs.size:=by simpa using hb
  subst e
  exact I1.ZF (aJ _) (I1.gX.fresh (aJ _))
def adX (ta:TA):TI:=fun σ H R=>ta σ H fun vs H1=>∃j:Int,vs=[.int j]∧-(2 ^ 62)≤j∧j < 2 ^ 62∧R (Itr 0 j.toNat) H1
def Yd {a:Expr} {ta:TA} {p pos:Pos} (hg:Gl X "range") (hm:X.mg "range"=none) (ha:PA X [a] ta) (hs:cw [a] X.env=[(false,eval a X.env)]:=by rfl):PI X tg (.Call (.Name "range" p) [a] [] pos) (adX ta):=by
 intro pins s σ H R I h
 refine Call_ (Vz I hg hm boot_range (vU (gR (ha pos pins s σ H _ I h) fun us s1 ⟨vs,H1,I1,r1,q1⟩=>?_) hs rfl))
 obtain⟨j,e,q1,q2,q⟩:=q1
 subst e
 cases r1 with
 | cons r rr=>
  cases rr
  obtain⟨t,rfl⟩:=r
  exact call_range_1 (ZI I1 (by omega) (by omega) q1 q2 (by simpa using q))
def aeL (wi:TI) (g:TG) (tb:TS):TS:=fun D σ H=>wi σ H fun J H1=>∃W:Nat→Nat→St→Hp→Prop,(∃m,W 0 m σ H1)∧∀i m σ H,W i m σ H→
 (J.stop i H∧D.nx σ H)∨(J.go i H∧∃N:St→Hp→Prop,(∀σ' H',N σ' H'→∃m',m' < m∧W (i+1) m' σ' H')∧∀x H',J.S0 i H x H'→g x σ H' fun σ2 H2=>tb {D with nx:=N,ct:=N,bk:=D.nx} σ2 H2)
def LN (fp:List Addr) (h:Heap):List (Addr×Obj):=fp.filterMap fun b=>(h.get? b).map fun o=>(b,o)
def FV {fp:List Addr} {h:Heap} {b:Addr} {o:Obj} (hb:b∈fp) (e:h.get? b=some o):(b,o)∈LN fp h:=GK.mpr ⟨b,hb,by rw[e];rfl⟩
def Ye {fp:List Addr} {h:Heap} {p:Addr×Obj} (hp:p∈LN fp h):p.1∈fp∧h.get? p.1=some p.2:=by
 obtain⟨b,hb,e⟩:=GK.mp hp
 cases q:h.get? b with
 | none=>rw[q]at e;cases e
 | some o=>
  rw[q]at e
  have e':(b,o)=p:=bu e
  subst e'
  exact⟨hb,q⟩
def Inv.pinned {pins:List (Addr×Obj)} {σ:St} {H:Hp} {s:az} {fp:List Addr} (I:Inv X pins σ H s) (hf:∀b∈fp,Ol X pins H b) (ho:∀b∈fp,∃o,s.heap.get? b=some o∧∀v,o.data≠.cell v):Inv X (pins++LN fp s.heap) σ H s:=
 I.W4 fun p hp=>(aX.mp hp).elim (fun z=>I.pin p (aF _ z)) fun z=>by
  obtain⟨hb,e⟩:=Ye z
  obtain⟨f0,f1,f2,_⟩:=hf p.1 hb
  obtain⟨o,e',d⟩:=ho p.1 hb
  rw[e]at e';cases e'
  exact⟨e,f0,f1,f2,d⟩
def Inv.GZ {pins pl:List (Addr×Obj)} {σ:St} {H:Hp} {s:az} (I:Inv X (pins++pl) σ H s):Inv X pins σ H s:=I.W4 fun p hp=>I.pin p (aF _ (aS _ hp))
def mi {iter:Expr} {body:List Stmt} {wi:TI} {g:TG} {tb:TS} {pos:Pos} (hp:PassesOwn (model X.prog X.w) X.A X.env X.xe) (hc:X.calm=true) (hi:PI X tg iter wi) (hg:PG X tg g) (hb:Vy X body tb)
  (hs:∀x,rg iter X.env x=pure x:=by intro _;rfl):PS X (.For tg iter body [] pos) (aeL wi g tb):=by
 intro pins s σ H D I h
 refine wpAny_For (gR (hi pins s σ H _ I h) fun v s1 h1=>gR h1 fun itv s2 h2=>?_) hs
 obtain⟨it,fp,tn,J,H2,e,I2,T,st2,f2,W,⟨m0,w0⟩,turn⟩:=h2
 subst e
 have stat:∀{H':Hp},(∀b∈fp,H' b=none)→∀b∈fp,Ol X pins H' b:=fun hn b hb=>⟨hn b hb,(f2 b hb).2⟩
 refine codeAny_forLoop_any (fun n s'=>∃i σ' H',Inv X pins σ' H' s'∧tn i s'.heap∧(∀b∈fp,H' b=none)∧W i n σ' H') ?_ m0 ⟨0,σ,H2,I2,st2,fun b hb=>(f2 b hb).1,w0⟩
 rintro n s3 ⟨i,σ3,H3,I3,st3,fr3,w3⟩
 rcases turn i n σ3 H3 w3 with⟨stop,qn⟩ | ⟨go,N,hN,step⟩
 ·refine jF hp (gR (T.done X rfl rfl rfl hc i pins s3 σ3 H3 X.xe I3 (stat fr3) st3 stop) fun r s4 ⟨hr,I4⟩=>?_)
  subst hr
  exact uQ ⟨σ3,H3,I4,qn⟩
 ·refine jF hp (gR (T.item X rfl rfl rfl hc i pins s3 σ3 H3 X.xe I3 (stat fr3) st3 go) fun r s4 ⟨u,hr,h4⟩=>?_)
  subst hr
  refine jF hp (gR h4 fun _ s5 ⟨x,H5,I5,r5,y5,st5,fr5⟩=>?_)
  have I5':=I5.pinned (stat fr5) (T.obj _ _ st5)
  refine jF hp (gR (hg _ s5 σ3 H5 x u _ I5' r5 (step x H5 y5)) fun _ s6 ⟨σ6,H6,I6,q6⟩=>?_)
  refine jF hp (gR (hb _ s6 σ6 H6 _ I6 q6) fun f s7 q7=>?_)
  have again:∀{σ7:St} {H7:Hp},Inv X (pins++LN fp s5.heap) σ7 H7 s7→N σ7 H7→∃m,m < n∧∃i σ' H',Inv X pins σ' H' s7∧tn i s7.heap∧(∀b∈fp,H' b=none)∧W i m σ' H':=fun {σ7 H7} I7 n7=>by
   obtain⟨m',hm,w7⟩:=hN σ7 H7 n7
   refine⟨m',hm,i+1,σ7,H7,I7.GZ,T.keep _ _ _ st5 fun b hb o e=>(I7.pin (b,o) (aF _ (aF _ (FV hb e)))).1,fun b hb=>?_,w7⟩
   obtain⟨o,e,d⟩:=T.obj _ _ st5 b hb
   exact(I7.pin (b,o) (aF _ (aF _ (FV hb e)))).2.1
  cases f with
  | next=>obtain⟨σ7,H7,I7,n7⟩:=q7;exact again I7 n7
  | cont=>obtain⟨σ7,H7,I7,n7⟩:=q7;exact again I7 n7
  | brk=>obtain⟨σ7,H7,I7,q7⟩:=q7;exact⟨σ7,H7,I7.GZ,q7⟩
  | ret v=>obtain⟨x7,σ7,H7,I7,r7,q7⟩:=q7;exact⟨x7,σ7,H7,I7.GZ,r7,q7⟩
end
def lj {K:aq} {a:Addr} {xs:List V} {g:TG} {tb:TS} {D:Ends} {σ:St} {H:Hp} (Pv:Nat→St→Hp→Prop) (h0:Pv 0 σ H) (hl:∀i σ H,i≤xs.length→Pv i σ H→g6 K H a xs)
  (hs:∀i x σ H,xs[i]? =some x→Pv i σ H→g x σ H fun σ2 H2=>tb {D with nx:=Pv (i+1),ct:=Pv (i+1),bk:=D.nx} σ2 H2) (hd:∀σ H,Pv xs.length σ H→D.nx σ H):
  ∃W:Nat→Nat→St→Hp→Prop,(∃m,W 0 m σ H)∧∀i m σ H,W i m σ H→
   ((PR K a).stop i H∧D.nx σ H)∨((PR K a).go i H∧∃N:St→Hp→Prop,(∀σ' H',N σ' H'→∃m',m' < m∧W (i+1) m' σ' H')∧∀x H',(PR K a).S0 i H x H'→g x σ H' fun σ2 H2=>tb {D with nx:=N,ct:=N,bk:=D.nx} σ2 H2):=by
 refine⟨fun i m σ H=>m=xs.length - i∧i≤xs.length∧Pv i σ H,⟨xs.length,by simp,bZ _,h0⟩,?_⟩
 rintro i m σ H ⟨rfl,hi,p⟩
 have q:=hl i σ H hi p
 by_cases hlt:i < xs.length
 ·refine .inr ⟨⟨xs,xs[i],q,by simp[hlt]⟩,Pv (i+1),fun σ' H' p'=>⟨xs.length - (i+1),by omega,rfl,hlt,p'⟩,fun x H' y=>?_⟩
  obtain⟨e,y⟩:=y
  subst e
  exact hs i x σ _ (y xs q) p
 ·have e:i=xs.length:=by omega
  subst e
  exact .inl ⟨⟨xs,q,aJ _⟩,hd σ H p⟩
def aa3 {K:aq} {a:Addr} {xs:List V} {g:TG} {tb:TS} {D:Ends} {σ:St} {H:Hp} (Pv:Nat→St→Hp→Prop) (h0:Pv 0 σ H) (hl:∀i σ H,i≤xs.length→Pv i σ H→iB K H a xs)
  (hs:∀i x σ H,xs[i]? =some x→Pv i σ H→g x σ H fun σ2 H2=>tb {D with nx:=Pv (i+1),ct:=Pv (i+1),bk:=D.nx} σ2 H2) (hd:∀σ H,Pv xs.length σ H→D.nx σ H):
  ∃W:Nat→Nat→St→Hp→Prop,(∃m,W 0 m σ H)∧∀i m σ H,W i m σ H→
   ((ZG K a).stop i H∧D.nx σ H)∨((ZG K a).go i H∧∃N:St→Hp→Prop,(∀σ' H',N σ' H'→∃m',m' < m∧W (i+1) m' σ' H')∧∀x H',(ZG K a).S0 i H x H'→g x σ H' fun σ2 H2=>tb {D with nx:=N,ct:=N,bk:=D.nx} σ2 H2):=by
 refine⟨fun i m σ H=>m=xs.length - i∧i≤xs.length∧Pv i σ H,⟨xs.length,by simp,bZ _,h0⟩,?_⟩
 rintro i m σ H ⟨rfl,hi,p⟩
 have q:=hl i σ H hi p
 by_cases hlt:i < xs.length
 ·refine .inr ⟨⟨xs,xs[i],q,by simp[hlt]⟩,Pv (i+1),fun σ' H' p'=>⟨xs.length - (i+1),by omega,rfl,hlt,p'⟩,fun x H' y=>?_⟩
  obtain⟨e,y⟩:=y
  subst e
  exact hs i x σ _ (y xs q) p
 ·have e:i=xs.length:=by omega
  subst e
  exact .inl ⟨⟨xs,q,aJ _⟩,hd σ H p⟩
def Yf {lo:Int} {n:Nat} {g:TG} {tb:TS} {D:Ends} {σ:St} {H:Hp} (Pv:Nat→St→Hp→Prop) (h0:Pv 0 σ H)
  (hs:∀i σ H,i < n→Pv i σ H→g (.int (lo+i)) σ H fun σ2 H2=>tb {D with nx:=Pv (i+1),ct:=Pv (i+1),bk:=D.nx} σ2 H2) (hd:∀σ H,Pv n σ H→D.nx σ H):
  ∃W:Nat→Nat→St→Hp→Prop,(∃m,W 0 m σ H)∧∀i m σ H,W i m σ H→
   ((Itr lo n).stop i H∧D.nx σ H)∨((Itr lo n).go i H∧∃N:St→Hp→Prop,(∀σ' H',N σ' H'→∃m',m' < m∧W (i+1) m' σ' H')∧∀x H',(Itr lo n).S0 i H x H'→g x σ H' fun σ2 H2=>tb {D with nx:=N,ct:=N,bk:=D.nx} σ2 H2):=by
 refine⟨fun i m σ H=>m=n - i∧i≤n∧Pv i σ H,⟨n,by simp,bZ _,h0⟩,?_⟩
 rintro i m σ H ⟨rfl,hi,p⟩
 by_cases hlt:i < n
 ·refine .inr ⟨hlt,Pv (i+1),fun σ' H' p'=>⟨n - (i+1),by omega,rfl,hlt,p'⟩,fun x H' y=>?_⟩
  obtain⟨e,y⟩:=y
  subst e y
  exact hs i σ _ hlt p
 ·have e:i=n:=by omega
  subst e
  exact .inl ⟨aJ _,hd σ H p⟩
end L2
namespace L2
open PySem PySem.Spec PyProof.Rows
abbrev R2:=V→V→Hp→VK→Prop
def Fi (X:Cx) (f:ak→ak→Sem ak) (r:R2):Prop:=
 ∀(pins:List (Addr×Obj)) (s:az) (σ:St) (H:Hp) (x y:V) (v u:ak) (Q:VK),Inv X pins σ H s→RelV x v→RelV y u→r x y H Q→
  bO (model X.prog X.w) X.A (f v u) (EP X pins σ Q) X.xe s
def UnR (X:Cx) (f:ak→Sem ak) (r:V→Hp→VK→Prop):Prop:=
 ∀(pins:List (Addr×Obj)) (s:az) (σ:St) (H:Hp) (x:V) (v:ak) (Q:VK),Inv X pins σ H s→RelV x v→r x H Q→
  bO (model X.prog X.w) X.A (f v) (EP X pins σ Q) X.xe s
def Ct (X:Cx) (f:ak) (r:List V→Hp→VK→Prop):Prop:=
 ∀(pins:List (Addr×Obj)) (s:az) (σ:St) (H:Hp) (xs:List V) (us:List ak) (Q:VK),Inv X pins σ H s→Vals xs us→r xs H Q→
  bO (model X.prog X.w) X.A (call f us) (EP X pins σ Q) X.xe s
def aeM (X:Cx) (r:V→Hp→(Bool→Hp→Prop)→Prop):Prop:=
 ∀(pins:List (Addr×Obj)) (s:az) (σ:St) (H:Hp) (x:V) (v:ak) (Q:Bool→Hp→Prop),Inv X pins σ H s→RelV x v→r x H Q→
  bO (model X.prog X.w) X.A (truthy v) (TP X pins σ Q) X.xe s
def tOp (r:R2) (ta tb:TE):TE:=fun σ H Q=>ta σ H fun x H1=>tb σ H1 fun y H2=>r x y H2 Q
def tUn (r:V→Hp→VK→Prop) (ta:TE):TE:=fun σ H Q=>ta σ H fun x H1=>r x H1 Q
def rI (C:Int→Int→Prop) (g:Int→Int→V):R2:=fun x y H Q=>EX2 fun i j=>x=.int i∧y=.int j∧C i j∧Q (g i j) H
def rI0 (g:Int→Int→V):R2:=fun x y H Q=>EX2 fun i j=>x=.int i∧y=.int j∧Q (g i j) H
def rU (g:Int→V):V→Hp→VK→Prop:=fun x H Q=>∃i,x=.int i∧Q (g i) H
section
variable {X:Cx} {a b c:Expr} {ta tb tc:TE} {pos:Pos}
def acF (ha:PE X a ta) (hb:PE X b tb) {pins:List (Addr×Obj)} {s:az} {σ:St} {H:Hp} {R:V→V→Hp→Prop} (I:Inv X pins σ H s)
  (h:ta σ H fun x H1=>tb σ H1 fun y H2=>R x y H2) {Q:ak→az→Prop} {f:ak→ak→Sem ak}
  (hf:∀v u s2 x y H2,Inv X pins σ H2 s2→RelV x v→RelV y u→R x y H2→bO (model X.prog X.w) X.A (f v u) Q X.xe s2):
  bO (model X.prog X.w) X.A (eval a X.env) (fun v s₁=>bO (model X.prog X.w) X.A (eval b X.env) (fun u s₂=>bO (model X.prog X.w) X.A (f v u) Q X.xe s₂) X.xe s₁) X.xe s:=by
 refine gR (ha pins s σ H _ I h) fun v s1 ⟨x,H1,I1,r1,q1⟩=>?_
 refine gR (hb pins s1 σ H1 _ I1 q1) fun u s2 ⟨y,H2,I2,r2,q2⟩=>?_
 exact hf v u s2 x y H2 I2 r1 r2 q2
def e6 {op:Ip} {r:R2} (ho:Fi X (ui op) r) (ha:PE X a ta) (hb:PE X b tb):PE X (.BinOp a op b pos) (tOp r ta tb):=by
 intro pins s σ H Q I h
 exact wpAny_BinOp (acF ha hb I h fun v u s2 x y H2 I2 rx ry q=>ho pins s2 σ H2 x y v u Q I2 rx ry q)
def fe {op:UnaryOp} {r:V→Hp→VK→Prop} (ho:UnR X (unaryOp op) r) (ha:PE X a ta):PE X (.UnaryOp op a pos) (tUn r ta):=by
 intro pins s σ H Q I h
 exact UnaryOp_ (gR (ha pins s σ H _ I h) fun v s1 ⟨x,H1,I1,r1,q1⟩=>ho pins s1 σ H1 x v Q I1 r1 q1)
def opI {f:ak→ak→Sem ak} {C:Int→Int→Prop} {g:Int→Int→Int}
  (rule:∀(i j:Int) (t u:Tok) (s:az) (Q:ak→az→Prop) (E:ak→az→Prop),C i j→Q (.int (g i j) s.toks) {s with toks:=s.toks+1}→bO (model X.prog X.w) X.A (f (.int i t) (.int j u)) Q E s):
  Fi X f (rI C fun i j=>.int (g i j)):=by
 intro pins s σ H x y v u Q I rx ry h
 obtain⟨i,j,rfl,rfl,hc,q⟩:=h
 obtain⟨t,rfl⟩:=rx
 obtain⟨t',rfl⟩:=ry
 exact rule i j t t' s _ _ hc ⟨.int (g i j),H,I.tok _,⟨_,rfl⟩,q⟩
def adY {f:ak→ak→Sem ak} {g:Int→Int→Int}
  (rule:∀(i j:Int) (t u:Tok) (s:az) (Q:ak→az→Prop) (E:ak→az→Prop),Q (.int (g i j) s.toks) {s with toks:=s.toks+1}→bO (model X.prog X.w) X.A (f (.int i t) (.int j u)) Q E s):
  Fi X f (rI0 fun i j=>.int (g i j)):=by
 intro pins s σ H x y v u Q I rx ry h
 obtain⟨i,j,rfl,rfl,q⟩:=h
 obtain⟨t,rfl⟩:=rx
 obtain⟨t',rfl⟩:=ry
 exact rule i j t t' s _ _ ⟨.int (g i j),H,I.tok _,⟨_,rfl⟩,q⟩
def aa4 {f:ak→ak→Sem ak} {g:Int→Int→Bool}
  (rule:∀(i j:Int) (t u:Tok) (s:az) (Q:ak→az→Prop) (E:ak→az→Prop),Q (.bool (g i j)) s→bO (model X.prog X.w) X.A (f (.int i t) (.int j u)) Q E s):
  Fi X f (rI0 fun i j=>.bl (g i j)):=by
 intro pins s σ H x y v u Q I rx ry h
 obtain⟨i,j,rfl,rfl,q⟩:=h
 obtain⟨t,rfl⟩:=rx
 obtain⟨t',rfl⟩:=ry
 exact rule i j t t' s _ _ ⟨.bl (g i j),H,I,rfl,q⟩
def aeN (i j:Int):Prop:=0 < j∧j < 1073741824
def za:Fi X (ui .Add) (rI0 fun i j=>.int (i+j)):=adY fun _ _ _ _ _ _ _ q=>add_int q
def uq:Fi X (ui .Sub) (rI0 fun i j=>.int (i - j)):=adY fun _ _ _ _ _ _ _ q=>sub_int q
def aa5:Fi X (ui .FloorDiv) (rI aeN fun i j=>.int (i / j)):=opI fun i j _ _ _ _ _ hc q=>by
 have h1:(0:Int) < j:=hc.1
 have h2:j < 1073741824:=hc.2
 exact floordiv_int (by omega) (by rw[Int.fdiv_eq_ediv_of_nonneg i (by omega)];exact q) (.inl (PyProof.noPylong_small (by omega)))
def unI {f:ak→Sem ak} {g:Int→Int}
  (rule:∀(i:Int) (t:Tok) (s:az) (Q:ak→az→Prop) (E:ak→az→Prop),Q (.int (g i) s.toks) {s with toks:=s.toks+1}→bO (model X.prog X.w) X.A (f (.int i t)) Q E s):
  UnR X f (rU fun i=>.int (g i)):=by
 intro pins s σ H x v Q I rx h
 obtain⟨i,rfl,q⟩:=h
 obtain⟨t,rfl⟩:=rx
 exact rule i t s _ _ ⟨.int (g i),H,I.tok _,⟨_,rfl⟩,q⟩
def dA:UnR X (unaryOp .USub) (rU fun i=>.int (-i)):=unI fun _ _ _ _ _ q=>neg_int q
end
def adZ:V→V→Bool
 | .non,.non=>true | .non,.int _=>true | .int _,.non=>true | .non,.bl _=>true | .bl _,.non=>true | .non,.str _=>true | .str _,.non=>true
 | .int _,.int _=>true | .bl _,.bl _=>true | .str _,.str _=>true | .QK _,.QK _=>true
 | .int _,.str _=>true | .str _,.int _=>true | .bl _,.str _=>true | .str _,.bl _=>true
 | _,_=>false
def rEq:R2:=fun x y H Q=>adZ x y=true∧Q (.bl (decide (x=y))) H
def rNe:R2:=fun x y H Q=>adZ x y=true∧Q (.bl (!decide (x=y))) H
def iP {i j:Int}:decide (V.int i=V.int j)=(i==j):=by
 rw[bH]
 simp
def ZJ {i j:Bool}:decide (V.bl i=V.bl j)=(i==j):=by
 rw[bH]
 simp
def W6 {i j:Str}:decide (V.str i=V.str j)=(i==j):=by
 rw[bH]
 simp
def W7 {i j:Array UInt8}:decide (V.QK i=V.QK j)=(i.toList==j.toList):=by
 rw[bH]
 cases i
 cases j
 simp
section
variable {X:Cx} {a b c:Expr} {ta tb tc:TE} {pos:Pos}
def gE {pins:List (Addr×Obj)} {σ:St} {H:Hp} {s:az} {Q:VK} {k k':Bool} (I:Inv X pins σ H s) (q:Q (.bl k) H) (e:k=k'):EP X pins σ Q (.bool k') s:=by
 subst e
 exact⟨.bl k,H,I,rfl,q⟩
def nQ:Fi X (d8 .Eq) rEq:=by
 intro pins s σ H x y v u Q I rx ry h
 obtain⟨hs,q⟩:=h
 cases x with
 | non=>
  cases rx
  cases y with
  | non=>cases ry;exact N6 (gE I q (by simp))
  | bl j=>cases ry;exact N7 (gE I q (by simp))
  | int j=>obtain⟨t',rfl⟩:=ry;exact Pk (gE I q (by simp))
  | str j=>obtain⟨t',rfl⟩:=ry;exact Pl (gE I q (by simp))
  | _=>exact absurd (show false=true from hs) bG
 | bl i=>
  cases rx
  cases y with
  | non=>cases ry;exact N8 (gE I q (by simp))
  | bl j=>cases ry;exact eq_bool (gE I q ZJ)
  | str j=>obtain⟨t',rfl⟩:=ry;exact N9 (gE I q (by simp))
  | _=>exact absurd (show false=true from hs) bG
 | int i=>
  obtain⟨t,rfl⟩:=rx
  cases y with
  | non=>cases ry;exact Pn (gE I q (by simp))
  | int j=>obtain⟨t',rfl⟩:=ry;exact eq_int (gE I q iP)
  | str j=>obtain⟨t',rfl⟩:=ry;exact Po (gE I q (by simp))
  | _=>exact absurd (show false=true from hs) bG
 | str i=>
  obtain⟨t,rfl⟩:=rx
  cases y with
  | non=>cases ry;exact Pp (gE I q (by simp))
  | bl j=>cases ry;exact Oa (gE I q (by simp))
  | int j=>obtain⟨t',rfl⟩:=ry;exact Pq (gE I q (by simp))
  | str j=>obtain⟨t',rfl⟩:=ry;exact eq_str (gE I q W6)
  | _=>exact absurd (show false=true from hs) bG
 | QK i=>
  obtain⟨t,rfl⟩:=rx
  cases y with
  | QK j=>obtain⟨t',rfl⟩:=ry;exact PySem.W.eq_bytes (gE I q W7)
  | _=>exact absurd (show false=true from hs) bG
 | _=>cases y <;> exact absurd (show false=true from hs) bG
def LO:Fi X (d8 .NotEq) rNe:=by
 intro pins s σ H x y v u Q I rx ry h
 obtain⟨hs,q⟩:=h
 cases x with
 | non=>
  cases rx
  cases y with
  | non=>cases ry;exact Ob (gE I q (by simp))
  | bl j=>cases ry;exact Oc (gE I q (by simp))
  | int j=>obtain⟨t',rfl⟩:=ry;exact Pr (gE I q (by simp))
  | str j=>obtain⟨t',rfl⟩:=ry;exact Pt (gE I q (by simp))
  | _=>exact absurd (show false=true from hs) bG
 | bl i=>
  cases rx
  cases y with
  | non=>cases ry;exact Od (gE I q (by simp))
  | bl j=>cases ry;exact ne_bool (gE I q (congrArg not ZJ))
  | str j=>obtain⟨t',rfl⟩:=ry;exact Oe (gE I q (by simp))
  | _=>exact absurd (show false=true from hs) bG
 | int i=>
  obtain⟨t,rfl⟩:=rx
  cases y with
  | non=>cases ry;exact Pu (gE I q (by simp))
  | int j=>obtain⟨t',rfl⟩:=ry;exact ne_int (gE I q (congrArg not iP))
  | str j=>obtain⟨t',rfl⟩:=ry;exact Pw (gE I q (by simp))
  | _=>exact absurd (show false=true from hs) bG
 | str i=>
  obtain⟨t,rfl⟩:=rx
  cases y with
  | non=>cases ry;exact Px (gE I q (by simp))
  | bl j=>cases ry;exact Of (gE I q (by simp))
  | int j=>obtain⟨t',rfl⟩:=ry;exact Py (gE I q (by simp))
  | str j=>obtain⟨t',rfl⟩:=ry;exact ne_str (gE I q (congrArg not W6))
  | _=>exact absurd (show false=true from hs) bG
 | QK i=>
  obtain⟨t,rfl⟩:=rx
  cases y with
  | QK j=>obtain⟨t',rfl⟩:=ry;exact PySem.W.ne_bytes (gE I q (congrArg not W7))
  | _=>exact absurd (show false=true from hs) bG
 | _=>cases y <;> exact absurd (show false=true from hs) bG
def LP:Fi X (d8 .Lt) (rI0 fun i j=>.bl (decide (i < j))):=aa4 fun _ _ _ _ _ _ _ q=>lt_int q
def iX:Fi X (d8 .LtE) (rI0 fun i j=>.bl (decide (i≤j))):=aa4 fun _ _ _ _ _ _ _ q=>le_int q
def LQ:Fi X (d8 .Gt) (rI0 fun i j=>.bl (decide (j < i))):=aa4 fun _ _ _ _ _ _ _ q=>gt_int q
def ad0:Fi X (d8 .GtE) (rI0 fun i j=>.bl (decide (j≤i))):=aa4 fun _ _ _ _ _ _ _ q=>ge_int q
def d6 (b:Expr) {op:Im} (h:op≠.In:=by decide) (h2:op≠.NotIn:=by decide):lW op b=false:=by
 have e1:(op==CmpOp.In)=false:=by cases op <;> first | rfl | exact absurd rfl h
 have e2:(op==U9)=false:=by cases op <;> first | rfl | exact absurd rfl h2
 cases b <;> simp[lW,e1,e2]
def jq {op:Im} {r:R2} (ho:Fi X (d8 op) r) (ha:PE X a ta) (hb:PE X b tb) (hm:lW op b=false):PE X (.Compare a [op] [b] pos) (tOp r ta tb):=by
 intro pins s σ H Q I h
 exact wpAny_Compare1 (acF ha hb I h fun v u s2 x y H2 I2 rx ry q=>ho pins s2 σ H2 x y v u Q I2 rx ry q) hm
def J8 (t:TE):TT:=fun σ H Q=>t σ H fun x H'=>∃k,x=.bl k∧Q k H'
def dN {op:Im} {r:R2} (ho:Fi X (d8 op) r) (ha:PE X a ta) (hb:PE X b tb) (hm:lW op b=false):PT X (.Compare a [op] [b] pos) (J8 (tOp r ta tb)):=by
 intro pins s σ H Q I h
 refine CU (gR (ha pins s σ H _ I h) fun v s1 ⟨x,H1,I1,r1,q1⟩=>gR (hb pins s1 σ H1 _ I1 q1) fun u s2 ⟨y,H2,I2,r2,q2⟩=>
  gR (ho pins s2 σ H2 x y v u _ I2 r1 r2 q2) fun c s3 ⟨z,H3,I3,r3,k,e,q3⟩=>?_) hm
 subst e
 cases r3
 exact de ⟨H3,I3,q3⟩
def QP (r r':R2) (ta tb tc:TE):TE:=fun σ H Q=>ta σ H fun x H1=>tb σ H1 fun y H2=>r x y H2 fun z H3=>∃k,z=.bl k∧
 (if k=true then tc σ H3 fun w' H4=>r' y w' H4 Q else Q (.bl false) H3)
def C4 {op op':Im} {r r':R2} (ho:Fi X (d8 op) r) (ho':Fi X (d8 op') r') (ha:PE X a ta) (hb:PE X b tb) (hc:PE X c tc)
  (hm:JU [op,op'] [b,c]=false:=by with_unfolding_all rfl):PE X (.Compare a [op,op'] [b,c] pos) (QP r r' ta tb tc):=by
 intro pins s σ H Q I h
 refine Compare_chain (gR (ha pins s σ H _ I h) fun v s1 ⟨x,H1,I1,r1,q1⟩=>chain_link (gR (hb pins s1 σ H1 _ I1 q1) fun u s2 ⟨y,H2,I2,r2,q2⟩=>
  gR (ho pins s2 σ H2 x y v u _ I2 r1 r2 q2) fun d s3 ⟨z,H3,I3,r3,k,e,q3⟩=>?_)) hm
 subst e
 cases r3
 refine de ?_
 cases k with
 | false=>exact ite_ff ⟨.bl false,H3,I3,rfl,q3⟩
 | true=>exact ite_tt (chain_last (gR (hc pins s3 σ H3 _ I3 q3) fun w' s4 ⟨z',H4,I4,r4,q4⟩=>ho' pins s4 σ H4 y z' u w' Q I4 r2 r4 q4))
def tI {op op':Im} {r r':R2} (ho:Fi X (d8 op) r) (ho':Fi X (d8 op') r') (ha:PE X a ta) (hb:PE X b tb) (hc:PE X c tc)
  (hm:JU [op,op'] [b,c]=false:=by with_unfolding_all rfl):PT X (.Compare a [op,op'] [b,c] pos) (J8 (QP r r' ta tb tc)):=by
 intro pins s σ H Q I h
 refine isTrue_chain (gR (ha pins s σ H _ I h) fun v s1 ⟨x,H1,I1,r1,q1⟩=>test_link (gR (hb pins s1 σ H1 _ I1 q1) fun u s2 ⟨y,H2,I2,r2,q2⟩=>
  gR (ho pins s2 σ H2 x y v u _ I2 r1 r2 q2) fun d s3 ⟨z,H3,I3,r3,k,e,q3⟩=>?_)) hm
 subst e
 cases r3
 refine de ?_
 cases k with
 | false=>
  obtain⟨k',e',q'⟩:=q3
  cases e'
  exact ite_ff ⟨H3,I3,q'⟩
 | true=>
  refine ite_tt (test_last (gR (hc pins s3 σ H3 _ I3 q3) fun w' s4 ⟨z',H4,I4,r4,q4⟩=>gR (ho' pins s4 σ H4 y z' u w' _ I4 r2 r4 q4) fun d' s5 ⟨z2,H5,I5,r5,k2,e2,q5⟩=>?_))
  subst e2
  cases r5
  exact de ⟨H5,I5,q5⟩
def acG (K:aq) (x:V) (H:Hp) (k:Bool):Prop:=
 match x with
 | .non=>k=false
 | .bl b=>k=b
 | .int i=>k=(i !=0)
 | .str y=>y.length≤ag∧k=((y.length:Int)!=0)
 | .QK y=>y.size≤ag∧k=((y.size:Int)!=0)
 | .ref p=>(∃xs,g6 K H p xs∧k=!xs.isEmpty)∨(∃xs,iB K H p xs∧k=!xs.isEmpty)∨∃kvs,H p=some (.dK kvs)∧k=!kvs.isEmpty
 | _=>False
def VD {κ:Type} {kvs:List (κ×V)} {vs:List (κ×ak)} (r:KV kvs vs):(!vs.isEmpty)=!kvs.isEmpty:=by
 cases r <;> rfl
def LS {xs:List V} {its:List ak} (r:Vals xs its):(!its.toArray.isEmpty)=!xs.isEmpty:=by
 cases r <;> simp
def LU:(ag:Nat) < 2 ^ 63:=by rw[bS];decide
def acH:aeM X (fun x H Q=>∃k,acG X.K x H k∧Q k H):=by
 intro pins s σ H x v Q I rx h
 obtain⟨k,e,q⟩:=h
 have hl:=LU
 have hs:ag=16777216:=bS
 cases x with
 | non=>
  cases rx
  have e':k=false:=e
  subst e'
  exact truthy_none ⟨H,I,q⟩
 | bl b=>
  cases rx
  have e':k=b:=e
  subst e'
  exact de ⟨H,I,q⟩
 | int i=>
  obtain⟨t,rfl⟩:=rx
  have e':k=(i !=0):=e
  subst e'
  exact PySem.P.truthy_int ⟨H,I,q⟩
 | str y=>
  obtain⟨t,rfl⟩:=rx
  obtain⟨hy,e'⟩:y.length≤ag∧k=((y.length:Int)!=0):=e
  subst e'
  exact PySem.P.truthy_str (by omega) ⟨H,I.tok _,q⟩
 | QK y=>
  obtain⟨t,rfl⟩:=rx
  obtain⟨hy,e'⟩:y.size≤ag∧k=((y.size:Int)!=0):=e
  subst e'
  exact PySem.W.truthy_bytes (by omega) ⟨H,I.tok _,q⟩
 | ref p=>
  cases rx
  have e':(∃xs,g6 X.K H p xs∧k=!xs.isEmpty)∨(∃xs,iB X.K H p xs∧k=!xs.isEmpty)∨∃kvs,H p=some (.dK kvs)∧k=!kvs.isEmpty:=e
  rcases e' with⟨xs,hx,e'⟩ | ⟨xs,hx,e'⟩ | ⟨kvs,hx,e'⟩
  ·subst e'
   obtain⟨its,r,pl,hz⟩:=I.list hx
   have hlen:=r.length
   exact wpAny_truthy_list pl.isList (by simp only[a8];omega) ⟨H,I.tok _,by rw[LS r];exact q⟩
  ·subst e'
   obtain⟨its,r,pl,hz⟩:=I.tuple hx
   have hlen:=r.length
   exact truthy_tuple pl (by simp only[a8];omega) ⟨H,I.tok _,by rw[LS r];exact q⟩
  ·subst e'
   obtain⟨hz,hS,vs,r,m⟩:kvs.length≤ag∧(p==gK)=false∧∃vs,KV kvs vs∧s.heap.DictOf (ik X.prog X.w) p vs:=I.gX p _ hx
   have hlen:kvs.length=vs.length:=b9 r
   exact wpAny_truthy_dict hS m (by omega) ⟨H,I.tok _,by rw[VD r];exact q⟩
 | _=>exact(show False from e).elim
def fM (ha:PE X a ta) (he:∀whole,NK a X.env whole=(do let v ← whole;B7 a.pos;holding [v] (truthy v))):
  PT X a (fun σ H Q=>ta σ H fun x H'=>∃k,acG X.K x H' k∧Q k H'):=by
 intro pins s σ H Q I h
 exact isTrue_plain (gR (ha pins s σ H _ I h) fun v s1 ⟨x,H1,I1,r1,q1⟩=>acH pins s1 σ H1 x v Q I1 r1 q1) (he _)
def vals1 {x:V} {us:List ak} (r:Vals [x] us):∃u,us=[u]∧RelV x u:=by
 cases r with
 | cons r1 r2=>cases r2;exact⟨_,rfl,r1⟩
end
end L2
namespace L2
open PySem PySem.Spec PyProof.Rows
structure VE (h:Heap) (x dx C:Addr) (mA:Str→Option ak):Prop where
 obj:h.get? x=some (iG C dx)
 ns:h.Ns1 dx mA
 ne:dx≠x
def Yg {h:Heap} {dx:Addr} {mA:Str→Option ak} (n:h.Ns1 dx mA):∃od,h.get? dx=some od∧∀name,xO name od=some (mA name):=by
 obtain⟨o,es,ep,ho,hd,hk,_,hm⟩:=n
 refine⟨o,ho,fun name=>?_⟩
 have e:=hm name
 unfold nsFind findBy at e
 rw[← Array.find?_toList]at e
 unfold xO
 rw[hd]
 dsimp only
 split
 ·rename_i y q
  rw[q]at e
  exact congrArg some e
 ·rename_i q
  rw[q]at e
  have a:es.toList.any (·.refKey)=false:=by
   rw[Iu]
   intro y hy
   obtain⟨z,t,hkey⟩:=hk y (Array.mem_toList_iff.mp hy)
   simp[DictEntry.refKey,hkey]
  have a':¬es.toList.any (·.refKey)=true:=by rw[a];exact bG
  rw[if_neg a']
  exact congrArg some e
def VE.look {h:Heap} {x dx C:Addr} {mA:Str→Option ak} (I:VE h x dx C mA):∃od,PySem.W.InstAt h x (iG C dx) C (some od)∧∀name,xO name od=some (mA name):=
 let ⟨od,ho,hl⟩:=Yg I.ns
 ⟨od,⟨I.obj,rfl,rfl,ho⟩,hl⟩
section
variable {prog:cN} {w:dS} {A:Around} {E:ak→az→Prop} {s:az} {K:aq} {x dx C f:Addr} {mA:Str→Option ak} {name:Str} {v:ak}
def get_map {expr:Bool} {Q:ak→az→Prop} (X:K.In s.heap) (I:VE s.heap x dx C mA) (hg:nu K C name=true) (hh:rh K C=true)
  (ha:bI K (.ref C) name=some none) (hv:mA name=some v) (hv':JV v=true) (h:Q v {s with toks:=s.toks+1}):
  bO (model prog w) A (getAttr (.ref x) name expr) Q E s:=by
 obtain⟨od,J,hl⟩:=I.look
 exact PySem.W.get_value X J (ve hg).1 (PySem.W.findObj_own hh ha rfl (by rw[hl,hv])) hv' h
def ZK {pl:Sem Bool} {Q:ak×List ak→az→Prop} (X:K.In s.heap) (I:VE s.heap x dx C mA) (hg:nu K C name=true)
  (hf:bI K (.ref C) name=some (some (.ref f))) (ht:B8 K (.ref f)=true) (hv:mA name=none) (h:Q (.ref f,[.ref x]) s):
  bO (model prog w) A (wm (.ref x) name pl) Q E s:=by
 obtain⟨od,J,hl⟩:=I.look
 exact PySem.W.method_fn X J (ve hg).1 (ve hg).2 hf (beq_iff_eq.mp ht) (by show(xO name od).map (·.isSome)=some false;rw[hl,hv];rfl) h
def aa6 {ns:List Str} {Q:Unit→az→Prop} (X:K.In s.heap) (I:VE s.heap x dx C mA)
  (hs:bI K (.ref C) "__setattr__"=some (some (.builtin "object.__setattr__"))) (hp:yW K C=true) (ht:CG K C name=some none) (hh:rh K C=true)
  (hw:Ik mA ns) (hsz:ns.length≤ag)
  (h:∀h',VE h' x dx C (fun y=>if y=name then some v else mA y)→vT dx s.heap h'→Q () {s with heap:=h',toks:=s.toks+2}):
  bO (model prog w) A (setAttr (.ref x) name v) Q E s:=by
 obtain⟨od,J,hl⟩:=I.look
 refine PySem.W.set_plain X J hs (PySem.W.osa_open (s:={s with toks:=s.toks+1}) (r:=none) X J hp ht fun b=>?_)
 obtain⟨cd,hc,hd'⟩:=PySem.W.any_some hh
 have hx:s.heap.get? x=some ⟨.ref C,some dx,.plain,#[]⟩:=I.obj
 refine ax (aY (ax (ax (wpAny_loadPart hx (ax (WU (s:={s with toks:=s.toks+1}) (PySem.W.looks_clsIn X hc) ?_))))))
 rw[hd']
 refine aY (a:=some dx) (ax (aY (ax ?_)))
 refine wpAny_nsSet1 (s:={s with toks:=s.toks+1}) I.ns fun h' hn2 hs2=>?_
 obtain⟨oD,esD,epD,hoD,hdD,hcD⟩:=hn2.count (X5 name v hw)
 refine ax (wpAny_lookBehind hoD (by rw[hdD];exact pastItsLine_dict (bg hcD (by rw[aN];omega))) ?_)
 exact aY (h _ ⟨(hs2.2 _ (dv I.ne)).trans I.obj,hn2,I.ne⟩ hs2)
def ZL {R:WV→az→Prop} {vs:List ak} {kw:List (Str×ak)} (X:K.In s.heap) (hm:CH K C=true)
  (hi:bI K (.ref C) "__init__"=some (some (.ref f))) (hf:PySem.W.typeIn K (.ref f)=some (.type "function"))
  (h:Fg (model prog w) (A.under (.builtin "type.__call__" ⟨.ref C::vs,kw⟩)) (.call (.ref f) ⟨.ref (s.heap.objs.size+1)::vs,kw⟩) (PySem.W.InitBack (s.heap.objs.size+1) R)
   {s with heap:=(s.heap.push fU).push (iG C s.heap.objs.size)}):
  Fg (model prog w) A (.call (.ref C) ⟨vs,kw⟩) R s:=by
 obtain⟨hh,g,d,t,os⟩:=s
 exact PySem.W.make_core (PySem.W.makes_of X hm) (PySem.W.looks_findIn X hi) (fun self=>PySem.W.bind_fn X self hf) (.inl rfl) h
end
def dB (f:Str) (v:V):List (Str×V)→List (Str×V)
 | []=>[(f,v)]
 | (g,x)::r=>if g=f then(g,v)::r else(g,x)::dB f v r
theorem aK (f g:Str) (v:V):∀fs:List (Str×V),(dB f v fs).lookup g=if g=f then some v else fs.lookup g
 | []=>by
  show kU g [(f,v)]=_
  by_cases h:g=f
  ·have hb:(g==f)=true:=beq_iff_eq.mpr h
   simp only[kU,hb,if_pos h]
  ·have hb:(g==f)=false:=beq_eq_false_iff_ne.mpr h
   simp only[kU,hb,if_neg h]
 | (k,x)::r=>by
  have ih:=aK f g v r
  rw[show dB f v ((k,x)::r)=(if k=f then(k,v)::r else(k,x)::dB f v r)from rfl]
  by_cases hk:k=f
  ·rw[if_pos hk]
   by_cases h:g=k
   ·have hb:(g==k)=true:=beq_iff_eq.mpr h
    simp only[kU,hb,if_pos (h.trans hk)]
   ·have hb:(g==k)=false:=beq_eq_false_iff_ne.mpr h
    simp only[kU,hb,if_neg (fun e:g=f=>h (e.trans hk.symm))]
  ·rw[if_neg hk]
   by_cases h:g=k
   ·have hb:(g==k)=true:=beq_iff_eq.mpr h
    simp only[kU,hb,if_neg (fun e:g=f=>hk (h.symm.trans e))]
   ·have hb:(g==k)=false:=beq_eq_false_iff_ne.mpr h
    simp only[kU,hb]
    exact ih
theorem IQ (f:Str) (v:V):∀fs:List (Str×V),f∈(dB f v fs).map (·.1)∧∀g,g∈fs.map (·.1)→g∈(dB f v fs).map (·.1)
 | []=>⟨by simp[dB],fun g h=>by simp at h⟩
 | (k,x)::r=>by
  obtain⟨i1,i2⟩:=IQ f v r
  rw[show dB f v ((k,x)::r)=(if k=f then(k,v)::r else(k,x)::dB f v r)from rfl]
  by_cases hk:k=f
  ·rw[if_pos hk]
   subst hk
   exact⟨by simp,fun g h=>by simpa using h⟩
  ·rw[if_neg hk]
   refine⟨?_,fun g h=>?_⟩
   ·rw[aT]
    exact aI _ i1
   ·rw[aT]at h⊢
    rcases bx.mp h with e | e
    ·exact bx.mpr (.inl e)
    ·exact aI _ (i2 g e)
theorem J9 (f:Str) (v:V):∀fs:List (Str×V),(dB f v fs).length≤fs.length+1
 | []=>by simp[dB]
 | (k,x)::r=>by
  have ih:=J9 f v r
  rw[show dB f v ((k,x)::r)=(if k=f then(k,v)::r else(k,x)::dB f v r)from rfl]
  by_cases hk:k=f
  ·rw[if_pos hk,aN,aN];omega
  ·rw[if_neg hk,aN,aN];omega
def AO.some_of {v:V} {o:Option ak} (r:AO (some v) o):∃u,o=some u∧RelV v u:=by
 cases o with
 | none=>exact(show False from r).elim
 | some u=>exact⟨u,rfl,r⟩
def AO.none_of {o:Option ak} (r:AO none o):o=none:=by
 cases o with
 | none=>rfl
 | some u=>exact(show False from r).elim
def Yh {v:V} {u:ak} (r:RelV v u):JV u=true:=by
 cases v with
 | non=>cases (show u=mU from r);rfl
 | bl b=>cases (show u=ph b from r);rfl
 | int i=>obtain⟨t,e⟩:=(show∃t,u=sH i t from r);cases e;rfl
 | str x=>obtain⟨t,e⟩:=(show∃t,u=Ff x t from r);cases e;rfl
 | QK b=>obtain⟨t,e⟩:=(show∃t,u=U6 b t from r);cases e;rfl
 | flt b=>obtain⟨t,e⟩:=(show∃t,u=U7 b t from r);cases e;rfl
 | ref a=>cases (show u=c9 a from r);rfl
 | ty n=>cases (show u=sI n from r);rfl
section
variable {P:cN} {w:dS} {H H':Hp} {h h':Heap} {a C dx:Addr} {fs fs':List (Str×V)}
def QQ (gX:C2 P w H h) (e:H a=some (.ins C dx fs)):∃mA,VE h a dx C mA∧(∀f,AO (fs.lookup f) (mA f))∧Ik mA (fs.map (·.1))∧fs.length≤1000∧H dx=some (.own a):=by
 obtain⟨d,z,ne,ob,mA,n,r,q⟩:=(show jw P w H h a (.ins C dx fs)from gX a _ e)
 exact⟨mA,⟨ob,n,ne⟩,r,q,z,d⟩
end
structure S3 (K:aq) (C:Addr):Prop where
 pg:nu K C Zn=true
 hd:rh K C=true
 po:yW K C=true
 sa:bI K (.ref C) "__setattr__"=some (some (.builtin "object.__setattr__"))
def S3.get {K:aq} {C:Addr} (c:S3 K C) (f:Str):nu K C f=true:=c.pg
def gI (K:aq) (C:Addr) (f:Str):Prop:=bI K (.ref C) f=some none
def gI.ad1 {K:aq} {C:Addr} {f:Str} (n:gI K C f):CG K C f=some none:=by
 unfold CG
 rw[show bI K (.ref C) f=some none from n]
 rfl
structure Meth (K:aq) (C:Addr) (m:Str) (f:Addr):Prop where
 at_:bI K (.ref C) m=some (some (.ref f))
 fn:B8 K (.ref f)=true
 kp:gM K (.ref f)=true
section
variable {X:Cx} {pins:List (Addr×Obj)} {σ:St} {H:Hp} {s:az} {a C dx:Addr} {fs:List (Str×V)} {f:Str} {v:V} {A:Around} {E:ak→az→Prop}
def LV {b:Bool} {Q:ak→az→Prop} (I:Inv X pins σ H s) (e:H a=some (.ins C dx fs)) (c:S3 X.K C) (n:gI X.K C f) (l:fs.lookup f=some v)
  (h:∀u s',Inv X pins σ H s'→RelV v u→Q u s'):bO (model X.prog X.w) A (getAttr (.ref a) f b) Q E s:=by
 obtain⟨mA,O,r,_,_,_⟩:=QQ I.gX e
 obtain⟨u,hu,ru⟩:=AO.some_of (v:=v) (o:=mA f) (by rw[← l];exact r f)
 exact get_map I.Vj O (c.get f) c.hd n hu (Yh ru) (h u _ (I.tok _) ru)
def FW {m:Str} {g:Addr} {pl:Sem Bool} {Q:ak×List ak→az→Prop} (I:Inv X pins σ H s) (e:H a=some (.ins C dx fs)) (c:S3 X.K C) (k:Meth X.K C m g) (l:fs.lookup m=none)
  (h:Q (.ref g,[.ref a]) s):bO (model X.prog X.w) A (wm (.ref a) m pl) Q E s:=by
 obtain⟨mA,O,r,_,_,_⟩:=QQ I.gX e
 have hn:mA m=none:=AO.none_of (by rw[← l];exact r m)
 exact ZK I.Vj O (c.get m) k.at_ k.fn hn h
def LW {y:V} {u:ak} {Q:Unit→az→Prop} (I:Inv X pins σ H s) (e:H a=some (.ins C dx fs)) (c:S3 X.K C) (n:gI X.K C f) (hl:fs.length < 1000) (ry:RelV y u)
  (h:∀s',Inv X pins σ (upd H a (.ins C dx (dB f y fs))) s'→Q () s'):bO (model X.prog X.w) A (setAttr (.ref a) f u) Q E s:=by
 obtain⟨mA,O,r,wi,_,ho⟩:=QQ I.gX e
 have hz:(fs.map (·.1)).length≤ag:=by rw[ab,bS];omega
 refine aa6 I.Vj O c.sa c.po n.ad1 c.hd wi hz fun h' O' sb=>h _ ?_
 have hd:∃o,h'.get? dx=some o:=let ⟨o,_,_,e',_⟩:=O'.ns;⟨o,e'⟩
 refine I.write (x:=a) (e:=dx) (by rw[e];exact pj) (.inr ho) (fun b q hb z=>(sb.2 b hb).trans z) hd ?_
 refine⟨by rw[aD O.ne];exact ho,?_,O.ne,O'.obj,_,O'.ns,fun g=>?_,fun g hg=>?_⟩
 ·have:=J9 f y fs;omega
 ·show AO ((dB f y fs).lookup g) (if g=f then some u else mA g)
  rw[aK]
  by_cases q:g=f
  ·rw[if_pos q,if_pos q];exact ry
  ·rw[if_neg q,if_neg q];exact r g
 ·by_cases q:g=f
  ·rw[q];exact(IQ f y fs).1
  ·refine(IQ f y fs).2 g (wi g fun z=>hg ?_)
   show(if g=f then some u else mA g)=none
   rw[if_neg q];exact z
def Inv.made (I:Inv X pins σ H s):Inv X pins σ (upd (upd H s.heap.objs.size (.own (s.heap.objs.size+1))) (s.heap.objs.size+1) (.ins C s.heap.objs.size []))
  {s with heap:=(s.heap.push fU).push (iG C s.heap.objs.size)}:=by
 have e1:(s.heap.push fU).get? s.heap.objs.size=some fU:=b4 s.heap rfl
 have e2:((s.heap.push fU).push (iG C s.heap.objs.size)).get? (s.heap.objs.size+1)=some (iG C s.heap.objs.size):=by
  have:=b4 (s.heap.push fU) (o:=iG C s.heap.objs.size) rfl
  rwa [fD]at this
 have e3:(s.heap.push fU).Ns s.heap.objs.size (fun _=>none):=⟨fU,#[],_,e1,rfl,(fun e he=>absurd he (by simp)),fun _=>rfl⟩
 have I1:=I.laid (a:=s.heap.objs.size) (o:=.own (s.heap.objs.size+1)) (h':=s.heap.push fU) (t':=s.toks) (fun b u q=>bp _ q) (aJ _) ⟨_,e1⟩
 refine I1.laid (a:=s.heap.objs.size+1) (o:=.ins C s.heap.objs.size []) (t':=s.toks) (fun b u q=>bp _ q) (B9 (fD _ _)) ?_
 have ne:s.heap.objs.size≠s.heap.objs.size+1:=cI (kM _)
 refine⟨by rw[aD ne,af],bZ _,ne,e2,fun _=>none,(Heap.Ns1.of_empty e3).at fun o q=>bp _ q,fun _=>pj,fun y hy=>absurd rfl hy⟩
def aa7 {prog:cN} {w:dS} {env:Env} {e:Expr} {f:Str} {pos:Pos} {s:az} {Q:ak→az→Prop} (hb:lY e f env (eval e env)=eval e env)
  (h:bO (model prog w) A (eval e env) (fun o s₁=>bO (model prog w) A (getAttr o f true) Q E s₁) E s):bO (model prog w) A (eval (.Attribute e f pos) env) Q E s:=
 Attribute_any_ h (by rw[arm_eval_Attribute,hb])
end
inductive FlI (K:aq) (f:Str) (Q:VK) (x:V) (H:Hp):Prop|mk (a C dx:Addr) (fs:List (Str×V)) (v:V) (e:x=.ref a) (o:H a=some (.ins C dx fs)) (c:S3 K C) (g:gI K C f) (l:fs.lookup f=some v) (q:Q v H):FlI K f Q x H
def aa8 (K:aq) (ta:TE) (f:Str):TE:=fun σ H Q=>ta σ H (FlI K f Q)
def aeO (K:aq) (ta tv:TE) (f:Str):TS:=fun D σ H=>tv σ H fun y H1=>ta σ H1 fun x H2=>EX4 fun a C dx fs=>x=.ref a∧H2 a=some (.ins C dx fs)∧S3 K C∧gI K C f∧fs.length < 1000∧
 D.nx σ (upd H2 a (.ins C dx (dB f y fs)))
def ad2 (X:Cx) (op:Ip) (rd:V→V→Hp→VK→Prop):Prop:=
 ∀(pins:List (Addr×Obj)) (s:az) (σ:St) (H:Hp) (x y:V) (u v:ak) (Q:VK),Inv X pins σ H s→RelV x u→RelV y v→rd x y H Q→bO (model X.prog X.w) X.A (QI op u v) (EP X pins σ Q) X.xe s
def aa9 (K:aq) (ta tv:TE) (rd:V→V→Hp→VK→Prop) (f:Str):TS:=fun D σ H=>ta σ H fun x H1=>EX5 fun a C dx fs v=>x=.ref a∧H1 a=some (.ins C dx fs)∧S3 K C∧gI K C f∧fs.lookup f=some v∧
 tv σ H1 fun y H2=>rd v y H2 fun z H3=>∃dx' fs',H3 a=some (.ins C dx' fs')∧fs'.length < 1000∧D.nx σ (upd H3 a (.ins C dx' (dB f z fs')))
section
variable {X:Cx} {o e value:Expr} {f:Str} {pos pos' tpos:Pos} {ta tv:TE}
def aV (he:PE X e ta) (hb:lY e f X.env (eval e X.env)=eval e X.env):PE X (.Attribute e f pos) (aa8 X.K ta f):=by
 intro pins s σ H Q I h
 refine aa7 hb (gR (he pins s σ H _ I h) fun u s1 ⟨x,H1,I1,rx,a,C,dx,fs,v,ex,ea,c,n,l,q⟩=>?_)
 subst ex
 obtain rfl:u=c9 a:=rx
 exact LV I1 ea c n l fun u' s2 I2 ru=>⟨v,H1,I2,ru,q⟩
def eZ (ha:PE X o ta) (hv:PE X value tv) (hs:wk value (some (.Attribute o f pos')) pos.line X.env=pure false):PS X (.Assign [.Attribute o f pos'] value pos) (aeO X.K ta tv f):=by
 intro pins s σ H D I h
 refine plainObj_wpAny_Assign_Attribute (gR (hv pins s σ H _ I h) fun u s1 ⟨y,H1,I1,ry,q⟩=>gR (ha pins s1 σ H1 _ I1 q) fun ov s2 ⟨x,H2,I2,rx,a,C,dx,fs,ex,ea,c,n,l,q2⟩=>?_) hs
 subst ex
 obtain rfl:ov=c9 a:=rx
 exact LW I2 ea c n l ry fun s3 I3=>⟨σ,_,I3,q2⟩
def EK {op:Ip} {rd:V→V→Hp→VK→Prop} (ha:PE X o ta) (hv:PE X value tv) (hop:ad2 X op rd):PS X (.AugAssign (.Attribute o f tpos) op value pos) (aa9 X.K ta tv rd f):=by
 intro pins s σ H D I h
 refine wpAny_AugAssign_AttributeAny (gR (ha pins s σ H _ I h) fun ov s1 ⟨x,H1,I1,rx,a,C,dx,fs,v,ex,ea,c,n,l,q⟩=>?_)
 subst ex
 obtain rfl:ov=c9 a:=rx
 refine LV I1 ea c n l fun u s2 I2 ru=>gR (hv pins s2 σ H1 _ I2 q) fun w3 s3 ⟨y,H2,I3,ry,q3⟩=>gR (hop pins s3 σ H2 v y u w3 _ I3 ru ry q3) fun w4 s4 ⟨z,H3,I4,rz,dx',fs',ea',l',q4⟩=>?_
 exact LW I4 ea' c n l' rz fun s5 I5=>⟨σ,_,I5,q4⟩
def aeP:V→V→Hp→VK→Prop:=fun x y H Q=>∃i j,x=.int i∧y=.int j∧Q (.int (i+j)) H
def QR:ad2 X .Add aeP:=by
 rintro pins s σ H x y u v Q I rx ry ⟨i,j,rfl,rfl,q⟩
 obtain⟨t,rfl⟩:=(show∃t,u=sH i t from rx)
 obtain⟨t',rfl⟩:=(show∃t',v=sH j t' from ry)
 exact SM ⟨.int (i+j),H,I.tok _,⟨_,rfl⟩,q⟩
def aca {pl:Sem Bool} {m:Str} {apos:Pos} {args:List Expr} {pins:List (Addr×Obj)} {s:az} {σ:St} {H:Hp} {Q:ak→az→Prop} {te:TE} (he:PE X e te) (I:Inv X pins σ H s)
  (h:te σ H fun x H1=>∃a C dx fs g,x=.ref a∧H1 a=some (.ins C dx fs)∧S3 X.K C∧Meth X.K C m g∧fs.lookup m=none∧
   ∀s1,Inv X pins σ H1 s1→bO (model X.prog X.w) X.A (Ex pos (.ref g) [.ref a] (iH pos (cw args X.env)) (rj pos (jP [] X.env))) Q X.xe s1)
  (ht:eval (.Call (.Attribute e m apos) args [] pos) X.env=(do
   let ov ← eval e X.env
   B7 apos.atName
   let (f,first) ← holding [ov] (wm ov m pl)
   Ex pos f first (iH pos (cw args X.env)) (rj pos (jP [] X.env)))):
  bO (model X.prog X.w) X.A (eval (.Call (.Attribute e m apos) args [] pos) X.env) Q X.xe s:=by
 refine rQ (pl:=pl) (gR (he pins s σ H _ I h) fun u s1 ⟨x,H1,I1,rx,a,C,dx,fs,g,ex,ea,c,k,l,q⟩=>?_) ht
 subst ex
 obtain rfl:u=c9 a:=rx
 exact FW I1 ea c k l (q s1 I1)
end
section
variable {X:Cx} {pins:List (Addr×Obj)} {σ:St} {H:Hp} {s:az} {A:Around} {E:ak→az→Prop} {Q:ak→az→Prop} {c:ak} {b:Bool}
end
end L2
namespace L2
open PySem PySem.Spec PyProof.Rows
structure oZ (k:Nat) (A:Around):Prop where
 hd:A.handled=none
 dp:A.depth+3*k+5 < NN
 un:A.units+16*k+200 < AA
def oZ.mono {j k:Nat} {A:Around} (r:oZ k A) (h:j≤k):oZ j A:=⟨r.hd,by have:=r.dp;omega,by have:=r.un;omega⟩
def oZ.deeper {k:Nat} {A:Around} (r:oZ (k+1) A) (env:Env):oZ k (A.deeper env):=
 ⟨r.hd,by have:=r.dp;show A.depth+1+3*k+5 < _;omega,by have:=r.un;show A.units+3+16*k+200 < _;omega⟩
def VF {A:Around} {C:Addr} {us:List ak} {kw:List (Str×ak)}:(A.under (.builtin "type.__call__" ⟨.ref C::us,kw⟩)).depth=A.depth+1:=by
 first | rfl | simp[Iv,Code.weight,Code.isCreation,Code.isGuard,Code.isCaller,Va,Iw,guardIds]
def VG {A:Around} {C:Addr} {us:List ak} {kw:List (Str×ak)}:(A.under (.builtin "type.__call__" ⟨.ref C::us,kw⟩)).units=A.units+1:=by
 first | rfl | simp[Iv,Code.cUnits,Va,Iw]
def oZ.make {k:Nat} {A:Around} (r:oZ (k+1) A) (C:Addr) (us:List ak) (kw:List (Str×ak)):oZ k (A.under (.builtin "type.__call__" ⟨.ref C::us,kw⟩)):=
 ⟨r.hd,by have:=r.dp;rw[VF];omega,by have:=r.un;rw[VG];omega⟩
def oZ.depth {k:Nat} {A:Around} (r:oZ k A):A.depth < NN:=by have:=r.dp;omega
def oZ.units {k:Nat} {A:Around} (r:oZ k A):A.units+64 < AA:=by have:=r.un;omega
def vf:TA:=fun _ H Q=>Q [] H
def nR (ta:TE) (tr:TA):TA:=fun σ H Q=>ta σ H fun x H1=>tr σ H1 fun xs H2=>Q (x::xs) H2
section
variable {X:Cx} {e:Expr} {es:List Expr} {te:TE} {t:TA} {pos:Pos}
def ah:PA X [] vf:=fun _ _ _ _ H Q I h=>yX ⟨[],H,I,.nil,h⟩
def aa (ha:PE X e te) (hr:PA X es t) (hs:cw (e::es) X.env=(false,eval e X.env)::cw es X.env:=by rfl):PA X (e::es) (nR te t):=by
 intro pos pins s σ H Q I h
 rw[hs]
 show bO _ _ (spliced ((false,eval e X.env)::iH pos (cw es X.env))) _ _ s
 refine pk (gR (ha pins s σ H _ I h) fun u s1 ⟨x,H1,I1,r1,q1⟩=>?_)
 exact gR (hr pos pins s1 σ H1 _ I1 q1) fun us s2 ⟨xs,H2,I2,r2,q2⟩=>⟨x::xs,H2,I2,.cons r1 r2,q2⟩
def aeQ (t:TA):TE:=fun σ H Q=>t σ H fun xs H1=>xs.length≤ag∧∀p,H1 p=none→Q (.ref p) (upd H1 p (.tup xs))
def aeR (t:TA):TE:=fun σ H Q=>t σ H fun xs H1=>xs.length≤ag∧∀p,H1 p=none→Q (.ref p) (upd H1 p (.lst xs))
def jS {x1} (h:PA X es t):PE X (.Tuple es x1 pos) (aeQ t):=by
 intro pins s σ H Q I hq
 refine wpAny_Tuple_spliced (gR (h pos pins s σ H _ I hq) fun us s1 ⟨xs,H1,I1,r,z,q⟩=>⟨by rw[← r.length];exact z,?_⟩)
 have hf:H1 s1.heap.objs.size=none:=I1.gX.fresh (aJ _)
 refine⟨.ref s1.heap.objs.size,upd H1 s1.heap.objs.size (.tup xs),I1.laid (t':=s1.toks) (fun b u e=>bp _ e) (aJ _) ?_,rfl,q _ hf⟩
 exact⟨z,us,r,⟨_,b4 _ rfl⟩⟩
def b5 (h:PA X es t):PE X (.List es pos) (aeR t):=by
 intro pins s σ H Q I hq
 refine wpAny_List_spliced (gR (h pos pins s σ H _ I hq) fun us s1 ⟨xs,H1,I1,r,z,q⟩=>⟨by rw[← r.length];exact z,?_⟩)
 have hf:H1 s1.heap.objs.size=none:=I1.gX.fresh (aJ _)
 refine⟨.ref s1.heap.objs.size,upd H1 s1.heap.objs.size (.lst xs),I1.laid (t':=s1.toks) (fun b u e=>bp _ e) (aJ _) ?_,rfl,q _ hf⟩
 exact⟨z,us,0,r,b4 _ rfl⟩
end
abbrev Sp:=List V→Hp→VK→XK→Prop
abbrev Yi:=List Env→Hp→az→XK→ak→az→Prop
structure VH (P:cN) (w:dS) (K:aq) (mg:Str→Option ak) (base:Heap) (A:Around) (outer:List Env) (s:az) (H:Hp):Prop where
 frames:A.frames=some outer
 mod:Mod K mg base
 bs:∀b o,base.get? b=some o→s.heap.get? b=some o∧H b=none
 bsz:base.objs.size≤s.heap.objs.size
 KL:s.heap.FunFrames base outer
 frf:∀b∈Zx outer,H b=none
 gX:C2 P w H s.heap
 bare:AllBare s.gens
def CE (outer:List Env) (P:cN) (w:dS) (H:Hp) (s:az) (Q:VK) (u:ak) (s':az):Prop:=
 ∃v H',s'.os=s.os∧AllBare s'.gens∧Un (Zx outer) [] H H' s.heap s'.heap∧C2 P w H' s'.heap∧RelV v u∧Q v H'
def CR (CX:Yi) (outer:List Env) (P:cN) (w:dS) (H:Hp) (s:az) (Q:VK) (E:XK) (r:WV) (s':az):Prop:=
 match r with
 | .ok (.ret u)=>CE outer P w H s Q u s'
 | .ok _=>False
 | .error e=>CX outer H s E e s'
structure aZ (P:cN) (w:dS) (K:aq) (mg:Str→Option ak) (base:Heap) (CX:Yi) (k:Nat) (f:Addr) (fd:aG) (ps:List Str) (sp:Sp):Prop where
 len:∀vs H Q E,sp vs H Q E→vs.length=ps.length
 run:∀(A:Around) (outer:List Env) (s:az) (H:Hp) (args:Args) (us:List ak) (vs:List V) (Q:VK) (E:XK),oZ k A→VH P w K mg base A outer s H→Iy s fd args (ps.zip us)→Vals vs us→sp vs H Q E→
  Fg (model P w) A (.call (.ref f) args) (CR CX outer P w H s Q E) s
def aZ.imp {P:cN} {w:dS} {K:aq} {mg:Str→Option ak} {base:Heap} {CX:Yi} {k:Nat} {f:Addr} {fd:aG} {ps:List Str} {sp sp':Sp} (F:aZ P w K mg base CX k f fd ps sp)
  (h:∀vs H Q E,sp' vs H Q E→sp vs H Q E):aZ P w K mg base CX k f fd ps sp':=
 ⟨fun vs H Q E q=>F.len vs H Q E (h _ _ _ _ q),fun A outer s H args us vs Q E hr he hb hv hs=>F.run A outer s H args us vs Q E hr he hb hv (h _ _ _ _ hs)⟩
def VH.make {P:cN} {w:dS} {K:aq} {mg:Str→Option ak} {base:Heap} {A:Around} {outer:List Env} {s:az} {H:Hp} (e:VH P w K mg base A outer s H) (C:Addr) (us:List ak) (kw:List (Str×ak)):
  VH P w K mg base (A.under (.builtin "type.__call__" ⟨.ref C::us,kw⟩)) outer s H:=⟨by first | exact e.frames | (simpa[Iv,Code.envs,Iw,pushEnvs]using e.frames),e.mod,e.bs,e.bsz,e.KL,e.frf,e.gX,e.bare⟩
section
variable {X:Cx} {pins:List (Addr×Obj)} {σ:St} {H:Hp} {s s':az}
def Inv.ad3 (I:Inv X pins σ H s):VH X.prog X.w X.K X.mg X.base X.A X.stack s H:=
 ⟨I.ok.frames,I.ok.mod,I.bs,bg I.ok.bsz I.sz,I.stack,I.W3,I.gX,I.bare⟩
def Inv.after {Q:VK} {u:ak} (I:Inv X pins σ H s) (h:CE X.stack X.prog X.w H s Q u s'):EP X pins σ Q u s':=by
 obtain⟨v,H',os,bare,un,gX,r,q⟩:=h
 obtain⟨hh,g,d,t,os'⟩:=s'
 obtain rfl:os'=s.os:=os
 exact⟨v,H',I.call (h':=hh) (g':=g) (d':=d) (t':=t) (ch:=[]) un gX bare (fun b z=>absurd z (by simp)),r,q⟩
end
def Fu (sp:Sp) (dvs:List V) (E:XK) (t:TA):TE:=fun σ H Q=>t σ H fun vs H1=>sp (vs++dvs) H1 Q E
inductive McI (C:Addr) (m:Str) (R:VK) (x:V) (H:Hp):Prop|mk (a dx:Addr) (fs:List (Str×V)) (e:x=.ref a) (o:H a=some (.ins C dx fs)) (l:fs.lookup m=none) (q:R x H):McI C m R x H
def vb (C:Addr) (m:Str) (sp:Sp) (dvs:List V) (E:XK) (ta:TE) (t:TA):TE:=fun σ H Q=>ta σ H (McI C m fun x H1=>t σ H1 fun vs H2=>sp (x::(vs++dvs)) H2 Q E)
def acb (C:Addr) (sp:Sp) (dvs:List V) (E:XK) (t:TA):TE:=fun σ H Q=>t σ H fun vs H1=>∀x dx,H1 x=none→H1 dx=none→dx≠x→
 sp (.ref x::(vs++dvs)) (upd (upd H1 dx (.own x)) x (.ins C dx [])) (fun v H2=>v=.non∧Q (.ref x) H2) E
def Binds (K:aq) (fd:aG) (ps:List Str) (ds:List ak):Prop:=
 ∀(s:az) (us:List ak),K.In s.heap→(us++ds).length=ps.length→Iy s fd ⟨us,[]⟩ (ps.zip (us++ds))
def Binds.all {K:aq} {fd:aG} {ps:List Str} (h:∀us:List ak,us.length=ps.length→uj fd ⟨us,[]⟩=pure (ps.zip us)):Binds K fd ps []:=fun s us _ hl=>by
 rw[c7]at hl⊢
 exact .of_eq (h us hl)
def Passes (CX:Yi) (X:Cx) (E:XK):Prop:=∀(pins:List (Addr×Obj)) (σ:St) (H:Hp) (s:az) (e:ak) (s':az),Inv X pins σ H s→CX X.stack H s E e s'→X.xe e s'
section
variable {X:Cx} {CX:Yi} {k:Nat} {f C:Addr} {fd:aG} {ps:List Str} {sp:Sp} {dvs:List V} {ds:List ak} {E:XK} {x m:Str} {p pos apos:Pos} {e o:Expr} {es:List Expr} {ta:TE} {t:TA}
def QS {pins:List (Addr×Obj)} {σ:St} {H:Hp} {s:az} {Q:VK} {us:List ak} {vs:List V} (F:aZ X.prog X.w X.K X.mg X.base CX k f fd ps sp) (hr:oZ k X.A) (hb:Binds X.K fd ps ds) (hd:Vals dvs ds) (hx:Passes CX X E)
  (I:Inv X pins σ H s) (r:Vals vs us) (h:sp (vs++dvs) H Q E):bO (model X.prog X.w) X.A (call (.ref f) us) (EP X pins σ Q) X.xe s:=by
 have r2:Vals (vs++dvs) (us++ds):=r.append hd
 have hl:(us++ds).length=ps.length:=by rw[← r2.length];exact F.len _ _ _ _ h
 refine wpAny_call (Ca (F.run X.A X.stack s H ⟨us,[]⟩ (us++ds) (vs++dvs) Q E hr I.ad3 (hb s us I.Vj hl) r2 h) fun r s' hq=>?_)
 cases r with
 | error e=>exact hx pins σ H s e s' I hq
 | ok fl=>
  cases fl with
  | ret u=>exact I.after hq
  | next=>exact fR hq
  | brk=>exact fR hq
  | cont=>exact fR hq
def aba (F:aZ X.prog X.w X.K X.mg X.base CX k f fd ps sp) (hr:oZ k X.A) (hg:Gl X x) (hm:X.mg x=some (.ref f)) (hk:gM X.K (.ref f)=true) (hb:Binds X.K fd ps ds) (hd:Vals dvs ds) (hx:Passes CX X E)
  (ha:PA X (e::es) t) (hdb:(x==("__debug__":Str))=false:=by decide) (he:cw (e::es) X.env=(false,eval e X.env)::cw es X.env:=by rfl) (hpl:(iH pos (cw es X.env)).any (·.1)=false:=by rfl):
  PE X (.Call (.Name x p) (e::es) [] pos) (Fu sp dvs E t):=by
 intro pins s σ H Q I h
 refine jm (Lp I hg hm ?_ hdb)
 refine pq (h₀:=X.base) I.ok.mod.kin hk (gR (ha pos pins s σ H _ I h) fun us s1 ⟨vs,H1,I1,r,q⟩=>⟨I1.Vj,?_⟩) he hpl
 exact QS F hr hb hd hx I1 r q
def abb {pl:Sem Bool} (he:PE X o ta) (c:S3 X.K C) (hm:Meth X.K C m f) (F:aZ X.prog X.w X.K X.mg X.base CX k f fd ps sp) (hr:oZ k X.A) (hb:Binds X.K fd ps ds) (hd:Vals dvs ds) (hx:Passes CX X E) (ha:PA X (e::es) t)
  (hst:cw (e::es) X.env=(false,eval e X.env)::cw es X.env:=by rfl) (hpl:(iH pos (cw es X.env)).any (·.1)=false:=by rfl)
  (ht:eval (.Call (.Attribute o m apos) (e::es) [] pos) X.env=(do
   let ov ← eval o X.env
   B7 apos.atName
   let (f,first) ← holding [ov] (wm ov m pl)
   Ex pos f first (iH pos (cw (e::es) X.env)) (rj pos (jP [] X.env))):=by rfl):
  PE X (.Call (.Attribute o m apos) (e::es) [] pos) (vb C m sp dvs E ta t):=by
 intro pins s σ H Q I h
 refine rQ (pl:=pl) (gR (he pins s σ H _ I h) fun u s1 ⟨x,H1,I1,rx,a,dx,fs,ex,ea,l,q⟩=>?_) ht
 subst ex
 obtain rfl:u=c9 a:=rx
 refine FW I1 ea c hm l ?_
 refine pq (first:=[.ref a]) (h₀:=X.base) I.ok.mod.kin hm.kp (gR (ha pos pins s1 σ H1 _ I1 q) fun us s2 ⟨vs,H2,I2,r,q2⟩=>⟨I2.Vj,?_⟩) hst hpl
 exact QS (us:=.ref a::us) (vs:=.ref a::vs) F hr hb hd hx I2 (.cons rfl r) q2
def ZM {pl:Sem Bool} (he:PE X o ta) (c:S3 X.K C) (hm:Meth X.K C m f) (F:aZ X.prog X.w X.K X.mg X.base CX k f fd ps sp) (hr:oZ k X.A) (hb:Binds X.K fd ps ds) (hd:Vals dvs ds) (hx:Passes CX X E)
  (ht:eval (.Call (.Attribute o m apos) [] [] pos) X.env=(do
   let ov ← eval o X.env
   B7 apos.atName
   let (f,first) ← holding [ov] (wm ov m pl)
   Ex pos f first (iH pos (cw [] X.env)) (rj pos (jP [] X.env))):=by rfl):
  PE X (.Call (.Attribute o m apos) [] [] pos) (vb C m sp dvs E ta vf):=by
 intro pins s σ H Q I h
 refine rQ (pl:=pl) (gR (he pins s σ H _ I h) fun u s1 ⟨x,H1,I1,rx,a,dx,fs,ex,ea,l,q⟩=>?_) ht
 subst ex
 obtain rfl:u=c9 a:=rx
 refine FW I1 ea c hm l ?_
 exact Fp (first:=[.ref a]) I1.Vj hm.kp (QS (us:=[.ref a]) (vs:=[.ref a]) F hr hb hd hx I1 (.cons rfl .nil) q)
structure Mk (K:aq) (C f:Addr):Prop where
 makes:CH K C=true
 init:bI K (.ref C) "__init__"=some (some (.ref f))
 fn:B8 K (.ref f)=true
 kp:gM K (.ref C)=true
def S4 {pins:List (Addr×Obj)} {σ:St} {H:Hp} {s:az} {Q:VK} {us:List ak} {vs:List V} (M:Mk X.K C f) (F:aZ X.prog X.w X.K X.mg X.base CX k f fd ps sp) (hr:oZ (k+1) X.A) (hb:Binds X.K fd ps ds) (hd:Vals dvs ds)
  (hx:Passes CX X E) (I:Inv X pins σ H s) (r:Vals vs us)
  (h:∀x dx,H x=none→H dx=none→dx≠x→sp (.ref x::(vs++dvs)) (upd (upd H dx (.own x)) x (.ins C dx [])) (fun v H2=>v=.non∧Q (.ref x) H2) E):
  bO (model X.prog X.w) X.A (call (.ref C) us) (EP X pins σ Q) X.xe s:=by
 have hq:=h (s.heap.objs.size+1) s.heap.objs.size (I.gX.fresh (fE _)) (I.gX.fresh (aJ _)) (cI (kM _))
 have I2:=Inv.made (C:=C) I
 have r2:Vals (V.ref (s.heap.objs.size+1)::(vs++dvs)) (c9 (s.heap.objs.size+1)::(us++ds)):=.cons rfl (r.append hd)
 have hl:(c9 (s.heap.objs.size+1)::us++ds).length=ps.length:=by
  have e:=r2.length
  rw[F.len _ _ _ _ hq]at e
  exact e.symm
 refine wpAny_call (ZL (f:=f) I.Vj M.makes M.init (beq_iff_eq.mp M.fn) (Ca (F.run _ X.stack _ _ ⟨c9 (s.heap.objs.size+1)::us,[]⟩ (c9 (s.heap.objs.size+1)::(us++ds)) _ _ E (hr.make C us [])
  (I2.ad3.make C us []) (hb _ (c9 (s.heap.objs.size+1)::us) I2.Vj hl) r2 hq) fun r s' hq'=>?_))
 cases r with
 | error e=>exact hx pins σ _ _ e s' I2 hq'
 | ok fl=>
  cases fl with
  | ret u=>
   obtain⟨v,H',I3,rv,ev,q3⟩:=I2.after hq'
   subst ev
   exact⟨rv,⟨V.ref (s.heap.objs.size+1),H',I3,rfl,q3⟩⟩
  | next=>exact fR hq'
  | brk=>exact fR hq'
  | cont=>exact fR hq'
def sP (M:Mk X.K C f) (F:aZ X.prog X.w X.K X.mg X.base CX k f fd ps sp) (hr:oZ (k+1) X.A) (hg:Gl X x) (hm:X.mg x=some (.ref C)) (hb:Binds X.K fd ps ds) (hd:Vals dvs ds) (hx:Passes CX X E)
  (ha:PA X (e::es) t) (hdb:(x==("__debug__":Str))=false:=by decide) (he:cw (e::es) X.env=(false,eval e X.env)::cw es X.env:=by rfl) (hpl:(iH pos (cw es X.env)).any (·.1)=false:=by rfl):
  PE X (.Call (.Name x p) (e::es) [] pos) (acb C sp dvs E t):=by
 intro pins s σ H Q I h
 refine jm (Lp I hg hm ?_ hdb)
 refine pq (h₀:=X.base) I.ok.mod.kin M.kp (gR (ha pos pins s σ H _ I h) fun us s1 ⟨vs,H1,I1,r,q⟩=>⟨I1.Vj,?_⟩) he hpl
 exact S4 M F hr hb hd hx I1 r q
def ZN (M:Mk X.K C f) (F:aZ X.prog X.w X.K X.mg X.base CX k f fd ps sp) (hr:oZ (k+1) X.A) (hg:Gl X x) (hm:X.mg x=some (.ref C)) (hb:Binds X.K fd ps ds) (hd:Vals dvs ds) (hx:Passes CX X E)
  (hdb:(x==("__debug__":Str))=false:=by decide):PE X (.Call (.Name x p) [] [] pos) (acb C sp dvs E vf):=by
 intro pins s σ H Q I h
 refine jm (Lp I hg hm ?_ hdb)
 exact Fp I.Vj M.kp (S4 (us:=[]) M F hr hb hd hx I .nil h)
end
section
variable {X:Cx} {CX:Yi} {k:Nat} {f C:Addr} {fd:aG} {ps ks:List Str} {sp:Sp} {E:XK} {x m:Str} {p pos apos kpos:Pos} {e o:Expr} {es:List Expr} {kws:List yY} {te ta:TE} {t tk:TA} {nm:Option Str}
variable {g:List ak→List ak→List ak} {gV:List V→List V→List V}
end
structure aW (N P:List Str) (sc:mV):Prop where
 kind:sc.kind=.function
 co:sc.isCoroutine=false
 gen:sc.isGenerator=false
 nd:N.Nodup
 pre:N.take P.length=P
 par:∀x∈P,sc.names.lookup x=some .local∨sc.names.lookup x=some .cell
 acI:∀y∈sc.names,y.2≠.free
theorem PU {kindOf:Str→Option jn} {x:Str}:∀{binds:List (Str×ak)} {m:Str→Option ak},(∀v,(x,v)∉binds)→NO kindOf binds m x=m x
 | [],_,_=>rfl
 | (n,v)::r,m,h=>by
  unfold NO
  rw[PU fun w hw=>h w (aI _ hw)]
  split
  ·have:x≠n:=by rintro rfl;exact h v aE
   simp[this]
  ·rfl
theorem PV {kindOf:Str→Option jn} {x:Str}:∀{binds:List (Str×ak)} {m:Str→Option ak},(∀v,(x,v)∉binds)→NP kindOf binds m x=m x
 | [],_,_=>rfl
 | (n,v)::r,m,h=>by
  unfold NP
  rw[PV fun w hw=>h w (aI _ hw)]
  split
  ·rfl
  ·have:x≠n:=by rintro rfl;exact h v aE
   simp[this]
theorem PX {kindOf:Str→Option jn} {x:Str} {v:ak}:∀{P:List Str} {vs:List ak} {i:Nat} {m:Str→Option ak},P.Nodup→P[i]? =some x→vs[i]? =some v→kindOf x=some .local→
  NO kindOf (P.zip vs) m x=some v
 | [],_,_,_,_,h,_,_=>by simp at h
 | _::_,[],_,_,_,_,h,_=>by simp at h
 | p::P,w::vs,0,m,nd,h1,h2,hk=>by
  simp at h1 h2;subst h1;subst h2
  show NO kindOf ((p,w)::P.zip vs) m p=_
  unfold NO
  rw[PU fun v hv=>(gT.mp nd).1 (jG hv).1,if_pos hk]
  simp
 | p::P,w::vs,i+1,m,nd,h1,h2,hk=>by
  show NO kindOf ((p,w)::P.zip vs) m x=_
  unfold NO
  exact PX (i:=i) (gT.mp nd).2 (by simpa using h1) (by simpa using h2) hk
theorem PY {kindOf:Str→Option jn} {x:Str} {v:ak}:∀{P:List Str} {vs:List ak} {i:Nat} {m:Str→Option ak},P.Nodup→P[i]? =some x→vs[i]? =some v→kindOf x≠some .local→
  NP kindOf (P.zip vs) m x=some v
 | [],_,_,_,_,h,_,_=>by simp at h
 | _::_,[],_,_,_,_,h,_=>by simp at h
 | p::P,w::vs,0,m,nd,h1,h2,hk=>by
  simp at h1 h2;subst h1;subst h2
  show NP kindOf ((p,w)::P.zip vs) m p=_
  unfold NP
  rw[PV fun v hv=>(gT.mp nd).1 (jG hv).1,if_neg hk]
  simp
 | p::P,w::vs,i+1,m,nd,h1,h2,hk=>by
  show NP kindOf ((p,w)::P.zip vs) m x=_
  unfold NP
  exact PY (i:=i) (gT.mp nd).2 (by simpa using h1) (by simpa using h2) hk
def start (N:List Str) (vs:List V):St:=vs.map some++List.replicate (N.length - vs.length) none
def Yj (CX:Yi) (P:cN) (w:dS) (K:aq) (mg:Str→Option ak) (base:Heap) (N:List Str) (qual:Str) (scope:mV) (f:Addr) (cd:ak) (A:Around) (outer:List Env) (s:az) (H:Hp) (E:XK):Cx where
 prog:=P
 w:=w
 K:=K
 mg:=mg
 base:=base
 A:=A.deeper (envOfC qual scope s.heap.objs.size f cd)
 N:=N
 PM:=s
 H_0:=H
 env:=envOfC qual scope s.heap.objs.size f cd
 outer:=outer
 stack:=envOfC qual scope s.heap.objs.size f cd::outer
 ex:=[]
 calm:=true
 fn:=fun _=>true
 pn:=[]
 xe:=fun e s'=>bO (model P w) (A.deeper (envOfC qual scope s.heap.objs.size f cd)) (leaving (envOfC qual scope s.heap.objs.size f cd) e) (fun _ s''=>CX outer H s E e s'') (fun e' s''=>CX outer H s E e' s'') s'
def S5 {sc:mV} {n:Nat} {x:Str} (h:sc.names.lookup x=some .cell):∃c,(fk n sc.names []).lookup x=some c:=by
 have q:=Cb sc.names n [] (.inl h)
 exact zV.mp q
def Yk {CX:Yi} {P:cN} {w:dS} {K:aq} {mg:Str→Option ak} {base:Heap} {N ps:List Str} {qual:Str} {scope:mV} {f:Addr} {cd:ak} {A:Around} {outer:List Env} {s s1:az} {H:Hp} {E:XK} {us:List ak} {vs:List V}
  (S:aW N ps scope) (hd:A.handled=none) (e0:VH P w K mg base A outer s H) (hl:vs.length=ps.length) (r:Vals vs us)
  (x:InCallC s s.heap.objs.size (NO (envOfC qual scope s.heap.objs.size f cd).kindOf (ps.zip us) fun _=>none) (fk (s.heap.objs.size+1) scope.names []) (NP (envOfC qual scope s.heap.objs.size f cd).kindOf (ps.zip us) fun _=>none) s1):
  Inv (Yj CX P w K mg base N qual scope f cd A outer s H E) [] (start N vs) H s1:=by
 have hpl:ps.length≤N.length:=by have:=congrArg c8 S.pre;rw[cc]at this;omega
 obtain⟨h1,tk,rfl,hk⟩:=x.done
 have noA:∀b:Addr,b∉(Yj CX P w K mg base N qual scope f cd A outer s H E).ex:=fun b z=>absurd (show b∈([]:List Addr)from z) (by simp)
 refine⟨⟨e0.mod,S.kind,rfl,rfl,aJ _,fun y z c h1 h2=>?_,fun y hy=>?_,fun y c _ h=>?_,fun _=>hd,Around.frames_deeper e0.frames,.inr ⟨rfl,rfl⟩,fun b z=>absurd z (noA b),e0.bs,e0.bsz,fun b _ _=>noA b,fun b z=>absurd z (noA b),e0.KL,e0.frf⟩,
  rfl,e0.bare,Un.kept hk,⟨_,x.toInCall.ns,fun i y v h1 h2 h3=>?_⟩,fun y c h=>⟨_,x.cell y c h⟩,e0.gX.fresh (aJ _),fun y c h=>?_,fun p hp=>absurd (show p∈([]:List (Addr×Obj))from hp) (by simp),e0.gX.kept hk,?_⟩
 ·exact name_of_addr x.apart (cP h1) (cP h2)
 ·have hy:scope.names.lookup y=some .cell∨scope.names.lookup y=some .free:=hy
  rcases hy with hy | hy
  ·exact S5 hy
  ·exact absurd rfl (S.acI _ (cP hy))
 ·exact Il (x.above y c (cP h))
 ·have hi:i < vs.length:=by
   unfold start at h2
   by_cases hi:i < vs.length
   ·exact hi
   ·rw[xP (by simpa using hi)]at h2
    rw[List.getElem?_replicate]at h2
    split at h2 <;> cases h2
  have ha:vs[i]? =some v:=by
   unfold start at h2
   rw[List.getElem?_append_left (by simpa using hi),b0]at h2
   cases e:vs[i]? with
   | none=>rw[e]at h2;cases h2
   | some a=>rw[e]at h2;cases h2;rfl
  obtain⟨u,hu,rv⟩:=r.get ha
  have hp:ps[i]? =some y:=by
   rw[← S.pre,List.getElem?_take_of_lt (by omega)];exact h1
  have ndP:ps.Nodup:=by rw[← S.pre];exact S.nd.sublist (List.take_sublist _ _)
  refine⟨u,rv,?_⟩
  rcases S.par y (a7 hp)with k | k
  ·exact .inl ⟨k,PX ndP hp hu k⟩
  ·obtain⟨c,e⟩:=S5 (n:=s.heap.objs.size+1) k
   refine .inr ⟨.inl k,c,e,?_⟩
   have q:=x.cell y c e
   rw[PY ndP hp hu (by show scope.names.lookup y≠_;rw[k];decide)]at q
   exact q
 ·exact e0.gX.fresh (Il (x.above y c (cP h)))
 ·unfold start
  show _=N.length
  rw[ae,ab,List.length_replicate]
  omega
def ad4 {CX:Yi} {P:cN} {w:dS} {K:aq} {mg:Str→Option ak} {base:Heap} {k:Nat} {f:Addr} {name qual:Str} {params:Arguments} {body:List Stmt} {scope:mV} {dV kV doc pm cdv ct oc:ak} {an od:Option Addr}
  {osl:Array (Option ak)} {N ps:List Str} {sp:Sp} (lk:K.lookup f=some ⟨oc,od,.func (fg name qual params body scope dV kV doc pm an cdv ct),osl⟩) (hcd:rk K cdv qual=true) (S:aW N ps scope)
  (len:∀vs H Q E,sp vs H Q E→vs.length=ps.length)
  (hbody:∀(A:Around) (outer:List Env) (s:az) (H:Hp) (vs:List V) (Q:VK) (E:XK),oZ k (A.deeper (envOfC qual scope s.heap.objs.size f cdv))→sp vs H Q E→
   ∃t,Vy (Yj CX P w K mg base N qual scope f cdv A outer s H E) body t∧t {nx:=fun _ H'=>Q .non H',rt:=Q} (start N vs) H):
  aZ P w K mg base CX (k+1) f (fg name qual params body scope dV kV doc pm an cdv ct) ps sp:=by
 refine⟨len,fun A outer s H args us vs Q E hr e0 hb r hsp=>?_⟩
 have hl:=len _ _ _ _ hsp
 have KX:K.In s.heap:=e0.mod.kin.keeps fun b o e=>(e0.bs b o e).1
 have lim:s.heap.NoLimit:=e0.mod.nolimit.keeps fun b o e=>(e0.bs b o e).1
 have hkind:∀y∈ps.zip us,scope.names.lookup y.1=some .local∨(scope.names.lookup y.1=some .cell∧((fk (s.heap.objs.size+1) scope.names []).lookup y.1).isSome=true):=fun⟨n,v⟩ hy=>by
  rcases S.par n (jG hy).1 with q | q
  ·exact .inl q
  ·exact .inr ⟨q,Cb _ _ _ (.inl q)⟩
 refine codeAny_call_function hr.depth (KX _ _ lk) rfl S.co S.gen rfl (PySem.W.codeRec_of KX hcd) (hb _ _ _ _ ?_)
 refine wpAny_newFunctionEnv_cells S.kind hkind fun env he s1 x=>?_
 subst he
 refine⟨lim.keeps x.toInCall.keep,codeAny_func ?_⟩
 obtain⟨t,ht,hq⟩:=hbody A outer s H vs Q E (hr.deeper _) hsp
 have I:Inv (Yj CX P w K mg base N qual scope f cdv A outer s H E) [] (start N vs) H s1:=Yk S hr.hd e0 hl r x
 refine iI (ht [] s1 (start N vs) H _ I hq) (fun fl s' hs=>?_) fun e s' hs=>hs
 have fin:∀{σ':St} {H':Hp} {v:V} {u:ak},Inv (Yj CX P w K mg base N qual scope f cdv A outer s H E) [] σ' H' s'→RelV v u→Q v H'→CE outer P w H s Q u s':=
  fun {σ' H' v u} J rv q=>⟨v,H',J.os,J.bare,J.base,J.gX,rv,q⟩
 cases fl with
 | ret u=>
  obtain⟨v,σ',H',J,rv,q⟩:=hs
  exact fin J rv q
 | next=>
  obtain⟨σ',H',J,q⟩:=hs
  exact fin (v:=V.non) (u:=mU) J rfl q
 | brk=>
  obtain⟨_,_,_,q⟩:=hs
  exact fR q
 | cont=>
  obtain⟨_,_,_,q⟩:=hs
  exact fR q
end L2
namespace L2
open PySem PySem.Spec PyProof.Rows
section
variable {X:Cx} {x:Str} {p pos:Pos} {e:Expr} {es:List Expr} {t:TA} {id T:String} {r:List V→Hp→VK→Prop}
def tCB (r:List V→Hp→VK→Prop) (t:TA):TE:=fun σ H Q=>t σ H fun vs H1=>r vs H1 Q
def cT (hc:Ct X (.builtin id) r) (hg:Gl X x) (hm:X.mg x=none) (hv:vS x=some (.builtin id)) (ha:PA X (e::es) t) (hn:x≠"__name__":=by decide) (hdb:(x==("__debug__":Str))=false:=by decide)
  (he:cw (e::es) X.env=(false,eval e X.env)::cw es X.env:=by rfl) (hpl:(iH pos (cw es X.env)).any (·.1)=false:=by rfl):PE X (.Call (.Name x p) (e::es) [] pos) (tCB r t):=by
 intro pins s σ H Q I h
 refine jm (Vz I hg hm hv ?_ hn hdb)
 exact JW (gR (ha pos pins s σ H _ I h) fun us s1 ⟨vs,H1,I1,r1,q1⟩=>hc pins s1 σ H1 vs us Q I1 r1 q1) he hpl
def vZ (hc:Ct X (.type T) r) (hg:Gl X x) (hm:X.mg x=none) (hv:vS x=some (.type T)) (ha:PA X (e::es) t) (hn:x≠"__name__":=by decide) (hdb:(x==("__debug__":Str))=false:=by decide)
  (he:cw (e::es) X.env=(false,eval e X.env)::cw es X.env:=by rfl) (hpl:(iH pos (cw es X.env)).any (·.1)=false:=by rfl):PE X (.Call (.Name x p) (e::es) [] pos) (tCB r t):=by
 intro pins s σ H Q I h
 refine jm (Vz I hg hm hv ?_ hn hdb)
 exact vU (gR (ha pos pins s σ H _ I h) fun us s1 ⟨vs,H1,I1,r1,q1⟩=>hc pins s1 σ H1 vs us Q I1 r1 q1) he hpl
end
end L2
namespace HT
open PySem PyProof.Rows
section
open PySem.SeqAt
open PySem.AutoSeq1 (wpAny_loadPart')
open PySem.MeetsSeq PySem.MeetsSeq2 PySem.MeetsSeq3
end
section
variable {prog:cN} {w:dS} {A:Around} {E:ak→az→Prop} {s:az}
def abc {t b:Addr} {vs ws:List ak} {Q:ak→az→Prop} (ht:IsTup s.heap t vs.toArray) (hb:IsTup s.heap b ws.toArray) (hv:vs≠[])
  (h1:ws=[]→Q (.ref t) s) (h2:ws≠[]→Q (.ref s.heap.objs.size) {s with heap:=s.heap.push {cls:=.type "tuple",data:=.seq (vs++ws).toArray}})
  (hsz:vs.length+ws.length≤ag):bO (model prog w) A (ui .Add (.ref t) (.ref b)) Q E s:=by
 obtain⟨⟨cls,dd,data,sl⟩,ho,hc,n,hd⟩:=id ht
 obtain⟨⟨cls2,dd2,data2,sl2⟩,ho2,hc2,n2,hd2⟩:=id hb
 simp only at hc hd hc2 hd2
 subst hc hd hc2 hd2
 have e:vs.toArray++ws.toArray=(vs++ws).toArray:=by simp
 by_cases hw:ws=[]
 ·exact Iz ⟨_,ho,rfl⟩ ⟨_,ho2,rfl⟩ AB FP rm pN (oB _ _)
   (tuple_addW1 t b vs.toArray ws.toArray n n2 dd dd2 sl sl2 (by simpa using hv) (by simp[hw])) ⟨ho,ho2,h1 hw⟩
 ·refine Iz ⟨_,ho,rfl⟩ ⟨_,ho2,rfl⟩ AB FP rm pN (oB _ _)
   (tuple_addW2 t b vs.toArray ws.toArray n n2 dd dd2 sl sl2 (by simpa using hv) (by simpa using hw) (by rw[a8,a8];exact hsz)) ⟨ho,ho2,?_⟩
  rw[e]
  exact h2 hw
def mh (n d:Nat):Option Int→Nat
 | none=>d
 | some v=>if v < 0 then(v+(n:Int)).toNat else min v.toNat n
def G0 (n d:Nat):mh n d none=d:=rfl
def W8 (n d k:Nat):mh n d (some (k:Int))=min k n:=by
 show(if(k:Int) < 0 then((k:Int)+(n:Int)).toNat else min (k:Int).toNat n)=min k n
 rw[if_neg (by omega),yZ]
def acJ (n d:Nat) (hd:d≤n) (o:Option Int):mh n d o≤n:=by
 cases o with
 | none=>exact hd
 | some v=>
  show(if v < 0 then(v+(n:Int)).toNat else min v.toNat n)≤n
  by_cases hv:v < 0
  ·rw[if_pos hv];omega
  ·rw[if_neg hv];exact Nat.min_le_right _ _
def W9 (v:Int) (n d:Nat):(if v < 0 then max (v+(n:Int)) 0 else min v (n:Int))=((mh n d (some v):Nat):Int):=by
 show(if v < 0 then max (v+(n:Int)) 0 else min v (n:Int))=(((if v < 0 then(v+(n:Int)).toNat else min v.toNat n):Nat):Int)
 by_cases hv:v < 0
 ·simp only[if_pos hv];omega
 ·simp only[if_neg hv];omega
def VI (lo hi:Option Int) (n:Nat):nJ lo hi 1 (n:Int)=(((mh n 0 lo:Nat):Int),((mh n n hi:Nat):Int)):=by
 have h1:¬((1:Int) < 0):=by omega
 unfold nJ
 simp only[h1,if_false]
 refine Prod.ext ?_ ?_
 ·cases lo with
  | none=>rfl
  | some v=>exact W9 v n 0
 ·cases hi with
  | none=>rfl
  | some v=>exact W9 v n n
def VJ (i j:Nat):jA (i:Int) (j:Int) 1=j - i:=by
 unfold jA
 have h1:(1:Int) > 0:=by omega
 simp only[h1,if_true,Int.ediv_one]
 split <;> omega
def LX {v:ak} {o:Option Int} {Q:Option Int→az→Prop} (p:IsPart v o) (h:Q o s):bO (model prog w) A (Lk v) Q E s:=by
 cases p with
 | none=>exact slicePart_none h
 | int i t=>exact slicePart_int h
def z5 {sl:Addr} {vl vu:ak} {lo hi:Option Int} {n:Nat} {Q:Int×Int×Nat→az→Prop} (hs:s.heap.IsSliceOf sl vl vu .none) (pl:IsPart vl lo) (pu:IsPart vu hi)
  (h:Q (((mh n 0 lo:Nat):Int),1,mh n n hi - mh n 0 lo) s):bO (model prog w) A (xQ (.ref sl) (pure (n:Int))) Q E s:=by
 obtain⟨os,hos,hcs,hds⟩:=id hs
 unfold xQ Og
 refine ax (ax (KG hos hds (x:=vl) rfl (ax (KG hos hds (x:=vu) rfl (ax (KG hos hds (x:=.none) rfl (aY ?_)))))))
 refine ax (slicePart_none ?_)
 show bO _ _ (if((1:Int)==0)=true then _ else _) _ _ s
 rw[if_neg (by decide)]
 refine ax (LX pl (ax (LX pu (ax (aY ?_)))))
 show bO _ _ (match nJ lo hi 1 (n:Int)with | (lo,hi)=>pure (lo,(1:Int),jA lo hi 1)) _ _ s
 rw[VI lo hi n]
 show bO _ _ (pure (((mh n 0 lo:Nat):Int),(1:Int),jA ((mh n 0 lo:Nat):Int) ((mh n n hi:Nat):Int) 1)) _ _ s
 rw[VJ]
 exact aY h
def ZO (xs:Array ak) (i k:Nat):((xM k).filterMap fun(m:Nat)=>xs[((i:Int)+(m:Int)*1).toNat]?).toArray=((xs.toList.drop i).take k).toArray:=by
 have e:(fun(m:Nat)=>xs[((i:Int)+(m:Int)*1).toNat]?)=fun m=>xs[i+m]?:=by
  funext m
  have:((i:Int)+(m:Int)*1).toNat=i+m:=by omega
  rw[this]
 rw[e]
 have:=pick_run xs i k
 rw[List.filterMap_map]at this
 have e2:((fun x=>xs[x]?)∘fun x=>i+x)=fun m=>xs[i+m]?:=rfl
 rw[e2]at this
 rw[this]
def G1 {t sl:Addr} {items:Array ak} {vl vu:ak} {lo hi:Option Int} {Q:ak→az→Prop} (ht:IsTup s.heap t items) (hs:s.heap.IsSliceOf sl vl vu .none) (pl:IsPart vl lo) (pu:IsPart vu hi)
  (hw:¬(mh items.size 0 lo=0∧mh items.size items.size hi=items.size))
  (h:Q (.ref s.heap.objs.size) {s with heap:=s.heap.push {cls:=.type "tuple",data:=.seq ((items.toList.drop (mh items.size 0 lo)).take (mh items.size items.size hi - mh items.size 0 lo)).toArray}})
  (hsz:items.size≤ag):bO (model prog w) A (vV (.ref t) (.ref sl)) Q E s:=by
 have htake:sizeOk (.seq ((items.toList.drop (mh items.size 0 lo)).take (mh items.size items.size hi - mh items.size 0 lo)).toArray):=by
  show((items.toList.drop (mh items.size 0 lo)).take (mh items.size items.size hi - mh items.size 0 lo)).toArray.size≤ag
  rw[a8,cc,dH,j9]
  omega
 have hj:mh items.size items.size hi≤items.size:=acJ _ _ (aJ _) hi
 obtain⟨os,hos,hcs,hds⟩:=id hs
 have hTs:s.TypeIs (.ref sl) "slice":=⟨os,hos,hcs⟩
 unfold vV
 try with_reducible refine lX ?_
 first | refine ax (aY ?_) | skip
 refine ax (IA ht.typeIs (by decide) ?_)
 refine ax (kO (name:=Cc "__getitem__") ht.typeIs ee
  (je ee ht.typeIs entry_tuple_getitem ?_ (args_tuple_getitem _ _)))
 show bO _ _ (xR (.ref t) >>=_) _ _ s
 refine ax (tupleItemsOf_ ht ?_)
 refine ax (IB hTs ?_)
 rw[if_pos (by decide)]
 refine ax (z5 hs pl pu ?_)
 have hno:¬((((mh items.size 0 lo:Nat):Int)==0&&(1:Int)==1&&(mh items.size items.size hi - mh items.size 0 lo)==items.size)=true):=by
  intro q
  rw[dh,dh]at q
  have q1:((mh items.size 0 lo:Nat):Int)=0:=eq_of_beq q.1.1
  have q2:mh items.size items.size hi - mh items.size 0 lo=items.size:=eq_of_beq q.2
  exact hw ⟨by omega,by omega⟩
 show bO _ _ (if(((mh items.size 0 lo:Nat):Int)==0&&(1:Int)==1&&(mh items.size items.size hi - mh items.size 0 lo)==items.size)=true then _ else _) _ _ s
 rw[if_neg hno,ZO]
 first
  | exact ax (m:=j2 _) (gN (aY ⟨_,rfl,aY h⟩) htake)
  | exact ax (m:=j2 _) (gN (ax (aY (aY ⟨_,rfl,aY h⟩))) htake)
  | exact ax (ax (m:=j2 _) (gN (aY (aY ⟨_,rfl,aY h⟩)) htake))
  | exact ax (ax (m:=j2 _) (gN (aY ⟨_,rfl,aY h⟩) htake))
end
end HT
namespace L2
open PySem PySem.Spec PyProof.Rows
abbrev TO:=St→Hp→(Option Int→Hp→Prop)→Prop
def PO (X:Cx) (e:Option Expr) (t:TO):Prop:=
 ∀(pins:List (Addr×Obj)) (s:az) (σ:St) (H:Hp) (Q:Option Int→Hp→Prop),Inv X pins σ H s→t σ H Q→
  bO (model X.prog X.w) X.A (evalPart e X.env) (fun u s'=>∃o H',Inv X pins σ H' s'∧IsPart u o∧Q o H') X.xe s
def abd:TO:=fun _ H Q=>Q none H
def ad5 (t:TE):TO:=fun σ H Q=>t σ H fun x H1=>∃i,x=.int i∧Q (some i) H1
section
variable {X:Cx} {e:Expr} {te:TE} {lo hi:Option Expr} {tl th:TO} {pos p2:Pos}
def AQ:PO X none abd:=by
 intro pins s σ H Q I h
 rw[Pz]
 exact aY ⟨none,H,I,.none,h⟩
def m3 (h:PE X e te):PO X (some e) (ad5 te):=by
 intro pins s σ H Q I hw
 rw[evalPart_some]
 refine gR (h pins s σ H _ I hw) fun u s1 ⟨x,H1,I1,r1,q1⟩=>?_
 obtain⟨i,rfl,q⟩:=q1
 obtain⟨t,rfl⟩:=r1
 exact⟨some i,H1,I1,.int i t,q⟩
def SlR (X:Cx) (r:V→Option Int→Option Int→Hp→VK→Prop):Prop:=
 ∀(pins:List (Addr×Obj)) (s:az) (σ:St) (H:Hp) (x:V) (v vl vu:ak) (lo hi:Option Int) (sl:Addr) (Q:VK),Inv X pins σ H s→RelV x v→s.heap.IsSliceOf sl vl vu .none→IsPart vl lo→IsPart vu hi→r x lo hi H Q→
  ∃T id,typeLookup (.type T) "__getitem__"=pure (some (.builtin id))∧s.TypeIs v T∧bO (model X.prog X.w) X.A (vV v (.ref sl)) (EP X pins σ Q) X.xe s
def tSl (r:V→Option Int→Option Int→Hp→VK→Prop) (te:TE) (tl th:TO):TE:=fun σ H Q=>te σ H fun x H1=>tl σ H1 fun l H2=>th σ H2 fun u H3=>r x l u H3 Q
def nS {r:V→Option Int→Option Int→Hp→VK→Prop} (hr:SlR X r) (he:PE X e te) (hl:PO X lo tl) (hu:PO X hi th):PE X (.Subscript e (.Slice lo hi none p2) pos) (tSl r te tl th):=by
 intro pins s σ H Q I h
 refine Subscript_ (gR (he pins s σ H _ I h) fun v s1 ⟨x,H1,I1,r1,q1⟩=>?_)
 refine wpAny_Slice (gR (hl pins s1 σ H1 _ I1 q1) fun vl s2 ⟨l,H2,I2,pl,q2⟩=>gR (hu pins s2 σ H2 _ I2 q2) fun vu s3 ⟨u,H3,I3,pu,q3⟩=>?_)
 rw[Pz]
 refine aY ?_
 have I4:Inv X pins σ H3 {s3 with heap:=s3.heap.push {cls:=.type "slice",data:=.fields #[vl,vu,.none]}}:=I3.kept (t':=s3.toks) fun b ob q=>bp _ q
 obtain⟨T,id,hT,ht,hg⟩:=hr pins {s3 with heap:=s3.heap.push {cls:=.type "slice",data:=.fields #[vl,vu,.none]}} σ H3 x v vl vu l u s3.heap.objs.size Q I4 r1 (WW ..) pl pu q3
 show bO (model X.prog X.w) X.A (subscriptTail e (.Slice lo hi none p2) v (.ref s3.heap.objs.size)) (EP X pins σ Q) X.xe {s3 with heap:=s3.heap.push {cls:=.type "slice",data:=.fields #[vl,vu,.none]}}
 exact tail_any (ops:=[.ref s3.heap.objs.size,v]) ht hT hg (by with_unfolding_all rfl)
def tJ (xs:List V) (lo hi:Option Int):List V:=(xs.drop (HT.mh xs.length 0 lo)).take (HT.mh xs.length xs.length hi - HT.mh xs.length 0 lo)
def Ka (xs:List V) (lo hi:Option Int):(tJ xs lo hi).length≤xs.length:=by
 unfold tJ
 rw[cc,dH]
 omega
def aeS (K:aq):V→Option Int→Option Int→Hp→VK→Prop:=fun x lo hi H Q=>∃a xs,x=.ref a∧iB K H a xs∧
 ¬(HT.mh xs.length 0 lo=0∧HT.mh xs.length xs.length hi=xs.length)∧∀p,H p=none→Q (.ref p) (upd H p (.tup (tJ xs lo hi)))
def acK:SlR X (aeS X.K):=by
 intro pins s σ H x v vl vu lo hi sl Q I rx hs pl pu h
 obtain⟨a,xs,rfl,hx,hw,q⟩:=h
 cases rx
 obtain⟨its,r,ht,hz⟩:=I.tuple hx
 have hlen:its.toArray.size=xs.length:=by rw[a8];exact r.length.symm
 refine⟨"tuple",_,ee.lookup,ht.typeIs,?_⟩
 refine HT.G1 ht hs pl pu (by rw[hlen];exact hw) ?_ (by rw[hlen];exact hz)
 rw[hlen]
 refine⟨.ref s.heap.objs.size,_,I.laid (t':=s.toks) (o:=.tup (tJ xs lo hi)) (fun b ob q=>bp _ q) (aJ _) ?_,rfl,q _ (I.gX.fresh (aJ _))⟩
 exact⟨bg (Ka xs lo hi) hz,_,(r.drop (HT.mh xs.length 0 lo)).take (HT.mh xs.length xs.length hi - HT.mh xs.length 0 lo),SR.new _ _⟩
def ad6 (K:aq):R2:=fun x y H Q=>EX4 fun a b xs ys=>x=.ref a∧y=.ref b∧iB K H a xs∧iB K H b ys∧xs≠[]∧xs.length+ys.length≤ag∧
 (ys=[]→Q (.ref a) H)∧(ys≠[]→∀p,H p=none→Q (.ref p) (upd H p (.tup (xs++ys))))
def Vals.Lr {xs:List V} {us:List ak} (r:Vals xs us):us=[]↔xs=[]:=by
 cases r with
 | nil=>simp
 | cons _ _=>simp
def abe:Fi X (ui .Add) (ad6 X.K):=by
 intro pins s σ H x y v u Q I rx ry h
 obtain⟨a,b,xs,ys,rfl,rfl,ha,hb,hx,hz,q1,q2⟩:=h
 cases rx
 cases ry
 obtain⟨its,r1,p1,_⟩:=I.tuple ha
 obtain⟨its2,r2,p2,_⟩:=I.tuple hb
 refine HT.abc p1 p2 (fun z=>hx (r1.Lr.mp z)) (fun z=>⟨.ref a,H,I,rfl,q1 (r2.Lr.mp z)⟩) (fun z=>?_) (by rw[← r1.length,← r2.length];exact hz)
 refine⟨.ref s.heap.objs.size,_,I.laid (t':=s.toks) (o:=.tup (xs++ys)) (fun b ob q=>bp _ q) (aJ _) ?_,rfl,q2 (fun w=>z (r2.Lr.mpr w)) _ (I.gX.fresh (aJ _))⟩
 exact⟨by rw[ae];exact hz,_,r1.append r2,SR.new _ _⟩
end
end L2
namespace L2
open PySem PySem.Spec PyProof.Rows
def ZP (n:Nat) (i:Int):Option Nat:=if 0≤i then(if i < n then some i.toNat else none)else if -(n:Int)≤i then some (i+n).toNat else none
def Yl {α:Type} (xs:List α) (i:Int):Option α:=(ZP xs.length i).bind fun j=>xs[j]?
def Xa {n:Nat} {i:Int} {j:Nat} (h:ZP n i=some j):seqIndex? i n=some j∧j < n∧-(n:Int)≤i∧i < n:=by
 unfold ZP at h
 by_cases h0:0≤i
 ·rw[if_pos h0]at h
  by_cases h1:i < n
  ·rw[if_pos h1]at h
   have e:i.toNat=j:=bu h
   exact⟨by rw[KH h0 h1,e],by omega,by omega,h1⟩
  ·rw[if_neg h1]at h;cases h
 ·rw[if_neg h0]at h
  by_cases h1:-(n:Int)≤i
  ·rw[if_pos h1]at h
   have e:(i+n).toNat=j:=bu h
   exact⟨by rw[IC (by omega) h1,e],by omega,h1,by omega⟩
  ·rw[if_neg h1]at h;cases h
def Xb {α:Type} {xs:List α} {i:Int} {v:α} (h:Yl xs i=some v):∃j,seqIndex? i xs.length=some j∧xs[j]? =some v∧j < xs.length∧-(xs.length:Int)≤i∧i < xs.length:=by
 unfold Yl at h
 cases e:ZP xs.length i with
 | none=>rw[e]at h;cases h
 | some j=>
  rw[e]at h
  obtain⟨h1,h2,h3,h4⟩:=Xa e
  exact⟨j,h1,h,h2,h3,h4⟩
def dJ {α:Type} {xs:List α} {j:Nat} {v:α} (h:xs[j]? =some v):Yl xs (j:Int)=some v:=by
 have hj:j < xs.length:=(ay.mp h).1
 have e:ZP xs.length (j:Int)=some j:=by
  unfold ZP
  rw[if_pos (by omega),if_pos (by omega)];simp
 unfold Yl;rw[e];exact h
def S6 {α:Type} (xs:List α) (v:α):Yl (xs++[v]) (-1)=some v:=by
 have hl:(xs++[v]).length=xs.length+1:=by simp
 have e:ZP (xs++[v]).length (-1)=some xs.length:=by
  unfold ZP
  rw[hl,if_neg (by decide),if_pos (by omega)]
  congr 1
  omega
 unfold Yl
 rw[e]
 show(xs++[v])[xs.length]? =some v
 simp
def abf (b:Expr):Prop:=∀o i,subscripted b false o i=operate [o,i] (vV o i)
def IxR (X:Cx) (r:R2):Prop:=
 ∀(value slice:Expr) (pins:List (Addr×Obj)) (s:az) (σ:St) (H:Hp) (x y:V) (v u:ak) (Q:VK),Inv X pins σ H s→RelV x v→RelV y u→r x y H Q→
  subscripted slice false v u=operate [v,u] (vV v u)→bO (model X.prog X.w) X.A (subscriptTail value slice v u) (EP X pins σ Q) X.xe s
def MtR (X:Cx) (id:String) (r:V→List V→Hp→VK→Prop):Prop:=
 ∀(pins:List (Addr×Obj)) (s:az) (σ:St) (H:Hp) (x:V) (xs:List V) (v:ak) (us:List ak) (Q:VK),Inv X pins σ H s→RelV x v→Vals xs us→r x xs H Q→
  bO (model X.prog X.w) X.A (call (.builtin id) (v::us)) (EP X pins σ Q) X.xe s
section
variable {X:Cx} {a b:Expr} {ta tb:TE} {pos:Pos}
def gv {r:R2} (hr:IxR X r) (ha:PE X a ta) (hb:PE X b tb) (hs:abf b):PE X (.Subscript a b pos) (tOp r ta tb):=by
 intro pins s σ H Q I h
 exact Subscript_ (acF ha hb I h fun v u s2 x y H2 I2 rx ry q=>hr a b pins s2 σ H2 x y v u Q I2 rx ry q (hs _ _))
def aeT (K:aq):R2:=fun x y H Q=>EX4 fun p xs i v=>x=.ref p∧y=.int i∧g6 K H p xs∧Yl xs i=some v∧Q v H
def ad7 (K:aq):R2:=fun x y H Q=>EX4 fun p xs i v=>x=.ref p∧y=.int i∧iB K H p xs∧Yl xs i=some v∧Q v H
def AR:IxR X (aeT X.K):=by
 intro value slice pins s σ H x y v u Q I rx ry h hs
 obtain⟨p,xs,i,z,rfl,rfl,hq,he,q⟩:=h
 cases rx
 obtain⟨t,rfl⟩:=ry
 obtain⟨its,r,pl,hz⟩:=I.list hq
 obtain⟨j,h1,h2,h3,h4,h5⟩:=Xb he
 obtain⟨w,ew,rw'⟩:=r.get h2
 have hl:=r.length
 have hn:=LU
 have fin:EP X pins σ Q w s:=⟨z,H,I,rw',q⟩
 by_cases h0:0≤i
 ·have hj:i.toNat=j:=by
   rw[KH h0 h5]at h1
   exact bu h1
  exact item_listR pl.isList h0 (by omega) (by rw[hj];simpa using ew) fin hs
 ·have hj:(i+(its.toArray.size:Int)).toNat=j:=by
   rw[IC (by omega) h4]at h1
   rw[a8,← hl]
   exact bu h1
  exact subscriptTail_builtinR (x:=w) pl.isList.typeIs ID.lookup
   (wpAny_getItem_list_neg (Q:=fun r s'=>r=w∧EP X pins σ Q r s') pl.isList (by omega) (by rw[a8] <;> omega) (by omega) (by rw[hj];simpa using ew) ⟨rfl,fin⟩) hs
def fH:IxR X (ad7 X.K):=by
 intro value slice pins s σ H x y v u Q I rx ry h hs
 obtain⟨p,xs,i,z,rfl,rfl,hq,he,q⟩:=h
 cases rx
 obtain⟨t,rfl⟩:=ry
 obtain⟨its,r,pl,hz⟩:=I.tuple hq
 obtain⟨j,h1,h2,h3,h4,h5⟩:=Xb he
 obtain⟨w,ew,rw'⟩:=r.get h2
 have hl:=r.length
 have hn:=LU
 have fin:EP X pins σ Q w s:=⟨z,H,I,rw',q⟩
 exact subscriptTail_builtinR (x:=w) pl.typeIs slot_tuple_getitem.lookup
  (getItem_tuple (j:=j) (Q:=fun r s'=>r=w∧EP X pins σ Q r s') pl (by omega) (by omega) (by rw[a8,← hl];exact h1) (by simpa using ew) ⟨rfl,fin⟩) hs
def VL (its:List ak) (n j:Nat) (u:ak):Cd (·.setIfInBounds j u) {cls:=.type "list",data:=.seq its.toArray n}={cls:=.type "list",data:=.seq (its.set j u).toArray n}:=by
 simp[Cd]
def Inv.lst {pins:List (Addr×Obj)} {σ:St} {H:Hp} {s:az} {p:Addr} {xs:List V} (I:Inv X pins σ H s) (h:H p=some (.lst xs)):
  ∃(its:List ak) (n:Nat),Vals xs its∧s.heap.get? p=some {cls:=.type "list",data:=.seq its.toArray n}∧xs.length≤ag:=by
 obtain⟨z,its,n,r,e⟩:=I.gX p _ h
 exact⟨its,n,r,e,z⟩
def Inv.acL {pins:List (Addr×Obj)} {σ:St} {H:Hp} {s:az} {p:Addr} {xs ys:List V} {its its':List ak} {n n':Nat} {f:Obj→Obj} (I:Inv X pins σ H s) (h:H p=some (.lst xs))
  (ho:s.heap.get? p=some {cls:=.type "list",data:=.seq its.toArray n}) (hf:f {cls:=.type "list",data:=.seq its.toArray n}={cls:=.type "list",data:=.seq its'.toArray n'}) (r:Vals ys its') (hz:ys.length≤ag) (t:Nat):
  Inv X pins σ (upd H p (.lst ys)) {s with heap:=s.heap.update p f,toks:=t}:=by
 have e:(s.heap.update p f).get? p=some {cls:=.type "list",data:=.seq its'.toArray n'}:=by
  rw[CV f ho (by rw[hf] <;> rfl),hf]
 refine I.write (x:=p) (e:=p) (by rw[h];trivial) (.inl rfl) (fun b u hb q=>(Ce _ _ (dv hb)).trans q) ⟨_,e⟩ ?_
 exact⟨hz,its',n',r,e⟩
def ad8:V→V→V→Hp→(Hp→Prop)→Prop:=fun o i v H Q=>∃p xs k j,o=.ref p∧i=.int k∧H p=some (.lst xs)∧ZP xs.length k=some j∧Q (upd H p (.lst (xs.set j v)))
def set_list:adV X ad8:=by
 intro pins s σ H o i v ov iv u Q I ro ri rv h
 obtain⟨p,xs,k,j,rfl,rfl,hp,hj,q⟩:=h
 cases ro
 obtain⟨t,rfl⟩:=ri
 obtain⟨its,n,r,ho,hz⟩:=I.lst hp
 obtain⟨h1,h2,h3,h4⟩:=Xa hj
 have hl:=r.length
 have hn:=LU
 have I':Inv X pins σ (upd H p (.lst (xs.set j v))) {s with heap:=s.heap.update p (Cd (·.setIfInBounds j u))}:=
  I.acL hp ho (VL its n j u) (r.set rv j) (by rw[Ll];exact hz) s.toks
 by_cases h0:0≤k
 ·have hk:k.toNat=j:=by
   rw[KH h0 h4]at h1
   exact bu h1
  exact PySem.W.ki_setAt ho h0 (by omega) (by rw[a8,← hl];exact h4) (by rw[hk];exact⟨_,I',q⟩)
 ·have hk:(k+(its.toArray.size:Int)).toNat=j:=by
   rw[IC (by omega) h3]at h1
   rw[a8,← hl]
   exact bu h1
  exact PySem.W.ki_setBack ho (by omega) (by rw[a8,← hl];exact h3) (by omega) (by rw[hk];exact⟨_,I',q⟩)
def QT (lo hi:Option Int) (n:Nat):(pO lo hi none n).1=((HT.mh n 0 lo:Nat):Int)∧(pO lo hi none n).2.1=((HT.mh n n hi:Nat):Int)∧(pO lo hi none n).2.2=1:=by
 refine⟨?_,?_,rfl⟩
 ·cases lo with
  | none=>simp[pO,HT.mh]
  | some i=>
   simp only[pO,HT.mh,JX,show(1:Int) > 0 by decide,if_true]
   by_cases h:i < 0
   ·simp only[h,if_true] <;> omega
   ·simp only[h,if_false] <;> omega
 ·cases hi with
  | none=>simp[pO,HT.mh]
  | some i=>
   simp only[pO,HT.mh,JX,show(1:Int) > 0 by decide,if_true]
   by_cases h:i < 0
   ·simp only[h,if_true] <;> omega
   ·simp only[h,if_false] <;> omega
def Om (its:List ak) (lo hi:Option Int):slicePick its.toArray lo hi none=((its.drop (HT.mh its.length 0 lo)).take (HT.mh its.length its.length hi - HT.mh its.length 0 lo)).toArray:=by
 obtain⟨h1,h2,h3⟩:=QT lo hi its.toArray.size
 unfold slicePick
 rw[h1,h2,h3]
 simp only[sliceRange_one,pick_run,a8] <;> rfl
def aeU (K:aq):V→Option Int→Option Int→Hp→VK→Prop:=fun x lo hi H Q=>∃a xs,x=.ref a∧g6 K H a xs∧∀p,H p=none→Q (.ref p) (upd H p (.lst (tJ xs lo hi)))
def AS:SlR X (aeU X.K):=by
 intro pins s σ H x v vl vu lo hi sl Q I rx hs pl pu h
 obtain⟨a,xs,rfl,hx,q⟩:=h
 cases rx
 obtain⟨its,r,ht,hz⟩:=I.list hx
 have hlen:=r.length
 refine⟨"list",_,ID.lookup,ht.isList.typeIs,?_⟩
 refine wpAny_getItem_list_slice ht.isList hs pl pu .none (by simp) ?_ (by rw[a8] <;> omega)
 rw[Om,← hlen]
 refine⟨.ref s.heap.objs.size,_,I.laid (t':=s.toks) (o:=.lst (tJ xs lo hi)) (fun b ob q=>bp _ q) (aJ _) ?_,rfl,q _ (I.gX.fresh (aJ _))⟩
 exact⟨bg (Ka xs lo hi) hz,_,0,(r.drop (HT.mh xs.length 0 lo)).take (HT.mh xs.length xs.length hi - HT.mh xs.length 0 lo),b4 _ rfl⟩
def z6:V→Bool
 | .non=>true
 | .bl _=>true
 | .int _=>true
 | .str _=>true
 | _=>false
def ZQ:V→V→Bool
 | .non,.non=>true
 | .bl a,.bl b=>a==b
 | .bl a,.int b=>(if a then 1 else 0)==b
 | .int a,.bl b=>a==(if b then 1 else 0)
 | .int a,.int b=>a==b
 | .str a,.str b=>a==b
 | _,_=>false
def acM {A:Around} {s:az} {y x:V} {u v:ak} (ry:RelV y u) (rx:RelV x v) (fy:z6 y=true) (fx:z6 x=true):NQ A s u v (ZQ y x):=by
 cases y with
 | non=>
  cases ry
  cases x with
  | non=>cases rx;exact Zu _
  | bl b=>cases rx;exact Vb b
  | int b=>obtain⟨t,rfl⟩:=rx;exact Vo b t
  | str b=>obtain⟨t,rfl⟩:=rx;exact Vp b t
  | _=>exact absurd (show false=true from fx) bG
 | bl a=>
  cases ry
  cases x with
  | non=>cases rx;exact Vc a
  | bl b=>cases rx;exact Vd a b
  | int b=>obtain⟨t,rfl⟩:=rx;exact Vq a b t
  | str b=>obtain⟨t,rfl⟩:=rx;exact Vr a b t
  | _=>exact absurd (show false=true from fx) bG
 | int a=>
  obtain⟨t',rfl⟩:=ry
  cases x with
  | non=>cases rx;exact Vs a t'
  | bl b=>cases rx;exact Vt a t' b
  | int b=>obtain⟨t,rfl⟩:=rx;exact WX a t' b t
  | str b=>obtain⟨t,rfl⟩:=rx;exact GH a t' b t
  | _=>exact absurd (show false=true from fx) bG
 | str a=>
  obtain⟨t',rfl⟩:=ry
  cases x with
  | non=>cases rx;exact Vu a t'
  | bl b=>cases rx;exact Vv a t' b
  | int b=>obtain⟨t,rfl⟩:=rx;exact GJ a t' b t
  | str b=>obtain⟨t,rfl⟩:=rx;exact WY a t' b t
  | _=>exact absurd (show false=true from fx) bG
 | _=>exact absurd (show false=true from fy) bG
def Vk (x:V) (u:ak):Bool:=match u with
 | .none=>ZQ .non x
 | .bool b=>ZQ (.bl b) x
 | .int i _=>ZQ (.int i) x
 | .str z _=>ZQ (.str z) x
 | _=>false
def QU {x y:V} {u:ak} (r:RelV y u) (f:z6 y=true):Vk x u=ZQ y x:=by
 cases y with
 | non=>cases r;rfl
 | bl b=>cases r;rfl
 | int i=>obtain⟨t,rfl⟩:=r;rfl
 | str z=>obtain⟨t,rfl⟩:=r;rfl
 | _=>exact absurd (show false=true from f) bG
theorem G2 {x:V}:∀{xs:List V} {us:List ak},Vals xs us→xs.all z6=true→us.any (Vk x)=xs.any fun y=>ZQ y x
 | _,_,.nil,_=>rfl
 | y::xs,u::us,.cons r t,f=>by
  rw[zW,dh]at f
  rw[fG,fG,QU r f.1,G2 t f.2]
theorem z7 {A:Around} {s:az} {x:V} {v:ak} (rx:RelV x v) (fx:z6 x=true):∀{xs:List V} {us:List ak},Vals xs us→xs.all z6=true→∀u∈us,NQ A s u v (Vk x u)
 | _,_,.nil,_=>fun u hu=>by cases hu
 | y::xs,u::us,.cons r t,f=>fun u' hu=>by
  rw[zW,dh]at f
  rcases bx.mp hu with rfl | hu
  ·rw[QU r f.1];exact acM r rx f.1 fx
  ·exact z7 rx fx t f.2 u' hu
def S7 (x:V) (xs:List V):Bool:=xs.any fun y=>ZQ y x
def rIn (K:aq) (neg:Bool):R2:=fun x y H Q=>EX2 fun p xs=>y=.ref p∧(g6 K H p xs∨iB K H p xs)∧z6 x=true∧xs.all z6=true∧Q (.bl (if neg then !S7 x xs else S7 x xs)) H
def v8:Fi X (d8 .In) (rIn X.K false):=by
 intro pins s σ H x y v u Q I rx ry h
 obtain⟨p,xs,rfl,hq,fx,fs,q⟩:=h
 cases ry
 rcases hq with hq | hq
 ·obtain⟨its,r,pl,hz⟩:=I.list hq
  refine SeqAt.in_listAt (Vk x) pl.isList (fun w hw=>z7 rx fx r fs w (by simpa using hw)) ⟨.bl _,H,I,rfl,?_⟩
  rw[show its.toArray.any (Vk x)=its.any (Vk x)by simp,G2 r fs]
  exact q
 ·obtain⟨its,r,pl,hz⟩:=I.tuple hq
  refine SeqAt.in_tupleAt (Vk x) pl (fun w hw=>z7 rx fx r fs w (by simpa using hw)) ⟨.bl _,H,I,rfl,?_⟩
  rw[show its.toArray.any (Vk x)=its.any (Vk x)by simp,G2 r fs]
  exact q
def QV:Fi X (d8 .NotIn) (rIn X.K true):=by
 intro pins s σ H x y v u Q I rx ry h
 obtain⟨p,xs,rfl,hq,fx,fs,q⟩:=h
 cases ry
 rcases hq with hq | hq
 ·obtain⟨its,r,pl,hz⟩:=I.list hq
  refine SeqAt.notIn_listAt (Vk x) pl.isList (fun w hw=>z7 rx fx r fs w (by simpa using hw)) ⟨.bl _,H,I,rfl,?_⟩
  rw[show its.toArray.any (Vk x)=its.any (Vk x)by simp,G2 r fs]
  exact q
 ·obtain⟨its,r,pl,hz⟩:=I.tuple hq
  refine SeqAt.notIn_tupleAt (Vk x) pl (fun w hw=>z7 rx fx r fs w (by simpa using hw)) ⟨.bl _,H,I,rfl,?_⟩
  rw[show its.toArray.any (Vk x)=its.any (Vk x)by simp,G2 r fs]
  exact q
def cX:Ct X (.builtin "len") (fun xs H Q=>∃p ys,xs=[.ref p]∧(g6 X.K H p ys∨iB X.K H p ys)∧Q (.int ys.length) H):=by
 intro pins s σ H xs us Q I r h
 obtain⟨p,ys,rfl,hq,q⟩:=h
 obtain⟨u,rfl,rx⟩:=vals1 r
 cases rx
 have hn:=LU
 rcases hq with hq | hq
 ·obtain⟨its,r',pl,hz⟩:=I.list hq
  have hlen:=r'.length
  exact Calls.call_len_list pl.isList (by simp only[a8] <;> omega) ⟨.int ys.length,H,I.tok _,⟨s.toks+1,by rw[a8,hlen]⟩,q⟩
 ·obtain⟨its,r',pl,hz⟩:=I.tuple hq
  have hlen:=r'.length
  exact len_tuple pl (by simp only[a8] <;> omega) ⟨.int ys.length,H,I.tok _,⟨s.toks+1,by rw[a8,hlen]⟩,q⟩
def AU:Ct X (.type "list") (fun xs H Q=>∃p ys,xs=[.ref p]∧(g6 X.K H p ys∨iB X.K H p ys)∧∀l,H l=none→Q (.ref l) (upd H l (.lst ys))):=by
 intro pins s σ H xs us Q I r h
 obtain⟨p,ys,rfl,hq,q⟩:=h
 obtain⟨u,rfl,rx⟩:=vals1 r
 cases rx
 have fin:∀(its:List ak),Vals ys its→ys.length≤ag→∀(h':Heap) (c':Nat),(∀b o',s.heap.get? b=some o'→h'.get? b=some o')→
   h'.get? s.heap.objs.size=some {cls:=.type "list",dict:=none,data:=.seq its.toArray c',slots:=#[]}→EP X pins σ Q (.ref s.heap.objs.size) {s with heap:=h'}:=fun its r' hz h' c' kp e=>
  ⟨.ref s.heap.objs.size,_,I.laid (t':=s.toks) kp (aJ _) (show jw X.prog X.w _ h' _ (.lst ys)from⟨hz,its,c',r',e⟩),rfl,q _ (I.gX.fresh (aJ _))⟩
 rcases hq with hq | hq
 ·obtain⟨its,r',pl,hz⟩:=I.list hq
  have hlen:=r'.length
  obtain⟨o,ho,hc,n,hd⟩:=pl.isList
  exact PB p (.inl rfl) ho hc hd (fun h' c' kp e=>fin its r' hz h' c' kp e) (by simp only[a8] <;> omega)
 ·obtain⟨its,r',pl,hz⟩:=I.tuple hq
  have hlen:=r'.length
  obtain⟨o,ho,hc,n,hd⟩:=pl
  exact PB p (.inr rfl) ho hc hd (fun h' c' kp e=>fin its r' hz h' c' kp e) (by simp only[a8] <;> omega)
def Oo:Ct X (.type "tuple") (fun xs H Q=>∃p ys,xs=[.ref p]∧((g6 X.K H p ys∧∀l,H l=none→Q (.ref l) (upd H l (.tup ys)))∨(iB X.K H p ys∧Q (.ref p) H))):=by
 intro pins s σ H xs us Q I r h
 obtain⟨p,ys,rfl,h⟩:=h
 obtain⟨u,rfl,rx⟩:=vals1 r
 cases rx
 rcases h with⟨hq,q⟩ | ⟨hq,q⟩
 ·obtain⟨its,r',pl,hz⟩:=I.list hq
  have hlen:=r'.length
  refine call_tuple_list pl.isList (fun h' kp=>?_) (by simp only[a8] <;> omega)
  have I1:Inv X pins σ H {s with heap:=h'}:=I.kept (t':=s.toks) kp
  have I2:Inv X pins σ (upd H h'.objs.size (.tup ys)) {s with heap:=h'.push {cls:=.type "tuple",data:=.seq its.toArray}}:=
   I1.laid (t':=s.toks) (fun b o e=>bp _ e) (aJ _) (show jw X.prog X.w _ _ _ (.tup ys)from⟨hz,its,r',SR.new _ _⟩)
  exact⟨.ref h'.objs.size,_,I2,rfl,q _ (I1.gX.fresh (aJ _))⟩
 ·obtain⟨its,r',pl,hz⟩:=I.tuple hq
  exact call_tuple_same pl ⟨.ref p,H,I,rfl,q⟩
def tyV (K:aq) (T:String) (x:V) (H:Hp):Prop:=match x with
 | .str _=>T="str"
 | .int _=>T="int"
 | .ref p=>(T="list"∧∃xs,g6 K H p xs)∨(T="tuple"∧∃o,K.lookup p=some o∧o.cls=.type "tuple"∧o.dict=none)∨
   (T="dict"∧((∃kvs,H p=some (.dK kvs))∨∃kvs,H p=some (.dT kvs)))∨(T="set"∧∃S n,H p=some (.set S n))
 | _=>False
def acN {pins:List (Addr×Obj)} {σ:St} {H:Hp} {s:az} {T:String} {x:V} {v:ak} (I:Inv X pins σ H s) (r:RelV x v) (ty:tyV X.K T x H):
  s.TypeIs v T∧∀a,v=.ref a→∃ob,s.heap.get? a=some ob∧ob.dict=none:=by
 cases x with
 | str z=>
  obtain⟨t,rfl⟩:=r
  cases (show T="str" from ty)
  exact⟨typeIs_str s z t,fun _ e=>nomatch e⟩
 | int i=>
  obtain⟨t,rfl⟩:=r
  cases (show T="int" from ty)
  exact⟨typeIs_int s i t,fun _ e=>nomatch e⟩
 | ref p=>
  cases r
  rcases ty with⟨rfl,xs,hq⟩ | ⟨rfl,o,hk,hc,hd⟩ | ⟨rfl,hk⟩ | ⟨rfl,S,n,hk⟩
  ·obtain⟨its,_,pl,_⟩:=I.list hq
   refine⟨pl.isList.typeIs,fun a e=>?_⟩
   cases e
   obtain⟨o,n,e,c,hd,_⟩:=pl
   exact⟨o,e,hd⟩
  ·refine⟨⟨o,I.Vj p o hk,hc⟩,fun a e=>?_⟩
   cases e
   exact⟨o,I.Vj _ o hk,hd⟩
  ·have z:∃o,s.heap.get? p=some o∧o.ExactDict:=by
    rcases hk with⟨kvs,hk⟩ | ⟨kvs,hk⟩
    ·obtain⟨_,_,_,_,o,_,_,e,ex,_⟩:=I.gX p _ hk
     exact⟨o,e,ex⟩
    ·obtain⟨_,_,_,_,o,_,_,e,ex,_⟩:=I.gX p _ hk
     exact⟨o,e,ex⟩
   obtain⟨o,e,ex⟩:=z
   refine⟨⟨o,e,ex.1⟩,fun a e2=>?_⟩
   cases e2
   exact⟨o,e,ex.2.1⟩
  ·obtain⟨o,_,_,_,e,ex,_⟩:=I.gX p _ hk
   refine⟨⟨o,e,ex.1⟩,fun a e2=>?_⟩
   cases e2
   exact⟨o,e,ex.2.1⟩
 | _=>exact fR ty
def tBM (K:aq) (T:String) (r:V→List V→Hp→VK→Prop) (to:TE) (t:TA):TE:=fun σ H Q=>to σ H fun x H1=>tyV K T x H1∧t σ H1 fun xs H2=>r x xs H2 Q
variable {o e:Expr} {es:List Expr} {to:TE} {t:TA} {name:Str} {apos g8:Pos} {T id:String} {r:V→List V→Hp→VK→Prop}
def pD (pa:PlainAttrs T) (slot:Slot T name id) (hty:typeOf (.builtin id)=pure (.type "method_descriptor")) (hm:MtR X id r) (ho:PE X o to) (ha:PA X (e::es) t)
  (hbase:lY o name X.env (eval o X.env)=eval o X.env:=by rfl)
  (hfew:((iH g8 (cw (e::es) X.env)).all (fun x=>!x.1)&&(rj g8 (jP [] X.env)).all (fun x=>x.1.isSome)
   &&decide ((e::es).length+([]:List yY).length+(if([]:List yY).isEmpty then 0 else 1) < 30))=true:=by rfl)
  (hline:(apos.endLine==g8.line)=true:=by rfl) (hs:cw (e::es) X.env=(false,eval e X.env)::cw es X.env:=by rfl) (hplain:(iH g8 (cw es X.env)).any (·.1)=false:=by rfl):
  PE X (.Call (.Attribute o name apos) (e::es) [] g8) (tBM X.K T r to t):=by
 intro pins s σ H Q I h
 refine Cf hbase hfew hline rfl (gR (ho pins s σ H _ I h) fun v s1 ⟨x,H1,I1,r1,ty,q1⟩=>?_)
 obtain⟨h1,h2⟩:=acN I1 r1 ty
 refine⟨T,id,pa,slot,hty,h1,h2,?_⟩
 have hA:=ha g8 pins s1 σ H1 _ I1 q1
 rw[hs]at hA⊢
 refine la (by show(false||(iH g8 (cw es X.env)).any (·.1))=false;rw[hplain] <;> rfl) (mW ?_)
 exact gR hA fun us s2 ⟨vs,H2,I2,r2,q2⟩=>hm pins s2 σ H2 x vs v us Q I2 r1 r2 q2
end
end L2
namespace L2
open PySem PySem.Spec PyProof.Rows
def MtM (X:Cx) (id:String) (r:V→List V→Hp→VK→Prop):Prop:=
 ∀(pins:List (Addr×Obj)) (s:az) (σ:St) (H:Hp) (x:V) (xs:List V) (v:ak) (us:List ak) (Q:VK),Inv X pins σ H s→RelV x v→Vals xs us→r x xs H Q→
  bO (model X.prog X.w) X.A (call (.builtin id) (v::us)) (EP X pins σ Q) X.xe s
def Vals.one:∀{x:V} {us:List ak},Vals [x] us→∃u,us=[u]∧RelV x u
 | _,_,.cons r .nil=>⟨_,rfl,r⟩
section
variable {X:Cx} {pins:List (Addr×Obj)} {σ:St} {H:Hp} {s:az} {l b:Addr} {xs ys zs:List V}
def Inv.acO {its its':List ak} {n:Nat} {f:Array ak→Array ak} {t':Nat} (I:Inv X pins σ H s) (hH:H l=some (.lst xs))
  (e:s.heap.get? l=some {cls:=.type "list",data:=.seq its.toArray n}) (hf:f its.toArray=its'.toArray) (hv:Vals ys its') (hz:ys.length≤ag):
  Inv X pins σ (upd H l (.lst ys)) {s with heap:=s.heap.update l (Cd f),toks:=t'}:=by
 have q:=PySem.IsL.update e f
 rw[hf]at q
 refine I.write (x:=l) (e:=l) (by rw[hH];exact trivial) (.inl rfl) (fun b' u hb hu=>(Ce s.heap (Cd f) (dv hb)).trans hu) ⟨_,q⟩ ?_
 exact⟨hz,its',_,hv,q⟩
def Inv.aeV {its:List ak} {t':Nat} (I:Inv X pins σ H s) (hv:Vals ys its) (hz:ys.length≤ag):
  Inv X pins σ (upd H s.heap.objs.size (.lst ys)) {s with heap:=s.heap.push {cls:=.type "list",data:=.seq its.toArray},toks:=t'}:=
 I.laid (fun _ _ q=>bp _ q) (aJ _) ⟨hz,its,0,hv,b4 _ rfl⟩
def Inv.fresh (I:Inv X pins σ H s):H s.heap.objs.size=none:=I.gX.fresh (aJ _)
def Inv.acP (I:Inv X pins σ H s) (hH:H l=some (.lst xs)):xs.length≤ag∧∃(its:List ak) (n:Nat),Vals xs its∧xs.length=its.length∧s.heap.get? l=some {cls:=.type "list",data:=.seq its.toArray n}:=by
 obtain⟨z,its,n,r,e⟩:=I.gX l _ hH
 exact⟨z,its,n,r,r.length,e⟩
def S8 {n:Nat} (h:n≤ag):j3 n=false:=by
 unfold j3
 exact decide_eq_false (by omega)
end
section
variable {X:Cx}
def abg:V→List V→Hp→VK→Prop:=fun x vs H Q=>∃l xs y,x=.ref l∧vs=[y]∧H l=some (.lst xs)∧xs.length < ag∧Q .non (upd H l (.lst (xs++[y])))
def ke:MtM X "list.append" abg:=by
 intro pins s σ H x vs v us Q I rx rv h
 obtain⟨l,xs,y,rfl,rfl,hH,hz,q⟩:=h
 cases rx
 obtain⟨u,rfl,ru⟩:=rv.one
 obtain⟨z,its,n,r,hl,e⟩:=I.acP hH
 refine GN F.slot_list_append ⟨_,e,rfl⟩ F.entry_list_append (F.args_list_append_2 _ _) (PySem.list_append l its.toArray n u (by rw[a8];omega)) ⟨e,?_⟩
 refine⟨.non,_,I.acO (its':=its++[u]) hH e (by simp) (r.append (.cons ru .nil)) ?_,rfl,q⟩
 rw[ae,List.length_singleton]
 omega
end
section
variable {prog:cN} {w:dS} {A:Around} {E:ak→az→Prop} {s:az}
set_option maxRecDepth 100000 in
end
section
variable {X:Cx}
end
end L2
namespace L2
open PySem PySem.Spec PyProof.Rows
theorem Vals.ints:∀{ns:List Int} {us:List ak},Vals (ns.map V.int) us→IntsAre us ns
 | [],us,h=>by
  rw[rA]at h
  cases h
  exact IntsAre.nil
 | n::ns,us,h=>by
  rw[aT]at h
  cases h with
  | cons r t=>
   obtain⟨k,rfl⟩:=r
   exact IntsAre.cons n k (Vals.ints t)
theorem G3:∀{us:List ak} {ns:List Int},IntsAre us ns→Vals (ns.map V.int) us
 | _,_,.nil=>by rw[rA];exact Paired.nil
 | _,_,.cons n t h=>by rw[aT];exact Paired.cons (show RelV (V.int n) (sH n t)from⟨t,rfl⟩) (G3 h)
theorem Vals.bls:∀{bs:List Bool} {us:List ak},Vals (bs.map V.bl) us→us=bs.map ph
 | [],us,h=>by
  rw[rA]at h
  cases h
  rfl
 | b::bs,us,h=>by
  rw[aT]at h
  cases h with
  | cons r t=>
   cases r
   rw[Vals.bls t,aT]
def Vals.abh {a:Addr} {us:List ak} (r:Vals [V.ref a] us):us=[c9 a]:=by
 cases r with
 | cons r t=>
  cases t
  cases r
  rfl
section
variable {prog:cN} {w:dS} {A:Around} {E:ak→az→Prop} {s:az} {l:Addr} {its:List ak} {ns:List Int} {Q:ak→az→Prop}
def abi (hh:A.handled=none) (hl:s.heap.IsList l its.toArray) (hi:IntsAre its ns)
  (h:∀h' tk t',(∀b o,s.heap.get? b=some o→h'.get? b=some o)→Q (.int ns.sum t') {s with heap:=h',toks:=tk}):bO (model prog w) A (call (.builtin "sum") [.ref l]) Q E s:=by
 obtain⟨xs,e⟩:=hi.allInts.items
 have hn:numsOf (intItems xs).toList=ns:=by rw[← e];exact hi.numsOf
 rw[nums_intItems]at hn
 rw[e]at hl
 refine PySem.sum_intListG hh hl fun h' tk t' hk=>?_
 have:=h h' tk t' hk
 rw[preSum_eq,fI (by simp),hn];exact this
end
section
variable {X:Cx}
def aeW (K:aq):List V→Hp→VK→Prop:=fun vs H Q=>∃(a:Addr) (ns:List Int),vs=[V.ref a]∧g6 K H a (ns.map V.int)∧Q (.int ns.sum) H
def ZR (hc:X.calm=true):Ct X (.builtin "sum") (aeW X.K):=by
 intro pins s σ H vs us Q I r h
 obtain⟨a,ns,rfl,hs,q⟩:=h
 obtain⟨its,rv,hl,_⟩:=I.list hs
 rw[Vals.abh r]
 exact abi (I.ok.hd hc) hl.isList rv.ints fun h' tk t' hk=>⟨.int _,H,I.kept hk,⟨_,rfl⟩,q⟩
end
section
variable {X:Cx}
def Xc {ys:List V} (f:ys.all z6=true) {j:Nat} {z:V} (h:ys[j]? =some z):z6 z=true:=gC.mp f z (a7 h)
end
section
variable {X:Cx}
end
def S9 {prog:cN} {w:dS} {A:Around} {E:ak→az→Prop} {s:az} {l:Addr} {items:Array ak} {Q:ak→az→Prop} (hl:s.heap.IsList l items)
  (h:∀s₂:az,s₂={s with heap:=s.heap.push {cls:=.type "list_iterator",data:=.fields #[.ref l,.int 0 0]}}→
   (s₂.heap.IsListIter s.heap.objs.size l 0∧s₂.heap.IsList l items)→l≠s.heap.objs.size→Q (.ref s.heap.objs.size) s₂):bO (model prog w) A (Ss (.ref l)) Q E s:=by
 have hlt:l < s.heap.objs.size:=by obtain⟨_,e,_⟩:=hl;exact cp e
 exact Ir hl (h _ rfl ⟨⟨_,b4 _ rfl,rfl,rfl⟩,hl.push _⟩ (cI hlt))
def Kb {prog:cN} {w:dS} {A:Around} {bs:List Bool} {its:List ak} (e:its=bs.map ph):
  TruthOf prog w A (fun i v=>its.toArray[i]? =some v) (fun i=>bs.getD i false):=fun i v s Q E hv hq=>by
 have hv':its[i]? =some v:=by simpa using hv
 rw[e,b0]at hv'
 obtain⟨b,hb,rfl⟩:=Cg.mp hv'
 have hg:bs.getD i false=b:=by rw[List.getD_eq_getElem?_getD,hb] <;> rfl
 have hq':Q (bs.getD i false) s:=hq
 rw[hg]at hq'
 exact de hq'
theorem any_range:∀bs:List Bool,(xM bs.length).any (fun i=>bs.getD i false)=bs.any id
 | []=>rfl
 | b::bs=>by
  rw[aN,Ci,fG,Cj,fG,← any_range bs]
  all_goals rfl
theorem all_range:∀bs:List Bool,(xM bs.length).all (fun i=>bs.getD i false)=bs.all id
 | []=>rfl
 | b::bs=>by
  rw[aN,Ci,zW,vW,zW,← all_range bs]
  all_goals rfl
section
variable {X:Cx}
def aeX (K:aq):List V→Hp→VK→Prop:=fun vs H Q=>∃(a:Addr) (bs:List Bool),vs=[V.ref a]∧g6 K H a (bs.map V.bl)∧Q (.bl (bs.any id)) H
def aeY (K:aq):List V→Hp→VK→Prop:=fun vs H Q=>∃(a:Addr) (bs:List Bool),vs=[V.ref a]∧g6 K H a (bs.map V.bl)∧Q (.bl (bs.all id)) H
def ZS (hc:X.calm=true):Ct X (.builtin "any") (aeX X.K):=by
 intro pins s σ H vs us Q I r h
 obtain⟨a,bs,rfl,hs,q⟩:=h
 obtain⟨its,rv,hl,_⟩:=I.list hs
 rw[Vals.abh r]
 have hb:=rv.bls
 refine call_any_walk (S9 hl.isList fun s₂ e2 st hne=>?_)
 subst e2
 refine⟨_,_,_,_,_,_,_,rfl,WZ (A:=X.A.in1) (I.ok.hd hc) _ a hne its.toArray,st,Kb hb,fun h' tk hk=>?_⟩
 refine⟨.bl _,H,I.kept fun b o eo=>hk b o (fun hmem=>?_) (bp _ eo),?_,q⟩
 ·rcases bx.mp hmem with e1 | hmem
  ·exact absurd (e1▸cp eo) (gH _)
  ·cases hmem
 ·show ph _=ph _
  rw[← any_range,hb,a8,ab]
def VM (hc:X.calm=true):Ct X (.builtin "all") (aeY X.K):=by
 intro pins s σ H vs us Q I r h
 obtain⟨a,bs,rfl,hs,q⟩:=h
 obtain⟨its,rv,hl,_⟩:=I.list hs
 rw[Vals.abh r]
 have hb:=rv.bls
 refine call_all_walk (S9 hl.isList fun s₂ e2 st hne=>?_)
 subst e2
 refine⟨_,_,_,_,_,_,_,rfl,WZ (A:=X.A.in1) (I.ok.hd hc) _ a hne its.toArray,st,Kb hb,fun h' tk hk=>?_⟩
 refine⟨.bl _,H,I.kept fun b o eo=>hk b o (fun hmem=>?_) (bp _ eo),?_,q⟩
 ·rcases bx.mp hmem with e1 | hmem
  ·exact absurd (e1▸cp eo) (gH _)
  ·cases hmem
 ·show ph _=ph _
  rw[← all_range,hb,a8,ab]
end
mutual
inductive Dp (K:aq) (H:Hp):V→GO→Prop
 | non:Dp K H .non .none
 | bl (b:Bool):Dp K H (.bl b) (.bool b)
 | int (i:Int):Dp K H (.int i) (.int i)
 | str (x:Str):Dp K H (.str x) (.str x)
 | lst {a:Addr} {xs:List V} {ds:List GO}:g6 K H a xs→LY K H xs ds→Dp K H (.ref a) (.list ds)
 | tup {a:Addr} {xs:List V} {ds:List GO}:iB K H a xs→LY K H xs ds→Dp K H (.ref a) (.tuple ds)
inductive LY (K:aq) (H:Hp):List V→List GO→Prop
 | nil:LY K H [] []
 | cons {v:V} {vs:List V} {d:GO} {ds:List GO}:Dp K H v d→LY K H vs ds→LY K H (v::vs) (d::ds)
end
section
variable {X:Cx} {pins:List (Addr×Obj)} {σ:St} {H:Hp} {s:az}
mutual
theorem Dp.reads (I:Inv X pins σ H s):∀(d:GO) (v:V) (u:ak),Dp X.K H v d→RelV v u→∃as,Reads s.heap u d as
 | .none,_,_,h,r=>by
  cases h
  cases r
  exact⟨_,Reads.none⟩
 | .bool b,_,_,h,r=>by
  cases h
  cases r
  exact⟨_,Reads.bool b⟩
 | .int i,_,_,h,r=>by
  cases h
  obtain⟨t,rfl⟩:=r
  exact⟨_,Reads.int i t⟩
 | .str x,_,_,h,r=>by
  cases h
  obtain⟨t,rfl⟩:=r
  exact⟨_,Reads.str x t⟩
 | .list ds,_,_,h,r=>by
  cases h with
  | lst hs ha=>
   cases r
   obtain⟨its,rv,⟨o,n,ho,hc,_,hd⟩,_⟩:=I.list hs
   obtain⟨as,hr⟩:=Dp.readsAll I ds _ its ha rv
   exact⟨_,Reads.list ho hc hd hr⟩
 | .tuple ds,_,_,h,r=>by
  cases h with
  | tup hs ha=>
   cases r
   obtain⟨its,rv,⟨o,ho,hc,n,hd⟩,_⟩:=I.tuple hs
   obtain⟨as,hr⟩:=Dp.readsAll I ds _ its ha rv
   exact⟨_,Reads.tuple ho hc hd hr⟩
 | .dict _,_,_,h,_=>by cases h
theorem Dp.readsAll (I:Inv X pins σ H s):∀(ds:List GO) (vs:List V) (us:List ak),LY X.K H vs ds→Vals vs us→∃as,ReadsAll s.heap us ds as
 | [],_,_,h,r=>by
  cases h
  cases r
  exact⟨_,ReadsAll.nil⟩
 | d::ds,_,_,h,r=>by
  cases h with
  | cons h1 h2=>
   cases r with
   | cons r1 r2=>
    obtain⟨as,q1⟩:=Dp.reads I d _ _ h1 r1
    obtain⟨bs,q2⟩:=Dp.readsAll I ds _ _ h2 r2
    exact⟨_,ReadsAll.cons q1 q2⟩
end
end
section
variable {X:Cx}
def acQ (K:aq):R2:=fun x y H Q=>EX2 fun d e=>Dp K H x d∧Dp K H y e∧Ck d=true∧Ck e=true∧Q (.bl (W0 d e)) H
def QW (hu:X.A.units+64 < AA):Fi X (d8 .Eq) (acQ X.K):=by
 intro pins s σ H x y v u Q I rx ry h
 obtain⟨d,e,hd,he,sd,se,q⟩:=h
 obtain⟨as,r1⟩:=Dp.reads I d x v hd rx
 obtain⟨bs,r2⟩:=Dp.reads I e y u he ry
 exact SeqAt.compareEq_shaped r1 r2 sd se hu ⟨.bl _,H,I,rfl,q⟩
end
end L2
namespace L2
open PySem PySem.Spec PyProof.Rows
abbrev ZT (h:Heap) (c:Addr) (v:Option ak):Prop:=h.IsCell c v
def aeZ (scope sc:mV):mV:=
 {scope with names:=scope.names.map fun(n,k)=>if(k==.free&&sc.kind==.function&&sc.names.lookup n==some .cell)then(n,.cell)else(n,k)}
def g9 (cells:List (Str×Addr)):List (Str×jn)→List (Str×Addr)→List (Str×Addr)
 | [],acc=>acc
 | (n,k)::r,acc=>if k==.free then g9 cells r ((n,(cells.lookup n).getD 0)::acc)else g9 cells r acc
theorem G4 (env:Env) (f:Str×jn→List (Str×Addr)→Sem (ForInStep (List (Str×Addr))))
  (hf:∀n k c,f (n,k) c=if k==.free then(do let a ← cellOf env n;pure (.yield ((n,a)::c)))else pure (.yield c)):
  ∀(names:List (Str×jn)) (acc:List (Str×Addr)),(∀y∈names,y.2=.free→∃c,env.cells.lookup y.1=some c)→forIn names acc f=pure (g9 env.cells names acc)
 | [],acc,_=>by rw[NR];rfl
 | (n,k)::r,acc,h=>by
  rw[List.forIn_cons,hf]
  have ih:=fun acc=>G4 env f hf r acc fun y hy=>h y (aI _ hy)
  unfold g9
  by_cases hk:(k==oC)=true
  ·rw[if_pos hk,if_pos hk]
   obtain⟨c,hc⟩:=h (n,k) aE (by simpa using hk)
   have e:cellOf env n=pure c:=by unfold cellOf;rw[hc]
   rw[e]
   have e2:(env.cells.lookup n).getD 0=c:=by rw[hc];rfl
   rw[e2]
   exact ih _
  ·rw[if_neg hk,if_neg hk]
   exact ih _
def VN {scope:mV} {env:Env} (h:∀y∈scope.names,y.2=.free→∃c,env.cells.lookup y.1=some c):closureFor scope env=pure (g9 env.cells scope.names []):=by
 simp only[closureFor]
 rw[G4 env _ (fun n k c=>rfl) scope.names [] h]
 rfl
theorem mem_lookup {α:Type}:∀{l:List (Str×α)} {n:Str} {c:α},(n,c)∈l→∃c',l.lookup n=some c'
 | (k,v)::r,n,c,h=>by
  rw[jf]
  cases hb:n==k with
  | true=>exact⟨_,rfl⟩
  | false=>
   rcases bx.mp h with e | h
   ·cases e;simp at hb
   ·exact mem_lookup h
theorem yh {cells:List (Str×Addr)}:∀{names:List (Str×jn)} {acc:List (Str×Addr)} {n:Str} {c:Addr},(n,c)∈g9 cells names acc→(n,c)∈acc∨((n,.free)∈names∧c=(cells.lookup n).getD 0)
 | [],_,_,_,h=>.inl h
 | (m,k)::r,acc,n,c,h=>by
  unfold g9 at h
  split at h
  ·rename_i hk
   have hk:k=.free:=by simpa using hk
   rcases yh h with h | ⟨h1,h2⟩
   ·rcases bx.mp h with e | h
    ·cases e;exact .inr ⟨hk▸aE,rfl⟩
    ·exact .inl h
   ·exact .inr ⟨aI _ h1,h2⟩
  ·rcases yh h with h | ⟨h1,h2⟩
   ·exact .inl h
   ·exact .inr ⟨aI _ h1,h2⟩
theorem C5 {cells:List (Str×Addr)}:∀{names:List (Str×jn)} {acc:List (Str×Addr)} {p:Str×Addr},p∈acc→p∈g9 cells names acc
 | [],_,_,h=>h
 | (m,k)::r,acc,p,h=>by
  unfold g9
  split
  ·exact C5 (aI _ h)
  ·exact C5 h
theorem C6 {cells:List (Str×Addr)}:∀{names:List (Str×jn)} {acc:List (Str×Addr)} {n:Str},(n,.free)∈names→(n,(cells.lookup n).getD 0)∈g9 cells names acc
 | (m,k)::r,acc,n,h=>by
  unfold g9
  rcases bx.mp h with e | h
  ·cases e
   exact C5 aE
  ·split
   ·exact C6 h
   ·exact C6 h
theorem z8:∀{names:List (Str×jn)} {h:Heap} {acc:List (Str×Addr)} {x:Str} {c:Addr},(x,c)∈fk h.objs.size names acc→
  (x,c)∈acc∨((x,.cell)∈names∧h.objs.size≤c∧ZT (sJ h names) c none)
 | [],_,_,_,_,h=>.inl h
 | (n,k)::r,h,acc,x,c,hm=>by
  unfold fk at hm
  unfold sJ
  split at hm
  ·rename_i hk
   rw[if_pos hk]
   have hk:k=.cell:=by simpa using hk
   rw[← fD h {cls:=.type "cell",data:=.cell none}]at hm
   rcases z8 hm with hm | ⟨h1,h2,h3⟩
   ·rcases bx.mp hm with e | hm
    ·cases e
     exact .inr ⟨hk▸aE,aJ _,_,uS r _ _ _ (b4 _ rfl),rfl⟩
    ·exact .inl hm
   ·rw[fD]at h2
    exact .inr ⟨aI _ h1,rB h2,h3⟩
  ·rename_i hk
   rw[if_neg hk]
   rcases z8 hm with hm | ⟨h1,h2,h3⟩
   ·exact .inl hm
   ·exact .inr ⟨aI _ h1,h2,h3⟩
theorem EL:∀{names:List (Str×jn)} {n:Nat} {acc:List (Str×Addr)} {p:Str×Addr},p∈acc→p∈fk n names acc
 | [],_,_,_,h=>h
 | (m,k)::r,n,acc,p,h=>by
  unfold fk
  split
  ·exact EL (aI _ h)
  ·exact EL h
theorem IS:∀{names:List (Str×jn)} {n:Nat} {acc:List (Str×Addr)} {x:Str},(x,.cell)∈names→∃c,(x,c)∈fk n names acc
 | (m,k)::r,n,acc,x,h=>by
  unfold fk
  rcases bx.mp h with e | h
  ·cases e
   exact⟨n,EL aE⟩
  ·split
   ·exact IS h
   ·exact IS h
theorem IT:∀{names:List (Str×jn)} {h:Heap} {acc:List (Str×Addr)} {x y:Str} {c:Addr},(∀p∈acc,p.2 < h.objs.size)→(∀x y c,(x,c)∈acc→(y,c)∈acc→x=y)→
  (x,c)∈fk h.objs.size names acc→(y,c)∈fk h.objs.size names acc→x=y
 | [],_,_,_,_,_,_,hi,h1,h2=>hi _ _ _ h1 h2
 | (n,k)::r,h,acc,x,y,c,hl,hi,h1,h2=>by
  unfold fk at h1 h2
  split at h1
  ·rename_i hk
   rw[if_pos hk]at h2
   rw[← fD h {cls:=.type "cell",data:=.cell none}]at h1 h2
   refine IT (h:=h.push _) (fun p hp=>?_) (fun x y c a b=>?_) h1 h2
   ·rw[fD]
    rcases bx.mp hp with rfl | hp
    ·exact kM _
    ·exact jQ (hl p hp)
   ·rcases bx.mp a with e | a <;> rcases bx.mp b with e' | b
    ·cases e;cases e';rfl
    ·cases e;exact absurd (hl _ b) (gH _)
    ·cases e';exact absurd (hl _ a) (gH _)
    ·exact hi _ _ _ a b
  ·rename_i hk
   rw[if_neg hk]at h2
   exact IT hl hi h1 h2
def Ta {M:U8} {A:Around} {E:ak→az→Prop} {s:az} {scope:mV} {globals:Addr} {closure:List (Str×Addr)} {qual:Str} {func:Option Addr} {code:ak} {around:Env} {builtins:Addr} {Q:Env→az→Prop}
  (h:Q (newEnv scope s.heap.objs.size globals (fk (s.heap.objs.size+1) scope.names closure) qual func code (some around) builtins)
   {s with heap:=sJ (s.heap.push {cls:=.type "dict",data:=.dict #[]}) scope.names}):
  bO M A (NS scope globals closure [] qual func code (some around) builtins) Q E s:=by
 simp only[NS,GP,if_true]
 refine ax (wpAny_alloc ?_)
 refine ax (wpAny_layCells _ (fun n k c=>rfl) scope.names closure _ _ ?_)
 rw[show({s with heap:=s.heap.push {cls:=.type "dict",data:=.dict #[]}}:az).heap.objs.size=s.heap.objs.size+1 from fD ..]
 rw[NR]
 exact ax (aY (aY h))
theorem C7 {sc:mV}:∀{names:List (Str×jn)} {x:Str} {k:jn},
  (names.map fun(n,k)=>if(k==oC&&sc.kind==.function&&sc.names.lookup n==some .cell)then(n,FQ)else(n,k)).lookup x=some k→
  ∃k',names.lookup x=some k'∧(k=k'∨(k'=.free∧k=.cell))
 | [],_,_,h=>by simp at h
 | (n,k₀)::r,x,k,h=>by
  have ih:=@C7 sc r x k
  have h':kU x ((if(k₀==oC&&sc.kind==.function&&sc.names.lookup n==some .cell)=true then(n,FQ)else(n,k₀))::(r.map _))=some k:=h
  cases hx:x==n with
  | true=>
   simp only[jf,hx]
   by_cases hc:(k₀==oC&&sc.kind==.function&&sc.names.lookup n==some .cell)=true
   ·rw[if_pos hc]at h'
    simp only[jf,hx]at h'
    cases h'
    simp only[dh,beq_iff_eq]at hc
    exact⟨k₀,rfl,.inr ⟨hc.1.1,rfl⟩⟩
   ·rw[if_neg hc]at h'
    simp only[jf,hx]at h'
    cases h'
    exact⟨_,rfl,.inl rfl⟩
  | false=>
   simp only[jf,hx]
   by_cases hc:(k₀==oC&&sc.kind==.function&&sc.names.lookup n==some .cell)=true
   ·rw[if_pos hc]at h'
    simp only[jf,hx]at h'
    exact ih h'
   ·rw[if_neg hc]at h'
    simp only[jf,hx]at h'
    exact ih h'
structure Tb (N:List Str) (sc scope:mV) (own:List (Str×Nat)):Prop where
 kind:scope.kind=.function
 uniq:∀y∈scope.names,scope.names.lookup y.1=some y.2
 ix:∀p∈own,N[p.2]? =some p.1
 free:∀y∈scope.names,y.2=.free→sc.names.lookup y.1=some .cell∨sc.names.lookup y.1=some .free
 own:∀y∈scope.names,y.2=.local∨y.2=.cell→y.1∈own.map (·.1)∨y.1∉N
def wipe (σ:St):List Nat→St
 | []=>σ
 | v::vs=>(wipe σ vs).set v none
theorem C8 (σ:St):∀vs:List Nat,(wipe σ vs).length=σ.length
 | []=>rfl
 | v::vs=>by unfold wipe;rw[Ll,C8 σ vs]
theorem IU {σ:St} {i:Nat} {x:V}:∀{vs:List Nat},(wipe σ vs)[i]? =some (some x)→σ[i]? =some (some x)∧i∉vs
 | [],h=>⟨h,by simp⟩
 | v::vs,h=>by
  unfold wipe at h
  by_cases hi:v=i
  ·subst hi
   by_cases hv:v < (wipe σ vs).length
   ·rw[rf hv]at h;cases h
   ·rw[List.getElem?_eq_none (by simpa using hv)]at h;cases h
  ·rw[uh hi]at h
   obtain⟨h1,h2⟩:=IU h
   exact⟨h1,by simp only[bx,not_or];exact⟨fun e=>hi e.symm,h2⟩⟩
abbrev Cx.gS (X:Cx) (s:az) (H:Hp) (scope:mV) (cenv:Env) (fp:List Addr):Cx:={X with PM:=s,H_0:=H,env:=cenv,outer:=X.stack,ex:=fp,fn:=fun x=>scope.names.lookup x==some .cell,pn:=[],xe:=fun _ _=>False}
section
variable {X:Cx} {pins:List (Addr×Obj)} {σ:St} {H:Hp} {s:az}
def Tc {scope:mV} {own:List (Str×Nat)} {fp:List Addr} (I:Inv X pins σ H s) (ok:Tb X.N X.env.scope scope own) (hN:X.N.Nodup) (hfp:∀b∈fp,Ol X pins H b∧b < s.heap.objs.size):
  Inv (X.gS s H scope (lF scope (fk (s.heap.objs.size+1) scope.names (g9 X.env.cells scope.names [])) s.heap.objs.size X.env) fp) [] (wipe σ (own.map (·.2))) H {s with heap:=sJ (s.heap.push {cls:=.type "dict",data:=.dict #[]}) scope.names}:=by
 have hfree:∀y∈scope.names,y.2=.free→∃c,X.env.cells.lookup y.1=some c:=fun y hy e=>by
  rcases ok.free y hy e with k | k
  ·exact I.ok.has _ (.inl k)
  ·exact I.ok.has _ (.inr k)
 generalize hcenv:lF scope (fk (s.heap.objs.size+1) scope.names (g9 X.env.cells scope.names [])) s.heap.objs.size X.env=cenv
 have kp:∀b o,s.heap.get? b=some o→(sJ (s.heap.push {cls:=.type "dict",data:=.dict #[]}) scope.names).get? b=some o:=fun b o e=>uS _ _ _ _ (bp _ e)
 have hL:cenv.locals=s.heap.objs.size:=by rw[← hcenv];rfl
 have hcl:cenv.cells=fk (s.heap.objs.size+1) scope.names (g9 X.env.cells scope.names []):=by rw[← hcenv];rfl
 have hsc:cenv.scope=aeZ scope X.env.scope:=by rw[← hcenv];rfl
 rw[← fD s.heap {cls:=.type "dict",data:=.dict #[]}]at hcl
 have cm:∀{y c},(y,c)∈g9 X.env.cells scope.names []→X.env.cells.lookup y=some c∧c < s.heap.objs.size:=fun {y c} hm=>by
  rcases yh hm with hm | ⟨h1,rfl⟩
  ·cases hm
  ·obtain⟨c,hc⟩:=hfree _ h1 rfl
   rw[hc]
   obtain⟨w,z⟩:=I.cell _ _ hc
   exact⟨rfl,z.lt⟩
 have mem:∀{y c},cenv.cells.lookup y=some c→(X.env.cells.lookup y=some c∧c < s.heap.objs.size)∨(s.heap.objs.size+1≤c∧ZT (sJ (s.heap.push {cls:=.type "dict",data:=.dict #[]}) scope.names) c none):=fun {y c} e=>by
  rw[hcl]at e
  rcases z8 (cP e)with hm | ⟨_,h2,h3⟩
  ·exact .inl (cm hm)
  ·rw[fD]at h2;exact .inr ⟨h2,h3⟩
 have look:∀{y},scope.names.lookup y=some .free→∃c,cenv.cells.lookup y=some c∧X.env.cells.lookup y=some c:=fun {y} hl=>by
  have hy:(y,oC)∈scope.names:=cP hl
  obtain⟨c',e'⟩:=mem_lookup (EL (names:=scope.names) (n:=(s.heap.push {cls:=.type "dict",data:=.dict #[]}).objs.size) (C6 (cells:=X.env.cells) (acc:=[]) hy))
  rw[← hcl]at e'
  refine⟨c',e',?_⟩
  rw[hcl]at e'
  rcases z8 (cP e')with hm | ⟨h1,_,_⟩
  ·exact(cm hm).1
  ·have:=ok.uniq _ h1
   rw[hl]at this;cases this
 have okB:(X.gS s H scope cenv fp).Ok:=by
  refine⟨I.ok.mod,by show cenv.scope.kind=_;rw[hsc];exact ok.kind,by show cenv.globals=_;rw[← hcenv];exact I.ok.glob,by show cenv.builtins=_;rw[← hcenv];exact I.ok.blt,by show s.heap.objs.size≤cenv.locals;rw[hL];exact aJ _,
   fun y z c e1 e2=>?_,fun y hy=>?_,fun y c z e=>?_,I.ok.hd,I.ok.frames,.inl rfl,fun b hb=>⟨?_,fun y c e z=>?_⟩,I.bs,bg I.ok.bsz I.sz,fun b o e hb=>?_,fun b hb z=>?_,I.stack,I.W3⟩
  ·have e1:cenv.cells.lookup y=some c:=e1
   have e2:cenv.cells.lookup z=some c:=e2
   rw[hcl]at e1 e2
   refine IT (fun p hp=>?_) (fun y z c a b=>I.ok.inj y z c (cm a).1 (cm b).1) (cP e1) (cP e2)
   rw[fD]
   exact jQ (cm (y:=p.1) (c:=p.2) hp).2
  ·show∃c,cenv.cells.lookup y=some c
   have key:∀k,cenv.kindOf y=some k→(k=.cell∨k=.free)→∃c,cenv.cells.lookup y=some c:=fun k hk hk'=>by
    unfold Env.kindOf at hk
    rw[hsc]at hk
    obtain⟨k',e,r⟩:=C7 hk
    have:k'=.cell∨k'=.free:=by
     rcases r with rfl | ⟨rfl,_⟩
     ·exact hk'
     ·exact .inr rfl
    rcases this with rfl | rfl
    ·obtain⟨c,hm⟩:=IS (n:=(s.heap.push {cls:=.type "dict",data:=.dict #[]}).objs.size) (acc:=g9 X.env.cells scope.names []) (cP e)
     obtain⟨c',e'⟩:=mem_lookup hm
     exact⟨c',by rw[hcl];exact e'⟩
    ·obtain⟨c,h1,_⟩:=look e
     exact⟨c,h1⟩
   rcases hy with hy | hy
   ·exact key _ hy (.inl rfl)
   ·exact key _ hy (.inr rfl)
  ·have z:(scope.names.lookup y==some FQ)=true:=z
   have z:scope.names.lookup y=some .cell:=by simpa using z
   have e:cenv.cells.lookup y=some c:=e
   rw[hcl]at e
   rcases z8 (cP e)with hm | ⟨_,h2,_⟩
   ·rcases yh hm with hm | ⟨h1,_⟩
    ·cases hm
    ·have q:=ok.uniq _ h1
     rw[z]at q;cases q
   ·rw[fD]at h2
    exact rB h2
  ·show b≠cenv.locals
   rw[hL];exact cI (hfp b hb).2
  ·have e:cenv.cells.lookup y=some c:=e
   rcases mem e with⟨h1,_⟩ | ⟨h1,_⟩
   ·exact(hfp b hb).1.2.2.2.2.1 y c h1 z
   ·have h2:s.heap.objs.size+1≤b:=by rw[← z];exact h1
    exact absurd (ck (hfp b hb).2 (rB h2)) (gH _)
  ·rcases(hfp b hb).1.2.2.2.1 with z | z
   ·exact I.ok.Zy b o e z
   ·exact absurd (ck (cp e) (bg I.ok.bsz z)) (gH _)
  ·rcases bx.mp (I.Vx b z)with z | z
   ·exact(hfp b hb).1.2.1 z
   ·exact(hfp b hb).1.2.2.1 z
 refine⟨okB,rfl,I.bare,Un.kept kp,⟨fun _=>none,?_,fun i y av e1 e2 e3=>?_⟩,fun y c e=>?_,?_,fun y c e=>?_,fun p hp=>?_,I.gX.kept kp,by rw[C8];exact I.len⟩
 ·show Heap.Ns _ cenv.locals _
  rw[hL]
  exact Heap.Ns.keeps (Heap.Ns.new ..) fun b o e=>uS _ _ _ _ e
 ·obtain⟨e2,hne⟩:=IU e2
  have hfr:scope.names.lookup y=some .free∧(cenv.kindOf y=some .cell∨cenv.kindOf y=some .free):=by
   have key:∀k,cenv.scope.names.lookup y=some k→k=.local∨k=.cell∨k=.free→scope.names.lookup y=some .free∧(cenv.kindOf y=some .cell∨cenv.kindOf y=some .free):=fun k hk hk'=>by
    have hk0:=hk
    rw[hsc]at hk
    obtain⟨k',e,r⟩:=C7 hk
    have no:¬(k'=.local∨k'=.cell):=fun hh=>by
     rcases ok.own _ (cP e) hh with e' | e'
     ·obtain⟨p,hp,hpy⟩:=aR.mp e'
      have e3:=ok.ix p hp
      have:p.1=y:=hpy
      rw[this]at e3
      exact hne (aR.mpr ⟨p,hp,LL hN e3 e1⟩)
     ·exact e' (a7 e1)
    rcases r with rfl | ⟨rfl,rfl⟩
    ·rcases hk' with rfl | rfl | rfl
     ·exact absurd (.inl rfl) no
     ·exact absurd (.inr rfl) no
     ·exact⟨e,.inr hk0⟩
    ·exact⟨e,.inl hk0⟩
   have e3:Vis cenv.scope y:=e3
   rcases e3 with e3 | e3 | e3
   ·exact key _ e3 (.inl rfl)
   ·exact key _ e3 (.inr (.inl rfl))
   ·exact key _ e3 (.inr (.inr rfl))
  obtain⟨m,hn,hl⟩:=I.loc
  have hvis:Vis X.env.scope y:=(ok.free _ (cP hfr.1) rfl).elim (fun k=>.inr (.inl k)) (fun k=>.inr (.inr k))
  obtain⟨w,r,q⟩:=hl i y av e1 e2 hvis
  refine⟨w,r,.inr ⟨hfr.2,?_⟩⟩
  obtain⟨c,h1,h2⟩:=look hfr.1
  rcases q with⟨k,_⟩ | ⟨_,c',e',z⟩
  ·have k:X.env.scope.names.lookup y=some .local:=k
   rcases ok.free _ (cP hfr.1) rfl with k' | k' <;> rw[show X.env.scope.names.lookup y=_ from k']at k <;> cases k
  ·rw[h2]at e';cases e'
   exact⟨c,h1,z.keeps kp⟩
 ·have e:cenv.cells.lookup y=some c:=e
  rcases mem e with⟨h1,_⟩ | ⟨_,z⟩
  ·obtain⟨w,z⟩:=I.cell y c h1
   exact⟨w,z.keeps kp⟩
  ·exact⟨_,z⟩
 ·show H cenv.locals=none
  rw[hL];exact I.gX.fresh (aJ _)
 ·have e:cenv.cells.lookup y=some c:=e
  rcases mem e with⟨h1,_⟩ | ⟨h1,_⟩
  ·exact I.zZ y c h1
  ·exact I.gX.fresh (rB h1)
 ·exact absurd (show p∈([]:List (Addr×Obj))++[]from hp) (by simp)
def acR {E:ak→az→Prop} {D:Addr} {xs:List V} {y:V} {v:ak} {Q:ak→az→Prop} (I:Inv X pins σ H s) (hD:H D=some (.lst xs)) (hz:xs.length < ag) (r:RelV y v)
  (h:∀s',Inv X pins σ (upd H D (.lst (xs++[y]))) s'→Q .none s'):bO (model X.prog X.w) X.A (call (.builtin "list.append") [.ref D,v]) Q E s:=by
 obtain⟨hz',its,n,ri,e⟩:=I.gX D _ hD
 have hl:=ri.length
 refine append_at (hsz:=by rw[a8];omega) e fun h' sb ho'=>?_
 refine h {s with heap:=h'} (I.write (t':=s.toks) (by rw[hD];trivial) (.inl rfl) (fun b u hb q=>(sb.2 b hb).trans q) ⟨_,ho'⟩ ⟨by rw[ae];exact hz,its++[v],n+1,ri.append (.cons r .nil),?_⟩)
 rw[ho']
 simp
def PTs (X:Cx) (ifs:List Expr) (t:TT):Prop:=
 ∀(pins:List (Addr×Obj)) (s:az) (σ:St) (H:Hp) (Q:Bool→Hp→Prop),Inv X pins σ H s→t σ H Q→
  bO (model X.prog X.w) X.A (forIn ifs true fun c r=>if r=true then do let ok ← NK c X.env (eval c X.env);pure (uT ok)else pure (uT r)) (TP X pins σ Q) X.xe s
def ZU:TT:=fun _ H Q=>Q true H
def j7:PTs X [] ZU:=fun _ _ _ H _ I h=>wpAny_tests_nil ⟨H,I,h⟩
def pT {c:Expr} {t:TT} (h:PT X c t):PTs X [c] t:=fun pins s σ H Q I hw=>wpAny_tests_one (h pins s σ H Q I hw)
end
def Ym {α:Type} {t:Sem α} {Q Q':α→az→Prop} {M:U8} {A:Around} {E:ak→az→Prop} {s:az} (h:bO M A t Q (fun _ _=>False) s) (hQ:∀a s,Q a s→Q' a s):bO M A t Q' E s:=iI h hQ fun _ _ z=>fR z
def QX {prog:cN} {w:dS} {A:Around} {R:WV→az→Prop} {s:az} {elt target iter:Expr} {ifs:List Expr} {scope:mV} {pos:Pos} {it acc:ak} {env:Env} (I:Nat→az→Prop)
  (turn:∀n s,I n s→bO (model prog w) A (JT it) (fun r s₁=>match r with
   | none=>R (.ok .next) s₁
   | some v=>bO (model prog w) A (uR target it v) (fun _ s₁'=>bO (model prog w) A (assign target env v) (fun _ s₂=>
     bO (model prog w) A (forIn ifs true fun c r=>if r=true then do let ok ← NK c env (eval c env);pure (uT ok)else pure (uT r)) (fun ok s₃=>
      if ok=true then bO (model prog w) A (eval elt env) (fun x s₄=>
       bO (model prog w) A (call (.builtin "list.append") [acc,x]) (fun _ s₅=>∃m,m < n∧I m s₅) (IE (model prog w) A env fun e s'=>R (.error e) s') s₄) (IE (model prog w) A env fun e s'=>R (.error e) s') s₃
      else∃m,m < n∧I m s₃) (IE (model prog w) A env fun e s'=>R (.error e) s') s₂) (IE (model prog w) A env fun e s'=>R (.error e) s') s₁') (IE (model prog w) A env fun e s'=>R (.error e) s') s₁) (IE (model prog w) A env fun e s'=>R (.error e) s') s)
  (n:Nat) (h:I n s):
  Fg (model prog w) A (.compLoop (.ListComp elt [⟨target,iter,ifs,0⟩] scope pos) 0 it acc env) R s:=by
 refine codeAny_loop rfl I (fun n s hI=>?_) n h
 show bO _ A ((compTurn (.ListComp elt [⟨target,iter,ifs,0⟩] scope pos) 0 it acc env).onRaise (fun x=>do noteFrame x env;theTreesLotGoes x)) _ _ s
 refine wpAny_noted ?_
 rw[compTurn_list]
 refine ax (FO (ax (iI (turn n s hI) (fun r s₁ h₁=>?_) fun _ _ h'=>h')))
 cases r with
 | none=>exact aY h₁
 | some v=>
  refine ax (iI h₁ (fun _ s₁' h₁'=>?_) fun _ _ h'=>h')
  refine ax (iI h₁' (fun _ s₂ h₂=>ax (iI h₂ (fun ok s₃ h₃=>?_) fun _ _ h'=>h')) fun _ _ h'=>h')
  cases ok with
  | false=>exact aY ⟨rfl,h₃⟩
  | true=>
   exact ax (ax (iI h₃ (fun x s₄ h₄=>ax (iI h₄ (fun _ s₅ h₅=>aY (aY ⟨rfl,h₅⟩)) fun _ _ h'=>h')) fun _ _ h'=>h'))
section
variable {X:Cx}
def tLc (wi:TI) (g:TG) (tt:TT) (te:TE) (vs:List Nat):TE:=fun σ H Q=>wi σ H fun J H1=>∀D,H1 D=none→∃W:Nat→Nat→Hp→Prop,(∃m,W 0 m (upd H1 D (.lst [])))∧∀i m H,W i m H→
 (J.stop i H∧Q (.ref D) H)∨(J.go i H∧∃Nx:Hp→Prop,(∀H',Nx H'→∃m',m' < m∧W (i+1) m' H')∧∀x H',J.S0 i H x H'→g x (wipe σ vs) H' fun σ2 H2=>wipe σ2 vs=wipe σ vs∧tt σ2 H2 fun b H3=>
  if b=true then te σ2 H3 fun y H4=>∃acc,H4 D=some (.lst acc)∧acc.length < ag∧Nx (upd H4 D (.lst (acc++[y])))else Nx H3)
def Xd {pins:List (Addr×Obj)} {s:az} {σ:St} {H:Hp} {Q:VK} {elt tg iter:Expr} {ifs:List Expr} {scope:mV} {own:List (Str×Nat)} {pos pos':Pos} {wi:TI} {g:TG} {tt:TT} {te:TE} {use:Option (ak→Sem Unit)} {Qf:ak→az→Prop}
  (hc:X.calm=true) (hN:X.N.Nodup) (I:Inv X pins σ H s) (hi:PI X tg iter wi) (ok:Tb X.N X.env.scope scope own)
  (hg:∀(s:az) (H:Hp) (C:Addr) (cl:List (Str×Addr)) (fp:List Addr),PG (X.gS s H scope (lF scope cl C X.env) fp) tg g) (ht:∀(s:az) (H:Hp) (C:Addr) (cl:List (Str×Addr)) (fp:List Addr),PTs (X.gS s H scope (lF scope cl C X.env) fp) ifs tt)
  (he:∀(s:az) (H:Hp) (C:Addr) (cl:List (Str×Addr)) (fp:List Addr),PE (X.gS s H scope (lF scope cl C X.env) fp) elt te) (hs:∀x,rg iter X.env x=pure x)
  (h:tLc wi g tt te (own.map (·.2)) σ H Q)
  (hRR:∀D C s' m H',Inv X pins σ H' s'→Q (.ref D) H'→s'.heap.Ns C m→Ol X pins H' C→Ve (model X.prog X.w) X.A X.xe use Qf (.ref D) C (.ok .next) s'):
  bO (model X.prog X.w) X.A (comprehension (.ListComp elt [⟨tg,iter,ifs,0⟩] scope pos) scope X.env pos' (newList []) false (eval iter X.env) use) Qf X.xe s:=by
 have hfree:∀y∈scope.names,y.2=.free→∃c,X.env.cells.lookup y.1=some c:=fun y hy e=>by
  rcases ok.free y hy e with k | k
  ·exact I.ok.has _ (.inl k)
  ·exact I.ok.has _ (.inr k)
 refine wpAny_comprehension_free (use:=use) rfl hs (VN hfree) ok.kind (fun y hy e=>by rw[ok.uniq y hy,e])
  (gR (hi pins s σ H _ I h) fun xv s1 hx=>gR hx fun itv s2 h2=>?_)
 obtain⟨it,fp,tn,J,H2,e,I2,T,st2,f2,q⟩:=h2
 subst e
 refine gN (Ta ?_) (by show 0≤ag;decide)
 generalize hD:s2.heap.objs.size=D
 have hDn:H2 D=none:=I2.gX.fresh (B9 hD)
 obtain⟨W,⟨m0,w0⟩,turn⟩:=q D hDn
 generalize hs3:({s2 with heap:=s2.heap.push {cls:=.type "list",data:=.seq ([]:List ak).toArray}}:az)=s3
 have I3:Inv X pins σ (upd H2 D (.lst [])) s3:=by
  rw[← hs3]
  refine I2.laid (t':=s2.toks) (fun b o e=>bp _ e) (B9 hD) ⟨bZ _,[],0,.nil,?_⟩
  rw[← hD]
  exact b4 _ rfl
 have h3:s3.heap=s2.heap.push {cls:=.type "list",data:=.seq ([]:List ak).toArray}:=by rw[← hs3]
 have sz:∀b∈fp,b < s2.heap.objs.size:=fun b hb=>by
  obtain⟨o,e,_⟩:=T.obj _ _ st2 b hb
  exact cp e
 have f3:∀b∈fp,Ol X pins (upd H2 D (.lst [])) b∧b < s3.heap.objs.size:=fun b hb=>by
  have hlt:=sz b hb
  refine⟨⟨?_,(f2 b hb).2⟩,by rw[h3,fD];exact jQ hlt⟩
  rw[aD (by rw[← hD];exact cI hlt)]
  exact(f2 b hb).1
 have st3:tn 0 s3.heap:=T.keep _ _ _ st2 fun b _ o e=>by rw[h3];exact bp _ e
 have I4:=Tc I3 ok hN f3
 have pg:=hg s3 (upd H2 D (.lst [])) s3.heap.objs.size (fk (s3.heap.objs.size+1) scope.names (g9 X.env.cells scope.names [])) fp
 have pt:=ht s3 (upd H2 D (.lst [])) s3.heap.objs.size (fk (s3.heap.objs.size+1) scope.names (g9 X.env.cells scope.names [])) fp
 have pe:=he s3 (upd H2 D (.lst [])) s3.heap.objs.size (fk (s3.heap.objs.size+1) scope.names (g9 X.env.cells scope.names [])) fp
 show Fg _ _ (.compStart (.ListComp elt [⟨tg,iter,ifs,0⟩] scope pos) 0 (.ref it) (.ref D) (lF scope (fk (s3.heap.objs.size+1) scope.names (g9 X.env.cells scope.names [])) s3.heap.objs.size X.env)) (Ve (model X.prog X.w) X.A X.xe use Qf (.ref D) s3.heap.objs.size) {s3 with heap:=sJ (s3.heap.push {cls:=.type "dict",data:=.dict #[]}) scope.names}
 have nfp:∀b∈fp,(upd H2 D (.lst [])) b=none:=fun b hb=>(f3 b hb).1.1
 generalize hce:lF scope (fk (s3.heap.objs.size+1) scope.names (g9 X.env.cells scope.names [])) s3.heap.objs.size X.env=ce at I4 pg pt pe⊢
 have cL:ce.locals=s3.heap.objs.size:=by subst hce;rfl
 generalize hH3:upd H2 D (.lst [])=H3 at I3 I4 pg pt pe w0 nfp f3
 generalize hs4:({s3 with heap:=sJ (s3.heap.push {cls:=.type "dict",data:=.dict #[]}) scope.names}:az)=s4 at I4⊢
 have st4:tn 0 s4.heap:=T.keep _ _ _ st3 fun b _ o e=>by rw[← hs4];exact uS _ _ _ _ (bp _ e)
 have stat:∀{σ':St} {H':Hp} {s':az},Inv (X.gS s3 H3 scope ce fp) [] σ' H' s'→(∀b∈fp,H' b=none)→∀b∈fp,Ol (X.gS s3 H3 scope ce fp) [] H' b:=fun {σ' H' s'} I' hn b hb=>
  ⟨hn b hb,(I'.ok.exf b hb).1,I'.ok.Zz b hb,.inl hb,fun x c e=>(I'.ok.exf b hb).2 x c e,fun p hp=>absurd (show p∈([]:List (Addr×Obj))++[]from hp) (by simp)⟩
 have loop:Fg (model X.prog X.w) X.A (.compLoop (.ListComp elt [⟨tg,iter,ifs,0⟩] scope pos) 0 (.ref it) (.ref D) ce) (Ve (model X.prog X.w) X.A X.xe use Qf (.ref D) s3.heap.objs.size) s4:=by
  refine QX (fun n s'=>∃i H',Inv (X.gS s3 H3 scope ce fp) [] (wipe σ (own.map (·.2))) H' s'∧tn i s'.heap∧(∀b∈fp,H' b=none)∧W i n H') ?_ m0 ⟨0,H3,I4,st4,nfp,w0⟩
  rintro n s5 ⟨i,H5,I5,st5,n5,w5⟩
  rcases turn i n H5 w5 with⟨stop,qq⟩ | ⟨go,Nx,hNx,step⟩
  ·have td:=T.done (X.gS s3 H3 scope ce fp) rfl rfl rfl hc i [] s5 _ H5 (fun _ _=>False) I5 (stat I5 n5) st5 stop
   refine Ym td fun r s6 ⟨hr,I6⟩=>?_
   subst hr
   have I7:Inv X pins σ H5 s6:=I3.adM (ch:=fp) I6.os I6.base I6.gX I6.bare fun b hb=>⟨(f3 b hb).1.2.2.2.1,(f3 b hb).1.2.1,(f3 b hb).1.2.2.2.2.1,(f3 b hb).1.2.2.2.2.2⟩
   have nC:H5 s3.heap.objs.size=none:=by
    have z:H5 ce.locals=none:=I6.free
    rw[cL]at z
    exact z
   obtain⟨m,hn,_⟩:=I6.loc
   have hn:s6.heap.Ns ce.locals m:=hn
   rw[cL]at hn
   exact hRR D s3.heap.objs.size s6 m H5 I7 qq hn (I3.ZF (aJ _) nC)
  ·have ti:=T.item (X.gS s3 H3 scope ce fp) rfl rfl rfl hc i [] s5 _ H5 (fun _ _=>False) I5 (stat I5 n5) st5 go
   refine Ym ti fun r s6 ⟨u,hr,h6⟩=>?_
   subst hr
   refine Ym h6 fun _ s7 ⟨x,H7,I7,r7,y7,st7,n7⟩=>?_
   have I7':=I7.pinned (stat I7 n7) (T.obj _ _ st7)
   refine Ym (pg _ s7 _ H7 x u _ I7' r7 (step x H7 y7)) fun _ s8 ⟨σ8,H8,I8,hw8,q8⟩=>?_
   refine Ym (pt _ s8 σ8 H8 _ I8 q8) fun b s9 ⟨H9,I9,q9⟩=>?_
   have fin:∀{s':az} {H':Hp},Inv (X.gS s3 H3 scope ce fp) ([]++LN fp s7.heap) σ8 H' s'→Nx H'→∃m,m < n∧∃i H',Inv (X.gS s3 H3 scope ce fp) [] (wipe σ (own.map (·.2))) H' s'∧tn i s'.heap∧(∀b∈fp,H' b=none)∧W i m H':=fun {s' H'} I' nx=>by
    obtain⟨m',hm,w'⟩:=hNx H' nx
    have pin':∀b∈fp,∀o,s7.heap.get? b=some o→s'.heap.get? b=some o∧H' b=none:=fun b hb o e=>
     let z:=I'.pin (b,o) (aF _ (aF _ (FV hb e)))
     ⟨z.1,z.2.1⟩
    have hl:(wipe σ (own.map (·.2))).length=σ8.length:=by rw[← hw8,C8]
    refine⟨m',hm,i+1,H',(I'.GZ (pins:=[])).weak hl (fun j v e=>?_),T.keep _ _ _ st7 fun b hb o e=>(pin' b hb o e).1,fun b hb=>?_,w'⟩
    ·rw[← hw8]at e
     exact(IU e).1
    ·obtain⟨o,e,_⟩:=T.obj _ _ st7 b hb
     exact(pin' b hb o e).2
   cases b with
   | false=>
    simp only[pz,if_false]at q9⊢
    exact fin I9 q9
   | true=>
    simp only[if_true]at q9⊢
    refine Ym (pe _ s9 σ8 H9 _ I9 q9) fun z s10 ⟨yv,H10,I10,r10,acc,hD10,hz10,nx⟩=>?_
    exact acR (X:=X.gS s3 H3 scope ce fp) I10 hD10 hz10 r10 fun s11 I11=>fin I11 nx
 exact codeAny_compStart_list loop (T.self X.A 0 _ _ _ st4 loop)
def pU {elt tg iter:Expr} {ifs:List Expr} {scope:mV} {own:List (Str×Nat)} {pos:Pos} {wi:TI} {g:TG} {tt:TT} {te:TE} (hc:X.calm=true) (hN:X.N.Nodup) (hi:PI X tg iter wi) (ok:Tb X.N X.env.scope scope own)
  (hg:∀(s:az) (H:Hp) (C:Addr) (cl:List (Str×Addr)) (fp:List Addr),PG (X.gS s H scope (lF scope cl C X.env) fp) tg g) (ht:∀(s:az) (H:Hp) (C:Addr) (cl:List (Str×Addr)) (fp:List Addr),PTs (X.gS s H scope (lF scope cl C X.env) fp) ifs tt)
  (he:∀(s:az) (H:Hp) (C:Addr) (cl:List (Str×Addr)) (fp:List Addr),PE (X.gS s H scope (lF scope cl C X.env) fp) elt te) (hs:∀x,rg iter X.env x=pure x:=by intro _;rfl):
  PE X (.ListComp elt [⟨tg,iter,ifs,0⟩] scope pos) (tLc wi g tt te (own.map (·.2))):=by
 intro pins s σ H Q I h
 rw[eval_ListComp]
 refine Xd hc hN I hi ok hg ht he hs h fun D C s' m H' I' q hn f=>⟨m,hn,fun h'' sb=>?_⟩
 obtain⟨f0,f1,f2,f3,f4,f5⟩:=f
 exact⟨.ref D,H',I'.turned (t':=s'.toks) (fun b o hb e=>(sb.2 b hb).trans e) f0 f1 f3 f4 f5,rfl,q⟩
def tK {i:Nat} {y:Str} {py:Pos} {elt tg iter:Expr} {ifs:List Expr} {scope:mV} {own:List (Str×Nat)} {pos spos:Pos} {wi:TI} {g:TG} {tt:TT} {te:TE} (hc:X.calm=true) (hN:X.N.Nodup) (hy:X.N[i]? =some y) (hyl:X.env.scope.names.lookup y=some .local)
  (hsw:wk (.ListComp elt [⟨tg,iter,ifs,0⟩] scope pos) (some (.Name y py)) spos.line X.env=pure true) (hi:PI X tg iter wi) (ok:Tb X.N X.env.scope scope own)
  (hg:∀(s:az) (H:Hp) (C:Addr) (cl:List (Str×Addr)) (fp:List Addr),PG (X.gS s H scope (lF scope cl C X.env) fp) tg g) (ht:∀(s:az) (H:Hp) (C:Addr) (cl:List (Str×Addr)) (fp:List Addr),PTs (X.gS s H scope (lF scope cl C X.env) fp) ifs tt)
  (he:∀(s:az) (H:Hp) (C:Addr) (cl:List (Str×Addr)) (fp:List Addr),PE (X.gS s H scope (lF scope cl C X.env) fp) elt te) (hs:∀x,rg iter X.env x=pure x:=by intro _;rfl):
  PS X (.Assign [.Name y py] (.ListComp elt [⟨tg,iter,ifs,0⟩] scope pos) spos) (Oj (tLc wi g tt te (own.map (·.2))) (tH i)):=by
 intro pins s σ H D I h
 rw[exec_Assign_Name_used _ _ _ _ hsw]
 refine ax (FO (ax ?_))
 show bO _ X.A (do let _ ← comprehension (.ListComp elt [⟨tg,iter,ifs,0⟩] scope pos) scope X.env (firstIterPos [⟨tg,iter,ifs,0⟩] pos) (newList []) false (eval iter X.env) (some (assign (.Name y py) X.env))) _ _ s
 have h:tLc wi g tt te (own.map (·.2)) σ H (fun x H1=>tH i x σ H1 D.nx):=h
 refine ax (gR (Xd (Qf:=fun _ s'=>SP X pins D .next s') hc hN I hi ok hg ht he hs h fun L C s' m H' I' q hn f=>?_) fun _ s' hq=>aY (aY hq))
 show bO _ _ (assign (.Name y py) X.env (.ref L)) _ _ _
 refine Iq (PN (v:=V.ref L) I' hN hy (.inl hyl) rfl (fun s2 I2 ⟨a,sb,ha⟩=>?_) (.inr hyl))
 obtain⟨f0,f1,f2,f3,f4,f5⟩:=f
 have haC:C≠a:=by
  rcases ha with z | z
  ·rw[z];exact f1
  ·exact fun e=>f4 y a z e.symm
 refine⟨m,hn.sameBut sb haC,fun h3 sb3=>?_⟩
 exact⟨_,H',I2.turned (t':=s2.toks) (fun b o hb e=>(sb3.2 b hb).trans e) f0 f1 f3 f4 f5,q⟩
def yi {elt:Expr} {gs:List Comprehension} {scope:mV} {pos py:Pos} {y:Str} {l:Nat} {env:Env} (hk:env.scope.kind=.function) (hy:env.scope.names.lookup y=some .local) (hl:(py.line==pos.line)=true)
  (ha:(scope.names.any fun(n,k)=>n==y&&(k==.local||k==.cell))=false):wk (.ListComp elt gs scope pos) (some (.Name y py)) l env=pure true:=by
 have ky:env.kindOf y=some .local:=hy
 have hb:env.blockKind=.function:=by unfold Env.blockKind;rw[hk];rfl
 unfold wk
 simp only[hb,ky,ha,Expr.pos,hl]
 rfl
end
def QY {K:aq} {a:Addr} {xs:List V} {g:TG} {tt:TT} {te:TE} {vs:List Nat} {σ:St} {H1:Hp} {D:Addr} {Qd:Hp→Prop} (Pv:Nat→Hp→Prop) (h0:Pv 0 (upd H1 D (.lst []))) (hl:∀i H,i≤xs.length→Pv i H→g6 K H a xs)
  (hs:∀i x H,xs[i]? =some x→Pv i H→g x (wipe σ vs) H fun σ2 H2=>wipe σ2 vs=wipe σ vs∧tt σ2 H2 fun b H3=>
   if b=true then te σ2 H3 fun y H4=>∃acc,H4 D=some (.lst acc)∧acc.length < ag∧Pv (i+1) (upd H4 D (.lst (acc++[y])))else Pv (i+1) H3) (hd:∀H,Pv xs.length H→Qd H):
  ∃W:Nat→Nat→Hp→Prop,(∃m,W 0 m (upd H1 D (.lst [])))∧∀i m H,W i m H→
   ((PR K a).stop i H∧Qd H)∨((PR K a).go i H∧∃Nx:Hp→Prop,(∀H',Nx H'→∃m',m' < m∧W (i+1) m' H')∧∀x H',(PR K a).S0 i H x H'→g x (wipe σ vs) H' fun σ2 H2=>wipe σ2 vs=wipe σ vs∧tt σ2 H2 fun b H3=>
    if b=true then te σ2 H3 fun y H4=>∃acc,H4 D=some (.lst acc)∧acc.length < ag∧Nx (upd H4 D (.lst (acc++[y])))else Nx H3):=by
 refine⟨fun i m H=>m=xs.length - i∧i≤xs.length∧Pv i H,⟨xs.length,by simp,bZ _,h0⟩,?_⟩
 rintro i m H ⟨rfl,hi,p⟩
 have q:=hl i H hi p
 by_cases hlt:i < xs.length
 ·refine .inr ⟨⟨xs,xs[i],q,by simp[hlt]⟩,Pv (i+1),fun H' p'=>⟨xs.length - (i+1),by omega,rfl,hlt,p'⟩,fun x H' y=>?_⟩
  obtain⟨e,y⟩:=y
  subst e
  exact hs i x _ (y xs q) p
 ·have e:i=xs.length:=by omega
  subst e
  exact .inl ⟨⟨xs,q,aJ _⟩,hd H p⟩
def acS {K:aq} {a:Addr} {xs:List V} {g:TG} {tt:TT} {te:TE} {vs:List Nat} {σ:St} {H1:Hp} {D:Addr} {Qd:Hp→Prop} (Pv:Nat→Hp→Prop) (h0:Pv 0 (upd H1 D (.lst []))) (hl:∀i H,i≤xs.length→Pv i H→iB K H a xs)
  (hs:∀i x H,xs[i]? =some x→Pv i H→g x (wipe σ vs) H fun σ2 H2=>wipe σ2 vs=wipe σ vs∧tt σ2 H2 fun b H3=>
   if b=true then te σ2 H3 fun y H4=>∃acc,H4 D=some (.lst acc)∧acc.length < ag∧Pv (i+1) (upd H4 D (.lst (acc++[y])))else Pv (i+1) H3) (hd:∀H,Pv xs.length H→Qd H):
  ∃W:Nat→Nat→Hp→Prop,(∃m,W 0 m (upd H1 D (.lst [])))∧∀i m H,W i m H→
   ((ZG K a).stop i H∧Qd H)∨((ZG K a).go i H∧∃Nx:Hp→Prop,(∀H',Nx H'→∃m',m' < m∧W (i+1) m' H')∧∀x H',(ZG K a).S0 i H x H'→g x (wipe σ vs) H' fun σ2 H2=>wipe σ2 vs=wipe σ vs∧tt σ2 H2 fun b H3=>
    if b=true then te σ2 H3 fun y H4=>∃acc,H4 D=some (.lst acc)∧acc.length < ag∧Nx (upd H4 D (.lst (acc++[y])))else Nx H3):=by
 refine⟨fun i m H=>m=xs.length - i∧i≤xs.length∧Pv i H,⟨xs.length,by simp,bZ _,h0⟩,?_⟩
 rintro i m H ⟨rfl,hi,p⟩
 have q:=hl i H hi p
 by_cases hlt:i < xs.length
 ·refine .inr ⟨⟨xs,xs[i],q,by simp[hlt]⟩,Pv (i+1),fun H' p'=>⟨xs.length - (i+1),by omega,rfl,hlt,p'⟩,fun x H' y=>?_⟩
  obtain⟨e,y⟩:=y
  subst e
  exact hs i x _ (y xs q) p
 ·have e:i=xs.length:=by omega
  subst e
  exact .inl ⟨⟨xs,q,aJ _⟩,hd H p⟩
def ad9 (N:List Str) (sc scope:mV) (own:List (Str×Nat)):Bool:=
 (match scope.kind with | .function=>true | _=>false)&&(scope.names.all fun y=>decide (scope.names.lookup y.1=some y.2))&&(own.all fun p=>decide (N[p.2]? =some p.1))&&
  (scope.names.all fun y=>match y.2 with
   | .free=>(match sc.names.lookup y.1 with | some .cell=>true | some .free=>true | _=>false)
   | .local=>decide (y.1∈own.map (·.1))||decide (y.1∉N)
   | .cell=>decide (y.1∈own.map (·.1))||decide (y.1∉N)
   | _=>true)
def eC {N:List Str} {sc scope:mV} {own:List (Str×Nat)} (h:ad9 N sc scope own=true):Tb N sc scope own:=by
 unfold ad9 at h
 simp only[dh,gC,decide_eq_true_eq]at h
 obtain⟨⟨⟨h1,h2⟩,h3⟩,h4⟩:=h
 refine⟨?_,h2,h3,fun y hy e=>?_,fun y hy e=>?_⟩
 ·split at h1
  ·assumption
  ·cases h1
 ·have q:=h4 y hy
  simp only[e]at q
  split at q <;> first | exact .inl (by assumption) | exact .inr (by assumption) | cases q
 ·have q:=h4 y hy
  rcases e with e | e <;> (simp only[e,CI,decide_eq_true_eq]at q;exact q)
end L2
namespace L2
open PySem PySem.Spec PyProof.Rows
section
variable {prog:cN} {w:dS} {A:Around} {R:WV→az→Prop} {s:az} {elt t0 i0 t1 i1:Expr} {ifs0 ifs1:List Expr} {scope:mV} {pos:Pos} {it acc:ak} {env:Env}
end
section
variable {X:Cx}
end
end L2
namespace L2
open PySem PySem.Spec PyProof.Rows
section
variable {κ:Type} [DecidableEq κ]
def iL (kvs:List (κ×V)) (k:κ):Option V:=(kvs.find? fun kv=>decide (kv.1=k)).map (·.2)
def putK (kvs:List (κ×V)) (k:κ) (v:V):List (κ×V):=
 if(kvs.any fun kv=>decide (kv.1=k))=true then kvs.map (fun kv=>if kv.1=k then(kv.1,v)else kv)else kvs++[(k,v)]
def z9 (kvs:List (κ×V)) (k:κ):List (κ×V):=kvs.filter fun kv=>decide (kv.1≠k)
def kg {p:κ×V} {r:List (κ×V)} {k:κ} (e:p.1=k):iL (p::r) k=some p.2:=by simp[iL,gh,e]
def kh {p:κ×V} {r:List (κ×V)} {k:κ} (e:¬p.1=k):iL (p::r) k=iL r k:=by simp[iL,gh,e]
theorem wo (k:κ):∀kvs:List (κ×V),(kvs.any fun kv=>decide (kv.1=k))=(iL kvs k).isSome
 | []=>rfl
 | p::r=>by
  rw[fG]
  by_cases e:p.1=k
  ·simp only[kg e,decide_eq_true e,Bool.true_or,GP]
  ·rw[kh e,decide_eq_false e,PD];exact wo k r
theorem Td (k j:κ) (y:V):∀kvs:List (κ×V),iL (kvs.map fun kv=>if kv.1=k then(kv.1,y)else kv) j=(iL kvs j).map fun x=>if j=k then y else x
 | []=>rfl
 | p::r=>by
  have ih:=Td k j y r
  rw[aT]
  by_cases h:p.1=k
  ·rw[if_pos h]
   by_cases e:p.1=j
   ·rw[kg (p:=(p.1,y)) e,kg e,oU,if_pos (e.symm.trans h)]
   ·rw[kh (p:=(p.1,y)) e,kh e,ih]
  ·rw[if_neg h]
   by_cases e:p.1=j
   ·rw[kg (p:=p) e,kg e,oU,if_neg (fun z=>h (e.trans z))]
   ·rw[kh (p:=p) e,kh e,ih]
theorem PZ (k j:κ) (y:V):∀kvs:List (κ×V),iL kvs k=none→iL (kvs++[(k,y)]) j=if j=k then some y else iL kvs j
 | [],_=>by
  by_cases e:k=j
  ·rw[if_pos e.symm];exact kg (p:=(k,y)) e
  ·rw[if_neg (fun z=>e z.symm)];exact kh (p:=(k,y)) e
 | p::r,hn=>by
  rw[dW]
  have hk:¬p.1=k:=fun z=>by rw[kg z]at hn;cases hn
  rw[kh hk]at hn
  have ih:=PZ k j y r hn
  by_cases e:p.1=j
  ·rw[kg e,kg e,if_neg (fun z=>hk (e.trans z))]
  ·rw[kh e,kh e,ih]
def Te (kvs:List (κ×V)) (k j:κ) (y:V):iL (putK kvs k y) j=if j=k then some y else iL kvs j:=by
 unfold putK
 by_cases a:(kvs.any fun kv=>decide (kv.1=k))=true
 ·rw[if_pos a,Td]
  rw[wo]at a
  by_cases e:j=k
  ·obtain⟨x,hx⟩:=zV.mp a
   rw[if_pos e,e,hx,oU,if_pos rfl]
  ·rw[if_neg e]
   cases iL kvs j with
   | none=>rfl
   | some x=>rw[oU,if_neg e]
 ·rw[if_neg a]
  refine PZ k j y kvs ?_
  rw[wo]at a
  cases q:iL kvs k with
  | none=>rfl
  | some x=>rw[q]at a;exact(a rfl).elim
def Kc (kvs:List (κ×V)) (k:κ) (v:V):(putK kvs k v).length≤kvs.length+1:=by
 unfold putK
 split
 ·rw[ab];omega
 ·rw[ae,aN,oV];omega
def Tf {kvs:List (κ×V)} {k:κ} (v:V) (h:iL kvs k=none):putK kvs k v=kvs++[(k,v)]:=by
 unfold putK
 rw[wo,h]
 exact if_neg (by decide)
def AO.v9 {o:Option V} {u:Option ak} (r:AO o u):o.isSome=u.isSome:=by
 cases o with
 | none=>cases u with
  | none=>rfl
  | some _=>exact(show False from r).elim
 | some _=>cases u with
  | none=>exact(show False from r).elim
  | some _=>rfl
def AO.getD {o:Option V} {u:Option ak} {d:V} {d':ak} (r:AO o u) (rd:RelV d d'):RelV (o.getD d) (u.getD d'):=by
 cases o with
 | none=>cases u with
  | none=>exact rd
  | some _=>exact(show False from r).elim
 | some _=>cases u with
  | none=>exact(show False from r).elim
  | some _=>exact r
def KV.val {kvs:List (κ×V)} {vs:List (κ×ak)} (r:KV kvs vs) (k:κ):AO (iL kvs k) (Cm vs k):=by
 unfold KV at r
 induction r with
 | nil=>exact pj
 | @cons p q ps qs h t ih=>
  obtain⟨h1,h2⟩:=h
  by_cases e:p.1=k
  ·have e':q.1=k:=h1.symm.trans e
   have b:Cm (q::qs) k=some q.2:=by simp[Cm,gh,e']
   rw[kg e,b];exact h2
  ·have e':¬q.1=k:=fun z=>e (h1.trans z)
   have b:Cm (q::qs) k=Cm qs k:=by simp[Cm,gh,e']
   rw[kh e,b];exact ih
def KV.any {kvs:List (κ×V)} {vs:List (κ×ak)} (r:KV kvs vs) (k:κ):(kvs.any fun kv=>decide (kv.1=k))=vs.any fun kv=>decide (kv.1=k):=by
 unfold KV at r
 induction r with
 | nil=>rfl
 | cons h t ih=>rw[fG,fG,ih,h.1]
def KV.acT {kvs:List (κ×V)} {vs:List (κ×ak)} (r:KV kvs vs) (k:κ) {y:V} {u:ak} (ry:RelV y u):
  KV (kvs.map fun kv=>if kv.1=k then(kv.1,y)else kv) (vs.map fun kv=>if kv.1=k then(kv.1,u)else kv):=by
 unfold KV at r⊢
 induction r with
 | nil=>exact .nil
 | @cons p q ps qs h t ih=>
  rw[aT,aT]
  refine .cons ?_ ih
  obtain⟨h1,h2⟩:=h
  by_cases e:p.1=k
  ·rw[if_pos e,if_pos (h1.symm.trans e)];exact⟨h1,ry⟩
  ·rw[if_neg e,if_neg (fun z=>e (h1.trans z))];exact⟨h1,h2⟩
def KV.put {kvs:List (κ×V)} {vs:List (κ×ak)} (r:KV kvs vs) (k:κ) {y:V} {u:ak} (ry:RelV y u):KV (putK kvs k y) (stored vs k u):=by
 unfold putK stored
 rw[r.any k]
 by_cases e:(vs.any fun kv=>decide (kv.1=k))=true
 ·rw[if_pos e,if_pos e];exact r.acT k ry
 ·rw[if_neg e,if_neg e];exact Vf r ⟨rfl,ry⟩
def KV.drop {kvs:List (κ×V)} {vs:List (κ×ak)} (r:KV kvs vs) (k:κ):KV (z9 kvs k) (without vs k):=by
 unfold KV at r⊢
 unfold z9 without
 induction r with
 | nil=>exact .nil
 | @cons p q ps qs h t ih=>
  obtain⟨h1,h2⟩:=h
  rw[bK,bK]
  by_cases e:p.1=k
  ·have a:¬decide (p.1≠k)=true:=by simp[e]
   have b:¬decide (q.1≠k)=true:=by simp[h1.symm.trans e]
   rw[if_neg a,if_neg b];exact ih
  ·have e':¬q.1=k:=fun z=>e (h1.trans z)
   have a:decide (p.1≠k)=true:=by simp[e]
   have b:decide (q.1≠k)=true:=by simp[e']
   rw[if_pos a,if_pos b];exact .cons ⟨h1,h2⟩ ih
def KV.keys {kvs:List (κ×V)} {vs:List (κ×ak)} (r:KV kvs vs):kvs.map (·.1)=vs.map (·.1):=by
 unfold KV at r
 induction r with
 | nil=>rfl
 | cons h t ih=>rw[aT,aT,ih,h.1]
def KV.length {kvs:List (κ×V)} {vs:List (κ×ak)} (r:KV kvs vs):kvs.length=vs.length:=b9 r
def Tg (kvs:List (κ×V)) (k:κ):(z9 kvs k).length≤kvs.length:=bX _ _
end
def Kd {P:cN} {w:dS} {k:Key} {u:ak} (r:RelV (kV k) u):(ik P w).is k u=true:=by
 cases k with
 | inl i=>obtain⟨t,e⟩:=(show∃t,u=sH i t from r);subst e;exact SO P w i t
 | inr x=>obtain⟨t,e⟩:=(show∃t,u=Ff x t from r);subst e;exact SQ P w x t
theorem P0 {P:cN} {w:dS}:∀{ks:List Key} {us:List ak},Vals (ks.map kV) us→ItemsAre (ik P w) ks us
 | [],_,r=>by rw[rA]at r;cases r;exact .nil
 | k::ks,_,r=>by
  rw[aT]at r
  cases r with
  | cons h t=>exact .cons (Kd h) (P0 t)
abbrev KT (H:Hp):List (List Key×V)→List (List Key×Addr×ak)→Prop:=Paired fun p q=>p.1=q.1∧H q.2.1=some (.tup (p.1.map kV))∧RelV p.2 q.2.2
def KT.val {H:Hp} {kvs:List (List Key×V)} {xs:List (List Key×Addr×ak)} (r:KT H kvs xs) (k:List Key):AO (iL kvs k) ((KI xs k).map (·.2)):=by
 induction r with
 | nil=>exact pj
 | @cons p q ps qs h t ih=>
  obtain⟨h1,_,h2⟩:=h
  by_cases e:p.1=k
  ·have e':q.1=k:=h1.symm.trans e
   have b:KI (q::qs) k=some q.2:=by simp[KI,gh,e']
   rw[kg e,b];exact h2
  ·have e':¬q.1=k:=fun z=>e (h1.trans z)
   have b:KI (q::qs) k=KI qs k:=by simp[KI,gh,e']
   rw[kh e,b];exact ih
def KT.acT {H:Hp} {kvs:List (List Key×V)} {xs:List (List Key×Addr×ak)} (r:KT H kvs xs) (k:List Key) {y:V} {u:ak} (ry:RelV y u):
  KT H (kvs.map fun kv=>if kv.1=k then(kv.1,y)else kv) (xs.map (putAt k u)):=by
 induction r with
 | nil=>exact .nil
 | @cons p q ps qs h t ih=>
  rw[aT,aT]
  refine .cons ?_ ih
  obtain⟨h1,h2,h3⟩:=h
  unfold putAt
  by_cases e:p.1=k
  ·rw[if_pos e,if_pos (h1.symm.trans e)];exact⟨h1,h2,ry⟩
  ·rw[if_neg e,if_neg (fun z=>e (h1.trans z))];exact⟨h1,h2,h3⟩
def KT.put {H:Hp} {kvs:List (List Key×V)} {xs:List (List Key×Addr×ak)} (r:KT H kvs xs) (k:List Key) {b:Addr} {y:V} {u:ak} (hb:H b=some (.tup (k.map kV))) (ry:RelV y u):
  KT H (putK kvs k y) (storedH xs k b u):=by
 have e:(kvs.any fun kv=>decide (kv.1=k))=(KI xs k).isSome:=by
  rw[wo,(r.val k).v9,y0]
 unfold putK storedH
 rw[e]
 by_cases q:(KI xs k).isSome=true
 ·rw[if_pos q,if_pos q];exact r.acT k ry
 ·rw[if_neg q,if_neg q];exact Vf r ⟨rfl,hb,ry⟩
def KT.keeps {H H':Hp} {kvs:List (List Key×V)} {xs:List (List Key×Addr×ak)} (r:KT H kvs xs) (ht:∀b ys,H b=some (.tup ys)→H' b=some (.tup ys)):KT H' kvs xs:=
 Paired.oX r fun _ _ z=>⟨z.1,ht _ _ z.2.1,z.2.2⟩
section
variable {P:cN} {w:dS} {H:Hp} {h:Heap} {a:Addr}
def acd {u:HO} (ok:C2 P w H h) (e:Rd H a u):jw P w H h a u:=e.ok ok
def G5 {kvs:List (Key×V)} (ok:C2 P w H h) (e:Rd H a (.dK kvs)):kvs.length≤ag∧(a==gK)=false∧∃vs,KV kvs vs∧h.DictOf (ik P w) a vs:=
 show jw P w H h a (.dK kvs)from acd ok e
def ZV {kvs:List (Key×V)} (ok:C2 P w H h) (e:H a=some (.dK kvs)):kvs.length≤ag∧(a==gK)=false∧∃vs,KV kvs vs∧h.DictOf (ik P w) a vs:=G5 ok (.inl e)
def IV {ks:List Key} (ok:C2 P w H h) (e:H a=some (.tup (ks.map kV))):(Az (ik P w)).is h ks a:=by
 obtain⟨_,its,r,n,h1⟩:=(show jw P w H h a (.tup (ks.map kV))from ok a _ e)
 exact⟨_,its.toArray,n,h1,rfl,rfl,by simpa using P0 r⟩
def LZ {kvs:List (List Key×V)} (ok:C2 P w H h) (e:Rd H a (.dT kvs)):kvs.length≤ag∧(a==gK)=false∧
  ∃xs,KT H kvs xs∧h.DictOfH (Az (ik P w)) a xs:=by
 obtain⟨z,y,xs,r,o,es,ep,h1,h2,h3,h4,h5⟩:=(show jw P w H h a (.dT kvs)from acd ok e)
 refine⟨z,y,xs,r,o,es,ep,h1,h2,h3,h4,fun x hx=>?_,h5⟩
 have all:∀{l:List (List Key×V)} {m:List (List Key×Addr×ak)},KT H l m→∀x∈m,(Az (ik P w)).is h x.1 x.2.1:=by
  intro l m q
  induction q with
  | nil=>intro x hx;exact nomatch hx
  | @cons p q ps qs hq t ih=>
   intro x hx
   rcases bx.mp hx with e | hx
   ·subst e
    exact IV ok (by rw[← hq.1];exact hq.2.1)
   ·exact ih x hx
 exact all r x hx
def aea {kvs:List (List Key×V)} (ok:C2 P w H h) (e:H a=some (.dT kvs)):kvs.length≤ag∧(a==gK)=false∧
  ∃xs,KT H kvs xs∧h.DictOfH (Az (ik P w)) a xs:=LZ ok (.inl e)
end
def jy (H:Hp) (a:Addr) (y:V) (r:Option V):Prop:=
 (∃kvs k,Rd H a (.dK kvs)∧y=kV k∧r=iL kvs k)∨∃kvs k b,Rd H a (.dT kvs)∧y=.ref b∧H b=some (.tup (k.map kV))∧r=iL kvs k
def L0 (H:Hp) (a:Addr) (y v:V) (H':Hp):Prop:=
 (∃kvs k,H a=some (.dK kvs)∧y=kV k∧kvs.length < ag∧H'=upd H a (.dK (putK kvs k v)))∨
 ∃kvs k b,H a=some (.dT kvs)∧y=.ref b∧H b=some (.tup (k.map kV))∧kvs.length < ag∧H'=upd H a (.dT (putK kvs k v))
def jy.k {H:Hp} {a:Addr} {kvs:List (Key×V)} {k:Key} (e:H a=some (.dK kvs)):jy H a (kV k) (iL kvs k):=.inl ⟨kvs,k,.inl e,rfl,rfl⟩
def L0.k {H:Hp} {a:Addr} {kvs:List (Key×V)} {k:Key} {v:V} (e:H a=some (.dK kvs)) (hl:kvs.length < ag):L0 H a (kV k) v (upd H a (.dK (putK kvs k v))):=.inl ⟨kvs,k,e,rfl,hl,rfl⟩
def L0.t {H:Hp} {a b:Addr} {kvs:List (List Key×V)} {k:List Key} {v:V} (e:H a=some (.dT kvs)) (eb:H b=some (.tup (k.map kV))) (hl:kvs.length < ag):
  L0 H a (.ref b) v (upd H a (.dT (putK kvs k v))):=.inr ⟨kvs,k,b,e,rfl,eb,hl,rfl⟩
section
variable {X:Cx} {pins:List (Addr×Obj)} {σ:St} {H:Hp} {s:az} {a:Addr} {y v:V} {u r:ak} {o:Option V} {A:Around} {E:ak→az→Prop}
def Inv.big (I:Inv X pins σ H s):gK < s.heap.objs.size:=by
 have h:cF < s.heap.objs.size:=(I.mod.glob.keeps I.bk).lt
 exact Nat.lt_trans (by decide) h
def Yn {Q:ak→az→Prop} (hu:A.units+1 < AA) (I:Inv X pins σ H s) (g:jy H a y (some v)) (ry:RelV y u) (h:∀w' s',Inv X pins σ H s'→RelV v w'→Q w' s'):
  bO (model X.prog X.w) A (vV (.ref a) u) Q E s:=by
 rcases g with⟨kvs,k,e,ey,l⟩ | ⟨kvs,k,b,e,ey,eb,l⟩
 ·subst ey
  obtain⟨z,hd,vs,rel,dd⟩:=G5 I.gX e
  obtain⟨w',hw,rw'⟩:=AO.some_of (v:=v) (o:=Cm vs k) (by rw[l];exact rel.val k)
  exact wpAny_getItem_of (Kd ry) dd.mapOf hw (h w' _ (I.tok _) rw')
 ·subst ey
  cases (show u=c9 b from ry)
  obtain⟨z,hd,xs,rel,dd⟩:=LZ I.gX e
  obtain⟨w',hw,rw'⟩:=AO.some_of (v:=v) (o:=(KI xs k).map (·.2)) (by rw[l];exact rel.val k)
  obtain⟨p,hp,hp2⟩:=Cg.mp hw
  refine wpAny_getItem_heap (lg hu) (IV I.gX eb) dd hp ?_
  rw[hp2]
  exact h w' _ (I.tok _) rw'
def ae0 {Q:ak→az→Prop} (hu:A.units+1 < AA) (I:Inv X pins σ H s) (g:jy H a y o) (ry:RelV y u) (h:∀s',Inv X pins σ H s'→Q (.bool o.isSome) s'):
  bO (model X.prog X.w) A (d8 .In u (.ref a)) Q E s:=by
 rcases g with⟨kvs,k,e,ey,l⟩ | ⟨kvs,k,b,e,ey,eb,l⟩
 ·subst ey
  obtain⟨z,hd,vs,rel,dd⟩:=G5 I.gX e
  refine wpAny_in_of (Kd ry) hd dd.mapOf ?_
  rw[← (rel.val k).v9,← l]
  exact h _ (I.tok _)
 ·subst ey
  cases (show u=c9 b from ry)
  obtain⟨z,hd,xs,rel,dd⟩:=LZ I.gX e
  refine wpAny_in_heap (lg hu) (IV I.gX eb) hd dd ?_
  have q:=(rel.val k).v9
  rw[y0]at q
  rw[← q,← l]
  exact h _ (I.tok _)
def abj {Q:ak→az→Prop} (hu:A.units+1 < AA) (I:Inv X pins σ H s) (g:jy H a y o) (ry:RelV y u) (h:∀s',Inv X pins σ H s'→Q (.bool (!o.isSome)) s'):
  bO (model X.prog X.w) A (d8 .NotIn u (.ref a)) Q E s:=by
 rcases g with⟨kvs,k,e,ey,l⟩ | ⟨kvs,k,b,e,ey,eb,l⟩
 ·subst ey
  obtain⟨z,hd,vs,rel,dd⟩:=G5 I.gX e
  refine wpAny_notIn_of (Kd ry) hd dd.mapOf ?_
  rw[← (rel.val k).v9,← l]
  exact h _ (I.tok _)
 ·subst ey
  cases (show u=c9 b from ry)
  obtain⟨z,hd,xs,rel,dd⟩:=LZ I.gX e
  refine wpAny_notIn_heap (lg hu) (IV I.gX eb) hd dd ?_
  have q:=(rel.val k).v9
  rw[y0]at q
  rw[← q,← l]
  exact h _ (I.tok _)
def Ls {h':Heap} {t':Nat} {ob:HO} (I:Inv X pins σ H s) (mu:Mut (H a)) (hs:vT a s.heap h') (he:∃q,h'.get? a=some q) (new:jw X.prog X.w (upd H a ob) h' a ob):
  Inv X pins σ (upd H a ob) {s with heap:=h',toks:=t'}:=
 I.write (x:=a) (e:=a) mu (.inl rfl) (fun b q hb z=>(hs.2 b hb).trans z) he new
def VO {P:cN} {w:dS} {H':Hp} {h':Heap} {kvs:List (Key×V)} {vs:List (Key×ak)} (z:kvs.length≤ag) (hd:(a==gK)=false) (rel:KV kvs vs) (dd:h'.DictOf (ik P w) a vs):
  jw P w H' h' a (.dK kvs):=⟨z,hd,vs,rel,dd⟩
def Yo {H':Hp} {Q:Unit→az→Prop} (hu:A.units+1 < AA) (I:Inv X pins σ H s) (g:L0 H a y v H') (ry:RelV y u) (rv:RelV v r) (h:∀s',Inv X pins σ H' s'→Q () s'):
  bO (model X.prog X.w) A (setItem (.ref a) u r) Q E s:=by
 rcases g with⟨kvs,k,e,ey,l,eH⟩ | ⟨kvs,k,b,e,ey,eb,l,eH⟩
 ·subst ey eH
  obtain⟨z,hd,vs,rel,dd⟩:=ZV I.gX e
  have hz:vs.length≤ag:=by rw[← rel.length];exact z
  have hl:(putK kvs k v).length≤ag:=by have:=Kc kvs k v;omega
  refine wpAny_setItem_pairs (hsz:=hz) (Kd ry) dd fun h' dd' hs=>h _ ?_
  have he:∃q,h'.get? a=some q:=let ⟨q,_,_,hq,_⟩:=dd';⟨q,hq⟩
  exact Ls I (by rw[e];exact pj) hs he (VO hl hd (rel.put k rv) dd')
 ·subst ey eH
  cases (show u=c9 b from ry)
  obtain⟨z,hd,xs,rel,dd⟩:=aea I.gX e
  have hz:xs.length≤ag:=by rw[← b9 rel];exact z
  have hl:(putK kvs k v).length≤ag:=by have:=Kc kvs k v;omega
  refine wpAny_setItem_heap (hsz:=hz) (lg hu) (IV I.gX eb) dd fun h' dd' hs=>h _ ?_
  obtain⟨q,es,ep,hq,h2,h3,h4,_,h5⟩:=dd'
  refine Ls I (by rw[e];exact pj) hs ⟨q,hq⟩ ⟨hl,hd,_,(rel.put k eb rv).keeps fun c ys ec=>?_,q,es,ep,hq,h2,h3,h4,h5⟩
  rw[aD (d5 ec e (fun z=>nomatch z))]
  exact ec
end
section
variable {X:Cx} {pins:List (Addr×Obj)} {σ:St} {H:Hp} {s:az} {a:Addr} {kvs:List (Key×V)} {k:Key} {u:ak} {A:Around} {E:ak→az→Prop}
def adL {Q:Unit→az→Prop} (I:Inv X pins σ H s) (e:H a=some (.dK kvs)) (ry:RelV (kV k) u) (l:(iL kvs k).isSome=true) (h:∀s',Inv X pins σ (upd H a (.dK (z9 kvs k))) s'→Q () s'):
  bO (model X.prog X.w) A (delItem (.ref a) u) Q E s:=by
 obtain⟨z,hd,vs,rel,dd⟩:=ZV I.gX e
 refine wpAny_delItem_slot dd.typeIs (by decide) ye
  (Cn ye dd.typeIs PySem.F.entry_dict_delitem (PySem.F.args_dict_delitem_2 _ _) (meets_dict_delitem_pairs (ik X.prog X.w) a (Kd ry)) ⟨vs,dd,by rw[← rel.length];exact z,by rw[← (rel.val k).v9];exact l,fun h' dd' hs=>h _ ?_⟩)
 have he:∃q,h'.get? a=some q:=let ⟨q,_,_,hq,_⟩:=dd';⟨q,hq⟩
 exact Ls I (by rw[e];exact pj) hs he (VO (bg (Tg kvs k) z) hd (rel.drop k) dd')
def aeb {v:V} {more:List ak} {Q:ak→az→Prop} (I:Inv X pins σ H s) (e:H a=some (.dK kvs)) (ry:RelV (kV k) u) (l:iL kvs k=some v) (hm:more=[]∨∃x,more=[x])
  (h:∀w' s',Inv X pins σ (upd H a (.dK (z9 kvs k))) s'→RelV v w'→Q w' s'):bO (model X.prog X.w) A (call (.builtin "dict.pop") (.ref a::u::more)) Q E s:=by
 obtain⟨z,hd,vs,rel,dd⟩:=ZV I.gX e
 obtain⟨w',hw,rw'⟩:=AO.some_of (v:=v) (o:=Cm vs k) (by rw[← l];exact rel.val k)
 have hp:(keyPart u).isSome=true:=by
  cases k with
  | inl i=>obtain⟨t,q⟩:=(show∃t,u=sH i t from ry);subst q;rfl
  | inr x=>obtain⟨t,q⟩:=(show∃t,u=Ff x t from ry);subst q;rfl
 have ha:argsOk "dict.pop" ⟨.ref a::u::more,[]⟩:=by
  rcases hm with q | ⟨x,q⟩
  ·subst q;exact PySem.F.args_dict_pop_2 _ _
  ·subst q;exact PySem.F.args_dict_pop_3 _ _ _
 refine Cn CW dd.typeIs PySem.F.entry_dict_pop ha (meets_dict_pop_there (ik X.prog X.w) a (Kd ry) more hm hp)
  ⟨vs,w',dd,by rw[← rel.length];exact z,hw,fun h' dd' hs=>h w' _ ?_ rw'⟩
 have he:∃q,h'.get? a=some q:=let ⟨q,_,_,hq,_⟩:=dd';⟨q,hq⟩
 exact Ls I (by rw[e];exact pj) hs he (VO (bg (Tg kvs k) z) hd (rel.drop k) dd')
def aec {Q:ak→az→Prop} (I:Inv X pins σ H s) (e:Rd H a (.dK kvs)) (h:∀t s',Inv X pins σ H s'→Q (.int kvs.length t) s'):bO (model X.prog X.w) A (call (.builtin "len") [.ref a]) Q E s:=by
 obtain⟨z,hd,vs,rel,dd⟩:=G5 I.gX e
 refine call_len_dict hd dd (by rw[← rel.length];rw[bS]at z;omega) ?_
 rw[← rel.length]
 exact h _ _ (I.tok _)
end
def aed (i:Expr):Prop:=∀ov iv,subscripted i false ov iv=operate [ov,iv] (vV ov iv)
def abk {prog:cN} {w:dS} {A:Around} {E:ak→az→Prop} {s:az} {env:Env} {value slice:Expr} {pos:Pos} {T id:String} {Q:ak→az→Prop}
  (hl:typeLookup (.type T) "__getitem__"=pure (some (.builtin id))) (hs:aed slice)
  (h:bO (model prog w) A (eval value env) (fun o s₁=>bO (model prog w) A (eval slice env) (fun i s₂=>s₂.TypeIs o T∧bO (model prog w) A (vV o i) Q E s₂) E s₁) E s):
  bO (model prog w) A (eval (.Subscript value slice pos) env) Q E s:=by
 refine Subscript_ (iI h (fun o s₁ h₁=>iI h₁ (fun i s₂ h₂=>?_) fun _ _ x=>x) fun _ _ x=>x)
 obtain⟨hT,h₂⟩:=h₂
 unfold subscriptTail
 refine ax ?_
 rw[getitemInPython_of_ne hT.not_modules]
 refine ax (wpAny_specialOf hT hl ?_)
 have fin:bO (model prog w) A (subscripted slice false o i) (fun r s₃=>bO (model prog w) A (letTemporaryGo value o r >>=fun _=>pure r) Q E s₃) E s₂:=by
  rw[hs o i]
  exact wpAny_operating (iI h₂ (fun r s₃ h₃=>ax (wpAny_letTemporaryGo (aY h₃))) fun _ _ x=>x)
 first
  | exact aY (ax fin)
  | exact ax (aY (ax fin))
  | exact ax fin
def Th {X:Cx} {pins:List (Addr×Obj)} {σ:St} {H:Hp} {s:az} {a:Addr} {y:V} {o:Option V} (I:Inv X pins σ H s) (g:jy H a y o):s.TypeIs (.ref a) "dict":=by
 rcases g with⟨kvs,k,e,_,_⟩ | ⟨kvs,k,b,e,_,_,_⟩
 ·obtain⟨_,_,vs,_,dd⟩:=G5 I.gX e
  exact dd.typeIs
 ·obtain⟨_,_,xs,_,dd⟩:=LZ I.gX e
  exact dd.typeIs
def aee (td ty:TE):TE:=fun σ H Q=>td σ H fun x H1=>ty σ H1 fun y H2=>EX2 fun a v=>x=.ref a∧jy H2 a y (some v)∧Q v H2
def ae1 (ty td:TE):TE:=fun σ H Q=>ty σ H fun y H1=>td σ H1 fun x H2=>EX2 fun a o=>x=.ref a∧jy H2 a y o∧Q (.bl o.isSome) H2
def abl (ty td:TE):TE:=fun σ H Q=>ty σ H fun y H1=>td σ H1 fun x H2=>EX2 fun a o=>x=.ref a∧jy H2 a y o∧Q (.bl (!o.isSome)) H2
def aef (td ty tv:TE):TS:=fun D σ H=>tv σ H fun v H1=>td σ H1 fun x H2=>ty σ H2 fun y H3=>EX2 fun a H4=>x=.ref a∧L0 H3 a y v H4∧D.nx σ H4
section
variable {X:Cx} {o i e value:Expr} {pos pos' tpos:Pos} {td ty tv:TE}
def l5 (hu:X.A.units+1 < AA) (ho:PE X o td) (hi:PE X i ty) (hs:aed i):PE X (.Subscript o i pos) (aee td ty):=by
 intro pins s σ H Q I h
 refine abk PySem.F.slot_dict_getitem.lookup hs (gR (ho pins s σ H _ I h) fun u s1 ⟨x,H1,I1,rx,q1⟩=>gR (hi pins s1 σ H1 _ I1 q1) fun iv s2 ⟨y,H2,I2,ry,a,v,ex,g,q2⟩=>?_)
 subst ex
 obtain rfl:u=c9 a:=rx
 exact⟨Th I2 g,Yn hu I2 g ry fun w' s3 I3 rw'=>⟨v,H2,I3,rw',q2⟩⟩
def acU (hu:X.A.units+1 < AA) (hi:PE X i ty) (ho:PE X o td):PC X .In i o (ae1 ty td):=by
 intro pins s σ H Q I h
 refine gR (hi pins s σ H _ I h) fun iv s1 ⟨y,H1,I1,ry,q1⟩=>gR (ho pins s1 σ H1 _ I1 q1) fun u s2 ⟨x,H2,I2,rx,a,ov,ex,g,q2⟩=>?_
 subst ex
 obtain rfl:u=c9 a:=rx
 exact ae0 hu I2 g ry fun s3 I3=>⟨.bl ov.isSome,H2,I3,rfl,q2⟩
def ki (hu:X.A.units+1 < AA) (hi:PE X i ty) (ho:PE X o td):PC X .NotIn i o (abl ty td):=by
 intro pins s σ H Q I h
 refine gR (hi pins s σ H _ I h) fun iv s1 ⟨y,H1,I1,ry,q1⟩=>gR (ho pins s1 σ H1 _ I1 q1) fun u s2 ⟨x,H2,I2,rx,a,ov,ex,g,q2⟩=>?_
 subst ex
 obtain rfl:u=c9 a:=rx
 exact abj hu I2 g ry fun s3 I3=>⟨.bl (!ov.isSome),H2,I3,rfl,q2⟩
def G6 (hu:X.A.units+1 < AA) (ho:PE X o td) (hi:PE X i ty) (hv:PE X value tv) (hs:wk value (some (.Subscript o i pos')) pos.line X.env=pure false):
  PS X (.Assign [.Subscript o i pos'] value pos) (aef td ty tv):=by
 intro pins s σ H D I h
 refine wpAny_Assign_Subscript (gR (hv pins s σ H _ I h) fun r s1 ⟨v,H1,I1,rv,q1⟩=>gR (ho pins s1 σ H1 _ I1 q1) fun u s2 ⟨x,H2,I2,rx,q2⟩=>gR (hi pins s2 σ H2 _ I2 q2) fun iv s3 ⟨y,H3,I3,ry,a,H4,ex,g,q3⟩=>?_) hs
 subst ex
 obtain rfl:u=c9 a:=rx
 exact Yo hu I3 g ry rv fun s4 I4=>⟨σ,H4,I4,q3⟩
end
def ZW {P:cN} {w:dS} {H:Hp} (h:Heap) (hb:gK < h.objs.size):jw P w H (h.push {cls:=.type "dict",data:=.dict #[]}) h.objs.size (.dK []):=
 ⟨bZ _,beq_eq_false_iff_ne.mpr (dv (cI hb)),[],.nil,Zv h⟩
def ZX {P:cN} {w:dS} {H:Hp} (h:Heap) (hb:gK < h.objs.size):jw P w H (h.push {cls:=.type "dict",data:=.dict #[]}) h.objs.size (.dT []):=
 ⟨bZ _,beq_eq_false_iff_ne.mpr (dv (cI hb)),[],.nil,_,#[],0,b4 _ rfl,⟨rfl,rfl,rfl⟩,rfl,rfl,List.nodup_nil⟩
def acV:TE:=fun _ H Q=>∀p,H p=none→Q (.ref p) (upd H p (.dK []))
def acW:TE:=fun _ H Q=>∀p,H p=none→Q (.ref p) (upd H p (.dT []))
section
variable {X:Cx} {pos:Pos}
def G7:PE X (.Dict [] [] pos) acV:=fun pins s σ H Q I h=>
 JY ⟨.ref s.heap.objs.size,_,I.laid (a:=s.heap.objs.size) (o:=.dK []) (t':=s.toks) (fun _ _ q=>bp _ q) (aJ _) (ZW s.heap I.big),rfl,h _ (I.gX.fresh (aJ _))⟩
def ZY:PE X (.Dict [] [] pos) acW:=fun pins s σ H Q I h=>
 JY ⟨.ref s.heap.objs.size,_,I.laid (a:=s.heap.objs.size) (o:=.dT []) (t':=s.toks) (fun _ _ q=>bp _ q) (aJ _) (ZX s.heap I.big),rfl,h _ (I.gX.fresh (aJ _))⟩
end
structure M1 (X:Cx) (o:Expr) (m:Str) (apos:Pos) (e:Expr) (g8:Pos):Prop where
 base:lY o m X.env (eval o X.env)=eval o X.env
 x9:((iH g8 (cw [e] X.env)).all (fun x=>!x.1)&&(rj g8 (jP [] X.env)).all (fun x=>x.1.isSome)
  &&decide (([e]:List Expr).length+([]:List yY).length+(if([]:List yY).isEmpty then 0 else 1) < 30))=true
 line:(apos.endLine==g8.line)=true
 trees:iH g8 (cw [e] X.env)=[(false,eval e X.env)]
structure M2 (X:Cx) (o:Expr) (m:Str) (apos:Pos) (e f:Expr) (g8:Pos):Prop where
 base:lY o m X.env (eval o X.env)=eval o X.env
 x9:((iH g8 (cw [e,f] X.env)).all (fun x=>!x.1)&&(rj g8 (jP [] X.env)).all (fun x=>x.1.isSome)
  &&decide (([e,f]:List Expr).length+([]:List yY).length+(if([]:List yY).isEmpty then 0 else 1) < 30))=true
 line:(apos.endLine==g8.line)=true
 trees:iH g8 (cw [e,f] X.env)=[(false,eval e X.env),(false,eval f X.env)]
def IsD (H:Hp) (a:Addr):Prop:=(∃kvs,Rd H a (.dK kvs))∨∃kvs,Rd H a (.dT kvs)
def ZZ {X:Cx} {pins:List (Addr×Obj)} {σ:St} {H:Hp} {s:az} {a:Addr} (I:Inv X pins σ H s) (d:IsD H a):
  s.TypeIs (.ref a) "dict"∧(∀b,c9 a=.ref b→∃ob,s.heap.get? b=some ob∧ob.dict=none)∧(a==gK)=false:=by
 rcases d with⟨kvs,e⟩ | ⟨kvs,e⟩
 ·obtain⟨_,hd,vs,_,dd⟩:=G5 I.gX e
  refine⟨dd.typeIs,fun b q=>?_,hd⟩
  cases q
  obtain⟨ob,_,_,h1,h2,_⟩:=dd
  exact⟨ob,h1,h2.2.1⟩
 ·obtain⟨_,hd,xs,_,dd⟩:=LZ I.gX e
  refine⟨dd.typeIs,fun b q=>?_,hd⟩
  cases q
  obtain⟨ob,_,_,h1,h2,_⟩:=dd
  exact⟨ob,h1,h2.2.1⟩
section
variable {X:Cx} {pins:List (Addr×Obj)} {σ:St} {H:Hp} {s:az} {a:Addr} {y d:V} {u r:ak} {o:Option V} {A:Around} {E:ak→az→Prop}
def acX {Q:ak→az→Prop} (hu:A.units+1 < AA) (I:Inv X pins σ H s) (g:jy H a y o) (ry:RelV y u) (rd:RelV d r) (h:∀w' s',Inv X pins σ H s'→RelV (o.getD d) w'→Q w' s'):
  bO (model X.prog X.w) A (call (.builtin "dict.get") [.ref a,u,r]) Q E s:=by
 rcases g with⟨kvs,k,e,ey,l⟩ | ⟨kvs,k,b,e,ey,eb,l⟩
 ·subst ey
  obtain⟨z,hd,vs,rel,dd⟩:=G5 I.gX e
  refine Cn rR dd.typeIs Co (AD _ _ _) (meets_dict_get_default (ik X.prog X.w) a (Kd ry) hd r) ⟨_,dd.mapOf,h _ _ (I.tok _) ?_⟩
  rw[l]
  exact(rel.val k).getD rd
 ·subst ey
  cases (show u=c9 b from ry)
  obtain⟨z,hd,xs,rel,dd⟩:=LZ I.gX e
  refine Cn rR dd.typeIs Co (AD _ _ _) (meetsH_dict_get_default (Az (ik X.prog X.w)) a b hd r) ⟨lg hu,k,xs,IV I.gX eb,dd,h _ _ (I.tok _) ?_⟩
  rw[l]
  exact(rel.val k).getD rd
end
def acY (td ty tx:TE):TE:=fun σ H Q=>td σ H fun x H1=>∃a,x=.ref a∧IsD H1 a∧ty σ H1 fun y H2=>tx σ H2 fun z H3=>∃o,jy H3 a y o∧Q (o.getD z) H3
def acZ (td ty:TE):TE:=fun σ H Q=>td σ H fun x H1=>∃a,x=.ref a∧IsD H1 a∧ty σ H1 fun y H2=>∃kvs k v,H2 a=some (.dK kvs)∧y=kV k∧iL kvs k=some v∧Q v (upd H2 a (.dK (z9 kvs k)))
section
variable {X:Cx} {o e f:Expr} {apos g8:Pos} {td ty tx:TE}
def Z0 (hu:X.A.units+1 < AA) (ho:PE X o td) (he:PE X e ty) (hf:PE X f tx) (m:M2 X o "get" apos e f g8):PE X (.Call (.Attribute o "get" apos) [e,f] [] g8) (acY td ty tx):=by
 intro pins s σ H Q I h
 refine IF m.base m.x9 m.line AE rR PySem.F.type_dict_get (gR (ho pins s σ H _ I h) fun u s1 ⟨x,H1,I1,rx,a,ex,d,q1⟩=>?_)
 subst ex
 obtain rfl:u=c9 a:=rx
 obtain⟨t1,t2,_⟩:=ZZ I1 d
 refine⟨t1,t2,?_⟩
 rw[m.trees]
 refine la rfl (mW (pk (gR (he pins s1 σ H1 _ I1 q1) fun iv s2 ⟨y,H2,I2,ry,q2⟩=>
  pk (gR (hf pins s2 σ H2 _ I2 q2) fun fv s3 ⟨z,H3,I3,rz,ov,g,q3⟩=>yX ?_))))
 exact acX hu I3 g ry rz fun w' s4 I4 rw'=>⟨_,H3,I4,rw',q3⟩
def Ti (ho:PE X o td) (he:PE X e ty) (m:M1 X o "pop" apos e g8):PE X (.Call (.Attribute o "pop" apos) [e] [] g8) (acZ td ty):=by
 intro pins s σ H Q I h
 refine IF m.base m.x9 m.line AE CW PySem.F.type_dict_pop (gR (ho pins s σ H _ I h) fun u s1 ⟨x,H1,I1,rx,a,ex,d,q1⟩=>?_)
 subst ex
 obtain rfl:u=c9 a:=rx
 obtain⟨t1,t2,_⟩:=ZZ I1 d
 refine⟨t1,t2,?_⟩
 rw[m.trees]
 refine la rfl (mW (pk (gR (he pins s1 σ H1 _ I1 q1) fun iv s2 ⟨y,H2,I2,ry,kvs,k,v,ea,ey,l,q2⟩=>yX ?_)))
 subst ey
 exact aeb I2 ea ry l (.inl rfl) fun w' s3 I3 rw'=>⟨v,_,I3,rw',q2⟩
end
section
variable {X:Cx} {pins:List (Addr×Obj)} {σ:St} {H:Hp} {s:az} {a:Addr} {kvs:List (Key×V)} {A:Around} {E:ak→az→Prop}
end
section
variable {X:Cx} {pins:List (Addr×Obj)} {σ:St} {H:Hp} {s:az} {a:Addr} {y:V} {u:ak} {A:Around} {E:ak→az→Prop}
end
end L2
namespace L2
open PySem PySem.Spec PyProof.Rows
section
variable {prog:cN} {w:dS} {A:Around} {E:ak→az→Prop}
end
section
variable {X:Cx}
end
end L2
namespace L2
open PySem PySem.Spec PyProof.Rows
section
variable {X:Cx} {pins:List (Addr×Obj)} {σ:St} {H:Hp} {s:az} {h':Heap}
def Inv.lock {d:Addr} {u:HO} (I:Inv X pins σ H s) (h:H d=some u) (mu:Mut (some u)):∃od,Inv X pins σ (upd H d (.iK od u)) s:=by
 have x:=I.gX d u h
 have ex:∃od,s.heap.get? d=some od:=by
  cases u with
  | lst xs=>obtain⟨_,_,_,_,e⟩:=x;exact⟨_,e⟩
  | dK kvs=>obtain⟨_,_,_,_,o,_,_,e,_⟩:=x;exact⟨o,e⟩
  | dT kvs=>obtain⟨_,_,_,_,o,_,_,e,_⟩:=x;exact⟨o,e⟩
  | set S n=>obtain⟨o,_,_,_,e,_⟩:=x;exact⟨o,e⟩
  | ins C dx fs=>obtain⟨_,_,_,e,_⟩:=x;exact⟨_,e⟩
  | ext φ=>obtain⟨_,⟨_,e⟩,_⟩:=x;exact⟨_,e⟩
  | _=>exact fR mu
 obtain⟨od,e⟩:=ex
 have new:jw X.prog X.w (upd H d (.iK od u)) s.heap d (.iK od u):=by
  refine⟨e,x.SS (fun b v _ q=>q) (fun b q=>?_) fun b xs q=>?_⟩
  ·rw[aD (fun z=>by rw[z,h]at q;cases q;exact mu)];exact q
  ·rw[aD (fun z=>by rw[z,h]at q;cases q;exact mu)];exact q
 exact⟨od,I.write (x:=d) (e:=d) (t':=s.toks) (h':=s.heap) (by rw[h];exact mu) (.inl rfl) (fun b v _ q=>q) ⟨od,e⟩ new⟩
def Inv.Tj {d:Addr} {u:HO} (I:Inv X pins σ H s) (h:H d=some u) (mu:Mut (some u)):∀o' u',X.H_0 d≠some (.iK o' u'):=fun o' u' e=>by
 have q:=I.base.LK d o' u' e
 rw[h]at q
 cases q
 exact mu
def Inv.unlock {d:Addr} {od:Obj} {u:HO} (I:Inv X pins σ H s) (h:H d=some (.iK od u)) (hn:∀o' u',X.H_0 d≠some (.iK o' u')):Inv X pins σ (upd H d u) s:=by
 have neH:∀b o,H b=some o→(∀o' u',o≠.iK o' u')→b≠d:=fun b o e hne z=>by
  rw[z,h]at e
  cases e
  exact hne _ _ rfl
 have neN:∀b,H b=none→b≠d:=fun b e z=>by rw[z,h]at e;cases e
 refine⟨I.ok,I.os,I.bare,⟨I.base.keep,I.base.slot,fun b o e n hx=>?_,I.base.there,fun b xs e=>?_,fun b o x e=>?_,fun b ps e=>?_⟩,I.loc,I.cell,?_,fun x c e=>?_,fun p hp=>?_,fun b o e=>?_,I.len⟩
 ·rw[aD (neN b (I.base.free b o e n hx))];exact I.base.free b o e n hx
 ·have q:=I.base.QL b xs e
  rw[aD (neH b _ q (fun _ _ z=>nomatch z))];exact q
 ·have q:=I.base.LK b o x e
  rw[aD (fun z=>by rw[z]at e;exact hn _ _ e)];exact q
 ·obtain⟨m,q⟩:=I.base.QM b ps e
  exact⟨m,by rw[aD (neH b _ q (fun _ _ z=>nomatch z))];exact q⟩
 ·rw[aD (neN _ I.free)];exact I.free
 ·rw[aD (neN c (I.zZ x c e))];exact I.zZ x c e
 ·obtain⟨e,n,r⟩:=I.pin p hp
  exact⟨e,by rw[aD (neN _ n)];exact n,r⟩
 ·by_cases hb:b=d
  ·rw[hb,af]at e
   cases e
   rw[hb]
   obtain⟨_,x⟩:=I.gX d _ h
   exact x.SS (fun c v _ q=>q) (fun c q=>by rw[aD (neH c _ q (fun _ _ z=>nomatch z))];exact q) fun c xs q=>by rw[aD (neH c _ q (fun _ _ z=>nomatch z))];exact q
  ·rw[aD hb]at e
   exact(I.gX b o e).SS (fun c v _ q=>q) (fun c q=>by rw[aD (neH c _ q (fun _ _ z=>nomatch z))];exact q) fun c xs q=>by rw[aD (neH c _ q (fun _ _ z=>nomatch z))];exact q
end
def aeg (t:TS):TS:=fun D σ H=>EX2 fun d u=>H d=some u∧Mut (some u)∧∀od,t ⟨fun σ' H'=>H' d=some (.iK od u)∧D.nx σ' (upd H' d u),fun v H'=>H' d=some (.iK od u)∧D.rt v (upd H' d u),fun σ' H'=>H' d=some (.iK od u)∧D.bk σ' (upd H' d u),fun σ' H'=>H' d=some (.iK od u)∧D.ct σ' (upd H' d u)⟩ σ (upd H d (.iK od u))
def ac0 (t:TE):TE:=fun σ H Q=>EX2 fun d u=>H d=some u∧Mut (some u)∧∀od,t σ (upd H d (.iK od u)) fun v H'=>H' d=some (.iK od u)∧Q v (upd H' d u)
section
variable {X:Cx}
def Lu {st:Stmt} {t:TS} (h:PS X st t):PS X st (aeg t):=by
 intro pins s σ H D I hw
 obtain⟨d,u,hd,mu,hw⟩:=hw
 obtain⟨od,I1⟩:=I.lock hd mu
 refine gR (h pins s σ _ _ I1 (hw od)) fun f s1 q=>?_
 cases f with
 | next=>obtain⟨σ',H',I2,e,q⟩:=q;exact⟨σ',_,I2.unlock e (I.Tj hd mu),q⟩
 | brk=>obtain⟨σ',H',I2,e,q⟩:=q;exact⟨σ',_,I2.unlock e (I.Tj hd mu),q⟩
 | cont=>obtain⟨σ',H',I2,e,q⟩:=q;exact⟨σ',_,I2.unlock e (I.Tj hd mu),q⟩
 | ret v=>obtain⟨x,σ',H',I2,r,e,q⟩:=q;exact⟨x,σ',_,I2.unlock e (I.Tj hd mu),r,q⟩
def abm {e:Expr} {t:TE} (h:PE X e t):PE X e (ac0 t):=by
 intro pins s σ H Q I hw
 obtain⟨d,u,hd,mu,hw⟩:=hw
 obtain⟨od,I1⟩:=I.lock hd mu
 refine gR (h pins s σ _ _ I1 (hw od)) fun v s1 ⟨x,H1,I2,r,e2,q⟩=>?_
 exact⟨x,_,I2.unlock e2 (I.Tj hd mu),r,q⟩
def Z1 {tg:Expr} {pins:List (Addr×Obj)} {σ:St} {H:Hp} {s:az} {R:It→Hp→Prop} {J:It} {tn:Nat→Heap→Prop} {tk:Nat} (I:Inv X pins σ H s) (o:Obj)
  (T:Turn X.prog X.w X.K tg J [s.heap.objs.size] s.heap.objs.size tn) (st:tn 0 (s.heap.push o)) (q:R J H):PIE X pins σ tg R (.ref s.heap.objs.size) {s with heap:=s.heap.push o,toks:=tk}:=by
 refine⟨s.heap.objs.size,[s.heap.objs.size],tn,J,H,rfl,I.kept fun b ob e=>bp _ e,T,st,fun b hb=>?_,q⟩
 have e:b=s.heap.objs.size:=by simpa using hb
 subst e
 exact I.ZF (aJ _) (I.gX.fresh (aJ _))
end
section
variable {X:Cx} {tg:Expr}
end
section
variable {X:Cx} {tg:Expr}
end
section
variable {prog:cN} {w:dS} {A:Around} {E:ak→az→Prop} {s:az}
def P1 {d:Addr} {o:Obj} {es:Array nz} {ep:Nat} {Q:ak→az→Prop} (hd:(d==gK)=false) (ho:s.heap.get? d=some o) (hc:o.ExactDict) (hdat:o.data=.dict es ep)
  (hQ:Q (.ref s.heap.objs.size) {s with heap:=s.heap.push {cls:=.type "dict_keyiterator",data:=.fields #[.ref d,.int 0 0,.int es.size 0,.int ep 0]}}):
  bO (model prog w) A (Ss (.ref d)) Q E s:=by
 have hT:s.TypeIs (.ref d) "dict":=⟨o,ho,hc.1⟩
 refine IG hT JZ (je JZ hT F.entry_dict_iter ?_ (F.args_dict_iter_1 _))
 unfold Builtin.«dict.__iter__»
 refine ax ?_
 unfold Oh
 refine ax (wpAny_notOrdered_dict hT ?_)
 show bO _ _ (pure (c9 d)) _ _ s
 refine aY ?_
 show bO _ _ (CY d >>=_) _ _ s
 unfold CY
 rw[if_neg (by rw[hd];exact bG)]
 refine ax (aY ?_)
 refine ax (y4 ho hdat ?_)
 refine ax (CJ ho hdat ?_)
 refine ax (gN (aY ⟨_,rfl,"dict_keyiterator",_,⟨_,b4 _ rfl,rfl⟩,eN.lookup,?_⟩))
 simpa[NM]using hQ
def Oq {it d:Addr} {i n ep:Nat} {od:Obj} {es:Array nz} {en:nz} {Q:Option ak→az→Prop} (hit:s.heap.IsKeyIter it d i n ep) (hod:s.heap.get? d=some od) (hdd:od.data=.dict es ep)
  (hsz:es.size=n) (hx:es[i]? =some en) (hQ:∀h',h'.IsKeyIter it d (i+1) n ep→vT it s.heap h'→Q (some en.key) {s with heap:=h'}):bO (model prog w) A (JT (.ref it)) Q E s:=by
 obtain⟨o,ho,hc,hd⟩:=id hit
 unfold JT
 refine ax (PF (kO (name:=Cc "__next__") hit.typeIs eN
  (je eN hit.typeIs uk ?_ (sL _))))
 refine ax (aY ?_)
 refine ax ?_
 refine ax ?_
 first | refine ax (ic hit.typeIs (aY ?_)) | refine ax (j4 hit.typeIs (aY ?_))
 refine ax (NT ho hd ?_)
 have hown:uU "dict_keyiterator"=false:=by decide
 simp only[hown,pz,if_false]
 show bO _ _ (if(c9 d==mU)=true then _ else _) _ _ s
 rw[if_neg (show¬((c9 d==mU)=true)from bG)]
 refine ax (aY ?_)
 refine ax (y4 hod hdd ?_)
 rw[if_neg (by rw[hsz];simp)]
 refine ax (aY ?_)
 refine ax (CJ hod hdd ?_)
 rw[if_neg (by simp)]
 refine aY ?_
 obtain⟨hlt',hen⟩:=Array.getElem?_eq_some_iff.mp hx
 simp only[show¬((i:Int) < 0)from by omega,if_false,yZ,yf hlt']
 refine ax ?_
 first | refine ax (ic hit.typeIs (aY ?_)) | refine ax (j4 hit.typeIs (aY ?_))
 refine ax (CZ hit.typeIs ?_)
 show bO _ _ (setField (.ref it) 1 (NM ((i:Int)+1)) >>=_) _ _ s
 refine ax (NU ho hd (by simp) ?_)
 have hit':(s.heap.update it (PH (·.setIfInBounds 1 (NM ((i:Int)+1))))).IsKeyIter it d (i+1) n ep:=
  ⟨_,CV _ ho (Obj.isFreed_of_fields (GQ hd _)),(Obj.cls_mapFields ..).trans hc,by rw[GQ hd];simp[NM]⟩
 refine ax (lX ?_)
 refine ax (CZ (s:={s with heap:=s.heap.update it (PH (·.setIfInBounds 1 (NM ((i:Int)+1))))}) hit'.typeIs ?_)
 show bO _ _ (pure es[i].key) _ _ _
 rw[hen]
 exact aY (aY ⟨_,rfl,aY (hQ _ hit' (Fq ..))⟩)
def G8 {it d:Addr} {i n ep:Nat} {od:Obj} {es:Array nz} {Q:Option ak→az→Prop} (hh:A.handled=none) (hit:s.heap.IsKeyIter it d i n ep) (hod:s.heap.get? d=some od) (hdd:od.data=.dict es ep)
  (hsz:es.size=n) (hge:n≤i) (hQ:∀h',Heap.ExtBut it s.heap h'→Q none {s with heap:=h'}):bO (model prog w) A (JT (.ref it)) Q E s:=by
 obtain⟨o,ho,hc,hd⟩:=id hit
 unfold JT
 refine ax (PF (kO (name:=Cc "__next__") hit.typeIs eN
  (je eN hit.typeIs uk ?_ (sL _))))
 refine ax (aY ?_)
 refine ax ?_
 refine ax ?_
 first | refine ax (ic hit.typeIs (aY ?_)) | refine ax (j4 hit.typeIs (aY ?_))
 refine ax (NT ho hd ?_)
 have hown:uU "dict_keyiterator"=false:=by decide
 simp only[hown,pz,if_false]
 show bO _ _ (if(c9 d==mU)=true then _ else _) _ _ s
 rw[if_neg (show¬((c9 d==mU)=true)from bG)]
 refine ax (aY ?_)
 refine ax (y4 hod hdd ?_)
 rw[if_neg (by rw[hsz];simp)]
 refine ax (aY ?_)
 refine ax (CJ hod hdd ?_)
 rw[if_neg (by simp)]
 refine aY ?_
 have hge':es.size≤i:=by rw[hsz];exact hge
 simp only[show¬((i:Int) < 0)from by omega,if_false,yZ,Array.getElem?_eq_none hge']
 refine ax ?_
 first | refine ax (ic hit.typeIs (aY ?_)) | refine ax (j4 hit.typeIs (aY ?_))
 show bO _ _ (setField (.ref it) 0 .none >>=_) _ _ s
 refine ax (NU ho hd (by simp) ?_)
 show bO _ _ (newExc (.type "StopIteration") [] >>=_) _ _ _
 refine ax ?_
 simp only[newExc,newTuple]
 refine ax (gN ?_ (by size_fits))
 refine ax (m:=NV _ _) (wpAny_of_eq (a:=mU) (by first | rfl | (simp only[NV];rfl)) ?_)
 refine gN ?_ (by size_fits)
 simp only[raiseNew]
 refine ax (wpAny_handled ?_)
 rw[show A.in1.handled=none from hh]
 refine ax (aY (wpAny_throw ?_))
 refine ax (wpAny_isInstance (T:="StopIteration") (b:=true) ⟨_,b4 _ rfl,rfl⟩ isSubtype_stop ?_)
 exact aY (hQ _ (((Fq ..).extBut.push _).push _))
end
def ac1 {κ:Type} {kvs:List (κ×V)} {vs:List (κ×ak)} (h:KV kvs vs):∀{i:Nat} {k:κ} {v:V},kvs[i]? =some (k,v)→∃u,vs[i]? =some (k,u)∧RelV v u:=by
 unfold KV at h
 induction h with
 | nil=>intro i k v e;simp at e
 | @cons a b l₁ l₂ r t ih=>
  intro i k v e
  cases i with
  | zero=>
   simp only[pP,eE]at e
   subst e
   refine⟨b.2,?_,r.2⟩
   simp only[pP]
   exact congrArg some (Prod.ext r.1.symm rfl)
  | succ j=>
   simp only[AF]at e⊢
   exact ih e
def cQ {α β:Type} {G:α→β→Prop} {l₁:List α} {l₂:List β} (h:Paired G l₁ l₂):∀{i:Nat} {a:α},l₁[i]? =some a→∃b,l₂[i]? =some b∧G a b:=by
 induction h with
 | nil=>intro i a e;simp at e
 | @cons a b l₁ l₂ r t ih=>
  intro i a' e
  cases i with
  | zero=>
   simp only[pP,eE]at e
   subst e
   exact⟨b,rfl,r⟩
  | succ j=>
   simp only[AF]at e⊢
   exact ih e
def Tn {k:Key} {u:ak} (h:J7 k u=true):RelV (kV k) u:=by
 rcases iW h with⟨i,t,rfl,rfl⟩ | ⟨x,t,rfl,rfl⟩
 ·exact⟨t,rfl⟩
 ·exact⟨t,rfl⟩
section
variable {X:Cx} {pins:List (Addr×Obj)} {σ:St} {H:Hp} {s:az} {d:Addr} {o:Obj}
def Inv.ac2 {kvs:List (Key×V)} (I:Inv X pins σ H s) (h:H d=some (.iK o (.dK kvs))):
  (d==gK)=false∧s.heap.get? d=some o∧o.ExactDict∧∃(es:Array nz) (ep:Nat) (vs:List (Key×ak)),o.data=.dict es ep∧es.size=kvs.length∧KV kvs vs∧s.heap.DictAt (ik X.prog X.w) d vs ep:=by
 obtain⟨hd,z,hs,vs,kv,o',es,ep,ho,hx,hdt,r⟩:=I.gX d _ h
 rw[hd]at ho
 cases ho
 refine⟨hs,hd,hx,es,ep,vs,hdt,?_,kv,o,es,hd,hx,hdt,r⟩
 have l1:=r.2.1.length
 have l2:kvs.length=vs.length:=b9 kv
 rw[j9]at l1
 omega
def Inv.ac3 {kvs:List (List Key×V)} (I:Inv X pins σ H s) (h:H d=some (.iK o (.dT kvs))):
  (d==gK)=false∧s.heap.get? d=some o∧o.ExactDict∧∃(es:Array nz) (ep:Nat),o.data=.dict es ep∧es.size=kvs.length∧
   ∀(i:Nat) (k:List Key) (v:V),kvs[i]? =some (k,v)→∃(en:nz) (q:Addr),es[i]? =some en∧en.key=.ref q∧H q=some (.tup (k.map kV)):=by
 obtain⟨hd,z,hs,xs,pr,o',es,ep,ho,hx,hdt,he,_⟩:=I.gX d _ h
 rw[hd]at ho
 cases ho
 refine⟨hs,hd,hx,es,ep,hdt,?_,fun i k v e=>?_⟩
 ·have l1:es.size=xs.length:=size_of_entries he
  have l2:kvs.length=xs.length:=b9 pr
  omega
 ·obtain⟨b,hb,e1,e2,_⟩:=cQ pr e
  have q:=entry_at he i
  rw[hb]at q
  exact⟨_,b.2.1,q,rfl,e2⟩
end
def Z2 (d:Addr) (o:Obj) (kvs:List (Key×V)):It:=
 ⟨fun i H=>H d=some (.iK o (.dK kvs))∧i < kvs.length,fun i H x H'=>H'=H∧∃k v,kvs[i]? =some (k,v)∧x=kV k,fun i H=>H d=some (.iK o (.dK kvs))∧kvs.length≤i⟩
def Z3 (d:Addr) (o:Obj) (kvs:List (List Key×V)):It:=
 ⟨fun i H=>H d=some (.iK o (.dT kvs))∧i < kvs.length,fun i H x H'=>H'=H∧∃(k:List Key) (v:V) (q:Addr),kvs[i]? =some (k,v)∧x=.ref q∧H q=some (.tup (k.map kV)),fun i H=>H d=some (.iK o (.dT kvs))∧kvs.length≤i⟩
def Lv {o:Obj} {es es':Array nz} {ep ep':Nat} (h:o.data=.dict es ep) (h':o.data=.dict es' ep'):es'=es∧ep'=ep:=by
 rw[h]at h'
 cases h'
 exact⟨rfl,rfl⟩
section
variable {P:cN} {w:dS} {K:aq} {tg:Expr} {d:Addr} {o:Obj} {es:Array nz} {ep:Nat}
def Yp {kvs:List (Key×V)} (it:Addr) (hod:o.data=.dict es ep):Turn P w K tg (Z2 d o kvs) [it] it (fun i h=>h.IsKeyIter it d i kvs.length ep) where
 mem:=by simp
 obj:=fun i h st b hb=>by
  have e:b=it:=by simpa using hb
  subst e
  obtain⟨oi,e,c,dd⟩:=st
  exact⟨oi,e,fun v z=>by rw[dd]at z;cases z⟩
 keep:=fun i h h' st k=>st.at fun oi e=>k it (by simp) oi e
 item:=by
  intro X hP hw hK hc i pins s σ H E I hf st hg
  subst hP hw hK
  obtain⟨hd,hi⟩:=hg
  obtain⟨f0,f1,f2,f3,f4,f5⟩:=hf it (by simp)
  obtain⟨hs,hgd,hx,es',ep',vs,hdt,hsz,kv,hm⟩:=I.ac2 hd
  obtain⟨rfl,rfl⟩:=Lv hod hdt
  obtain⟨⟨k,v⟩,hkv⟩:∃p,kvs[i]? =some p:=⟨kvs[i],cM hi⟩
  obtain⟨u,hu,ru⟩:=ac1 kv hkv
  have hl:kvs.length=vs.length:=b9 kv
  rw[hl]at st
  refine wpAny_pyNext_dict_item st hm hu fun key h' hkey st' sb=>?_
  have I1:Inv X pins σ H {s with heap:=h'}:=I.turned (t':=s.toks) (fun b ob hb e=>(sb.2 b hb).trans e) f0 f1 f3 f4 f5
  obtain⟨oi,e,c,dd⟩:=id st'
  refine⟨key,rfl,S1 (s:={s with heap:=h'}) e c dd (by decide) ⟨kV k,H,I1,Tn (show J7 k key=true from hkey),⟨rfl,k,v,hkv,rfl⟩,?_,fun b hb=>(hf b hb).1⟩⟩
  show h'.IsKeyIter it d (i+1) kvs.length _
  rw[hl]
  exact st'
 done:=by
  intro X hP hw hK hc i pins s σ H E I hf st hg
  subst hP hw hK
  obtain⟨hd,hi⟩:=hg
  obtain⟨f0,f1,f2,f3,f4,f5⟩:=hf it (by simp)
  obtain⟨hs,hgd,hx,es',ep',vs,hdt,hsz,kv,hm⟩:=I.ac2 hd
  obtain⟨rfl,rfl⟩:=Lv hod hdt
  exact G8 (I.ok.hd hc) st hgd hdt hsz hi fun h' eb=>⟨rfl,I.turned (t':=s.toks) (fun b ob hb e=>eb b ob hb e) f0 f1 f3 f4 f5⟩
 self:=fun A i s Q E st h=>wpAny_pyIter_keyiter st h
def VP {kvs:List (List Key×V)} (it:Addr) (hod:o.data=.dict es ep):Turn P w K tg (Z3 d o kvs) [it] it (fun i h=>h.IsKeyIter it d i kvs.length ep) where
 mem:=by simp
 obj:=fun i h st b hb=>by
  have e:b=it:=by simpa using hb
  subst e
  obtain⟨oi,e,c,dd⟩:=st
  exact⟨oi,e,fun v z=>by rw[dd]at z;cases z⟩
 keep:=fun i h h' st k=>st.at fun oi e=>k it (by simp) oi e
 item:=by
  intro X hP hw hK hc i pins s σ H E I hf st hg
  subst hP hw hK
  obtain⟨hd,hi⟩:=hg
  obtain⟨f0,f1,f2,f3,f4,f5⟩:=hf it (by simp)
  obtain⟨hs,hgd,hx,es',ep',hdt,hsz,ent⟩:=I.ac3 hd
  obtain⟨rfl,rfl⟩:=Lv hod hdt
  obtain⟨⟨k,v⟩,hkv⟩:∃p,kvs[i]? =some p:=⟨kvs[i],cM hi⟩
  obtain⟨en,q,hen,hkey,hq⟩:=ent i k v hkv
  refine Oq st hgd hdt hsz hen fun h' st' sb=>?_
  have I1:Inv X pins σ H {s with heap:=h'}:=I.turned (t':=s.toks) (fun b ob hb e=>(sb.2 b hb).trans e) f0 f1 f3 f4 f5
  obtain⟨oi,e,c,dd⟩:=id st'
  exact⟨en.key,rfl,S1 (s:={s with heap:=h'}) e c dd (by decide) ⟨.ref q,H,I1,hkey,⟨rfl,k,v,q,hkv,rfl,hq⟩,st',fun b hb=>(hf b hb).1⟩⟩
 done:=by
  intro X hP hw hK hc i pins s σ H E I hf st hg
  subst hP hw hK
  obtain⟨hd,hi⟩:=hg
  obtain⟨f0,f1,f2,f3,f4,f5⟩:=hf it (by simp)
  obtain⟨hs,hgd,hx,es',ep',hdt,hsz,ent⟩:=I.ac3 hd
  obtain⟨rfl,rfl⟩:=Lv hod hdt
  exact G8 (I.ok.hd hc) st hgd hdt hsz hi fun h' eb=>⟨rfl,I.turned (t':=s.toks) (fun b ob hb e=>eb b ob hb e) f0 f1 f3 f4 f5⟩
 self:=fun A i s Q E st h=>by
  refine IG st.typeIs uV (je uV st.typeIs F.entry_dict_keyiterator_iter ?_ (F.args_dict_keyiterator_iter_1 _))
  show bO _ _ (ret (.ref it)) _ _ s
  exact aY ⟨_,rfl,"dict_keyiterator",_,st.typeIs,eN.lookup,h⟩
end
def aeh (td:TE):TI:=fun σ H R=>td σ H fun x H1=>∃d o,x=.ref d∧((∃kvs,H1 d=some (.iK o (.dK kvs))∧R (Z2 d o kvs) H1)∨∃kvs,H1 d=some (.iK o (.dT kvs))∧R (Z3 d o kvs) H1)
section
variable {X:Cx} {tg e:Expr} {td:TE} {apos g8:Pos}
def G9 (he:PE X e td):PI X tg e (aeh td):=by
 intro pins s σ H R I h
 refine gR (he pins s σ H _ I h) fun u s1 ⟨x,H1,I1,rx,d,o,ex,q⟩=>?_
 subst ex
 obtain rfl:u=c9 d:=rx
 rcases q with⟨kvs,hd,q⟩ | ⟨kvs,hd,q⟩
 ·obtain⟨hs,hgd,hx,es,ep,vs,hdt,hsz,kv,hm⟩:=I1.ac2 hd
  refine P1 hs hgd hx hdt (Z1 (tk:=s1.toks) I1 _ (Yp _ hdt) ⟨_,b4 _ rfl,rfl,?_⟩ q)
  rw[hsz] <;> rfl
 ·obtain⟨hs,hgd,hx,es,ep,hdt,hsz,ent⟩:=I1.ac3 hd
  refine P1 hs hgd hx hdt (Z1 (tk:=s1.toks) I1 _ (VP _ hdt) ⟨_,b4 _ rfl,rfl,?_⟩ q)
  rw[hsz] <;> rfl
end
end L2
section
namespace Bits
open PySem PyProof.Rows
end Bits
end
section
namespace TL
open PySem PySem.Builtin PySem.Builtin.Str PySem.StrLaws
end TL
end
namespace L2
open PySem PySem.Spec PyProof.Rows
section
variable {X:Cx} {pins:List (Addr×Obj)} {σ:St} {H:Hp} {s:az} {Q:VK}
end
section
variable {X:Cx}
end
section
variable {X:Cx} {o e:Expr} {to te:TE}
end
end L2
namespace L2
open PySem PySem.Spec PyProof.Rows
section
variable {X:Cx}
end
end L2
namespace Att
open PySem PySem.W PySem.Calls PyProof.Rows
section
variable {prog:cN} {w:dS} {A:Around} {E:ak→az→Prop} {s:az} {K:Frag}
end
end Att
namespace L2
open PySem PySem.Spec PyProof.Rows
end L2
namespace L2
open PySem PySem.Spec PyProof.Rows
end L2
namespace L2
open PySem PySem.Spec PyProof.Rows
def inClass (s:Stmt) (j:Nat):Stmt:=match s with
 | .ClassDef _ _ _ body _ _ _ _ _ _ _=>body.getD j (.Pass ⟨0,0,0,0⟩)
 | _=>.Pass ⟨0,0,0,0⟩
def m4 (s:Stmt):Arguments:=match s with
 | .FunctionDef _ a _ _ _ _ _ _ _ _=>a
 | _=>{posonlyargs:=[],args:=[],vararg:=none,kwonlyargs:=[],kw_defaults:=[],kwarg:=none,defaults:=[]}
def l6 (s:Stmt):List Stmt:=match s with
 | .FunctionDef _ _ b _ _ _ _ _ _ _=>b
 | _=>[]
def aH (s:Stmt):mV:=match s with
 | .FunctionDef _ _ _ _ _ _ sc _ _ _=>sc
 | _=>{kind:=.function,names:=[],isGenerator:=false,isCoroutine:=false}
abbrev cH:Yi:=fun _ _ _ _ _ _=>False
abbrev E0:XK:=fun _ _ _=>False
def wq {X:Cx}:Passes cH X E0:=fun _ _ _ _ _ _ _ h=>h.elim
structure Fun (K:aq) (x qual:Str) (st:Stmt) (f:Addr) (fd:aG):Prop where
 ex:∃(oc:ak) (od:Option Addr) (kV doc pm:ak) (an:Option Addr) (cdv ct:ak) (osl:Array (Option ak)),
  fd=fg x qual (m4 st) (l6 st) (aH st) .none kV doc pm an cdv ct∧K.lookup f=some ⟨oc,od,.func fd,osl⟩∧rk K cdv qual=true
 kp:gM K (.ref f)=true
section
variable {P:cN} {w:dS} {K:aq} {mg:Str→Option ak} {base:Heap}
def Fun.ok {x qual:Str} {st:Stmt} {f:Addr} {fd:aG} {N ps:List Str} {k:Nat} {sp:Sp} (F:Fun K x qual st f fd) (S:aW N ps (aH st)) (len:∀vs H Q E,sp vs H Q E→vs.length=ps.length)
  (hbody:∀(cdv:ak) (A:Around) (outer:List Env) (s:az) (H:Hp) (vs:List V) (Q:VK) (E:XK),oZ k (A.deeper (envOfC qual (aH st) s.heap.objs.size f cdv))→sp vs H Q E→
   ∃t,Vy (Yj cH P w K mg base N qual (aH st) f cdv A outer s H E).nox (l6 st) t∧t {nx:=fun _ H'=>Q .non H',rt:=Q} (start N vs) H):aZ P w K mg base cH (k+1) f fd ps sp:=by
 obtain⟨oc,od,kV,doc,pm,an,cdv,ct,osl,rfl,lk,hcd⟩:=F.ex
 refine ad4 lk hcd S len fun A outer s H vs Q E hr hsp=>?_
 obtain⟨t,h,q⟩:=hbody cdv A outer s H vs Q E hr hsp
 exact⟨t,h.nox,q⟩
def Fun.binds {x qual:Str} {st:Stmt} {f:Addr} {fd:aG} {ps:List Str} (F:Fun K x qual st f fd)
  (h:∀(kV doc pm:ak) (an:Option Addr) (cdv ct:ak) (us:List ak),us.length=ps.length→uj (fg x qual (m4 st) (l6 st) (aH st) .none kV doc pm an cdv ct) ⟨us,[]⟩=pure (ps.zip us)):Binds K fd ps []:=by
 obtain⟨oc,od,kV,doc,pm,an,cdv,ct,osl,rfl,lk,hcd⟩:=F.ex
 exact .all (h kV doc pm an cdv ct)
def QZ {x qual:Str} {st:Stmt} {f:Addr} {oc:ak} {od an:Option Addr} {osl:Array (Option ak)} {kV doc pm cdv ct:ak} (l:K.lookup f=some ⟨oc,od,.func (fg x qual (m4 st) (l6 st) (aH st) .none kV doc pm an cdv ct),osl⟩)
  (c:rk K cdv qual=true) (k:gM K (.ref f)=true):Fun K x qual st f (fg x qual (m4 st) (l6 st) (aH st) .none kV doc pm an cdv ct):=⟨⟨oc,od,kV,doc,pm,an,cdv,ct,osl,rfl,l,c⟩,k⟩
end
def iY {A:Around} {k:Nat} (hr:oZ k A):A.units+1 < AA:=Nat.lt_of_le_of_lt (Nat.add_le_add_left (by decide:1≤64) _) hr.units
section
variable {X:Cx}
def pv (i:Nat) {x:Str} {pos:Pos} (hN:X.N[i]? =some x:=by rfl) (hv:Vis X.env.scope x:=by first | exact bc rfl | exact Su (bc rfl) | exact Su (Su rfl)) (hd:(x==("__debug__":Str))=false:=by decide)
  (hcd:(x==("__classdict__":Str))=false:=by decide):PE X (.Name x pos) (kd i):=acx hN hv hd hcd
def Aa:Ct X (.builtin "len") (fun xs H Q=>∃a kvs,xs=[V.ref a]∧H a=some (.dK kvs)∧Q (.int kvs.length) H):=by
 intro pins s σ H xs us Q I r h
 obtain⟨a,kvs,rfl,ha,q⟩:=h
 obtain⟨u,rfl,ru⟩:=vals1 r
 cases ru
 exact aec I (.inl ha) fun t s' I'=>⟨.int kvs.length,H,I',⟨t,rfl⟩,q⟩
end
def wt {A B:Prop} (h:B):if false=true then A else B:=by
 rw[if_neg bG]
 exact h
def Ab {A B:Prop} (h:A):if true=true then A else B:=by
 rw[if_pos rfl]
 exact h
def fi {c A B:Prop} [Decidable c] (h1:c→A) (h2:¬c→B):if c then A else B:=by
 by_cases h:c
 ·rw[if_pos h]
  exact h1 h
 ·rw[if_neg h]
  exact h2 h
def aM (H H':Hp):Prop:=∀b o,H b=some o→H' b=some o
def aM.refl (H:Hp):aM H H:=fun _ _ h=>h
def aM.trans {H H1 H2:Hp} (a:aM H H1) (b:aM H1 H2):aM H H2:=fun c o h=>b c o (a c o h)
def aM.free {H H':Hp} (e:aM H H') {l:Addr} (h:H' l=Vg):H l=Vg:=by
 cases q:H l with
 | none=>rfl
 | some o=>
  rw[e l o q]at h
  cases h
def aM.seq {K:aq} {H H':Hp} {a:Addr} {xs:List V} (e:aM H H') (h:g6 K H a xs):g6 K H' a xs:=by
 rcases h with(h | ⟨o,h⟩) | h
 ·exact .inl (.inl (e _ _ h))
 ·exact .inl (.inr ⟨o,e _ _ h⟩)
 ·exact .inr h
section
variable {κ:Type} [DecidableEq κ]
end
end L2
section
namespace L2
open PySem PySem.Spec PyProof.Rows
open PySem.W (WData Codec OpenSpec Well WellAll ReadsW ReadsAllW)
mutual
inductive Dw (K:aq) (H:Hp):V→WData→Prop
 | non:Dw K H .non .none
 | bl (b:Bool):Dw K H (.bl b) (.bool b)
 | int (i:Int):Dw K H (.int i) (.int i)
 | str (x:Str):Dw K H (.str x) (.str x)
 | QK (b:Array UInt8):Dw K H (.QK b) (.bytes b.toList)
 | lst {a:Addr} {xs:List V} {ds:List WData}:g6 K H a xs→Cu K H xs ds→Dw K H (.ref a) (.list ds)
 | tup {a:Addr} {xs:List V} {ds:List WData}:iB K H a xs→Cu K H xs ds→Dw K H (.ref a) (.tuple ds)
inductive Cu (K:aq) (H:Hp):List V→List WData→Prop
 | nil:Cu K H [] []
 | cons {v:V} {vs:List V} {d:WData} {ds:List WData}:Dw K H v d→Cu K H vs ds→Cu K H (v::vs) (d::ds)
end
theorem Xe {K:aq} {H:Hp}:∀ns:List Int,Cu K H (ns.map V.int) (ns.map WData.int)
 | []=>.nil
 | n::r=>.cons (.int n) (Xe r)
theorem Xf {K:aq} {H:Hp}:∀(ns:List Int) (xs:List V),Cu K H xs (ns.map WData.int)→xs=ns.map V.int
 | [],xs,h=>by
  cases h
  rfl
 | n::r,xs,h=>by
  cases h with
  | cons h1 h2=>
   cases h1
   rw[Xf r _ h2] <;> rfl
section
variable {P:cN} {w:dS} {K:aq} {H:Hp} {h:Heap} {R:J0} {cl:Str→Option Addr}
def ac4 {a:Addr} {xs:List V} (gX:C2 P w H h) (KX:K.In h) (q:g6 K H a xs):∃(its:List ak) (o:Obj) (n:Nat),Vals xs its∧h.get? a=some o∧o.cls=.type "list"∧o.data=.seq its.toArray n:=by
 rcases q with q | ⟨o,its,n,e,hc,_,hd,_,hv⟩
 ·obtain⟨_,its,n,hv,e⟩:=(show jw P w H h a (.lst xs)from q.ok gX)
  exact⟨its,_,n,hv,e,rfl,rfl⟩
 ·exact⟨its.toList,o,n,hv,KX _ _ e,hc,by simp[hd]⟩
def ac5 {a:Addr} {xs:List V} (gX:C2 P w H h) (KX:K.In h) (q:iB K H a xs):∃(its:List ak) (o:Obj) (n:Nat),Vals xs its∧h.get? a=some o∧o.cls=.type "tuple"∧o.data=.seq its.toArray n:=by
 rcases q with q | ⟨o,its,n,e,hc,hd,_,hv⟩
 ·obtain⟨_,its,hv,n,e⟩:=(show jw P w H h a (.tup xs)from q.ok gX)
  exact⟨its,_,n,hv,e,rfl,rfl⟩
 ·exact⟨its.toList,o,n,hv,KX _ _ e,hc,by simp[hd]⟩
mutual
theorem Dw.reads (gX:C2 P w H h) (KX:K.In h):∀(d:WData) (v:V) (u:ak),Dw K H v d→RelV v u→∃as,ReadsW R cl h u d as
 | .none,_,_,x,r=>by
  cases x
  cases r
  exact⟨_,ReadsW.none⟩
 | .bool b,_,_,x,r=>by
  cases x
  cases r
  exact⟨_,ReadsW.bool b⟩
 | .int i,_,_,x,r=>by
  cases x
  obtain⟨t,rfl⟩:=r
  exact⟨_,ReadsW.int i t⟩
 | .str s,_,_,x,r=>by
  cases x
  obtain⟨t,rfl⟩:=r
  exact⟨_,ReadsW.str s t⟩
 | .bytes b,_,_,x,r=>by
  cases x
  obtain⟨t,rfl⟩:=r
  exact⟨_,ReadsW.bytes _ t⟩
 | .list ds,_,_,x,r=>by
  cases x with
  | lst hs ha=>
   cases r
   obtain⟨its,o,n,rv,ho,hc,hd⟩:=ac4 gX KX hs
   obtain⟨as,hr⟩:=Dw.readsAll gX KX ds _ its ha rv
   exact⟨_,ReadsW.list ho hc hd hr⟩
 | .tuple ds,_,_,x,r=>by
  cases x with
  | tup hs ha=>
   cases r
   obtain⟨its,o,n,rv,ho,hc,hd⟩:=ac5 gX KX hs
   obtain⟨as,hr⟩:=Dw.readsAll gX KX ds _ its ha rv
   exact⟨_,ReadsW.tuple ho hc hd hr⟩
 | .float _,_,_,x,_=>by cases x
 | .dict _,_,_,x,_=>by cases x
 | .bytearray _,_,_,x,_=>by cases x
 | .set _,_,_,x,_=>by cases x
 | .frozenset _,_,_,x,_=>by cases x
 | .obj _ _,_,_,x,_=>by cases x
theorem Dw.readsAll (gX:C2 P w H h) (KX:K.In h):∀(ds:List WData) (vs:List V) (us:List ak),Cu K H vs ds→Vals vs us→∃as,ReadsAllW R cl h us ds as
 | [],_,_,x,r=>by
  cases x
  cases r
  exact⟨_,ReadsAllW.nil⟩
 | d::ds,_,_,x,r=>by
  cases x with
  | cons h1 h2=>
   cases r with
   | cons r1 r2=>
    obtain⟨as,q1⟩:=Dw.reads gX KX d _ _ h1 r1
    obtain⟨bs,q2⟩:=Dw.readsAll gX KX ds _ _ h2 r2
    exact⟨_,ReadsAllW.cons q1 q2⟩
end
end
mutual
def Xg:WData→Bool
 | .none=>true
 | .bool _=>true
 | .int _=>true
 | .str _=>true
 | .bytes _=>true
 | .list xs=>KN xs
 | .tuple xs=>KN xs
 | _=>false
def KN:List WData→Bool
 | []=>true
 | x::r=>Xg x&&KN r
end
theorem To {α:Type} {f:α→WData} (h:∀a,Xg (f a)=true):∀l:List α,KN (l.map f)=true
 | []=>rfl
 | x::r=>by
  show(Xg (f x)&&KN (r.map f))=true
  rw[h x,To h r] <;> rfl
theorem C9:∀(c:Codec) (a:c.denote),Xg (c.enc a)=true
 | .unit,_=>rfl
 | .bool,_=>rfl
 | .int _ _,_=>rfl
 | .nat _ _,_=>rfl
 | .u8,_=>rfl
 | .bytes _ _,_=>rfl
 | .text _ _ _ _,_=>rfl
 | .list _ _ c,a=>To (fun x=>C9 c x) a
 | .pair c d,a=>by
  show(Xg (c.enc a.1)&&(Xg (d.enc a.2)&&true))=true
  rw[C9 c a.1,C9 d a.2] <;> rfl
 | .triple c d e,a=>by
  show(Xg (c.enc a.1)&&(Xg (d.enc a.2.1)&&(Xg (e.enc a.2.2)&&true)))=true
  rw[C9 c a.1,C9 d a.2.1,C9 e a.2.2] <;> rfl
 | .option c,none=>rfl
 | .option c,some x=>C9 c x
theorem P2:∀(cs:List Codec) (a:Codec.denoteAll cs),KN (Codec.encAll cs a)=true
 | [],_=>rfl
 | c::cs,a=>by
  show(Xg (c.enc a.1)&&KN (Codec.encAll cs a.2))=true
  rw[C9 c a.1,P2 cs a.2] <;> rfl
theorem FX:∀{xs:List WData} {d:WData},d∈xs→d.weight≤WData.weightAll xs
 | [],d,h=>absurd h (by simp)
 | x::r,d,h=>by
  show d.weight≤x.weight+1+WData.weightAll r
  rcases bx.mp h with e | m
  ·rw[e]
   omega
  ·have z:=FX m
   omega
def toV:ak→V
 | .none=>.non
 | .bool b=>.bl b
 | .int i _=>.int i
 | .str x _=>.str x
 | .bytes b _=>.QK b
 | .ref a=>.ref a
 | _=>.non
def Yq (A:List Addr):ak→Prop
 | .none=>True
 | .bool _=>True
 | .int _ _=>True
 | .str _ _=>True
 | .bytes _ _=>True
 | .ref a=>a∈A
 | _=>False
def Yq.mono {A B:List Addr} (h:∀a∈A,a∈B):∀{u:ak},Yq A u→Yq B u:=fun {u} x=>by
 cases u with
 | ref a=>exact h a x
 | none=>trivial
 | bool b=>trivial
 | int i t=>trivial
 | str s t=>trivial
 | bytes b t=>trivial
 | _=>exact fR x
def Z4 {A:List Addr} {u:ak} (x:Yq A u):RelV (toV u) u:=by
 cases u with
 | ref a=>rfl
 | none=>rfl
 | bool b=>rfl
 | int i t=>exact⟨t,rfl⟩
 | str s t=>exact⟨t,rfl⟩
 | bytes b t=>exact⟨t,rfl⟩
 | _=>exact fR x
theorem Ac {A:List Addr}:∀{vs:List ak},(∀u∈vs,Yq A u)→Vals (vs.map toV) vs
 | [],_=>.nil
 | u::r,h=>.cons (Z4 (h u (aE ..))) (Ac fun x hx=>h x (aI _ hx))
def Cv (h:Heap) (A:List Addr) (a:Addr):Prop:=∃vs:List ak,vs.length≤ag∧(∀u∈vs,Yq A u)∧
 (h.get? a=some {cls:=.type "list",data:=.seq vs.toArray}∨h.get? a=some {cls:=.type "tuple",data:=.seq vs.toArray})
def Cv.mono {h:Heap} {A B:List Addr} {a:Addr} (k:∀a∈A,a∈B) (x:Cv h A a):Cv h B a:=by
 obtain⟨vs,h1,h2,h3⟩:=x
 exact⟨vs,h1,fun u hu=>(h2 u hu).mono k,h3⟩
theorem yj {P:Ey} {h:Heap}:∀{vs:List ak} {ds:List WData},WellAll P h vs ds→vs.length=ds.length
 | _,_,.nil=>rfl
 | _,_,.cons _ b=>by
  show _+1=_+1
  rw[yj b]
def P4 {P:Ey} {h:Heap} {v:ak} {ds:List WData} (x:Well P h v (.list ds)):∃(a:Addr) (vs:List ak),v=.ref a∧h.get? a=some {cls:=.type "list",data:=.seq vs.toArray}∧WellAll P h vs ds:=by
 cases x with
 | list ho hall=>exact⟨_,_,rfl,ho,hall⟩
def L3 {P:Ey} {h:Heap} {v:ak} {ds:List WData} (x:Well P h v (.tuple ds)):∃(a:Addr) (vs:List ak),v=.ref a∧h.get? a=some {cls:=.type "tuple",data:=.seq vs.toArray}∧WellAll P h vs ds:=by
 cases x with
 | tuple ho hall=>exact⟨_,_,rfl,ho,hall⟩
def P5 {P:Ey} {h:Heap} {us:List ak} {d:WData} {ds:List WData} (x:WellAll P h us (d::ds)):∃(v:ak) (vs:List ak),us=v::vs∧Well P h v d∧WellAll P h vs ds:=by
 cases x with
 | cons a b=>exact⟨_,_,rfl,a,b⟩
def Xh {n:Nat} (h:n≤1048576):n≤ag:=bg h (by decide)
section
variable {P:Ey} {h:Heap}
mutual
theorem Z5:∀(d:WData) (v:ak),Well P h v d→Xg d=true→d.weight≤1048576→∃A:List Addr,Yq A v∧∀a∈A,Cv h A a
 | .none,_,x,_,_=>by
  cases x
  exact⟨[],trivial,fun a m=>absurd m (by simp)⟩
 | .bool b,_,x,_,_=>by
  cases x
  exact⟨[],trivial,fun a m=>absurd m (by simp)⟩
 | .int i,_,x,_,_=>by
  cases x
  exact⟨[],trivial,fun a m=>absurd m (by simp)⟩
 | .str s,_,x,_,_=>by
  cases x
  exact⟨[],trivial,fun a m=>absurd m (by simp)⟩
 | .bytes b,_,x,_,_=>by
  cases x
  exact⟨[],trivial,fun a m=>absurd m (by simp)⟩
 | .list ds,_,x,p,z=>by
  obtain⟨a,vs,rfl,ho,hall⟩:=P4 x
  have z2:WData.weightAll ds≤1048576:=z
  obtain⟨A,h1,h2⟩:=Ha ds _ hall p fun d hd=>bg (FX hd) z2
  have k:∀b∈A,b∈a::A:=fun b hb=>aI _ hb
  refine⟨a::A,aE ..,fun b hb=>?_⟩
  rcases bx.mp hb with e | m
  ·rw[e]
   exact⟨vs,Xh (by rw[yj hall];exact bg (uW ds) z2),fun u hu=>(h1 u hu).mono k,.inl ho⟩
  ·exact(h2 b m).mono k
 | .tuple ds,_,x,p,z=>by
  obtain⟨a,vs,rfl,ho,hall⟩:=L3 x
  have z2:WData.weightAll ds≤1048576:=z
  obtain⟨A,h1,h2⟩:=Ha ds _ hall p fun d hd=>bg (FX hd) z2
  have k:∀b∈A,b∈a::A:=fun b hb=>aI _ hb
  refine⟨a::A,aE ..,fun b hb=>?_⟩
  rcases bx.mp hb with e | m
  ·rw[e]
   exact⟨vs,Xh (by rw[yj hall];exact bg (uW ds) z2),fun u hu=>(h1 u hu).mono k,.inr ho⟩
  ·exact(h2 b m).mono k
 | .float _,_,_,p,_=>dX (show false=true from p)
 | .dict _,_,_,p,_=>dX (show false=true from p)
 | .bytearray _,_,_,p,_=>dX (show false=true from p)
 | .set _,_,_,p,_=>dX (show false=true from p)
 | .frozenset _,_,_,p,_=>dX (show false=true from p)
 | .obj _ _,_,_,p,_=>dX (show false=true from p)
theorem Ha:∀(ds:List WData) (vs:List ak),WellAll P h vs ds→KN ds=true→(∀d∈ds,d.weight≤1048576)→∃A:List Addr,(∀u∈vs,Yq A u)∧∀a∈A,Cv h A a
 | [],_,x,_,_=>by
  cases x
  exact⟨[],fun u m=>absurd m (by simp),fun a m=>absurd m (by simp)⟩
 | d::ds,_,x,p,z=>by
  obtain⟨v,vs,rfl,x1,x2⟩:=P5 x
  have q:Xg d=true∧KN ds=true:=Ez.mp p
  obtain⟨A,a1,a2⟩:=Z5 d v x1 q.1 (z d (aE ..))
  obtain⟨B,b1,b2⟩:=Ha ds vs x2 q.2 fun e he=>z e (aI _ he)
  have kA:∀b∈A,b∈A++B:=fun b hb=>aX.mpr (.inl hb)
  have kB:∀b∈B,b∈A++B:=fun b hb=>aX.mpr (.inr hb)
  refine⟨A++B,fun u hu=>?_,fun b hb=>?_⟩
  ·rcases bx.mp hu with e | m
   ·rw[e]
    exact a1.mono kA
   ·exact(b1 u m).mono kB
  ·rcases aX.mp hb with m | m
   ·exact(a2 b m).mono kA
   ·exact(b2 b m).mono kB
end
end
def abn (o:Obj):Option HO:=match o.data with
 | .seq vs _=>if(o.cls==sI "list")=true then some (.iK o (.lst (vs.toList.map toV)))else some (.iK o (.tup (vs.toList.map toV)))
 | _=>none
def AV (K:aq) (h:Heap) (A:List Addr):Hp:=fun b=>if b∈A then(if(K.lookup b).isNone=true then(h.get? b).bind abn else none)else none
def Tp (H:Hp):Prop:=∀b,H b=none∨∃o u,H b=some (.iK o u)
def Tq (vs:List ak):abn {cls:=.type "list",data:=.seq vs.toArray}=some (.iK {cls:=.type "list",data:=.seq vs.toArray} (.lst (vs.map toV))):=by
 show(if(sI "list"==sI "list")=true then some (HO.iK {cls:=.type "list",data:=.seq vs.toArray} (.lst (vs.toArray.toList.map toV)))else some (HO.iK {cls:=.type "list",data:=.seq vs.toArray} (.tup (vs.toArray.toList.map toV))))=_
 rw[if_pos (beq_self_eq_true _)]
def Tr (vs:List ak):abn {cls:=.type "tuple",data:=.seq vs.toArray}=some (.iK {cls:=.type "tuple",data:=.seq vs.toArray} (.tup (vs.map toV))):=by
 show(if(sI "tuple"==sI "list")=true then some (HO.iK {cls:=.type "tuple",data:=.seq vs.toArray} (.lst (vs.toArray.toList.map toV)))else some (HO.iK {cls:=.type "tuple",data:=.seq vs.toArray} (.tup (vs.toArray.toList.map toV))))=_
 rw[if_neg (by decide)]
section
variable {P:cN} {w:dS} {K:aq} {h:Heap} {A:List Addr}
def Lw {b:Addr} {o:Obj} (hb:b∈A) (hk:K.lookup b=none) (e:h.get? b=some o):AV K h A b=abn o:=by
 unfold AV
 rw[if_pos hb,hk,if_pos (show(none:Option Obj).isNone=true from rfl),e] <;> rfl
def abo {b:Addr} {u:HO} (q:AV K h A b=some u):b∈A∧K.lookup b=none:=by
 unfold AV at q
 by_cases hb:b∈A
 ·rw[if_pos hb]at q
  cases hk:K.lookup b with
  | none=>exact⟨hb,rfl⟩
  | some o=>
   rw[hk,if_neg (by simp)]at q
   cases q
 ·rw[if_neg hb]at q
  cases q
def Lx (ar:∀a∈A,Cv h A a) {b:Addr} {u:HO} (q:AV K h A b=some u):K.lookup b=none∧∃vs:List ak,vs.length≤ag∧(∀u∈vs,Yq A u)∧
    ((h.get? b=some {cls:=.type "list",data:=.seq vs.toArray}∧u=.iK {cls:=.type "list",data:=.seq vs.toArray} (.lst (vs.map toV)))∨
     (h.get? b=some {cls:=.type "tuple",data:=.seq vs.toArray}∧u=.iK {cls:=.type "tuple",data:=.seq vs.toArray} (.tup (vs.map toV)))):=by
  obtain⟨hb,hk⟩:=abo q
  obtain⟨vs,h1,h2,h3⟩:=ar b hb
  refine⟨hk,vs,h1,h2,?_⟩
  rcases h3 with e | e
  · rw[Lw hb hk e,Tq]at q
    exact .inl ⟨e,(bu q).symm⟩
  · rw[Lw hb hk e,Tr]at q
    exact .inr ⟨e,(bu q).symm⟩
def Yr (ar:∀a∈A,Cv h A a):Tp (AV K h A):=fun b=>by
 cases q:AV K h A b with
 | none=>exact .inl rfl
 | some u=>
  obtain⟨_,vs,_,_,⟨_,e⟩ | ⟨_,e⟩⟩:=Lx ar q
  ·exact .inr ⟨_,_,by rw[e]⟩
  ·exact .inr ⟨_,_,by rw[e]⟩
def abp (ar:∀a∈A,Cv h A a):C2 P w (AV K h A) h:=fun b u q=>by
 obtain⟨_,vs,h1,h2,⟨e,rfl⟩ | ⟨e,rfl⟩⟩:=Lx ar q
 ·exact⟨e,by rw[ab];exact h1,vs,_,Ac h2,e⟩
 ·exact⟨e,by rw[ab];exact h1,vs,Ac h2,_,e⟩
def Ly {c c':ak} {vs us:List ak} (e:(some {cls:=c,data:=.seq vs.toArray}:Option Obj)=some {cls:=c',data:=.seq us.toArray}):c=c'∧vs=us:=by
 have e1:=bu e
 have e2:c=c':=congrArg Obj.cls e1
 have e3:NW vs.toArray=NW us.toArray:=congrArg Obj.data e1
 injection e3 with e4
 refine⟨e2,?_⟩
 have e5:=congrArg Io e4
 simpa using e5
def ae2 (KX:K.In h) (ar:∀a∈A,Cv h A a) {a:Addr} {vs:List ak} (ha:a∈A) (e:h.get? a=some {cls:=.type "list",data:=.seq vs.toArray}):(∀u∈vs,Yq A u)∧g6 K (AV K h A) a (vs.map toV):=by
 obtain⟨us,h1,h2,h3⟩:=ar a ha
 have hu:us=vs:=by
  rcases h3 with q | q
  ·rw[e]at q
   exact(Ly q).2.symm
  ·rw[e]at q
   exact absurd (NX (Ly q).1) (by decide)
 subst hu
 refine⟨h2,?_⟩
 cases hk:K.lookup a with
 | none=>exact .inl (.inr ⟨_,by rw[Lw ha hk e,Tq]⟩)
 | some o=>
  have e2:=KX a o hk
  rw[e]at e2
  obtain rfl:=bu e2
  exact .inr ⟨_,us.toArray,_,hk,rfl,rfl,rfl,by rw[a8];exact h1,by simpa using Ac h2⟩
def ae3 (KX:K.In h) (ar:∀a∈A,Cv h A a) {a:Addr} {vs:List ak} (ha:a∈A) (e:h.get? a=some {cls:=.type "tuple",data:=.seq vs.toArray}):(∀u∈vs,Yq A u)∧iB K (AV K h A) a (vs.map toV):=by
 obtain⟨us,h1,h2,h3⟩:=ar a ha
 have hu:us=vs:=by
  rcases h3 with q | q
  ·rw[e]at q
   exact absurd (NX (Ly q).1) (by decide)
  ·rw[e]at q
   exact(Ly q).2.symm
 subst hu
 refine⟨h2,?_⟩
 cases hk:K.lookup a with
 | none=>exact .inl (.inr ⟨_,by rw[Lw ha hk e,Tr]⟩)
 | some o=>
  have e2:=KX a o hk
  rw[e]at e2
  obtain rfl:=bu e2
  exact .inr ⟨_,us.toArray,_,hk,rfl,rfl,by rw[a8];exact h1,by simpa using Ac h2⟩
mutual
theorem ac6 {Pm:Ey} (KX:K.In h) (ar:∀a∈A,Cv h A a):∀(d:WData) (v:ak),Well Pm h v d→Xg d=true→Yq A v→Dw K (AV K h A) (toV v) d
 | .none,_,x,_,_=>by
  cases x
  exact .non
 | .bool b,_,x,_,_=>by
  cases x
  exact .bl b
 | .int i,_,x,_,_=>by
  cases x
  exact .int i
 | .str s,_,x,_,_=>by
  cases x
  exact .str s
 | .bytes b,_,x,_,_=>by
  cases x
  have z:=Dw.QK (K:=K) (H:=AV K h A) b.toArray
  exact z
 | .list ds,_,x,p,hu=>by
  obtain⟨a,vs,rfl,ho,hall⟩:=P4 x
  obtain⟨h2,hs⟩:=ae2 KX ar hu ho
  exact .lst hs (Q0 KX ar ds _ hall p h2)
 | .tuple ds,_,x,p,hu=>by
  obtain⟨a,vs,rfl,ho,hall⟩:=L3 x
  obtain⟨h2,hs⟩:=ae3 KX ar hu ho
  exact .tup hs (Q0 KX ar ds _ hall p h2)
 | .float _,_,_,p,_=>dX (show false=true from p)
 | .dict _,_,_,p,_=>dX (show false=true from p)
 | .bytearray _,_,_,p,_=>dX (show false=true from p)
 | .set _,_,_,p,_=>dX (show false=true from p)
 | .frozenset _,_,_,p,_=>dX (show false=true from p)
 | .obj _ _,_,_,p,_=>dX (show false=true from p)
theorem Q0 {Pm:Ey} (KX:K.In h) (ar:∀a∈A,Cv h A a):∀(ds:List WData) (vs:List ak),WellAll Pm h vs ds→KN ds=true→(∀u∈vs,Yq A u)→Cu K (AV K h A) (vs.map toV) ds
 | [],_,x,_,_=>by
  cases x
  exact .nil
 | d::ds,_,x,p,hu=>by
  obtain⟨v,vs,rfl,x1,x2⟩:=P5 x
  have q:Xg d=true∧KN ds=true:=Ez.mp p
  exact .cons (ac6 KX ar d v x1 q.1 (hu _ (aE ..))) (Q0 KX ar ds vs x2 q.2 fun u m=>hu u (aI _ m))
end
end
def Ys {P:cN} {w:dS} {K:aq} {mg mb:Str→Option ak} {CX:Yi} {k:Nat} {fa:Addr} {fd:aG} {ps:List Str} {sp:Sp} {s₁:az} {vals:List ak} {ds:List WData} {R:J0} {cl:Str→Option Addr} {d0:WData}
  (KX:K.In s₁.heap) (hns:s₁.heap.Ns cF mg) (hb:s₁.heap.Ns NJ mb) (hbb:∀x:Str,x≠"__name__"→mb x=vS x) (hlim:s₁.heap.NoLimit) (hg:s₁.gens=#[])
  (hwl:WellAll w.params s₁.heap vals ds) (hpl:KN ds=true) (hwt:∀d∈ds,d.weight≤1048576) (hr:oZ k IH)
  (F:∀base:Heap,K.In base→base.Ns cF mg→aZ P w K mg base CX k fa fd ps sp) (hbind:∀(s:az) (us:List ak),us.length=ps.length→Iy s fd ⟨us,[]⟩ (ps.zip us)) (hlen:ds.length=ps.length)
  (hsp:∀(H:Hp) (xs:List V),Tp H→Cu K H xs ds→sp xs H (fun v H'=>Dw K H' v d0) fun _ _ _=>False)
  (hCX:∀H e s',CX [] H s₁ (fun _ _ _=>False) e s'→False):
  Fg (model P w) IH (.call (.ref fa) ⟨vals,[]⟩) (fun r s'=>∃u as,r=.ok (.ret u)∧ReadsW R cl s'.heap u d0 as∧OldK s₁.heap s'.heap∧s'.os=s₁.os∧AllBare s'.gens) s₁:=by
 obtain⟨A,ho,ar⟩:=Ha ds vals hwl hpl hwt
 have hO:Tp (AV K s₁.heap A):=Yr ar
 have gX:C2 P w (AV K s₁.heap A) s₁.heap:=abp ar
 have hS:=Q0 KX ar ds vals hwl hpl ho
 have hV:=Ac ho
 have hK:∀b u,AV K s₁.heap A b=some u→K.lookup b=none:=fun b u q=>(Lx ar q).1
 have noA:∀{b:Addr} {o:Obj} {es:Array nz} {ep:Nat},s₁.heap.get? b=some o→o.data=.dict es ep→AV K s₁.heap A b=none:=fun {b o es ep} e d=>by
  cases q:AV K s₁.heap A b with
  | none=>rfl
  | some u=>
   obtain⟨_,vs,_,_,⟨e2,_⟩ | ⟨e2,_⟩⟩:=Lx ar q
   ·rw[e2]at e
    cases e
    have d':NW vs.toArray _=Zo es ep:=d
    cases d'
   ·rw[e2]at e
    cases e
    have d':NW vs.toArray _=Zo es ep:=d
    cases d'
 generalize AV K s₁.heap A=H at hO gX hS hK noA
 have base_of:∀{b:Addr} {o:Obj},s₁.heap.get? b=some o→H b=none→(QN s₁.heap H).get? b=some o:=fun e n=>Zw e n
 have nsK:∀{b:Addr} {m:Str→Option ak},s₁.heap.Ns b m→(QN s₁.heap H).Ns b m:=fun {b m} ⟨o,es,ep,e,d,r⟩=>⟨o,es,ep,base_of e (noA e d),d,r⟩
 have nK:∀b o,K.lookup b=some o→H b=none:=fun b o e=>by
  cases q:H b with
  | none=>rfl
  | some u=>
   rw[hK b u q]at e
   cases e
 have hKb:K.In (QN s₁.heap H):=fun b o e=>base_of (KX b o e) (nK b o e)
 have hM:Mod K mg (QN s₁.heap H):=⟨hKb,nsK hns,⟨mb,nsK hb,hbb⟩,let ⟨mc,h1,h2⟩:=hlim;⟨mc,nsK h1,h2⟩⟩
 have e0:VH P w K mg (QN s₁.heap H) IH [] s₁ H:=⟨rfl,hM,fun b o e=>aa0 e,B9 (Ya _ _),trivial,fun b hb=>absurd (show b∈([]:List Addr)from hb) (by simp),gX,.of_eq hg⟩
 have hl:vals.length=ps.length:=by rw[yj hwl];exact hlen
 refine Ca ((F _ hKb (nsK hns)).run IH [] s₁ H ⟨vals,[]⟩ vals (vals.map toV) _ _ hr e0 (hbind s₁ vals hl) hV (hsp H _ hO hS)) fun r s' x=>?_
 cases r with
 | error e=>exact(hCX H e s' x).elim
 | ok fl=>
  cases fl with
  | next=>exact fR x
  | brk=>exact fR x
  | cont=>exact fR x
  | ret u=>
   obtain⟨v,H',os,bare,un,hok',r',q⟩:=x
   have kept:∀b o,s₁.heap.get? b=some o→s'.heap.get? b=some o:=fun b o e=>by
    cases q2:H b with
    | none=>exact un.keep b o e q2 (by intro z;exact absurd (show b∈([]:List Addr)from z) (by simp)) (by simp)
    | some u2=>
     rcases hO b with z | ⟨ob,u3,z⟩
     ·rw[q2]at z
      cases z
     ·have z2:=un.LK b ob _ z
      obtain⟨e1,_⟩:=gX b _ z
      obtain⟨e2,_⟩:=hok' b _ z2
      rw[e]at e1
      cases e1
      exact e2
   have KX':K.In s'.heap:=fun b o e=>kept b o (KX b o e)
   obtain⟨as,hrd⟩:=Dw.reads (R:=R) (cl:=cl) hok' KX' d0 v u q r'
   exact⟨u,as,rfl,hrd,OldK.of_keep kept,os,bare⟩
def L4 {ds:List WData} (h:WData.layableAll ds=true):∀d∈ds,d.weight≤1048576:=fun d hd=>
 (PySem.W.layableW_iff.mp (gC.mp h d hd)).2.2
theorem L5:∀(cs:List Codec) (a:Codec.denoteAll cs),(Codec.encAll cs a).length=cs.length
 | [],_=>rfl
 | c::cs,a=>by
  show(Codec.encAll cs a.2).length+1=cs.length+1
  rw[L5 cs a.2]
def Yt {r:OpenSpec} {k:Nat} {q:cN} {loose:List Str} {XP:(Str→Option ak)→Heap→Prop} {YP:dS→Heap→Prop} {d:DefRec} {K:Ey→aq} {CX:dS→Yi} {ps:List Str} {sp:dS→Sp}
  (hwell:r.wellSaid=true) (hdf:d.params.defaults=[]) (hlen:r.args.length=ps.length) (hr:oZ k IH)
  (hY:∀(w:dS) (h:Heap),YP w h→(K w.params).In h)
  (F:∀(w:dS) (mg:Str→Option ak) (fa:Addr) (h:Heap),YP w h→(K w.params).In h→h.Ns cF mg→mg d.name=some (.ref fa)→
   ∃fd:aG,(∀(s:az) (us:List ak),us.length=ps.length→Iy s fd ⟨us,[]⟩ (ps.zip us))∧
    ∀base:Heap,(K w.params).In base→base.Ns cF mg→aZ r.prog w (K w.params) mg base (CX w) k fa fd ps (sp w))
  (hsp:∀(w:dS) (H:Hp) (xs:List V) (a:Codec.denoteAll r.args),Tp H→Codec.withinAll r.args a=true→Codec.app r.args r.asked a=true→Cu (K w.params) H xs (Codec.encAll r.args a)→
   sp w xs H (fun v H'=>Dw (K w.params) H' v (r.ret.enc (Codec.app r.args r.f a))) fun _ _ _=>False)
  (hCX:∀(w:dS) (H:Hp) (s:az) (e:ak) (s':az),CX w [] H s (fun _ _ _=>False) e s'→False):
  NY q loose XP YP r d [] (fun f vs=>W2 f vs):=by
 intro w PM s₁ mg mb G Y fa o pm cd doc dV kV ho hd hcd hD hmg hg args vals as hpre hlay hrd hwl hlo
 obtain⟨a,e1,e2⟩:=PySem.W.os_pre_some hpre
 obtain⟨e3,hwi⟩:=Codec.encAll_of_decAll r.args args a e1
 subst e3
 have KX:=hY w _ Y
 obtain⟨fd,hb,hF⟩:=F w mg fa _ Y KX G.T.g hmg
 refine PySem.W.enter_call (Ca (Ys (R:=[]) (cl:=classAt PM.heap) (d0:=r.ret.enc (Codec.app r.args r.f a)) KX G.T.g G.T.b G.T.builtins G.T.nolimit hg hwl (P2 _ _) (L4 hlay) hr hF hb (by rw[L5];exact hlen)
  (fun H xs hO hS=>hsp w H xs a hO hwi e2 hS) fun H e s'=>hCX w H s₁ e s') fun r' s' hq=>?_)
 obtain⟨u,as',rfl,h1,h2,h3,h4⟩:=hq
 exact⟨.inl ⟨u,_,as',rfl,fun _=>rfl,h1,(OpenSpec.post_iff hwell hwi _ _).mpr rfl,fun z=>dX (show false=true from z)⟩,h2,h3,h4⟩
def VQ {r:OpenSpec} {k:Nat} {q:cN} {loose:List Str} {XP:(Str→Option ak)→Heap→Prop} {YP:dS→Heap→Prop} {d:DefRec} {K:Ey→aq} {CX:Yi} {ps:List Str} {sp:aq→Sp}
  (hwell:r.wellSaid=true) (hdf:d.params.defaults=[]) (hlen:r.args.length=ps.length) (hr:oZ k IH)
  (hY:∀(w:dS) (h:Heap),YP w h→(K w.params).In h)
  (F:∀(w:dS) (mg:Str→Option ak) (fa:Addr) (h:Heap),YP w h→(K w.params).In h→h.Ns cF mg→mg d.name=some (.ref fa)→
   ∃fd:aG,(∀(s:az) (us:List ak),us.length=ps.length→Iy s fd ⟨us,[]⟩ (ps.zip us))∧
    ∀base:Heap,(K w.params).In base→base.Ns cF mg→aZ r.prog w (K w.params) mg base CX k fa fd ps (sp (K w.params)))
  (hsp:∀(K:aq) (H:Hp) (xs:List V) (a:Codec.denoteAll r.args),Tp H→Codec.withinAll r.args a=true→Codec.app r.args r.asked a=true→Cu K H xs (Codec.encAll r.args a)→
   sp K xs H (fun v H'=>Dw K H' v (r.ret.enc (Codec.app r.args r.f a))) fun _ _ _=>False)
  (hCX:∀(H:Hp) (s:az) (e:ak) (s':az),CX [] H s (fun _ _ _=>False) e s'→False):
  NY q loose XP YP r d [] (fun f vs=>W2 f vs):=
 Yt (K:=K) (CX:=fun _=>CX) (sp:=fun w=>sp (K w.params)) hwell hdf hlen hr hY F (fun w H xs a h1 h2 h3 h4=>hsp (K w.params) H xs a h1 h2 h3 h4) fun _ H s e s'=>hCX H s e s'
end L2
end
namespace Mt
open Vatrka
def hZ:visible []=[]:=rfl
def dw {x:Piece} {r:List Piece} (h:shown x=true):visible (x::r)=x::visible r:=by
 unfold visible;rw[bK,if_pos h]
def h9 {x:Piece} {r:List Piece} (h:¬shown x=true):visible (x::r)=visible r:=by
 unfold visible;rw[bK,if_neg h]
def bU (a b:List Piece):visible (a++b)=visible a++visible b:=by
 unfold visible;exact dt ..
def il (r:List Piece):(visible r).length≤r.length:=bX ..
theorem nT:∀(r:List Piece) (p:Nat),p < (visible r).length→
  ∃x,r=r.take (rowPlace p r)++x::r.drop (rowPlace p r+1)∧shown x=true∧rowPlace p r < r.length∧(visible r)[p]? =some x∧
   (visible (r.take (rowPlace p r))).length=p
 | [],p,h=>by simp[visible]at h
 | x::r,p,h=>by
  by_cases hx:shown x=true
  ·rw[dw hx]at h
   cases p with
   | zero=>
    refine⟨x,?_,hx,?_,?_,?_⟩ <;> simp[rowPlace,hx,dw,hZ]
   | succ p=>
    obtain⟨y,e,hy,hl,hv,hc⟩:=nT r p (by simpa using h)
    have e0:rowPlace (p+1) (x::r)=rowPlace p r+1:=by simp[rowPlace,hx]
    refine⟨y,?_,hy,?_,?_,?_⟩
    ·rw[e0];simp only[nP,ka,dW];rw[← e]
    ·rw[e0];simpa using hl
    ·rw[dw hx];simpa using hv
    ·rw[e0,nP,dw hx];simp[hc]
  ·rw[h9 hx]at h
   obtain⟨y,e,hy,hl,hv,hc⟩:=nT r p h
   have e0:rowPlace p (x::r)=rowPlace p r+1:=by simp[rowPlace,hx]
   refine⟨y,?_,hy,?_,?_,?_⟩
   ·rw[e0];simp only[nP,ka,dW];rw[← e]
   ·rw[e0];simpa using hl
   ·rw[h9 hx];exact hv
   ·rw[e0,nP,h9 hx];exact hc
theorem yk:∀(a:List Piece) (x:Piece) (b:List Piece),shown x=true→rowPlace (visible a).length (a++x::b)=a.length
 | [],x,b,h=>by simp[rowPlace,h,hZ]
 | y::a,x,b,h=>by
  by_cases hy:shown y=true
  ·rw[dw hy]
   simp[rowPlace,hy,yk a x b h]
  ·rw[h9 hy]
   simp[rowPlace,hy,yk a x b h]
theorem AW (new:List Piece):∀(a:List Piece) (x:Piece) (b:List Piece),shown x=true→putBefore new (visible a).length (a++x::b)=a++(new++x::b)
 | [],x,b,h=>by simp[putBefore,h,hZ]
 | y::a,x,b,h=>by
  by_cases hy:shown y=true
  ·rw[dw hy]
   simp[putBefore,hy,AW new a x b h]
  ·rw[h9 hy]
   simp[putBefore,hy,AW new a x b h]
def dc (f:Piece→List Piece) (x:Piece):List Piece:=if shown x=true then f x else[x]
theorem wu (f:Piece→List Piece):∀(p:Nat) (r:List Piece),onStretch f p 0 r=r
 | _,[]=>rfl
 | p,x::r=>by
  unfold onStretch
  split
  ·rw[show 0 - 1=0 from rfl,wu f (p - 1) r,if_neg (by omega)];rfl
  ·rw[wu f p r]
theorem zb (f:Piece→List Piece):∀(m:List Piece) (b:List Piece),(m=[]∨∃m' x,m=m'++[x]∧shown x=true)→onStretch f 0 (visible m).length (m++b)=m.flatMap (dc f)++b
 | [],b,_=>by simp[hZ,wu]
 | x::m,b,h=>by
  have hm:m=[]∨∃m' y,m=m'++[y]∧shown y=true:=by
   rcases h with h | ⟨m',y,e,hy⟩
   ·cases h
   ·cases m' with
    | nil=>left;simpa using (tG e).2
    | cons z m''=>right;exact⟨m'',y,(tG e).2,hy⟩
  by_cases hx:shown x=true
  ·rw[dw hx,aN,dW]
   unfold onStretch
   rw[if_pos hx,if_pos ⟨rfl,II _⟩]
   rw[show 0 - 1=0 from rfl,pA,zb f m b hm]
   simp[dc,hx]
  ·have hm':0 < (visible m).length:=by
    rcases hm with rfl | ⟨m',y,rfl,hy⟩
    ·rcases h with h | ⟨m',y,e,hy⟩
     ·cases h
     ·cases m' with
      | nil=>simp at e;subst e;exact absurd hy hx
      | cons z m''=>simp at e
    ·rw[bU,dw hy];simp[hZ]
   rw[h9 hx,dW]
   unfold onStretch
   rw[if_neg hx,zb f m b hm]
   simp[dc,hx]
theorem wx (f:Piece→List Piece) (q:Nat):∀(a:List Piece) (c:List Piece),onStretch f (visible a).length ((visible a).length+q) (a++c)=a++onStretch f 0 q c
 | [],c=>by simp[hZ]
 | x::a,c=>by
  by_cases hx:shown x=true
  ·rw[dw hx,aN,dW]
   rw[show onStretch f ((visible a).length+1) ((visible a).length+1+q) (x::(a++c))=[x]++onStretch f (visible a).length ((visible a).length+q) (a++c)from ?_,wx f q a c]
   ·rfl
   ·rw[onStretch,if_pos hx,if_neg (by omega),pA,show(visible a).length+1+q - 1=(visible a).length+q by omega]
  ·rw[h9 hx,dW]
   rw[onStretch,if_neg hx,wx f q a c]
   rfl
structure Around (row:List Piece) (p q:Nat) (a m b:List Piece):Prop where
 dj:row=a++(m++b)
 Dc:(visible a).length=p
 Ke:(visible m).length=q - p
 first:∃x m',m=x::m'∧shown x=true
 last:∃m' x,m=m'++[x]∧shown x=true
def Ad {row:List Piece} {p q:Nat} (hpq:p < q) (hq:q≤(visible row).length):
  Around row p q (row.take (rowPlace p row)) ((row.take (rowPlace (q - 1) row+1)).drop (rowPlace p row)) (row.drop (rowPlace (q - 1) row+1)):=by
 obtain⟨x,ex,hx,lx,vx,cx⟩:=nT row p (by omega)
 obtain⟨y,ey,hy,ly,vy,cy⟩:=nT row (q - 1) (by omega)
 generalize hi:rowPlace p row=i at *
 generalize hj:rowPlace (q - 1) row=j at *
 have e2:row.take (j+1)=row.take j++[y]:=by
  conv=>lhs;rw[ey]
  rw[List.take_append,cc,jH (by omega),xS,Nat.min_eq_right (by omega),show j+1 - j=1 by omega]
  rfl
 have hij:i≤j:=by
  rcases nA j i with h | h
  ·exfalso
   have e1:row.take i=row.take (j+1)++(row.take i).drop (j+1):=by
    have:=cR (j+1) (row.take i)
    rw[xS,jH (by omega)]at this
    exact this.symm
   rw[e1,e2,bU,bU,dw hy]at cx
   simp[hZ]at cx
   omega
  ·exact h
 have e3:row.drop i=x::row.drop (i+1):=by
  conv=>lhs;rw[ex]
  rw[List.drop_append,cc,jH (by omega),Nat.sub_self,rD (by rw[cc];omega)]
  rfl
 refine⟨?_,cx,?_,?_,?_⟩
 ·have h1:=cR (j+1) row
  have h2:=cR i (row.take (j+1))
  rw[xS,jH (by omega)]at h2
  rw[← bM,h2,h1]
 ·have h2:=cR i (row.take (j+1))
  rw[xS,jH (by omega)]at h2
  have h3:(visible (row.take (j+1))).length=q:=by
   rw[e2,bU,dw hy,ae,cy];simp[hZ];omega
  rw[← h2,bU,ae,cx]at h3
  omega
 ·refine⟨x,(row.take (j+1)).drop (i+1),?_,hx⟩
  have h4:(row.take (j+1)).drop i=(row.drop i).take (j+1 - i):=NZ ..
  have h5:(row.take (j+1)).drop (i+1)=(row.drop (i+1)).take (j+1 - (i+1)):=NZ ..
  rw[h4,h5,e3,show j+1 - i=(j+1 - (i+1))+1 by omega]
  rfl
 ·refine⟨(row.take j).drop i,y,?_,hy⟩
  rw[e2,um (by rw[cc];omega)]
def Around.VR {row:List Piece} {p q:Nat} {a m b:List Piece} (h:Around row p q a m b):rowPlace p row=a.length:=by
 obtain⟨x,m',e,hx⟩:=h.first
 rw[h.dj,← h.Dc,e]
 exact yk a x _ hx
def Around.VS {row:List Piece} {p q:Nat} {a m b:List Piece} (h:Around row p q a m b):rowPlace (q - 1) row+1=a.length+m.length:=by
 obtain⟨m',x,e,hx⟩:=h.last
 have c:=h.Ke
 rw[e,bU,dw hx]at c
 simp[hZ]at c
 have e1:row=(a++m')++x::b:=by rw[h.dj,e];simp
 have e2:q - 1=(visible (a++m')).length:=by rw[bU,ae,h.Dc];omega
 rw[e2,e1,yk _ _ _ hx,e];simp[Nat.add_assoc]
def Around.eqs {row:List Piece} {p q:Nat} {a m b:List Piece} (h:Around row p q a m b):
  row.take (rowPlace p row)=a∧(row.take (rowPlace (q - 1) row+1)).drop (rowPlace p row)=m∧row.drop (rowPlace (q - 1) row+1)=b:=by
 rw[h.VR,h.VS,h.dj]
 refine⟨by simp,?_,?_⟩
 ·rw[← bM,List.take_append_of_le_length (by simp),← ae,cz];simp
 ·rw[← bM,← ae];simp
def Around.lt {row:List Piece} {p q:Nat} {a m b:List Piece} (h:Around row p q a m b):p < q:=by
 obtain⟨x,m',e,hx⟩:=h.first
 have c:=h.Ke
 rw[e,dw hx]at c
 simp at c
 omega
def Around.onStretch {row:List Piece} {p q:Nat} {a m b:List Piece} (h:Around row p q a m b) (f:Piece→List Piece):onStretch f p q row=a++(m.flatMap (dc f)++b):=by
 have l:=h.lt
 have e:q=(visible a).length+(visible m).length:=by rw[h.Dc,h.Ke];omega
 have e0:p=(visible a).length:=h.Dc.symm
 rw[h.dj,e,e0,wx,zb f m b (.inr h.last)]
def Around.stretch {row:List Piece} {p q:Nat} {a m b:List Piece} (h:Around row p q a m b):stretch p q row=visible m:=by
 unfold rE
 rw[h.dj,bU,bU,um (by rw[h.Dc];omega),← h.Dc]
 rw[J1,jI,h.Dc,← h.Ke]
 exact kP
def Around.doTag {row:List Piece} {p q:Nat} {a m b:List Piece} (h:Around row p q a m b) (s:State) (hs:s.row=row) (t:Nat) (on:Bool):
  (doTag s p q t on).1={s with row:=a++(m.map (retag t on)++b)}:=by
 obtain⟨h1,h2,h3⟩:=h.eqs
 unfold Cp
 simp only[hs]
 rw[h1,h2,h3]
structure mj (row:List Piece) (p:Nat) (a:List Piece) (x:Piece) (b:List Piece):Prop where
 dj:row=a++x::b
 cnt:(visible a).length=p
 shown:shown x=true
def IW {row:List Piece} {p:Nat} (h:p < (visible row).length):∃a x b,mj row p a x b:=by
 obtain⟨x,e,hx,_,_,c⟩:=nT row p h
 exact⟨_,x,_,e,c,hx⟩
def mj.putBefore {row:List Piece} {p:Nat} {a b:List Piece} {x:Piece} (h:mj row p a x b) (new:List Piece):putBefore new p row=a++(new++x::b):=by
 rw[h.dj,← h.cnt];exact AW new a x b h.shown
def mj.vis {row:List Piece} {p:Nat} {a b:List Piece} {x:Piece} (h:mj row p a x b):(visible row)[p]? =some x:=by
 rw[h.dj,bU,dw h.shown,← h.cnt]
 simp
open Vatrka Vatrkg
abbrev GS:=Vatrkg.State
def fin (s:GS) (o:pB):GS×j6:=match o with
 | .ok (t,l)=>(cleaned t,.told l)
 | .error n=>(s,.refused n)
def iM (s:GS) (c:bw):bY s c=fin s (raw s c):=rfl
def jr {s:GS} {b:Prop} [Decidable b] {x y:pB}:fin s (if b then x else y)=if b then fin s x else fin s y:=by split <;> rfl
def cO {b:Bool} {n:Int} {α:Type} {f:Unit→Except Int α}:(need b n >>=f)=if b=true then f ()else .error n:=by
 unfold need;cases b <;> rfl
def Ts (s:GS) (a:Int):bY s (.author a)=if within a 1 99=true then(cleaned {s with doc:={s.doc with author:=a.toNat}},.told [0])else(s,.refused (-2)):=by
 rw[iM];simp only[raw,command,bq]
 by_cases h:within a 1 99=true <;> simp[h,fin,«ints»]
def VT (s:GS) (t:Int):bY s (.clock t)=if t < 0 then(s,.refused (-2))else if t < (s.doc.time:Int)then(s,.refused (-3))else(cleaned {s with doc:={s.doc with time:=t.toNat}},.told [0]):=by
 rw[iM];simp only[raw,command,bq]
 by_cases h:t < 0 <;> by_cases h2:t < (s.doc.time:Int) <;> simp[h,h2,fin,«ints»]
def VU (s:GS) (on:Int):bY s (.track on)=if within on 0 1=true then(cleaned {s with doc:={s.doc with tracking:=on==1}},.told [0])else(s,.refused (-2)):=by
 rw[iM];simp only[raw,command,bq]
 by_cases h:within on 0 1=true <;> simp[h,fin,«ints»]
def Z6 (s:GS) (p:Int) (l:List Int):bY s (.put p l)=if below p (count s.doc)=false then(s,.refused (-1))else if(l.isEmpty||!l.all isSign)=true then(s,.refused (-2))
  else(cleaned {s with doc:=(doPut s.doc p.toNat (l.map fun z=>z.toNat)).1},.told [((doPut s.doc p.toNat (l.map fun z=>z.toNat)).2:Int)]):=by
 rw[iM];simp only[raw,command,bq,stepPut,answered]
 by_cases h:below p (count s.doc)=false
 ·rw[if_pos h,if_pos h];rfl
 ·rw[if_neg h,if_neg h]
  by_cases h2:(l.isEmpty||!l.all isSign)=true
  ·rw[if_pos h2,if_pos h2];rfl
  ·rw[if_neg h2,if_neg h2];rfl
def Z7 (s:GS) (p q:Int):bY s (.cut p q)=if isStretch p q (count s.doc - 1)=false then(s,.refused (-1))
  else(cleaned {s with doc:=(doCut s.doc p.toNat q.toNat).1},.told [((doCut s.doc p.toNat q.toNat).2:Int)]):=by
 rw[iM];simp only[raw,command,bq,stepCut,answered]
 by_cases h:isStretch p q (count s.doc - 1)=false
 ·rw[if_pos h,if_pos h];rfl
 ·rw[if_neg h,if_neg h];rfl
def Yu (s:GS) (p q r:Int):bY s (.move p q r)=if(isStretch p q (count s.doc - 1)&&below r (count s.doc))=false then(s,.refused (-1))else if p≤r∧r≤q then(s,.refused (-3))
  else(cleaned {s with doc:=(doMove s.doc p.toNat q.toNat r.toNat).1},.told [((doMove s.doc p.toNat q.toNat r.toNat).2:Int)]):=by
 rw[iM];simp only[raw,command,bq,stepMove,answered]
 by_cases h:(isStretch p q (count s.doc - 1)&&below r (count s.doc))=false
 ·rw[if_pos h,if_pos h];rfl
 ·rw[if_neg h,if_neg h]
  by_cases h2:p≤r∧r≤q
  ·rw[if_pos h2,if_pos h2];rfl
  ·rw[if_neg h2,if_neg h2];rfl
def b6 (accept:Bool) (c:Int) (r:List Piece):List Piece:=if c=0 then(if accept=true then acceptRow r else rejectRow r)else iu accept c.toNat r
def Kf (s:GS) (b:Bool) (c:Int):fin s (verdict s b c)=if within c 0 s.doc.changes.length=true then(cleaned (withRow s (b6 b c (row s))),.told [((row s).length:Int) - ((b6 b c (row s)).length:Int)])else(s,.refused (-4)):=by
 unfold verdict;rw[cO,jr];rfl
def Tt (s:GS) (c:Int):bY s (.accept c)=if within c 0 s.doc.changes.length=true then(cleaned (withRow s (b6 true c (row s))),.told [((row s).length:Int) - ((b6 true c (row s)).length:Int)])else(s,.refused (-4)):=Kf s true c
def Tu (s:GS) (c:Int):bY s (.reject c)=if within c 0 s.doc.changes.length=true then(cleaned (withRow s (b6 false c (row s))),.told [((row s).length:Int) - ((b6 false c (row s)).length:Int)])else(s,.refused (-4)):=Kf s false c
def ji (s:GS) (p q:Int) (text:List Int):aw:=⟨s.nextComment,s.doc.author,s.doc.time,quoteOf s p.toNat q.toNat,textOf text,[],false⟩
def Q1 (s:GS) (p q:Int) (t:List Int):bY s (.comment p q t)=if isPlaces s p q=true then(if isNoteText t=true then
   (cleaned (laid {s with comments:=s.comments++[ji s p q t],nextComment:=s.nextComment+1} (tagOf s.nextComment) p.toNat q.toNat),.told [(s.nextComment:Int)])
   else(s,.refused (-2)))else(s,.refused (-1)):=by
 show fin s (xT s p q t)=_;unfold xT;rw[cO,jr,cO,jr];rfl
def Cw (s:GS) (c:Int) (f:aw→GS×j6):GS×j6:=match commentAt s c with
 | some x=>f x
 | none=>(s,.refused (-4))
def tL {s:GS} {c:Int} {f:aw→pB}:fin s (theComment s c >>=f)=Cw s c fun x=>fin s (f x):=by
 unfold theComment Cw
 cases commentAt s c <;> rfl
def VV (s:GS) (c:Int) (t:List Int):bY s (.reply c t)=Cw s c fun x=>if isNoteText t=true then(if x.solved=false then
   (cleaned (changed s x.num fun y=>{y with replies:=y.replies++[⟨s.doc.author,s.doc.time,textOf t⟩]}),.told [(x.replies.length:Int)+1])else(s,.refused (-6)))else(s,.refused (-2)):=by
 rw[iM];unfold raw;unfold reply;rw[tL]
 congr 1;funext x;rw[cO,jr,cO,jr]
 cases x.solved <;> rfl
def VW (s:GS) (c on:Int):bY s (.solve c on)=Cw s c fun x=>if within on 0 1=true then(if(x.solved !=(on==1))=true then
   (cleaned (changed s x.num fun y=>{y with solved:=on==1}),.told [0])else(s,.refused (-6)))else(s,.refused (-2)):=by
 rw[iM];unfold raw;unfold solve;rw[tL]
 congr 1;funext x;rw[cO,jr,cO,jr];rfl
def step_drop (s:GS) (c:Int):bY s (.drop c)=Cw s c fun x=>if(x.author==s.doc.author)=true then
   (cleaned {lifted s (tagOf x.num)with comments:=s.comments.filter fun y=>y.num !=x.num},.told [(carriers s (tagOf x.num):Int)])else(s,.refused (-5)):=by
 rw[iM];unfold raw;unfold Vh;rw[tL]
 congr 1;funext x;rw[cO,jr];rfl
def nU (s:GS) (x:aw) (p q:Int):GS:=laid (lifted s (tagOf x.num)) (tagOf x.num) p.toNat q.toNat
def Ot (s:GS) (c p q:Int):bY s (.reanchor c p q)=Cw s c fun x=>if(x.author==s.doc.author)=true then(if isPlaces s p q=true then
   (cleaned (changed (nU s x p q) x.num fun y=>{y with quote:=quoteOf s p.toNat q.toNat}),.told [((shownWith (nU s x p q) (tagOf x.num)).length:Int)])else(s,.refused (-1)))else(s,.refused (-5)):=by
 rw[iM];unfold raw;unfold reanchor;rw[tL]
 congr 1;funext x;rw[cO,jr,cO,jr];rfl
def Tv (s:GS) (c:Int):bY s (.rescue c)=Cw s c fun x=>if(condition s (tagOf x.num)==0)=true then(match foundFrom x.quote 0 (signsOf (visible (row s)))with
   | some p=>(cleaned (laid s (tagOf x.num) p (p+x.quote.length)),.told [(p:Int),((p+x.quote.length:Nat):Int)])
   | none=>(s,.refused (-8)))else(s,.refused (-7)):=by
 rw[iM];unfold raw;unfold rescue;rw[tL]
 congr 1;funext x;rw[cO,jr]
 cases foundFrom x.quote 0 (signsOf (visible (row s))) <;> rfl
def Ou (s:GS) (p q:Int) (n:List Int):bY s (.bookmark p q n)=if isPlaces s p q=true then(if isName n=true then(if(markNamed s (textOf n)).isNone=true then
   (cleaned (laid {s with marks:=s.marks++[⟨s.nextMark,textOf n⟩],nextMark:=s.nextMark+1} (markTag s.nextMark) p.toNat q.toNat),.told [(s.marks.length:Int)+1])
   else(s,.refused (-5)))else(s,.refused (-2)))else(s,.refused (-1)):=by
 show fin s (uX s p q n)=_;unfold uX;rw[cO,jr,cO,jr,cO,jr];rfl
def P6 (s:GS) (n:List Int) (f:bT→GS×j6):GS×j6:=match s.marks.find? (fun b=>«ints» b.name==n)with
 | some b=>f b
 | none=>(s,.refused (-4))
def Tw {s:GS} {n:List Int} {f:bT→pB}:fin s (theMark s n >>=f)=P6 s n fun b=>fin s (f b):=by
 unfold theMark P6
 cases s.marks.find? (fun b=>«ints» b.name==n) <;> rfl
def Tz (s:GS) (n:List Int):bY s (.unmark n)=P6 s n fun b=>(cleaned (lifted s (markTag b.id)),.told [(carriers s (markTag b.id):Int)]):=by
 rw[iM];unfold raw;unfold unmark;rw[Tw];rfl
def Yv (s:GS) (n:List Int):bY s (.goto n)=P6 s n fun b=>match reach s (markTag b.id)with
   | some z=>(cleaned s,.told («ints» [z.1,z.2]))
   | none=>(s,.refused (-7)):=by
 rw[iM];unfold raw;unfold goto;rw[Tw]
 congr 1;funext b
 cases reach s (markTag b.id) <;> rfl
def IX (s:GS) (x:aw):List Int:=«ints» [condition s (tagOf x.num),(shownWith s (tagOf x.num)).length,carriers s (tagOf x.num),if(signsOf ((shownWith s (tagOf x.num)).map fun z=>z.2)).take QUOTE=x.quote then 1 else 0,if x.solved=true then 1 else 0]
def VX (s:GS) (c:Int):bY s (.state c)=Cw s c fun x=>(cleaned s,.told (IX s x)):=by
 rw[iM];unfold raw;unfold stateOf;rw[tL];rfl
def L6 (x:aw):List Int:=(x.author:Int)::(x.time:Int)::(toldList x.quote++(toldList x.text++((x.replies.length:Int)::x.replies.flatMap toldReply)))
def step_thread (s:GS) (c:Int):bY s (.thread c)=Cw s c fun x=>(cleaned s,.told (L6 x)):=by
 rw[iM];unfold raw;unfold thread;rw[tL];rfl
def IY (s:GS) (x:aw):List Int:=((spotsOf s (tagOf x.num)).length:Int)::(spotsOf s (tagOf x.num)).flatMap fun z=>[(z.1:Int),(z.2:Int)]
def VY (s:GS) (c:Int):bY s (.spots c)=Cw s c fun x=>(cleaned s,.told (IY s x)):=by
 rw[iM];unfold raw;unfold spots;rw[tL];rfl
def Hb (s:GS) (w:Int):List Int:=toldList ((sortBy (fun x=>firstCarrier s (tagOf x.num)) (s.comments.filter (isWanted s w))).map fun x=>x.num)
def Yw (s:GS) (w:Int):bY s (.list w)=if within w 0 3=true then(cleaned s,.told (Hb s w))else(s,.refused (-2)):=by
 show fin s (EA s w)=_;unfold EA;rw[cO,jr];rfl
def VZ (s:GS) (x:Piece):List Int:=toldList ((s.comments.filter fun c=>carries (tagOf c.num) x).map fun c=>c.num)++toldNames (s.marks.filter fun b=>carries (markTag b.id) x)
def step_at (s:GS) (p:Int):bY s (.at p)=if below p (count s.doc)=true then(match(visible (row s))[p.toNat]? with
   | some x=>(cleaned s,.told (VZ s x))
   | none=>(s,.refused (-1)))else(s,.refused (-1)):=by
 show fin s (GR s p)=_;unfold GR;rw[cO,jr]
 show(if below p (bJ s.doc)=true then _ else _)=_
 cases (visible (row s))[p.toNat]? <;> rfl
def Kg (s:GS) (a:Int):List Int:=toldList ((s.comments.filter fun x=>!x.solved&&(wrote a.toNat x&&lastWriter x !=a.toNat)).map fun x=>x.num)
def Q4 (s:GS) (a:Int):bY s (.waiting a)=if within a 1 99=true then(cleaned s,.told (Kg s a))else(s,.refused (-2)):=by
 show fin s (xU s a)=_;unfold xU;rw[cO,jr];rfl
def L7 (s:GS):bY s .bookmarks=(cleaned s,.told ((s.marks.length:Int)::s.marks.flatMap (toldMark s))):=rfl
def Dd (s:GS) (w:Int):List Int:=if w=0 then((row s).length:Int)::(row s).flatMap dI
  else if w=1 then toldList (signsOf (visible (row s)))else toldList (signsOf ((row s).filter stood))
def Yx (s:GS) (w:Int):bY s (.text w)=if within w 0 2=true then(cleaned s,.told (Dd s w))else(s,.refused (-2)):=by
 show fin s (EB s w)=_;unfold EB;rw[cO,jr];rfl
def step_size (s:GS):bY s .size=(cleaned s,.told («ints» [count s.doc,(row s).length,s.doc.changes.length,s.comments.length,s.marks.length])):=rfl
def zc (x y:Piece):Prop:=∃m,(m∈x.del∧m∈y.ins)∨(m∈y.del∧m∈x.ins)
def zc.symm {x y:Piece} (h:zc x y):zc y x:=let ⟨m,h⟩:=h;⟨m,h.symm⟩
abbrev LR (a b:Nat×Piece):Prop:=a.1=b.1→zc a.2 b.2
def LR.symm {a b:Nat×Piece} (h:LR a b):LR b a:=fun e=>(h e.symm).symm
structure Q5 (N:Nat) (L:List (Nat×Piece)):Prop where
 lt:∀z∈L,z.1 < N
 pw:L.Pairwise LR
def IZ (N:Nat) (row:List Piece):Prop:=∃L:List (Nat×Piece),L.map (·.2)=row∧Q5 N L
theorem kj:∀(n:Nat) (l:List Nat),l.Nodup→(∀x∈l,x < n)→l.length≤n
 | 0,[],_,_=>aJ _
 | 0,x::l,_,h=>absurd (h x (aE ..)) (CK _)
 | n+1,l,nd,h=>by
  have h1:(l.erase n).length≤n:=kj n (l.erase n) (nd.erase n) fun x hx=>by
   have hm:=List.mem_of_mem_erase hx
   have:=h x hm
   have ne:x≠n:=fun e=>by
    subst e
    exact(PJ nd) hx
   omega
  have h2:=List.length_erase (a:=n) (l:=l)
  split at h2 <;> omega
def Q5.perm {N:Nat} {L L':List (Nat×Piece)} (h:Q5 N L) (p:L.Perm L'):Q5 N L':=
 ⟨fun z hz=>h.lt z (p.mem_iff.mpr hz),(p.pairwise_iff LR.symm).mp h.pw⟩
def Q5.mono {N N':Nat} {L:List (Nat×Piece)} (h:Q5 N L) (le:N≤N'):Q5 N' L:=⟨fun z hz=>ck (h.lt z hz) le,h.pw⟩
def IZ.mono {N N':Nat} {r:List Piece} (h:IZ N r) (le:N≤N'):IZ N' r:=let ⟨L,e,l⟩:=h;⟨L,e,l.mono le⟩
def Ae {x:Piece} (h:shown x=true):x.del=[]:=by unfold shown at h;exact nB.mp h
def TB {N:Nat} {row:List Piece} (h:IZ N row):(visible row).length≤N:=by
 obtain⟨L,rfl,l⟩:=h
 have e:visible (L.map (·.2))=(L.filter fun z=>shown z.2).map (·.2):=by unfold visible;rw[jJ];rfl
 rw[e,ab]
 have nd:((L.filter fun z=>shown z.2).map (·.1)).Nodup:=by
  rw[c4,b7]
  have pw:=l.pw.filter (fun z=>shown z.2)
  refine dD ?_ pw
  intro a b ha hb hr e
  have ha:=Ae (aA.mp ha).2
  have hb:=Ae (aA.mp hb).2
  obtain⟨m,h | h⟩:=hr e
  ·rw[ha]at h;exact absurd h.1 (by simp)
  ·rw[hb]at h;exact absurd h.1 (by simp)
 have:=kj N _ nd fun x hx=>by
  obtain⟨z,hz,rfl⟩:=aR.mp hx
  exact l.lt z (aA.mp hz).1
 simpa using this
def Zr (g:Piece→List Piece) (z:Nat×Piece):List (Nat×Piece):=(g z.2).map fun x=>(z.1,x)
theorem Q6 (g:Piece→List Piece):∀(L:List (Nat×Piece)),(L.flatMap (Zr g)).map (·.2)=(L.map (·.2)).flatMap g
 | []=>rfl
 | z::L=>by
  rw[bW,bz,Q6 g L,aT,bW]
  congr 1
  unfold Zr
  rw[bD]
  exact Sv _
def Q8 {N:Nat} {L:List (Nat×Piece)} {g:Nat×Piece→List (Nat×Piece)} (h:Q5 N L) (h1:∀z∈L,(g z).Pairwise LR) (h0:∀z∈L,∀y∈g z,y.1=z.1)
  (h2:∀z y,LR z y→∀z'∈g z,∀y'∈g y,zc z.2 y.2→zc z'.2 y'.2):Q5 N (L.flatMap g):=by
 refine⟨fun z hz=>?_,?_⟩
 ·obtain⟨y,hy,hz⟩:=fJ.mp hz
  rw[h0 y hy z hz];exact h.lt y hy
 ·rw[C1]
  refine⟨h1,?_⟩
  refine dD ?_ h.pw
  intro a b ha hb hr x hx y hy e
  rw[h0 a ha x hx,h0 b hb y hy]at e
  exact h2 a b hr x hx y hy (hr e)
def TC {N:Nat} {row:List Piece} {g:Piece→List Piece} (h:IZ N row) (one:∀x∈row,(g x).length≤1) (k:∀x y,zc x y→∀x'∈g x,∀y'∈g y,zc x' y'):IZ N (row.flatMap g):=by
 obtain⟨L,rfl,l⟩:=h
 refine⟨L.flatMap (Zr g),Q6 g L,Q8 l (fun z hz=>?_) (fun z _ y hy=>?_) fun z y _ z' hz' y' hy' c=>?_⟩
 ·have o:=one z.2 (fS hz)
  unfold Zr
  match hg:g z.2,o with
  | [],_=>simp
  | [x],_=>simp
  | x::y::r,o=>simp at o
 ·unfold Zr at hy
  obtain⟨x,_,rfl⟩:=aR.mp hy
  rfl
 ·unfold Zr at hz' hy'
  obtain⟨x,hx,rfl⟩:=aR.mp hz'
  obtain⟨x2,hx2,rfl⟩:=aR.mp hy'
  exact k z.2 y.2 c x hx x2 hx2
theorem De {α β:Type} (g:α→β):∀l:List α,l.flatMap (fun x=>[g x])=l.map g
 | []=>rfl
 | x::l=>by rw[bW,De g l];rfl
def abq {N:Nat} {row:List Piece} {g:Piece→Piece} (h:IZ N row) (k:∀x y,zc x y→zc (g x) (g y)):IZ N (row.map g):=by
 have:=TC (g:=fun x=>[g x]) h (fun _ _=>by simp) fun x y c x' hx' y' hy'=>by
  simp at hx' hy';subst hx' hy';exact k x y c
 rw[De]at this;exact this
def wy (x x':Piece):Prop:=(∀m∈x.ins,m∈x'.ins)∧∀m∈x.del,m∈x'.del
def wy.abr {x y x' y':Piece} (hx:wy x x') (hy:wy y y') (h:zc x y):zc x' y':=by
 obtain⟨m,⟨a,b⟩ | ⟨a,b⟩⟩:=h
 ·exact⟨m,.inl ⟨hx.2 m a,hy.1 m b⟩⟩
 ·exact⟨m,.inr ⟨hy.2 m a,hx.1 m b⟩⟩
def wy.refl (x:Piece):wy x x:=⟨fun _ h=>h,fun _ h=>h⟩
def Df (t:Nat) (on:Bool) (x:Piece):wy x (retag t on x):=⟨fun _ h=>h,fun _ h=>h⟩
def P7 {s:aC} {x x':Piece} (h:x'∈dc (cutPiece s) x):wy x x':=by
 unfold dc cutPiece at h
 split at h
 ·rename_i hs
  split at h
  ·simp at h
  ·simp at h;subst h
   exact⟨fun _ h=>h,fun m h=>by rw[Ae hs]at h;simp at h⟩
 ·simp at h;subst h;exact wy.refl _
def Ov {s:aC} {x:Piece}:wy x (carried s x):=by
 unfold carried
 split
 ·exact wy.refl _
 ·exact⟨fun _ h=>aS _ h,fun _ h=>h⟩
def EM (s:aC) (x:Piece):(dc (cutPiece s) x).length≤1:=by
 unfold dc cutPiece;split
 ·split <;> simp
 ·simp
def V0 (s:aC) (m:List Piece):visible (m.flatMap (dc (cutPiece s)))=[]:=by
 unfold visible
 rw[eM]
 intro x hx
 obtain⟨y,_,hx⟩:=fJ.mp hx
 unfold dc cutPiece at hx
 split at hx
 ·split at hx
  ·simp at hx
  ·simp at hx;subst hx;simp[shown]
 ·rename_i h;simp at hx;subst hx;exact h
def Q9 {N:Nat} {a m b:List Piece} {g:Piece→List Piece} (h:IZ N (a++(m++b))) (one:∀x∈m,(g x).Pairwise zc) (k:∀x∈m,∀x'∈g x,wy x x'):IZ N (a++(m.flatMap g++b)):=by
 obtain⟨L,e,l⟩:=h
 obtain⟨La,L1,rfl,ea,e1⟩:=rF.mp e
 obtain⟨Lm,Lb,rfl,em,eb⟩:=rF.mp e1
 refine⟨La++(Lm.flatMap (Zr g)++Lb),?_,?_⟩
 ·rw[bz,bz,Q6,ea,em,eb]
 ·have hm:∀z∈Lm,z.2∈m:=fun z hz=>by rw[← em];exact fS hz
  refine⟨fun z hz=>?_,?_⟩
  ·rcases aX.mp hz with hz | hz
   ·exact l.lt z (aS _ hz)
   ·rcases aX.mp hz with hz | hz
    ·obtain⟨y,hy,hz⟩:=fJ.mp hz
     unfold Zr at hz
     obtain⟨x,_,rfl⟩:=aR.mp hz
     exact l.lt y (aF _ (aS _ hy))
    ·exact l.lt z (aF _ (aF _ hz))
  ·have pw:=l.pw
   rw[cC,cC]at pw
   obtain⟨pa,⟨pm,pb,pmb⟩,pab⟩:=pw
   have onm:∀z'∈Lm.flatMap (Zr g),∃z∈Lm,z'.1=z.1∧wy z.2 z'.2:=fun z' hz'=>by
    obtain⟨y,hy,hz⟩:=fJ.mp hz'
    unfold Zr at hz
    obtain⟨x,hx,rfl⟩:=aR.mp hz
    exact⟨y,hy,rfl,k y.2 (hm y hy) x hx⟩
   rw[cC,cC]
   refine⟨pa,⟨?_,pb,fun z' hz' y hy e=>?_⟩,fun x hx y hy e=>?_⟩
   ·rw[C1]
    refine⟨fun z hz=>?_,?_⟩
    ·unfold Zr
     rw[b7]
     exact(one z.2 (hm z hz)).imp fun {a b} c=>(fun _=>c:LR (z.1,a) (z.1,b))
    ·refine dD ?_ pm
     intro z y hz hy hr x hx x2 hx2 e
     unfold Zr at hx hx2
     obtain⟨w,hw,rfl⟩:=aR.mp hx
     obtain⟨w2,hw2,rfl⟩:=aR.mp hx2
     exact(k z.2 (hm z hz) w hw).abr (k y.2 (hm y hy) w2 hw2) (hr e)
   ·obtain⟨z,hz,e1,gr⟩:=onm z' hz'
    exact gr.abr (wy.refl _) (pmb z hz y hy (e1.symm.trans e))
   ·rcases aX.mp hy with hy | hy
    ·obtain⟨z,hz,e1,gr⟩:=onm y hy
     exact(wy.refl _).abr gr (pab x hx z (aS _ hz) (e.trans e1))
    ·exact pab x hx y (aF _ hy) e
def TF {c:Nat} {x y x' y':Piece} (h:zc x y) (hx:has x.del c=false) (hy:has y.del c=false) (ix:∀m∈x.ins,m≠c→m∈x'.ins) (iy:∀m∈y.ins,m≠c→m∈y'.ins) (dx:x'.del=x.del) (dy:y'.del=y.del):zc x' y':=by
 have nx:c∉x.del:=fun z=>by
  have:has x.del c=true:=by unfold has;rw[cA];exact⟨c,z,by simp⟩
  rw[hx]at this;cases this
 have ny:c∉y.del:=fun z=>by
  have:has y.del c=true:=by unfold has;rw[cA];exact⟨c,z,by simp⟩
  rw[hy]at this;cases this
 obtain⟨m,⟨a,b⟩ | ⟨a,b⟩⟩:=h
 ·exact⟨m,.inl ⟨by rw[dx];exact a,iy m b (fun e=>nx (e▸a))⟩⟩
 ·exact⟨m,.inr ⟨by rw[dy];exact a,ix m b (fun e=>ny (e▸a))⟩⟩
def TH {c:Nat} {x y x' y':Piece} (h:zc x y) (hx:has x.ins c=false) (hy:has y.ins c=false) (ix:∀m∈x.del,m≠c→m∈x'.del) (iy:∀m∈y.del,m≠c→m∈y'.del) (dx:x'.ins=x.ins) (dy:y'.ins=y.ins):zc x' y':=by
 have nx:c∉x.ins:=fun z=>by
  have:has x.ins c=true:=by unfold has;rw[cA];exact⟨c,z,by simp⟩
  rw[hx]at this;cases this
 have ny:c∉y.ins:=fun z=>by
  have:has y.ins c=true:=by unfold has;rw[cA];exact⟨c,z,by simp⟩
  rw[hy]at this;cases this
 obtain⟨m,⟨a,b⟩ | ⟨a,b⟩⟩:=h
 ·exact⟨m,.inl ⟨ix m a (fun e=>ny (e▸b)),by rw[dy];exact b⟩⟩
 ·exact⟨m,.inr ⟨iy m a (fun e=>nx (e▸b)),by rw[dx];exact b⟩⟩
def vg {c k:Nat} {x:Piece} (h:x.pend=[]):CL c x k=x:=by
 unfold CL;rw[h];rfl
def Ra {c:Nat} {x:Piece} (h:x.pend=[]):Sw.foldl (CL c) x=x:=by
 unfold Sw
 simp only[Ln,List.foldl_nil]
 rw[vg h,vg h,vg h,vg h]
def tM {c:Nat} {x:Piece} (h:x.pend=[]):CM c x=if has x.del c=true then[]else[{x with ins:=dm c x.ins}]:=by
 unfold CM
 split
 ·rfl
 ·rw[Ra (x:={x with ins:=dm c x.ins}) h]
def tN {c:Nat} {x:Piece} (h:x.pend=[]):CN c x=if has x.ins c=true then[]else[{x with del:=dm c x.del}]:=by
 unfold CN
 split
 ·rfl
 ·rw[h];obtain⟨a,b,c',d,e,f⟩:=x;simp at h;subst h;rfl
def ml {c m:Nat} {l:List Nat}:m∈dm c l↔m∈l∧m≠c:=by
 unfold dm;rw[aA];simp
def Fv (b:Bool) (c:Nat) (x:Piece):(dY b c x).length≤1:=by
 unfold dY CM CN
 split <;> split <;> simp
theorem jj {α β:Type} {g:α→List β}:∀{l:List α},(∀x∈l,(g x).length≤1)→(l.flatMap g).length≤l.length
 | [],_=>aJ _
 | x::l,h=>by
  rw[bW,ae,aN]
  have h1:=h x (aE ..)
  have h2:=jj (l:=l) fun y hy=>h y (aI _ hy)
  omega
def Kh {N:Nat} {row:List Piece} (hp:∀x∈row,x.pend=[]) (b:Bool) (c:Int) (h:IZ N row):IZ N (b6 b c row)∧(b6 b c row).length≤row.length:=by
 unfold b6
 split
 ·split
  ·unfold acceptRow
   refine⟨?_,by rw[ab];exact bX ..⟩
   obtain⟨L,rfl,l⟩:=h
   refine⟨(L.filter fun z=>shown z.2).map fun z=>(z.1,acceptPiece z.2),?_,⟨fun z hz=>?_,?_⟩⟩
   ·rw[jJ,bD,bD];rfl
   ·obtain⟨y,hy,rfl⟩:=aR.mp hz
    exact l.lt y (aA.mp hy).1
   ·rw[b7]
    refine dD ?_ (l.pw.filter _)
    intro a b ha hb hr e
    have ha:=Ae (aA.mp ha).2
    have hb:=Ae (aA.mp hb).2
    obtain⟨m,h | h⟩:=hr e
    ·rw[ha]at h;exact absurd h.1 (by simp)
    ·rw[hb]at h;exact absurd h.1 (by simp)
  ·unfold rejectRow
   refine⟨?_,by rw[ab];exact bX ..⟩
   obtain⟨L,rfl,l⟩:=h
   refine⟨(L.filter fun z=>stood z.2).map fun z=>(z.1,rejectPiece z.2),?_,⟨fun z hz=>?_,?_⟩⟩
   ·rw[jJ,bD,bD];rfl
   ·obtain⟨y,hy,rfl⟩:=aR.mp hz
    exact l.lt y (aA.mp hy).1
   ·rw[b7]
    refine dD ?_ (l.pw.filter _)
    intro a b ha hb hr e
    have ha:a.2.ins=[]:=nB.mp (aA.mp ha).2
    have hb:b.2.ins=[]:=nB.mp (aA.mp hb).2
    obtain⟨m,h | h⟩:=hr e
    ·rw[hb]at h;exact absurd h.2 (by simp)
    ·rw[ha]at h;exact absurd h.2 (by simp)
 ·unfold iu
  have e:row.flatMap (dY b c.toNat)=row.flatMap fun x=>if x.pend=[]then dY b c.toNat x else[]:=by
   clear h
   induction row with
   | nil=>rfl
   | cons x r ih=>
    rw[bW,bW,if_pos (hp x (aE ..)),ih fun y hy=>hp y (aI _ hy)]
  refine⟨?_,jj fun x _=>Fv ..⟩
  rw[e]
  refine TC h (fun x hx=>by rw[if_pos (hp x hx)];exact Fv ..) fun x y cf x' hx' y' hy'=>?_
  split at hx'
  ·rename_i px
   split at hy'
   ·rename_i py
    unfold dY at hx' hy'
    cases b with
    | true=>
     rw[if_pos rfl]at hx' hy'
     rw[tM px]at hx'
     rw[tM py]at hy'
     split at hx'
     ·simp at hx'
     ·rename_i nx
      split at hy'
      ·simp at hy'
      ·rename_i ny
       simp at hx' hy'
       subst hx' hy'
       exact TF cf (by simpa using nx) (by simpa using ny) (fun m hm hn=>ml.mpr ⟨hm,hn⟩) (fun m hm hn=>ml.mpr ⟨hm,hn⟩) rfl rfl
    | false=>
     rw[if_neg (by decide)]at hx' hy'
     rw[tN px]at hx'
     rw[tN py]at hy'
     split at hx'
     ·simp at hx'
     ·rename_i nx
      split at hy'
      ·simp at hy'
      ·rename_i ny
       simp at hx' hy'
       subst hx' hy'
       exact TH cf (by simpa using nx) (by simpa using ny) (fun m hm hn=>ml.mpr ⟨hm,hn⟩) (fun m hm hn=>ml.mpr ⟨hm,hn⟩) rfl rfl
   ·simp at hy'
  ·simp at hx'
def abt {N:Nat} {a b new:List Piece} (h:IZ N (a++b)):IZ (N+new.length) (a++(new++b)):=by
 obtain⟨L,e,l⟩:=h
 obtain⟨La,Lb,rfl,ea,eb⟩:=rF.mp e
 have pw:=l.pw
 rw[cC]at pw
 obtain⟨pa,pb,pab⟩:=pw
 have hn:∀z∈(kW N new.length).zip new,N≤z.1∧z.1 < N+new.length:=fun z hz=>by
  have:=(jG (a:=z.1) (b:=z.2) hz).1
  rw[List.mem_range'_1]at this
  exact this
 refine⟨La++((kW N new.length).zip new++Lb),?_,⟨fun z hz=>?_,?_⟩⟩
 ·rw[bz,bz,ea,eb]
  congr 2
  exact AG (by rw[GU];omega)
 ·rcases aX.mp hz with hz | hz
  ·exact ck (l.lt z (aS _ hz)) (J2 ..)
  ·rcases aX.mp hz with hz | hz
   ·exact(hn z hz).2
   ·exact ck (l.lt z (aF _ hz)) (J2 ..)
 ·rw[cC,cC]
  refine⟨pa,⟨?_,pb,fun x hx y hy e=>?_⟩,fun x hx y hy e=>?_⟩
  ·have nd:(((kW N new.length).zip new).map (·.1)).Nodup:=by
    rw[AH (by rw[GU];omega)]
    exact List.nodup_range'
   rw[c4,b7]at nd
   exact nd.imp fun hne e=>absurd e hne
  ·have:=(hn x hx).1
   have:=l.lt y (aF _ hy)
   omega
  ·have:=l.lt x (aS _ hx)
   rcases aX.mp hy with hy | hy
   ·have:=(hn y hy).1
    omega
   ·exact pab x hx y hy e
def Yy {row row':List Piece} (p:row.Perm row'):∀L:List (Nat×Piece),L.map (·.2)=row→∃L',L'.map (·.2)=row'∧L.Perm L':=by
 induction p with
 | nil=>intro L e;exact⟨L,e,.refl _⟩
 | cons x _ ih=>
  intro L e
  match L,e with
  | z::L,e=>
   obtain⟨e1,e2⟩:=tG e
   obtain⟨L',e',p'⟩:=ih L e2
   exact⟨z::L',by rw[aT,e'];exact congrArg (·::_) e1,p'.cons z⟩
 | swap x y l=>
  intro L e
  match L,e with
  | z::z2::L,e=>
   obtain⟨e1,e2⟩:=tG e
   obtain⟨e2,e3⟩:=tG e2
   exact⟨z2::z::L,by rw[← e1,← e2,← e3];rfl,.swap ..⟩
 | trans _ _ ih1 ih2=>
  intro L e
  obtain⟨L1,e1,p1⟩:=ih1 L e
  obtain⟨L2,e2,p2⟩:=ih2 L1 e1
  exact⟨L2,e2,p1.trans p2⟩
def IZ.perm {N:Nat} {row row':List Piece} (h:IZ N row) (p:row.Perm row'):IZ N row':=by
 obtain⟨L,e,l⟩:=h
 obtain⟨L',e',p'⟩:=Yy p L e
 exact⟨L',e',l.perm p'⟩
theorem Hc {α β:Type} (f g:α→List β):∀l:List α,(l.flatMap fun x=>f x++g x).Perm (l.flatMap f++l.flatMap g)
 | []=>.refl _
 | x::l=>by
  rw[bW,bW,bW]
  have h:=(Hc f g l).append_left (f x++g x)
  refine h.trans ?_
  rw[bM,bM]
  refine jv _ ?_
  rw[← bM,← bM]
  exact lh _ l0
def overOf (s:aC) (x:Piece):List Piece:=if shown x=true then[carried s x]else[]
theorem Hd (s:aC):∀m:List Piece,(visible m).map (carried s)=m.flatMap (overOf s)
 | []=>rfl
 | x::m=>by
  by_cases h:shown x=true
  ·rw[dw h,aT,bW,Hd s m,overOf,if_pos h];rfl
  ·rw[h9 h,bW,Hd s m,overOf,if_neg h];rfl
def Yz (s:aC) (x:Piece):(dc (cutPiece s) x++overOf s x).Pairwise zc:=by
 unfold dc overOf cutPiece carried
 by_cases h:shown x=true
 ·rw[if_pos h,if_pos h]
  by_cases o:outright s x=true
  ·rw[if_pos o];simp
  ·rw[if_neg o,if_neg o]
   simp only[dW,jI,c5,xV,List.not_mem_nil,false_implies,implies_true,X6,and_true]
   intro y e
   subst e
   exact⟨next s,.inl ⟨by simp,by simp⟩⟩
 ·rw[if_neg h,if_neg h];simp
def V1 (s:aC) (x x':Piece) (h:x'∈dc (cutPiece s) x++overOf s x):wy x x':=by
 rcases aX.mp h with h | h
 ·exact P7 h
 ·unfold overOf at h
  split at h
  ·simp at h;subst h;exact Ov
  ·simp at h
def L8 {s:aC} {p q r:Nat} {a m b ra rb:List Piece} {x:Piece} (h:Around s.row p q a m b) (hr:mj a r ra x rb) (hrp:r < p):
  putBefore ((stretch p q s.row).map (carried s)) (landing p q r) (onStretch (cutPiece s) p q s.row)=ra++(m.flatMap (overOf s)++x::rb)++(m.flatMap (dc (cutPiece s))++b):=by
 rw[h.onStretch,h.stretch,Hd]
 unfold landing
 rw[if_pos hrp]
 have hb:mj (a++(m.flatMap (dc (cutPiece s))++b)) r ra x (rb++(m.flatMap (dc (cutPiece s))++b)):=⟨by rw[hr.dj];simp,hr.cnt,hr.shown⟩
 rw[hb.putBefore]
 simp
def P8 {s:aC} {p q r:Nat} {a m b ba bb:List Piece} {y:Piece} (h:Around s.row p q a m b) (hr:mj b (r - q) ba y bb) (hrq:q≤r):
  putBefore ((stretch p q s.row).map (carried s)) (landing p q r) (onStretch (cutPiece s) p q s.row)=a++(m.flatMap (dc (cutPiece s))++(ba++(m.flatMap (overOf s)++y::bb))):=by
 have l:=h.lt
 rw[h.onStretch,h.stretch,Hd]
 unfold landing
 rw[if_neg (by omega)]
 have hb:mj (a++(m.flatMap (dc (cutPiece s))++b)) (r - (q - p)) (a++(m.flatMap (dc (cutPiece s))++ba)) y bb:=by
  refine⟨by rw[hr.dj];simp,?_,hr.shown⟩
  rw[bU,bU,V0,ae,h.Dc,jI,hr.cnt]
  omega
 rw[hb.putBefore]
 simp
def TJ (s:aC) (m:List Piece):(m.flatMap (overOf s)).length=(visible m).length:=by rw[← Hd,ab]
def Z8 {N:Nat} {s:aC} {a m b:List Piece} (h:IZ N (a++(m++b))):IZ N (a++((m.flatMap (dc (cutPiece s))++m.flatMap (overOf s))++b)):=by
 have h1:=Q9 (g:=fun x=>dc (cutPiece s) x++overOf s x) h (fun x _=>Yz s x) fun x _ x' hx=>V1 s x x' hx
 exact h1.perm (jv _ (lh _ (Hc _ _ m)))
structure dO (n:Nat) (x:Piece):Prop where
 pend:x.pend=[]
 inc:x.ins.Pairwise (· < ·)
 ins:∀c∈x.ins,1≤c∧c≤n
 del:∀c∈x.del,1≤c∧c≤n
 one:x.del.length≤1
 tags:x.tags.Pairwise (· < ·)
def dO.mono {n n':Nat} {x:Piece} (h:dO n x) (le:n≤n'):dO n' x:=
 ⟨h.pend,h.inc,fun c hc=>⟨(h.ins c hc).1,bg (h.ins c hc).2 le⟩,fun c hc=>⟨(h.del c hc).1,bg (h.del c hc).2 le⟩,h.one,h.tags⟩
structure WF (s:GS):Prop where
 wz:∀x∈s.doc.row,dO s.doc.changes.length x
 o3:s.comments.Pairwise fun a b=>a.num < b.num
 g8:∀c∈s.comments,1≤c.num∧c.num < s.nextComment
 Af:∀x∈s.doc.row,∀c,2*c∈x.tags→∃k∈s.comments,k.num=c
 vh:s.marks.Pairwise fun a b=>a.id < b.id
 ya:∀b∈s.marks,1≤b.id∧b.id < s.nextMark
 AX:∀x∈s.doc.row,∀m,2*m+1∈x.tags→∃b∈s.marks,b.id=m
 wA:s.marks.Pairwise fun a b=>a.name≠b.name
 quote:∀c∈s.comments,c.quote≠[]∧c.quote.length≤40
 text:∀c∈s.comments,c.text.length≤200
 pV:∀c∈s.comments,∀r∈c.replies,r.text.length≤200
 names:∀b∈s.marks,b.name.length≤20
structure WFC (s:GS):Prop extends WF s where
 ac7:∀b∈s.marks,s.doc.row.any (carries (markTag b.id))=true
def iQ {l:List Nat} {t:Nat}:has l t=true↔t∈l:=by
 unfold has;rw[cA]
 constructor
 ·rintro⟨x,hx,e⟩;simp at e;subst e;exact hx
 ·intro h;exact⟨t,h,by simp⟩
def eV {t:Nat} {x:Piece}:carries t x=true↔t∈x.tags:=iQ
def V2 {s:GS} (h:WF s):WFC (cleaned s):=by
  refine {wz:=h.wz,o3:=h.o3,g8:=h.g8,Af:=h.Af,vh:=h.vh.filter _,ya:=fun b hb=>h.ya b (aA.mp hb).1,AX:=fun x hx m hm=>?_,wA:=h.wA.filter _,quote:=h.quote,text:=h.text,pV:=h.pV,
           names:=fun b hb=>h.names b (aA.mp hb).1,ac7:=fun b hb=>(aA.mp hb).2}
  obtain⟨b,hb,e⟩:=h.AX x hx m hm
  refine⟨b,aA.mpr ⟨hb,?_⟩,e⟩
  rw[cA]
  exact⟨x,hx,eV.mpr (by unfold markTag;rw[e];exact hm)⟩
def He {s:GS} (h:WFC s):cleaned s=s:=by
 unfold cleaned
 have:s.marks.filter (fun b=>(row s).any (carries (markTag b.id)))=s.marks:=dz.mpr fun b hb=>h.ac7 b hb
 rw[this]
def Z9 (r' r:List Piece):Prop:=∀x∈r',∀t∈x.tags,∃y∈r,t∈y.tags
def AY {s:GS} {d:aC} (h:WF s) (wz:∀x∈d.row,dO d.changes.length x) (ts:Z9 d.row s.doc.row):WF {s with doc:=d}:=
 {wz:=wz,o3:=h.o3,g8:=h.g8,Af:=fun x hx c hc=>let ⟨y,hy,ht⟩:=ts x hx _ hc;h.Af y hy c ht,vh:=h.vh,ya:=h.ya,AX:=fun x hx m hm=>let ⟨y,hy,ht⟩:=ts x hx _ hm;h.AX y hy m ht,
  wA:=h.wA,quote:=h.quote,text:=h.text,pV:=h.pV,names:=h.names}
theorem Dg (t u:Nat):∀l:List Nat,u∈withTag t l↔u=t∨u∈l
 | []=>by simp[withTag]
 | v::l=>by
  unfold withTag
  split
  ·simp
  ·split
   ·rename_i h;subst h;simp
   ·simp only[bx,Dg t u l]
    constructor
    ·rintro(h | h | h) <;> simp[h]
    ·rintro(h | h | h) <;> simp[h]
theorem Dh (t:Nat):∀l:List Nat,l.Pairwise (· < ·)→(withTag t l).Pairwise (· < ·)
 | [],_=>by simp[withTag]
 | v::l,h=>by
  unfold withTag
  rw[c5]at h
  split
  ·rename_i lt
   rw[c5]
   refine⟨fun u hu=>?_,c5.mpr h⟩
   rcases bx.mp hu with rfl | hu
   ·exact lt
   ·have:=h.1 u hu;omega
  ·split
   ·exact c5.mpr h
   ·rw[c5]
    refine⟨fun u hu=>?_,Dh t l h.2⟩
    rcases(Dg t u l).mp hu with rfl | hu
    ·omega
    ·exact h.1 u hu
def kZ {t u:Nat} {x:Piece}:u∈(retag t true x).tags↔u=t∨u∈x.tags:=Dg t u x.tags
def iZ {t u:Nat} {x:Piece}:u∈(retag t false x).tags↔u∈x.tags∧u≠t:=by
 unfold retag;simp
def L9 {n t:Nat} {on:Bool} {x:Piece} (h:dO n x):dO n (retag t on x):=by
 refine⟨h.pend,h.inc,h.ins,h.del,h.one,?_⟩
 unfold retag
 cases on with
 | true=>exact Dh t _ h.tags
 | false=>exact h.tags.filter _
def Ma {n c:Nat} {l:List Nat} (h:∀d∈l,1≤d∧d≤n):∀d∈dm c l,1≤d∧d≤n:=fun d hd=>h d (ml.mp hd).1
def Mb {n:Nat} {b:Bool} {c:Int} {row:List Piece} (h:∀x∈row,dO n x):(∀x∈b6 b c row,dO n x)∧Z9 (b6 b c row) row:=by
 unfold b6
 split
 ·split
  ·unfold acceptRow
   refine⟨fun x hx=>?_,fun x hx t ht=>?_⟩
   ·obtain⟨y,hy,rfl⟩:=aR.mp hx
    have:=h y (aA.mp hy).1
    exact⟨rfl,by simp[acceptPiece],by simp[acceptPiece],by simp[acceptPiece],by simp[acceptPiece],this.tags⟩
   ·obtain⟨y,hy,rfl⟩:=aR.mp hx
    exact⟨y,(aA.mp hy).1,ht⟩
  ·unfold rejectRow
   refine⟨fun x hx=>?_,fun x hx t ht=>?_⟩
   ·obtain⟨y,hy,rfl⟩:=aR.mp hx
    have:=h y (aA.mp hy).1
    exact⟨rfl,by simp[rejectPiece],by simp[rejectPiece],by simp[rejectPiece],by simp[rejectPiece],this.tags⟩
   ·obtain⟨y,hy,rfl⟩:=aR.mp hx
    exact⟨y,(aA.mp hy).1,ht⟩
 ·unfold iu
  have key:∀x∈row.flatMap (dY b c.toNat),∃y∈row,dO n x∧x.tags=y.tags:=fun x hx=>by
   obtain⟨y,hy,hx⟩:=fJ.mp hx
   have oy:=h y hy
   refine⟨y,hy,?_⟩
   unfold dY at hx
   split at hx
   ·rw[tM oy.pend]at hx
    split at hx
    ·simp at hx
    ·simp at hx;subst hx
     exact⟨⟨oy.pend,oy.inc.filter _,Ma oy.ins,oy.del,oy.one,oy.tags⟩,rfl⟩
   ·rw[tN oy.pend]at hx
    split at hx
    ·simp at hx
    ·simp at hx;subst hx
     exact⟨⟨oy.pend,oy.inc,oy.ins,Ma oy.del,bg (bX ..) oy.one,oy.tags⟩,rfl⟩
  exact⟨fun x hx=>let ⟨_,_,o,_⟩:=key x hx;o,fun x hx t ht=>let ⟨y,hy,_,e⟩:=key x hx;⟨y,hy,e▸ht⟩⟩
def Di {s:aC} {x x':Piece} (h:dO s.changes.length x) (hx:x'∈dc (cutPiece s) x):dO (s.changes.length+1) x'∧x'.tags=x.tags:=by
 unfold dc cutPiece at hx
 split at hx
 ·split at hx
  ·simp at hx
  ·simp at hx;subst hx
   refine⟨⟨h.pend,h.inc,(h.mono (fE _)).ins,fun c hc=>?_,by simp,h.tags⟩,rfl⟩
   simp[next]at hc;omega
 ·simp at hx;subst hx;exact⟨h.mono (fE _),rfl⟩
def P9 {s:aC} {x x':Piece} (h:dO s.changes.length x) (hx:x'∈overOf s x):dO (s.changes.length+1) x'∧x'.tags=x.tags:=by
 unfold overOf carried at hx
 split at hx
 ·simp at hx
  split at hx
  ·subst hx;exact⟨h.mono (fE _),rfl⟩
  ·subst hx
   refine⟨⟨h.pend,?_,fun c hc=>?_,(h.mono (fE _)).del,h.one,h.tags⟩,rfl⟩
   ·show(x.ins++[next s]).Pairwise (· < ·)
    rw[cC]
    refine⟨h.inc,by simp,fun a ha b hb=>?_⟩
    simp at hb;subst hb
    have:=(h.ins a ha).2
    unfold next;omega
   ·rcases aX.mp hc with hc | hc
    ·exact((h.mono (fE _)).ins c hc)
    ·simp[next]at hc;omega
 ·simp at hx
def Ow {p:Nat} {row:List Piece} (h:∀x∈row,x.tags.Pairwise (· < ·)):(commonTags p row).Pairwise (· < ·)∧∀t∈commonTags p row,∃y∈row,t∈y.tags:=by
 unfold commonTags
 split
 ·simp
 ·split
  ·rename_i x y hx hy
   have mx:x∈row:=(aA.mp (a7 hx)).1
   exact⟨(h x mx).filter _,fun t ht=>⟨x,mx,(aA.mp ht).1⟩⟩
  ·simp
def AZ {s:aC} {p:Nat} {signs:List Nat} {x:Piece} (h:∀x∈s.row,dO s.changes.length x) (hx:x∈newPieces s p signs):dO (s.changes.length+1) x∧∀t∈x.tags,∃y∈s.row,t∈y.tags:=by
 unfold newPieces at hx
 obtain⟨c,_,rfl⟩:=aR.mp hx
 have ct:=Ow (p:=p) (row:=s.row) fun x hx=>(h x hx).tags
 refine⟨⟨rfl,?_,fun d hd=>?_,by simp,by simp,ct.1⟩,ct.2⟩
 ·show(if s.tracking=true then[next s]else[]).Pairwise (· < ·)
  split <;> simp
 ·have hd:d∈(if s.tracking=true then[next s]else[]):=hd
  split at hd
  ·simp[next]at hd;omega
  ·simp at hd
def finish_ok {s:aC} {k:Nat} {row:List Piece} (h:∀x∈row,dO (s.changes.length+1) x):∀x∈(finish s k row).1.row,dO (finish s k row).1.changes.length x:=by
 unfold finish
 split
 ·intro x hx
  show dO (s.changes++[_]).length x
  rw[ae]
  exact h x hx
 ·rename_i hn
  intro x hx
  have o:=h x hx
  have nb:bears (next s) x=false:=by
   cases q:bears (next s) x with
   | false=>rfl
   | true=>exact absurd (cA.mpr ⟨x,hx,q⟩) hn
  unfold bears at nb
  simp only[EC]at nb
  refine⟨o.pend,o.inc,fun c hc=>⟨(o.ins c hc).1,?_⟩,fun c hc=>⟨(o.del c hc).1,?_⟩,o.one,o.tags⟩
  ·have:=(o.ins c hc).2
   have ne:c≠next s:=fun e=>by rw[e]at hc;rw[iQ.mpr hc]at nb;cases nb.1
   show c≤s.changes.length
   unfold next at ne;omega
  ·have:=(o.del c hc).2
   have ne:c≠next s:=fun e=>by rw[e]at hc;rw[iQ.mpr hc]at nb;cases nb.2.1
   show c≤s.changes.length
   unfold next at ne;omega
def mn (s:aC) (k:Nat) (row:List Piece):(finish s k row).1.row=row:=by unfold finish;split <;> rfl
def FY (s:aC) (k:Nat) (row:List Piece):(finish s k row).1.changes.length≤s.changes.length+1:=by unfold finish;split <;> simp
structure Sz (N j n:Nat) (s:GS):Prop where
 Ox:IZ N s.doc.row
 len:s.doc.row.length≤j
 chg:s.doc.changes.length≤n
 nc:s.nextComment≤n+1
 nm:s.nextMark≤n+1
 rep:∀c∈s.comments,c.replies.length≤n
def Sz.mono {N N' j j' n n':Nat} {s:GS} (h:Sz N j n s) (h1:N≤N') (h2:j≤j') (h3:n≤n'):Sz N' j' n' s:=
 ⟨h.Ox.mono h1,bg h.len h2,bg h.chg h3,bg h.nc (by omega),bg h.nm (by omega),fun c hc=>bg (h.rep c hc) h3⟩
def mq {N j n:Nat} {s:GS} (h:Sz N j n s):Sz N j n (cleaned s):=⟨h.Ox,h.len,h.chg,h.nc,h.nm,h.rep⟩
def Dj {N j n N' j':Nat} {s:GS} {d:aC} (h:Sz N j n s) (Ox:IZ N' d.row) (len:d.row.length≤j') (chg:d.changes.length≤n+1):Sz N' j' (n+1) {s with doc:=d}:=
 ⟨Ox,len,chg,bh h.nc,bh h.nm,fun c hc=>bh (h.rep c hc)⟩
def putN:bw→Nat
 | .put _ l=>l.length
 | _=>0
def Ag {z:Int} {n:Nat}:below z n=true↔0≤z∧z < n:=by unfold below;simp
def lJ {p q:Int} {n:Nat}:isStretch p q n=true↔0≤p∧p < q∧q≤n:=by unfold isStretch;simp
def iC {z:Int} {a b:Nat}:within z a b=true↔(a:Int)≤z∧z≤b:=by unfold within;simp
def Xi {s:aC} {p:Nat} (hp:p < count s) (signs:List Nat):∃a x b,mj s.row p a x b∧(doPut s p signs).1.row=a++(newPieces s p signs++x::b):=by
 obtain⟨a,x,b,h⟩:=IW (row:=s.row) (p:=p) hp
 refine⟨a,x,b,h,?_⟩
 unfold doPut
 rw[mn,h.putBefore]
def ac8 {s:GS} (h:WF s) {p:Nat} (hp:p < count s.doc) (signs:List Nat):WF {s with doc:=(doPut s.doc p signs).1}:=by
 obtain⟨a,x,b,hb,e⟩:=Xi hp signs
 have mem:∀y∈a++(newPieces s.doc p signs++x::b),y∈s.doc.row∨y∈newPieces s.doc p signs:=fun y hy=>by
  rw[hb.dj]
  rcases aX.mp hy with hy | hy
  ·exact .inl (aS _ hy)
  ·rcases aX.mp hy with hy | hy
   ·exact .inr hy
   ·exact .inl (aF _ hy)
 refine AY h ?_ ?_
 ·unfold doPut
  refine finish_ok fun y hy=>?_
  rw[hb.putBefore]at hy
  rcases mem y hy with hy | hy
  ·exact(h.wz y hy).mono (fE _)
  ·exact(AZ h.wz hy).1
 ·rw[e]
  intro y hy t ht
  rcases mem y hy with hy | hy
  ·exact⟨y,hy,ht⟩
  ·exact(AZ h.wz hy).2 t ht
def ac9 {N j n:Nat} {s:GS} (h:Sz N j n s) {p:Nat} (hp:p < count s.doc) (signs:List Nat):Sz (N+signs.length) (j+N+signs.length) (n+1) {s with doc:=(doPut s.doc p signs).1}:=by
 obtain⟨a,x,b,hb,e⟩:=Xi hp signs
 have ln:(newPieces s.doc p signs).length=signs.length:=by unfold newPieces;rw[ab]
 refine Dj h ?_ ?_ ?_
 ·rw[e,← ln]
  refine abt ?_
  rw[← hb.dj];exact h.Ox
 ·rw[e]
  have:=h.len
  rw[hb.dj]at this
  simp only[ae,ln]at this⊢
  omega
 ·have:=FY s.doc 1 (putBefore (newPieces s.doc p signs) p s.doc.row)
  have:=h.chg
  unfold doPut;omega
def Xj {s:aC} {p q:Nat} (hpq:p < q) (hq:q≤count s):∃a m b,Around s.row p q a m b∧(doCut s p q).1.row=a++(m.flatMap (dc (cutPiece s))++b):=by
 have h:=Ad hpq hq
 refine⟨_,_,_,h,?_⟩
 unfold doCut
 rw[mn,h.onStretch]
def ada {s:GS} (h:WF s) {p q:Nat} (hpq:p < q) (hq:q≤count s.doc):WF {s with doc:=(doCut s.doc p q).1}:=by
 obtain⟨a,m,b,ar,e⟩:=Xj hpq hq
 have key:∀y∈a++(m.flatMap (dc (cutPiece s.doc))++b),∃x∈s.doc.row,dO (s.doc.changes.length+1) y∧y.tags=x.tags:=fun y hy=>by
  rw[ar.dj]
  have mem:∀z∈a++(m++b),dO s.doc.changes.length z:=by rw[← ar.dj];exact h.wz
  rcases aX.mp hy with hy | hy
  ·exact⟨y,aS _ hy,(mem y (aS _ hy)).mono (fE _),rfl⟩
  ·rcases aX.mp hy with hy | hy
   ·obtain⟨x,hx,hy⟩:=fJ.mp hy
    have hx':x∈a++(m++b):=aF _ (aS _ hx)
    exact⟨x,hx',Di (mem x hx') hy⟩
   ·have hy':y∈a++(m++b):=aF _ (aF _ hy)
    exact⟨y,hy',(mem y hy').mono (fE _),rfl⟩
 refine AY h ?_ ?_
 ·unfold doCut
  refine finish_ok fun y hy=>?_
  rw[ar.onStretch]at hy
  obtain⟨_,_,o,_⟩:=key y hy
  exact o
 ·rw[e]
  intro y hy t ht
  obtain⟨x,hx,_,et⟩:=key y hy
  exact⟨x,hx,et▸ht⟩
def adb {l:List Piece} (h:l.length≤1):l.Pairwise zc:=by
 match l,h with
 | [],_=>exact .nil
 | [_],_=>simp
 | _::_::_,h=>simp at h
def ade {N j n:Nat} {s:GS} (h:Sz N j n s) {p q:Nat} (hpq:p < q) (hq:q≤count s.doc):Sz N (j+N) (n+1) {s with doc:=(doCut s.doc p q).1}:=by
 obtain⟨a,m,b,ar,e⟩:=Xj hpq hq
 refine Dj h ?_ ?_ ?_
 ·rw[e]
  refine Q9 ?_ (fun x _=>adb (EM ..)) fun x _ x' hx=>P7 hx
  rw[← ar.dj];exact h.Ox
 ·rw[e]
  have:=h.len
  rw[ar.dj]at this
  have:=jj (l:=m) (g:=dc (cutPiece s.doc)) fun x _=>EM ..
  simp only[ae]at *
  omega
 ·have:=FY s.doc 2 (onStretch (cutPiece s.doc) p q s.doc.row)
  have:=h.chg
  unfold doCut;omega
def aaa {s:aC} {p q r:Nat} (hpq:p < q) (hq:q≤count s) (hr:r < count s) (hn:¬(p≤r∧r≤q)):∃a m b,Around s.row p q a m b∧
    ((r < p∧∃ra x rb,mj a r ra x rb∧(doMove s p q r).1.row=ra++(m.flatMap (overOf s)++x::rb)++(m.flatMap (dc (cutPiece s))++b))∨
     (q < r∧∃ba y bb,mj b (r - q) ba y bb∧(doMove s p q r).1.row=a++(m.flatMap (dc (cutPiece s))++(ba++(m.flatMap (overOf s)++y::bb))))):=by
  have h:=Ad hpq hq
  refine⟨_,_,_,h,?_⟩
  generalize s.row.take (rowPlace p s.row)=a at h⊢
  generalize (s.row.take (rowPlace (q - 1) s.row+1)).drop (rowPlace p s.row)=m at h⊢
  generalize s.row.drop (rowPlace (q - 1) s.row+1)=b at h⊢
  rcases nA r p with c | c
  · refine .inl ⟨c,?_⟩
    obtain⟨ra,x,rb,hb⟩:=IW (row:=a) (p:=r) (by rw[h.Dc];exact c)
    refine⟨ra,x,rb,hb,?_⟩
    unfold doMove
    rw[mn,L8 h hb c]
  · have c2:q < r:=by omega
    refine .inr ⟨c2,?_⟩
    have cb:(visible b).length=count s - q:=by
      have e:bJ s=(visible (a++(m++b))).length:=by unfold bJ;rw[← h.dj]
      rw[bU,bU,ae,ae,h.Dc,h.Ke]at e
      omega
    obtain⟨ba,y,bb,hb⟩:=IW (row:=b) (p:=r - q) (by rw[cb];omega)
    refine⟨ba,y,bb,hb,?_⟩
    unfold doMove
    rw[mn,P8 h hb (by omega)]
def Qa {s:aC} {p q r:Nat} (hpq:p < q) (hq:q≤count s) (hr:r < count s) (hn:¬(p≤r∧r≤q)):∃a m b,Around s.row p q a m b∧
  (a++((m.flatMap (dc (cutPiece s))++m.flatMap (overOf s))++b)).Perm (doMove s p q r).1.row:=by
 obtain⟨a,m,b,ar,⟨_,ra,x,rb,hb,e⟩ | ⟨_,ba,y,bb,hb,e⟩⟩:=aaa hpq hq hr hn
 ·refine⟨a,m,b,ar,?_⟩
  rw[e,hb.dj]
  generalize m.flatMap (overOf s)=o
  generalize m.flatMap (dc (cutPiece s))=l
  generalize x::rb=X
  have e1:ra++X++(l++o++b)=ra++((X++(l++o))++b):=by simp
  have e2:ra++(o++X)++(l++b)=ra++(((o++X)++l)++b):=by simp
  rw[e1,e2]
  refine jv _ (lh _ ?_)
  refine l0.trans ?_
  rw[bM]
  exact l0
 ·refine⟨a,m,b,ar,?_⟩
  rw[e,hb.dj]
  refine jv _ ?_
  rw[bM]
  refine jv _ ?_
  rw[← bM,← bM]
  exact lh _ l0
def V3 (s:aC) (p q r:Nat):(doMove s p q r).1.changes.length≤s.changes.length+1:=by unfold doMove;exact FY ..
def abu {s:GS} (h:WF s) {p q r:Nat} (hpq:p < q) (hq:q≤count s.doc) (hr:r < count s.doc) (hn:¬(p≤r∧r≤q)):WF {s with doc:=(doMove s.doc p q r).1}:=by
 obtain⟨a,m,b,ar,pm⟩:=Qa hpq hq hr hn
 have key:∀y∈(doMove s.doc p q r).1.row,∃x∈s.doc.row,dO (s.doc.changes.length+1) y∧y.tags=x.tags:=fun y hy=>by
  have hy:=pm.mem_iff.mpr hy
  rw[ar.dj]
  have mem:∀z∈a++(m++b),dO s.doc.changes.length z:=by rw[← ar.dj];exact h.wz
  rcases aX.mp hy with hy | hy
  ·exact⟨y,aS _ hy,(mem y (aS _ hy)).mono (fE _),rfl⟩
  ·rcases aX.mp hy with hy | hy
   ·rcases aX.mp hy with hy | hy
    ·obtain⟨x,hx,hy⟩:=fJ.mp hy
     have hx':x∈a++(m++b):=aF _ (aS _ hx)
     exact⟨x,hx',Di (mem x hx') hy⟩
    ·obtain⟨x,hx,hy⟩:=fJ.mp hy
     have hx':x∈a++(m++b):=aF _ (aS _ hx)
     exact⟨x,hx',P9 (mem x hx') hy⟩
   ·have hy':y∈a++(m++b):=aF _ (aF _ hy)
    exact⟨y,hy',(mem y hy').mono (fE _),rfl⟩
 refine AY h ?_ fun y hy t ht=>?_
 ·unfold doMove at key⊢
  rw[mn]at key
  refine finish_ok fun y hy=>?_
  obtain⟨_,_,o,_⟩:=key y hy
  exact o
 ·obtain⟨x,hx,_,et⟩:=key y hy
  exact⟨x,hx,et▸ht⟩
def abv {N j n:Nat} {s:GS} (h:Sz N j n s) {p q r:Nat} (hpq:p < q) (hq:q≤count s.doc) (hr:r < count s.doc) (hn:¬(p≤r∧r≤q)):Sz N (j+N) (n+1) {s with doc:=(doMove s.doc p q r).1}:=by
 obtain⟨a,m,b,ar,pm⟩:=Qa hpq hq hr hn
 refine Dj h ?_ ?_ ?_
 ·refine(Z8 ?_).perm pm
  rw[← ar.dj];exact h.Ox
 ·rw[← pm.length_eq]
  have h1:=h.len
  have h2:=jj (l:=m) (g:=dc (cutPiece s.doc)) fun x _=>EM ..
  have h3:=TJ s.doc m
  have h4:=TB h.Ox
  rw[ar.dj]at h1 h4
  rw[bU,bU]at h4
  simp only[ae]at *
  omega
 ·have:=V3 s.doc p q r
  have:=h.chg
  omega
def Mc {s:GS} {t p q:Nat} (hpq:p < q) (hq:q≤count s.doc):∃a m b,Around s.doc.row p q a m b∧laid s t p q={s with doc:={s.doc with row:=a++(m.map (retag t true)++b)}}:=by
 have h:=Ad hpq hq
 refine⟨_,_,_,h,?_⟩
 unfold laid
 rw[h.doTag s.doc rfl]
def Md {s:GS} {t p q:Nat} (hpq:p < q) (hq:q≤count s.doc) {x:Piece} (hx:x∈(laid s t p q).doc.row):∃y∈s.doc.row,x=y∨x=retag t true y:=by
 obtain⟨a,m,b,ar,e⟩:=Mc (t:=t) hpq hq
 rw[e]at hx
 have hx:x∈a++(m.map (retag t true)++b):=hx
 rw[ar.dj]
 rcases aX.mp hx with hx | hx
 ·exact⟨x,aS _ hx,.inl rfl⟩
 ·rcases aX.mp hx with hx | hx
  ·obtain⟨y,hy,rfl⟩:=aR.mp hx
   exact⟨y,aF _ (aS _ hy),.inr rfl⟩
  ·exact⟨x,aF _ (aF _ hx),.inl rfl⟩
def Lz {s:GS} (h:WF s) {t p q:Nat} (hpq:p < q) (hq:q≤count s.doc) (hc:∀c,2*c=t→∃k∈s.comments,k.num=c) (hm:∀m,2*m+1=t→∃b∈s.marks,b.id=m):WF (laid s t p q):=by
 have e:laid s t p q={s with doc:=(laid s t p q).doc}:=rfl
 have ch:(laid s t p q).doc.changes=s.doc.changes:=by
  obtain⟨a,m,b,ar,e⟩:=Mc (t:=t) hpq hq
  rw[e]
 refine {wz:=fun x hx=>?_,o3:=h.o3,g8:=h.g8,Af:=fun x hx c ht=>?_,vh:=h.vh,ya:=h.ya,AX:=fun x hx m ht=>?_,wA:=h.wA,quote:=h.quote,text:=h.text,pV:=h.pV,names:=h.names}
 ·rw[ch]
  obtain⟨y,hy,rfl | rfl⟩:=Md hpq hq hx
  ·exact h.wz _ hy
  ·exact L9 (h.wz y hy)
 ·obtain⟨y,hy,rfl | rfl⟩:=Md hpq hq hx
  ·exact h.Af _ hy c ht
  ·rcases kZ.mp ht with e | ht
   ·exact hc c e
   ·exact h.Af y hy c ht
 ·obtain⟨y,hy,rfl | rfl⟩:=Md hpq hq hx
  ·exact h.AX _ hy m ht
  ·rcases kZ.mp ht with e | ht
   ·exact hm m e
   ·exact h.AX y hy m ht
def I0 {s:GS} (h:WF s) (t:Nat):WF (lifted s t):=by
 refine AY (d:={s.doc with row:=(row s).map (Vatrka.retag t false)}) h (fun x hx=>?_) fun x hx u hu=>?_
 ·obtain⟨y,hy,rfl⟩:=aR.mp hx
  exact L9 (h.wz y hy)
 ·obtain⟨y,hy,rfl⟩:=aR.mp hx
  exact⟨y,hy,(iZ.mp hu).1⟩
def V4 (t:Nat) (on:Bool) (x y:Piece) (h:zc x y):zc (retag t on x) (retag t on y):=(Df t on x).abr (Df t on y) h
def Hf {N:Nat} {s:GS} (h:IZ N s.doc.row) {t p q:Nat} (hpq:p < q) (hq:q≤count s.doc):IZ N (laid s t p q).doc.row∧(laid s t p q).doc.row.length=s.doc.row.length:=by
 obtain⟨a,m,b,ar,e⟩:=Mc (t:=t) hpq hq
 rw[e]
 show IZ N (a++(m.map (retag t true)++b))∧(a++(m.map (retag t true)++b)).length=_
 rw[ar.dj]at h⊢
 constructor
 ·rw[← De (retag t true) m]
  exact Q9 h (fun _ _=>by simp) fun x _ x' hx=>by simp at hx;subst hx;exact Df ..
 ·simp
def FZ {N:Nat} {s:GS} (h:IZ N s.doc.row) (t:Nat):IZ N (lifted s t).doc.row∧(lifted s t).doc.row.length=s.doc.row.length:=
 ⟨abq h fun x y=>V4 t false x y,ab ..⟩
def Rb (s:GS) (t:Nat):count (lifted s t).doc=count s.doc:=by
 show(visible ((row s).map (retag t false))).length=(visible s.doc.row).length
 unfold visible
 rw[jJ,ab]
 rfl
def Oy {s:GS} {c:Int} {x:aw} (h:commentAt s c=some x):x∈s.comments∧(x.num:Int)=c:=by
 unfold commentAt at h
 exact⟨yg h,by simpa using List.find?_some h⟩
def F0 {s:GS} (h:WF s) (c:Nat) {f:aw→aw} (hn:∀x∈s.comments,(f x).num=x.num) (hq:∀x∈s.comments,x.num=c→(f x).quote≠[]∧(f x).quote.length≤40) (ht:∀x∈s.comments,(f x).text=x.text) (hr:∀x∈s.comments,x.num=c→∀r∈(f x).replies,r.text.length≤200):WF (changed s c f):=by
 have num:∀x∈s.comments,(if x.num=c then f x else x).num=x.num:=fun x hx=>by split;exact hn x hx;rfl
 refine {wz:=h.wz,o3:=?_,g8:=fun k hk=>?_,Af:=fun x hx d hd=>?_,vh:=h.vh,ya:=h.ya,AX:=h.AX,wA:=h.wA,quote:=fun k hk=>?_,text:=fun k hk=>?_,pV:=fun k hk=>?_,names:=h.names}
 ·show(s.comments.map fun x=>if x.num=c then f x else x).Pairwise _
  rw[b7]
  refine dD ?_ h.o3
  intro a b ha hb lt
  rw[num a ha,num b hb];exact lt
 ·obtain⟨x,hx,rfl⟩:=aR.mp hk
  rw[num x hx];exact h.g8 x hx
 ·obtain⟨k,hk,e⟩:=h.Af x hx d hd
  exact⟨_,fS hk,by rw[num k hk];exact e⟩
 ·obtain⟨x,hx,rfl⟩:=aR.mp hk
  split
  ·rename_i e;exact hq x hx e
  ·exact h.quote x hx
 ·obtain⟨x,hx,rfl⟩:=aR.mp hk
  split
  ·rw[ht x hx];exact h.text x hx
  ·exact h.text x hx
 ·obtain⟨x,hx,rfl⟩:=aR.mp hk
  split
  ·rename_i e;exact hr x hx e
  ·exact h.pV x hx
def TK {s:GS} {p q:Nat} (hpq:p < q) (hq:q≤count s.doc):quoteOf s p q≠[]∧(quoteOf s p q).length≤40:=by
 have ar:=Ad hpq hq
 unfold quoteOf
 constructor
 ·intro e
  have e:=congrArg c8 e
  unfold signsOf row at e
  rw[ar.stretch]at e
  rw[cc,ab,ar.Ke]at e
  unfold QUOTE at e
  simp at e
  omega
 ·rw[cc];exact Nat.min_le_left ..
def TM {t:List Int} (h:isNoteText t=true):t≠[]∧t.length≤200:=by
 unfold isNoteText at h
 simp at h
 exact⟨fun e=>h.1 (by rw[e]),h.2.1⟩
def aab {t:List Int} (h:isName t=true):t.length≤20:=by
 unfold isName at h
 simp at h
 exact h.2.1
def Oz {s:GS} (h:WF s) {p q:Int} {t:List Int} (hp:isPlaces s p q=true) (ht:isNoteText t=true) (pos:1≤s.nextComment):WF {s with comments:=s.comments++[ji s p q t],nextComment:=s.nextComment+1}:=by
 obtain⟨h0,h1,h2⟩:=lJ.mp hp
 have hq:q.toNat≤count s.doc:=by have:count s.doc=Vatrkg.count s:=rfl;omega
 have qo:=TK (s:=s) (p:=p.toNat) (q:=q.toNat) (by omega) hq
 refine {wz:=h.wz,o3:=?_,g8:=fun k hk=>?_,Af:=fun x hx d hd=>?_,vh:=h.vh,ya:=h.ya,AX:=h.AX,wA:=h.wA,quote:=fun k hk=>?_,text:=fun k hk=>?_,pV:=fun k hk=>?_,names:=h.names}
 ·show(s.comments++[ji s p q t]).Pairwise _
  rw[cC]
  refine⟨h.o3,by simp,fun a ha b hb=>?_⟩
  simp at hb;subst hb
  exact(h.g8 a ha).2
 ·rcases aX.mp hk with hk | hk
  ·exact⟨(h.g8 k hk).1,jQ (h.g8 k hk).2⟩
  ·simp at hk;subst hk;exact⟨pos,kM _⟩
 ·obtain⟨k,hk,e⟩:=h.Af x hx d hd
  exact⟨k,aS _ hk,e⟩
 ·rcases aX.mp hk with hk | hk
  ·exact h.quote k hk
  ·simp at hk;subst hk;exact qo
 ·rcases aX.mp hk with hk | hk
  ·exact h.text k hk
  ·simp at hk;subst hk
   show(textOf t).length≤200
   unfold textOf;rw[ab];exact(TM ht).2
 ·rcases aX.mp hk with hk | hk
  ·exact h.pV k hk
  ·simp at hk;subst hk
   intro r hr
   simp[ji]at hr
def V5 {s:GS} (h:WF s) (n:Nat):WF {lifted s (tagOf n)with comments:=s.comments.filter fun y=>y.num !=n}:=by
  have w:=I0 h (tagOf n)
  refine {wz:=w.wz,o3:=h.o3.filter _,g8:=fun k hk=>h.g8 k (aA.mp hk).1,Af:=fun x hx d hd=>?_,vh:=h.vh,ya:=h.ya,AX:=w.AX,wA:=h.wA,quote:=fun k hk=>h.quote k (aA.mp hk).1,
           text:=fun k hk=>h.text k (aA.mp hk).1,pV:=fun k hk=>h.pV k (aA.mp hk).1,names:=h.names}
  obtain⟨y,hy,rfl⟩:=aR.mp hx
  obtain⟨h1,h2⟩:=iZ.mp hd
  obtain⟨k,hk,e⟩:=h.Af y hy d h1
  refine⟨k,aA.mpr ⟨hk,?_⟩,e⟩
  have:k.num≠n:=fun z=>h2 (by unfold tagOf;rw[← z,e])
  simpa using this
def V6 {s:GS} (h:WF s) {n:List Int} (hn:isName n=true) (hf:(markNamed s (textOf n)).isNone=true) (pos:1≤s.nextMark):WF {s with marks:=s.marks++[⟨s.nextMark,textOf n⟩],nextMark:=s.nextMark+1}:=by
 have nf:∀b∈s.marks,b.name≠textOf n:=fun b hb e=>by
  unfold markNamed at hf
  simp at hf
  exact hf b hb e
 refine {wz:=h.wz,o3:=h.o3,g8:=h.g8,Af:=h.Af,vh:=?_,ya:=fun b hb=>?_,AX:=fun x hx m hm=>?_,wA:=?_,quote:=h.quote,text:=h.text,pV:=h.pV,names:=fun b hb=>?_}
 ·show(s.marks++[_]).Pairwise _
  rw[cC]
  refine⟨h.vh,by simp,fun a ha b hb=>?_⟩
  simp at hb;subst hb
  exact(h.ya a ha).2
 ·rcases aX.mp hb with hb | hb
  ·exact⟨(h.ya b hb).1,jQ (h.ya b hb).2⟩
  ·simp at hb;subst hb;exact⟨pos,kM _⟩
 ·obtain⟨b,hb,e⟩:=h.AX x hx m hm
  exact⟨b,aS _ hb,e⟩
 ·show(s.marks++[_]).Pairwise _
  rw[cC]
  refine⟨h.wA,by simp,fun a ha b hb=>?_⟩
  simp at hb;subst hb
  exact nf a ha
 ·rcases aX.mp hb with hb | hb
  ·exact h.names b hb
  ·simp at hb;subst hb
   show(textOf n).length≤20
   unfold textOf;rw[ab];exact aab hn
theorem Me:∀{a b:List Nat},a.isPrefixOf b=true→a.length≤b.length
 | [],_,_=>bZ _
 | _::_,[],h=>by simp[Lo]at h
 | x::a,y::b,h=>by
  simp[Lo]at h
  have:=Me (a:=a) (b:=b) (by simpa using h.2)
  simpa using this
theorem A0 {q:Text}:∀{l:Text} {k p:Nat},foundFrom q k l=some p→k≤p∧p - k+q.length≤l.length
 | [],k,p,h=>by simp[foundFrom]at h
 | c::r,k,p,h=>by
  unfold foundFrom at h
  split at h
  ·rename_i hp
   cases h
   have:=Me hp
   exact⟨aJ _,by omega⟩
  ·obtain⟨h1,h2⟩:=A0 h
   refine⟨by omega,?_⟩
   simp only[aN];omega
def Mf {b:Bool} (h:¬b=false):b=true:=by cases b <;> simp_all
structure Good (s:GS):Prop extends WFC s where
 abw:1≤s.nextComment
 abx:1≤s.nextMark
def V7:Good dP:=by
  have r:dP.doc.row=[{sign:=10,look:=[0,0,0,0]}]:=rfl
  refine {wz:=fun x hx=>?_,o3:=.nil,g8:=fun c hc=>(by cases hc),Af:=fun x hx c hc=>?_,vh:=.nil,ya:=fun c hc=>(by cases hc),AX:=fun x hx c hc=>?_,wA:=.nil,quote:=fun c hc=>(by cases hc),text:=fun c hc=>(by cases hc),
           pV:=fun c hc=>(by cases hc),names:=fun c hc=>(by cases hc),ac7:=fun c hc=>(by cases hc),abw:=aJ _,abx:=aJ _}
  all_goals rw[r]at hx;simp at hx;subst hx
  · exact⟨rfl,.nil,fun c hc=>(by cases hc),fun c hc=>(by cases hc),bZ _,.nil⟩
  · simp at hc
  · simp at hc
def aac:Sz 1 1 0 dP:=by
 refine⟨⟨[(0,{sign:=10,look:=[0,0,0,0]})],rfl,⟨fun z hz=>?_,by simp⟩⟩,aJ _,aJ _,aJ _,aJ _,fun c hc=>(by cases hc)⟩
 simp at hz;subst hz;decide
def yl {s t:GS} (w:WF t) (c:s.nextComment≤t.nextComment) (m:s.nextMark≤t.nextMark) (g:Good s):Good (cleaned t):=
 {toWFC:=V2 w,abw:=bg g.abw c,abx:=bg g.abx m}
def Kept (s:GS) (k:Nat) (t:GS):Prop:=Good t∧∀N j n,Sz N j n s→Sz (N+k) (j+N+k) (n+1) t
def cU {s:GS} {k:Nat} (g:Good s):Kept s k s:=⟨g,fun _ _ _ z=>z.mono (by omega) (by omega) (by omega)⟩
def jT {s:GS} {k:Nat} (g:Good s):Kept s k (cleaned s):=by rw[He g.toWFC];exact cU g
def tO {s:GS} {d:aC} {k:Nat} (g:Good s) (w:WF {s with doc:=d}) (z:∀N j n,Sz N j n s→Sz (N+k) (j+N+k) (n+1) {s with doc:=d}):Kept s k (cleaned {s with doc:=d}):=
 ⟨yl (s:=s) w (aJ _) (aJ _) g,fun N j n h=>mq (z N j n h)⟩
def mr {s:GS} {c:Int} {k:Nat} {f:aw→GS×j6} (g:Good s) (h:∀x,x∈s.comments→(x.num:Int)=c→Kept s k (f x).1):Kept s k (Cw s c f).1:=by
 unfold Cw
 cases e:commentAt s c with
 | none=>exact cU g
 | some x=>
  obtain⟨h1,h2⟩:=Oy e
  exact h x h1 h2
def Mg {s:GS} {n:List Int} {k:Nat} {f:bT→GS×j6} (g:Good s) (h:∀x,x∈s.marks→Kept s k (f x).1):Kept s k (P6 s n f).1:=by
 unfold P6
 cases e:s.marks.find? (fun b=>«ints» b.name==n)with
 | none=>exact cU g
 | some x=>exact h x (yg e)
def d9 {s:GS} {k:Nat} {b:Prop} [Decidable b] {x y:GS×j6} (h1:b→Kept s k x.1) (h2:¬b→Kept s k y.1):Kept s k (if b then x else y).1:=by
 split
 ·exact h1 (by assumption)
 ·exact h2 (by assumption)
def Hg {s:GS} {k c:Nat} {f:aw→aw} (g:Good s) (w:WF (changed s c f)) (hr:∀x∈s.comments,(f x).replies.length≤x.replies.length+1):Kept s k (cleaned (changed s c f)):=by
 refine⟨yl (s:=s) w (aJ _) (aJ _) g,fun N j n z=>mq ⟨z.Ox.mono (by omega),bg z.len (by omega),bh z.chg,bh z.nc,bh z.nm,fun x hx=>?_⟩⟩
 obtain⟨y,hy,rfl⟩:=aR.mp hx
 have:=z.rep y hy
 split
 ·have:=hr y hy;omega
 ·omega
def places {s:GS} {p q:Int} (h:isPlaces s p q=true):p.toNat < q.toNat∧q.toNat≤bJ s.doc∧0≤p∧p < q∧q≤(bJ s.doc:Int):=by
 obtain⟨h0,h1,h2⟩:=lJ.mp h
 have h2:q≤(bJ s.doc:Int):=h2
 exact⟨by omega,by omega,h0,h1,h2⟩
def YA {s:GS} (g:Good s) (c:bw):Kept s (putN c) (bY s c).1:=by
 have w:WF s:=g.toWF
 cases c with
 | author a=>
  rw[Ts]
  exact d9 (fun _=>tO g (AY w g.wz fun x hx t ht=>⟨x,hx,ht⟩) fun N j n z=>Dj z (z.Ox.mono (by omega)) (bg z.len (by omega)) (bh z.chg)) fun _=>cU g
 | clock t=>
  rw[VT]
  exact d9 (fun _=>cU g) fun _=>d9 (fun _=>cU g) fun _=>tO g (AY w g.wz fun x hx t ht=>⟨x,hx,ht⟩) fun N j n z=>Dj z (z.Ox.mono (by omega)) (bg z.len (by omega)) (bh z.chg)
 | track on=>
  rw[VU]
  exact d9 (fun _=>tO g (AY w g.wz fun x hx t ht=>⟨x,hx,ht⟩) fun N j n z=>Dj z (z.Ox.mono (by omega)) (bg z.len (by omega)) (bh z.chg)) fun _=>cU g
 | put p l=>
  rw[Z6]
  refine d9 (fun _=>cU g) fun h=>d9 (fun _=>cU g) fun _=>?_
  have h:=Ag.mp (Mf h)
  have hp:p.toNat < bJ s.doc:=by omega
  refine tO g (ac8 w hp _) fun N j n z=>?_
  have:=ac9 z hp (l.map fun z=>z.toNat)
  rw[ab]at this
  exact this
 | cut p q=>
  rw[Z7]
  refine d9 (fun _=>cU g) fun h=>?_
  obtain⟨h0,h1,h2⟩:=lJ.mp (Mf h)
  exact tO g (ada w (p:=p.toNat) (q:=q.toNat) (by omega) (by omega)) fun N j n z=>ade z (p:=p.toNat) (q:=q.toNat) (by omega) (by omega)
 | move p q r=>
  rw[Yu]
  refine d9 (fun _=>cU g) fun h=>d9 (fun _=>cU g) fun hn=>?_
  have h:=Mf h
  rw[dh]at h
  obtain⟨h0,h1,h2⟩:=lJ.mp h.1
  obtain⟨h3,h4⟩:=Ag.mp h.2
  exact tO g (abu w (p:=p.toNat) (q:=q.toNat) (r:=r.toNat) (by omega) (by omega) (by omega) (by omega)) fun N j n z=>abv z (p:=p.toNat) (q:=q.toNat) (r:=r.toNat) (by omega) (by omega) (by omega) (by omega)
 | accept c=>
  rw[Tt]
  refine d9 (fun _=>?_) fun _=>cU g
  have v:=Mb (b:=true) (c:=c) g.wz
  refine tO (d:={s.doc with row:=b6 true c (row s)}) g (AY w v.1 v.2) fun N j n z=>?_
  have l:=Kh (fun x hx=>(g.wz x hx).pend) true c z.Ox
  exact Dj z (l.1.mono (by omega)) (bg l.2 (bg z.len (by omega))) (bh z.chg)
 | reject c=>
  rw[Tu]
  refine d9 (fun _=>?_) fun _=>cU g
  have v:=Mb (b:=false) (c:=c) g.wz
  refine tO (d:={s.doc with row:=b6 false c (row s)}) g (AY w v.1 v.2) fun N j n z=>?_
  have l:=Kh (fun x hx=>(g.wz x hx).pend) false c z.Ox
  exact Dj z (l.1.mono (by omega)) (bg l.2 (bg z.len (by omega))) (bh z.chg)
 | comment p q t=>
  rw[Q1]
  refine d9 (fun hp=>d9 (fun ht=>?_) fun _=>cU g) fun _=>cU g
  obtain⟨h1,h2,_⟩:=places hp
  have w1:=Oz w hp ht g.abw
  refine⟨yl (s:=s) (Lz w1 h1 h2 (fun c e=>?_) fun m e=>?_) (fE _) (aJ _) g,fun N j n z=>mq ?_⟩
  ·exact⟨ji s p q t,aF _ (by simp),by unfold tagOf at e;show s.nextComment=c;omega⟩
  ·exfalso;unfold tagOf at e;omega
  ·have l:=Hf (s:={s with comments:=s.comments++[ji s p q t],nextComment:=s.nextComment+1}) (t:=tagOf s.nextComment) z.Ox h1 h2
   refine⟨l.1.mono (by omega),?_,bh z.chg,J3 z.nc,bh z.nm,fun c hc=>?_⟩
   ·rw[l.2];exact bg z.len (by omega)
   ·have hc:c∈s.comments++[ji s p q t]:=hc
    rcases aX.mp hc with hc | hc
    ·exact bh (z.rep c hc)
    ·simp at hc;subst hc;exact bZ _
 | reply c t=>
  rw[VV]
  refine mr g fun x hx _=>d9 (fun ht=>d9 (fun _=>?_) fun _=>cU g) fun _=>cU g
  refine Hg g (F0 w _ (fun _ _=>rfl) (fun y hy _=>g.quote y hy) (fun _ _=>rfl) fun y hy _ r hr=>?_) fun y hy=>by simp
  rcases aX.mp hr with hr | hr
  ·exact g.pV y hy r hr
  ·simp at hr;subst hr
   show(textOf t).length≤200
   unfold textOf;rw[ab];exact(TM ht).2
 | solve c on=>
  rw[VW]
  refine mr g fun x hx _=>d9 (fun _=>d9 (fun _=>?_) fun _=>cU g) fun _=>cU g
  exact Hg g (F0 w _ (fun _ _=>rfl) (fun y hy _=>g.quote y hy) (fun _ _=>rfl) fun y hy _=>g.pV y hy) fun y hy=>by simp
 | drop c=>
  rw[step_drop]
  refine mr g fun x hx _=>d9 (fun _=>?_) fun _=>cU g
  refine⟨yl (s:=s) (V5 w _) (aJ _) (aJ _) g,fun N j n z=>mq ?_⟩
  have l:=FZ (s:=s) z.Ox (tagOf x.num)
  exact⟨l.1.mono (by omega),by show(lifted s (tagOf x.num)).doc.row.length≤_;rw[l.2];exact bg z.len (by omega),bh z.chg,bh z.nc,bh z.nm,fun k hk=>bh (z.rep k (aA.mp hk).1)⟩
 | reanchor c p q=>
  rw[Ot]
  refine mr g fun x hx _=>d9 (fun _=>d9 (fun hp=>?_) fun _=>cU g) fun _=>cU g
  obtain⟨h1,h2,_⟩:=places hp
  have h2':q.toNat≤bJ (lifted s (tagOf x.num)).doc:=by rw[Rb];exact h2
  have w1:WF (nU s x p q):=by
   unfold nU
   refine Lz (I0 w _) h1 h2' (fun c e=>?_) fun m e=>?_
   ·exact⟨x,hx,by unfold tagOf at e;omega⟩
   ·exfalso;unfold tagOf at e;omega
  have w2:WF (changed (nU s x p q) x.num fun y=>{y with quote:=quoteOf s p.toNat q.toNat}):=
   F0 w1 _ (fun _ _=>rfl) (fun y hy _=>TK h1 h2) (fun _ _=>rfl) fun y hy _=>w1.pV y hy
  refine⟨yl (s:=s) w2 (aJ _) (aJ _) g,fun N j n z=>mq ?_⟩
  have l1:=FZ (s:=s) z.Ox (tagOf x.num)
  have l:=Hf (s:=lifted s (tagOf x.num)) (t:=tagOf x.num) l1.1 h1 h2'
  refine⟨l.1.mono (by omega),?_,bh z.chg,bh z.nc,bh z.nm,fun k hk=>?_⟩
  ·show(laid (lifted s (tagOf x.num)) (tagOf x.num) p.toNat q.toNat).doc.row.length≤_
   rw[l.2,l1.2];exact bg z.len (by omega)
  ·obtain⟨y,hy,rfl⟩:=aR.mp hk
   have:=z.rep y hy
   split
   ·exact bh this
   ·exact bh this
 | rescue c=>
  rw[Tv]
  refine mr g fun x hx _=>d9 (fun _=>?_) fun _=>cU g
  cases e:foundFrom x.quote 0 (signsOf (visible (row s)))with
  | none=>exact cU g
  | some p=>
   have f:=A0 e
   have qn:=(g.quote x hx).1
   have ql:0 < x.quote.length:=gQ.mpr qn
   have h2:p+x.quote.length≤bJ s.doc:=by
    have:=f.2
    unfold signsOf at this
    rw[ab]at this
    show p+x.quote.length≤(visible s.doc.row).length
    have:p - 0+x.quote.length≤(visible s.doc.row).length:=this
    omega
   refine⟨yl (s:=s) (Lz w (by omega) h2 (fun c e=>?_) fun m e=>?_) (aJ _) (aJ _) g,fun N j n z=>mq ?_⟩
   ·exact⟨x,hx,by unfold tagOf at e;omega⟩
   ·exfalso;unfold tagOf at e;omega
   ·have l:=Hf (s:=s) (t:=tagOf x.num) z.Ox (show p < p+x.quote.length by omega) h2
    refine⟨l.1.mono (by omega),?_,bh z.chg,bh z.nc,bh z.nm,fun k hk=>bh (z.rep k hk)⟩
    rw[l.2];exact bg z.len (by omega)
 | bookmark p q nm=>
  rw[Ou]
  refine d9 (fun hp=>d9 (fun hn=>d9 (fun hf=>?_) fun _=>cU g) fun _=>cU g) fun _=>cU g
  obtain⟨h1,h2,_⟩:=places hp
  have w1:=V6 w hn hf g.abx
  refine⟨yl (s:=s) (Lz w1 h1 h2 (fun c e=>?_) fun m e=>?_) (aJ _) (fE _) g,fun N j n z=>mq ?_⟩
  ·exfalso;unfold markTag at e;omega
  ·exact⟨⟨s.nextMark,textOf nm⟩,aF _ (by simp),by unfold markTag at e;show s.nextMark=m;omega⟩
  ·have l:=Hf (s:={s with marks:=s.marks++[⟨s.nextMark,textOf nm⟩],nextMark:=s.nextMark+1}) (t:=markTag s.nextMark) z.Ox h1 h2
   refine⟨l.1.mono (by omega),?_,bh z.chg,bh z.nc,J3 z.nm,fun k hk=>bh (z.rep k hk)⟩
   rw[l.2];exact bg z.len (by omega)
 | unmark nm=>
  rw[Tz]
  refine Mg g fun b hb=>?_
  have l:=fun N (z:IZ N s.doc.row)=>FZ (s:=s) z (markTag b.id)
  refine⟨yl (s:=s) (I0 w _) (aJ _) (aJ _) g,fun N j n z=>mq ⟨(l N z.Ox).1.mono (by omega),?_,bh z.chg,bh z.nc,bh z.nm,fun k hk=>bh (z.rep k hk)⟩⟩
  rw[(l N z.Ox).2];exact bg z.len (by omega)
 | goto nm=>
  rw[Yv]
  refine Mg g fun b hb=>?_
  cases reach s (markTag b.id)with
  | none=>exact cU g
  | some z=>exact jT g
 | state c=>rw[VX];exact mr g fun x hx _=>jT g
 | thread c=>rw[step_thread];exact mr g fun x hx _=>jT g
 | spots c=>rw[VY];exact mr g fun x hx _=>jT g
 | list w=>rw[Yw];exact d9 (fun _=>jT g) fun _=>cU g
 | «at» p=>
  rw[step_at]
  refine d9 (fun _=>?_) fun _=>cU g
  cases (visible (row s))[p.toNat]? with
  | none=>exact cU g
  | some x=>exact jT g
 | waiting a=>rw[Q4];exact d9 (fun _=>jT g) fun _=>cU g
 | bookmarks=>rw[L7];exact jT g
 | text w=>rw[Yx];exact d9 (fun _=>jT g) fun _=>cU g
 | size=>rw[step_size];exact jT g
inductive Reads:List Int→bw→List Int→Prop
 | author (a:Int) (t:List Int):Reads (0::a::t) (.author a) t
 | clock (a:Int) (t:List Int):Reads (1::a::t) (.clock a) t
 | track (a:Int) (t:List Int):Reads (2::a::t) (.track a) t
 | put (p:Int) (l t:List Int):Reads (3::p::(l.length:Int)::(l++t)) (.put p l) t
 | cut (p q:Int) (t:List Int):Reads (4::p::q::t) (.cut p q) t
 | move (p q r:Int) (t:List Int):Reads (5::p::q::r::t) (.move p q r) t
 | accept (c:Int) (t:List Int):Reads (6::c::t) (.accept c) t
 | reject (c:Int) (t:List Int):Reads (7::c::t) (.reject c) t
 | comment (p q:Int) (l t:List Int):Reads (8::p::q::(l.length:Int)::(l++t)) (.comment p q l) t
 | reply (c:Int) (l t:List Int):Reads (9::c::(l.length:Int)::(l++t)) (.reply c l) t
 | solve (c o:Int) (t:List Int):Reads (10::c::o::t) (.solve c o) t
 | drop (c:Int) (t:List Int):Reads (11::c::t) (.drop c) t
 | reanchor (c p q:Int) (t:List Int):Reads (12::c::p::q::t) (.reanchor c p q) t
 | rescue (c:Int) (t:List Int):Reads (13::c::t) (.rescue c) t
 | bookmark (p q:Int) (l t:List Int):Reads (14::p::q::(l.length:Int)::(l++t)) (.bookmark p q l) t
 | unmark (l t:List Int):Reads (15::(l.length:Int)::(l++t)) (.unmark l) t
 | goto (l t:List Int):Reads (16::(l.length:Int)::(l++t)) (.goto l) t
 | state (c:Int) (t:List Int):Reads (17::c::t) (.state c) t
 | thread (c:Int) (t:List Int):Reads (18::c::t) (.thread c) t
 | spots (c:Int) (t:List Int):Reads (19::c::t) (.spots c) t
 | list (c:Int) (t:List Int):Reads (20::c::t) (.list c) t
 | at_ (c:Int) (t:List Int):Reads (21::c::t) (.at c) t
 | waiting (c:Int) (t:List Int):Reads (22::c::t) (.waiting c) t
 | bookmarks (t:List Int):Reads (23::t) .bookmarks t
 | text (c:Int) (t:List Int):Reads (24::c::t) (.text c) t
 | size (t:List Int):Reads (25::t) .size t
def aby {r x t:List Int} (h:N0 r=some (x,t)):r=(x.length:Int)::(x++t):=by
 match r,h with
 | n::r,h=>
  rw[N0]at h
  split at h
  ·rename_i hn
   simp only[eE,lZ]at h
   obtain⟨rfl,rfl⟩:=h
   rw[cR,cc,jH hn.2]
   congr 1;omega
  ·cases h
def Ja {r t:List Int} {xs:List (List Int)} (h:kX 1 r=some (xs,t)):∃x,xs=[x]∧r=(x.length:Int)::(x++t):=by
 unfold kX at h
 cases e:N0 r with
 | none=>rw[e]at h;cases h
 | some z=>
  obtain⟨x,s⟩:=z
  rw[e]at h
  simp only[kX,eE,lZ]at h
  obtain⟨rfl,rfl⟩:=h
  exact⟨x,rfl,aby e⟩
def wB {p:Int} {r t:List Int} {c:List (List Int)} {n k:Nat} (hs:cq p=some (n,k)) (h:ie cq (p::r)=some (c,t)):
  n≤r.length∧∃xs,kX k (r.drop n)=some (xs,t)∧c=(p::r.take n)::xs:=by
 rw[ie,hs]at h
 simp only at h
 split at h
 ·cases h
 ·rename_i hl
  refine⟨by omega,?_⟩
  cases e:kX k (r.drop n)with
  | none=>rw[e]at h;cases h
  | some z=>
   obtain⟨xs,s⟩:=z
   rw[e]at h
   simp only[eE,lZ]at h
   obtain⟨rfl,rfl⟩:=h
   exact⟨xs,rfl,rfl⟩
def c00 {p:Int} {r t:List Int} {c:List (List Int)} (hs:cq p=some (0,0)) (h:ie cq (p::r)=some (c,t)):r=t∧c=[[p]]:=by
 obtain⟨_,xs,h1,h2⟩:=wB hs h
 simp only[kX,rG,eE,lZ]at h1
 obtain⟨rfl,rfl⟩:=h1
 exact⟨rfl,h2⟩
def Xk {p:Int} {r t:List Int} {c:List (List Int)} (hs:cq p=some (1,0)) (h:ie cq (p::r)=some (c,t)):∃a,r=a::t∧c=[[p,a]]:=by
 obtain⟨hl,xs,h1,h2⟩:=wB hs h
 match r,hl with
 | a::r,_=>
  simp only[kX,ka,rG,eE,lZ]at h1
  obtain⟨rfl,rfl⟩:=h1
  exact⟨a,rfl,h2⟩
def c20 {p:Int} {r t:List Int} {c:List (List Int)} (hs:cq p=some (2,0)) (h:ie cq (p::r)=some (c,t)):∃a b,r=a::b::t∧c=[[p,a,b]]:=by
 obtain⟨hl,xs,h1,h2⟩:=wB hs h
 match r,hl with
 | a::b::r,_=>
  simp only[kX,ka,rG,eE,lZ]at h1
  obtain⟨rfl,rfl⟩:=h1
  exact⟨a,b,rfl,h2⟩
def c30 {p:Int} {r t:List Int} {c:List (List Int)} (hs:cq p=some (3,0)) (h:ie cq (p::r)=some (c,t)):∃a b d,r=a::b::d::t∧c=[[p,a,b,d]]:=by
 obtain⟨hl,xs,h1,h2⟩:=wB hs h
 match r,hl with
 | a::b::d::r,_=>
  simp only[kX,ka,rG,eE,lZ]at h1
  obtain⟨rfl,rfl⟩:=h1
  exact⟨a,b,d,rfl,h2⟩
def c01 {p:Int} {r t:List Int} {c:List (List Int)} (hs:cq p=some (0,1)) (h:ie cq (p::r)=some (c,t)):∃l:List Int,r=(l.length:Int)::(l++t)∧c=[[p],l]:=by
 obtain⟨hl,xs,h1,h2⟩:=wB hs h
 obtain⟨l,rfl,e⟩:=Ja h1
 exact⟨l,e,h2⟩
def c11 {p:Int} {r t:List Int} {c:List (List Int)} (hs:cq p=some (1,1)) (h:ie cq (p::r)=some (c,t)):∃(a:Int) (l:List Int),r=a::(l.length:Int)::(l++t)∧c=[[p,a],l]:=by
 obtain⟨hl,xs,h1,h2⟩:=wB hs h
 match r,hl with
 | a::r,_=>
  obtain⟨l,rfl,e⟩:=Ja h1
  have e:r=(l.length:Int)::(l++t):=e
  exact⟨a,l,by rw[e],h2⟩
def c21 {p:Int} {r t:List Int} {c:List (List Int)} (hs:cq p=some (2,1)) (h:ie cq (p::r)=some (c,t)):∃(a b:Int) (l:List Int),r=a::b::(l.length:Int)::(l++t)∧c=[[p,a,b],l]:=by
 obtain⟨hl,xs,h1,h2⟩:=wB hs h
 match r,hl with
 | a::b::r,_=>
  obtain⟨l,rfl,e⟩:=Ja h1
  have e:r=(l.length:Int)::(l++t):=e
  exact⟨a,b,l,by rw[e],h2⟩
def V8 {p:Int} (h:cq p≠none):0≤p∧p≤25:=by
 rcases Sx p 0 with h0 | h0
 ·exfalso;apply h;unfold cq
  repeat rw[if_neg (by omega)]
 ·rcases Sx 25 p with h1 | h1
  ·exfalso;apply h;unfold cq
   repeat rw[if_neg (by omega)]
  ·exact⟨h0,h1⟩
def aad {l t:List Int} {c:List (List Int)} (h:ie cq l=some (c,t)):∃K,Vi (ED c)=some K∧Reads l K t:=by
 match l,h with
 | p::r,h=>
  have hp:cq p≠none:=fun e=>by
   rw[ie,e]at h;cases h
  obtain⟨h0,h25⟩:=V8 hp
  obtain⟨n,rfl⟩:∃n:Nat,p=(n:Int):=⟨p.toNat,by omega⟩
  have hn:n≤25:=by omega
  clear hp h0 h25
  match n,hn with
  | 0,_=>obtain⟨a,rfl,rfl⟩:=Xk rfl h;exact⟨_,rfl,.author a t⟩
  | 1,_=>obtain⟨a,rfl,rfl⟩:=Xk rfl h;exact⟨_,rfl,.clock a t⟩
  | 2,_=>obtain⟨a,rfl,rfl⟩:=Xk rfl h;exact⟨_,rfl,.track a t⟩
  | 3,_=>obtain⟨a,l,rfl,rfl⟩:=c11 rfl h;exact⟨_,rfl,.put a l t⟩
  | 4,_=>obtain⟨a,b,rfl,rfl⟩:=c20 rfl h;exact⟨_,rfl,.cut a b t⟩
  | 5,_=>obtain⟨a,b,d,rfl,rfl⟩:=c30 rfl h;exact⟨_,rfl,.move a b d t⟩
  | 6,_=>obtain⟨a,rfl,rfl⟩:=Xk rfl h;exact⟨_,rfl,.accept a t⟩
  | 7,_=>obtain⟨a,rfl,rfl⟩:=Xk rfl h;exact⟨_,rfl,.reject a t⟩
  | 8,_=>obtain⟨a,b,l,rfl,rfl⟩:=c21 rfl h;exact⟨_,rfl,.comment a b l t⟩
  | 9,_=>obtain⟨a,l,rfl,rfl⟩:=c11 rfl h;exact⟨_,rfl,.reply a l t⟩
  | 10,_=>obtain⟨a,b,rfl,rfl⟩:=c20 rfl h;exact⟨_,rfl,.solve a b t⟩
  | 11,_=>obtain⟨a,rfl,rfl⟩:=Xk rfl h;exact⟨_,rfl,.drop a t⟩
  | 12,_=>obtain⟨a,b,d,rfl,rfl⟩:=c30 rfl h;exact⟨_,rfl,.reanchor a b d t⟩
  | 13,_=>obtain⟨a,rfl,rfl⟩:=Xk rfl h;exact⟨_,rfl,.rescue a t⟩
  | 14,_=>obtain⟨a,b,l,rfl,rfl⟩:=c21 rfl h;exact⟨_,rfl,.bookmark a b l t⟩
  | 15,_=>obtain⟨l,rfl,rfl⟩:=c01 rfl h;exact⟨_,rfl,.unmark l t⟩
  | 16,_=>obtain⟨l,rfl,rfl⟩:=c01 rfl h;exact⟨_,rfl,.goto l t⟩
  | 17,_=>obtain⟨a,rfl,rfl⟩:=Xk rfl h;exact⟨_,rfl,.state a t⟩
  | 18,_=>obtain⟨a,rfl,rfl⟩:=Xk rfl h;exact⟨_,rfl,.thread a t⟩
  | 19,_=>obtain⟨a,rfl,rfl⟩:=Xk rfl h;exact⟨_,rfl,.spots a t⟩
  | 20,_=>obtain⟨a,rfl,rfl⟩:=Xk rfl h;exact⟨_,rfl,.list a t⟩
  | 21,_=>obtain⟨a,rfl,rfl⟩:=Xk rfl h;exact⟨_,rfl,.at_ a t⟩
  | 22,_=>obtain⟨a,rfl,rfl⟩:=Xk rfl h;exact⟨_,rfl,.waiting a t⟩
  | 23,_=>obtain⟨rfl,rfl⟩:=c00 rfl h;exact⟨_,rfl,.bookmarks r⟩
  | 24,_=>obtain⟨a,rfl,rfl⟩:=Xk rfl h;exact⟨_,rfl,.text a t⟩
  | 25,_=>obtain⟨rfl,rfl⟩:=c00 rfl h;exact⟨_,rfl,.size r⟩
  | n+26,hn=>omega
inductive Dk:List Int→List bw→Prop
 | nil:Dk [] []
 | cons {l t:List Int} {K:bw} {Ks:List bw}:Reads l K t→Dk t Ks→Dk l (K::Ks)
def outs:GS→List bw→List Int
 | _,[]=>[]
 | s,K::Ks=>((mX (bY s K).2).length:Int)::(mX (bY s K).2++outs (bY s K).1 Ks)
theorem Qb:∀(f:Nat) (l:List Int) (cs:List (List (List Int))),rH cq f l=some cs→∃Ks,Dk l Ks∧Ks.length=cs.length∧
  ∀s,KJ (PK xW s (cs.map ED))=outs s Ks
 | _,[],cs,h=>by
  have:cs=[]:=by
   cases ‹Nat› <;> (simp only[rH,eE]at h;exact h.symm)
  subst this
  exact⟨[],.nil,rfl,fun s=>rfl⟩
 | 0,_::_,cs,h=>by simp[rH]at h
 | f+1,p::r,cs,h=>by
  unfold rH at h
  cases e:ie cq (p::r)with
  | none=>rw[e]at h;cases h
  | some z=>
   obtain⟨c,t⟩:=z
   rw[e]at h
   simp only at h
   cases e2:rH cq f t with
   | none=>rw[e2]at h;cases h
   | some cs'=>
    rw[e2]at h
    simp only[eE]at h
    subst h
    obtain⟨K,hK,hR⟩:=aad e
    obtain⟨Ks,hS,hl,ho⟩:=Qb f t cs' e2
    refine⟨K::Ks,.cons hR hS,by simp[hl],fun s=>?_⟩
    have es:xW s (ED c)=((bY s K).1,mX (bY s K).2):=by
     unfold xW;rw[hK]
    rw[aT,PK,KJ,bW,es]
    show _::(_++KJ _)=_
    rw[ho]
    rfl
def YB {l t:List Int} {K:bw} (h:Reads l K t):putN K+t.length < l.length:=by
 cases h <;> simp[putN] <;> omega
def TN (Ks:List bw):Nat:=(Ks.map putN).sum
theorem Ki:∀{l:List Int} {Ks:List bw},Dk l Ks→TN Ks≤l.length
 | _,_,.nil=>aJ _
 | _,_,.cons hR hS=>by
  have h1:=YB hR
  have h2:=Ki hS
  unfold TN at *
  rw[aT,FR]
  omega
def Rc {ns:List Int} (h:rJ ns=true):∃Ks,Dk ns Ks∧Ks.length≤400∧sM ns=outs dP Ks∧(outs dP Ks).length≤10000000:=by
 unfold rJ at h
 cases e:rH cq ns.length ns with
 | none=>rw[e]at h;cases h
 | some raw=>
  rw[e]at h
  simp only[dh]at h
  obtain⟨⟨⟨⟨h1,h2⟩,h3⟩,h4⟩,h5⟩:=h
  obtain⟨Ks,hS,hl,ho⟩:=Qb _ _ _ e
  have ea:sM ns=outs dP Ks:=by
   unfold sM PyVatrkg.calls
   rw[e]
   exact ho _
  refine⟨Ks,hS,?_,ea,?_⟩
  ·unfold PyFlat.atMost at h2
   rw[hl];simpa using h2
  ·rw[← ea];unfold PyFlat.short at h5;simpa using h5
def Xl (b:List Piece) (ins del:List Nat):Prop:=∀x∈b,x.ins=ins∧x.del=del
def Xl.vis {b:List Piece} {ins del:List Nat} (h:Xl b ins del):visible b=if del.isEmpty=true then b else[]:=by
 unfold visible
 split
 ·rename_i e
  exact dz.mpr fun x hx=>by unfold shown;rw[(h x hx).2];exact e
 ·rename_i e
  rw[eM]
  intro x hx
  unfold shown
  rw[(h x hx).2]
  exact e
def Xl.EN {b:List Piece} {ins del:List Nat} (h:Xl b ins del):(visible b).length=if del.isEmpty=true then b.length else 0:=by
 rw[h.vis];split <;> rfl
def Xl.sub {b b':List Piece} {ins del:List Nat} (h:Xl b ins del) (s:∀x∈b',x∈b):Xl b' ins del:=fun x hx=>h x (s x hx)
def zd {α:Type} {bs:List (List α)} {i:Nat} {b:List α} (h:bs[i]? =some b):bs.flatten=(bs.take i).flatten++(b++(bs.drop (i+1)).flatten):=by
 have hi:=(ay.mp h).1
 have e:bs=bs.take i++b::bs.drop (i+1):=by
  have e1:=(cR i bs).symm
  rw[fP hi]at e1
  rw[(ay.mp h).2]at e1
  exact e1
 conv=>lhs;rw[e]
 rw[eY,bC]
def wC {α:Type} {bs:List (List α)} {i:Nat} {b:List α} (h:bs[i]? =some b):(bs.take (i+1)).flatten=(bs.take i).flatten++b:=by
 rw[IJ,h]
 simp
def A1 {bs:List (List Piece)} {i k p:Nat} {b:List Piece} {ins:List Nat} (h:bs[i]? =some b) (u:Xl b ins []) (hk:k < b.length) (hp:(visible (bs.take i).flatten).length+k=p):
  ∃x,b[k]? =some x∧mj bs.flatten p ((bs.take i).flatten++b.take k) x (b.drop (k+1)++(bs.drop (i+1)).flatten):=by
 refine⟨b[k],cM hk,?_,?_,?_⟩
 ·rw[zd h,bM]
  congr 1
  rw[← dW,← bM]
  congr 1
  rw[← fP hk,cR]
 ·rw[bU,ae,(u.sub (fun x hx=>eJ hx):Xl (b.take k) ins []).EN]
  simp
  omega
 ·unfold shown
  rw[(u b[k] (List.getElem_mem hk)).2]
  rfl
theorem Dl {α:Type}:∀{bs:List (List α)},(∀b∈bs,b≠[])→bs.length≤bs.flatten.length
 | [],_=>aJ _
 | b::bs,h=>by
  have h1:=Dl (bs:=bs) fun c hc=>h c (aI _ hc)
  have h2:0 < b.length:=gQ.mpr (h b (aE ..))
  rw[aN,bC,ae]
  omega
theorem ur {α:Type}:∀bs:List (List α),(bs.map fun b=>(b.length:Int)).sum=(bs.flatten.length:Int)
 | []=>rfl
 | b::bs=>by rw[aT,FR,ur bs,bC,ae];omega
theorem Kj:∀bs:List (List Piece),visible bs.flatten=(bs.map visible).flatten
 | []=>rfl
 | b::bs=>by rw[bC,bU,Kj bs,aT,bC]
def KO (bs:List (List Piece)):(bs.map fun b=>((visible b).length:Int)).sum=((visible bs.flatten).length:Int):=by
 rw[Kj,← ur,bD];rfl
def Mh {n:Nat} {l:List Nat} (h:l.Pairwise (· < ·)) (b:∀x∈l,x≤n):l.length≤n+1:=
 kj (n+1) l (c4.mpr (h.imp fun lt=>cI lt)) fun x hx=>Nat.lt_succ_of_le (b x hx)
def vi (s:GS) (o:pB):GS×List Int:=match o with
 | .ok (t,l)=>(t,l)
 | .error n=>(s,[n])
def rs (s:GS) (c:bw):GS×List Int:=vi s (raw s c)
def nM (s:GS) (c:bw):rs s c=vi s (raw s c):=rfl
def g5 {s:GS} {b:Prop} [Decidable b] {x y:pB}:vi s (if b then x else y)=if b then vi s x else vi s y:=by split <;> rfl
def abz {s:GS} (g:Good s) (c:bw):(bY s c).1=cleaned (rs s c).1∧mX (bY s c).2=(rs s c).2:=by
 unfold bY rs vi
 cases raw s c with
 | ok z=>exact⟨rfl,rfl⟩
 | error n=>exact⟨(He g.toWFC).symm,rfl⟩
def YC (s:GS) (a:Int):rs s (.author a)=if within a 1 99=true then({s with doc:={s.doc with author:=a.toNat}},[0])else(s,[-2]):=by
 rw[nM];simp only[raw,command,bq]
 by_cases h:within a 1 99=true <;> simp[h,vi,«ints»]
def aae (s:GS) (t:Int):rs s (.clock t)=if t < 0 then(s,[-2])else if t < (s.doc.time:Int)then(s,[-3])else({s with doc:={s.doc with time:=t.toNat}},[0]):=by
 rw[nM];simp only[raw,command,bq]
 by_cases h:t < 0 <;> by_cases h2:t < (s.doc.time:Int) <;> simp[h,h2,vi,«ints»]
def aaf (s:GS) (on:Int):rs s (.track on)=if within on 0 1=true then({s with doc:={s.doc with tracking:=on==1}},[0])else(s,[-2]):=by
 rw[nM];simp only[raw,command,bq]
 by_cases h:within on 0 1=true <;> simp[h,vi,«ints»]
def adf (s:GS) (p:Int) (l:List Int):rs s (.put p l)=if below p (count s.doc)=false then(s,[-1])else if(l.isEmpty||!l.all isSign)=true then(s,[-2])
  else({s with doc:=(doPut s.doc p.toNat (l.map fun z=>z.toNat)).1},[((doPut s.doc p.toNat (l.map fun z=>z.toNat)).2:Int)]):=by
 rw[nM];simp only[raw,command,bq,stepPut,answered]
 by_cases h:below p (count s.doc)=false
 ·rw[if_pos h,if_pos h];rfl
 ·rw[if_neg h,if_neg h]
  by_cases h2:(l.isEmpty||!l.all isSign)=true
  ·rw[if_pos h2,if_pos h2];rfl
  ·rw[if_neg h2,if_neg h2];rfl
def adg (s:GS) (p q:Int):rs s (.cut p q)=if isStretch p q (count s.doc - 1)=false then(s,[-1])
  else({s with doc:=(doCut s.doc p.toNat q.toNat).1},[((doCut s.doc p.toNat q.toNat).2:Int)]):=by
 rw[nM];simp only[raw,command,bq,stepCut,answered]
 by_cases h:isStretch p q (count s.doc - 1)=false
 ·rw[if_pos h,if_pos h];rfl
 ·rw[if_neg h,if_neg h];rfl
def abA (s:GS) (p q r:Int):rs s (.move p q r)=if(isStretch p q (count s.doc - 1)&&below r (count s.doc))=false then(s,[-1])else if p≤r∧r≤q then(s,[-3])
  else({s with doc:=(doMove s.doc p.toNat q.toNat r.toNat).1},[((doMove s.doc p.toNat q.toNat r.toNat).2:Int)]):=by
 rw[nM];simp only[raw,command,bq,stepMove,answered]
 by_cases h:(isStretch p q (count s.doc - 1)&&below r (count s.doc))=false
 ·rw[if_pos h,if_pos h];rfl
 ·rw[if_neg h,if_neg h]
  by_cases h2:p≤r∧r≤q
  ·rw[if_pos h2,if_pos h2];rfl
  ·rw[if_neg h2,if_neg h2];rfl
def A2 (s:GS) (b:Bool) (c:Int):vi s (verdict s b c)=if within c 0 s.doc.changes.length=true then((withRow s (b6 b c (row s))),[((row s).length:Int) - ((b6 b c (row s)).length:Int)])else(s,[-4]):=by
 unfold verdict;rw[cO,g5];rfl
def YD (s:GS) (c:Int):rs s (.accept c)=if within c 0 s.doc.changes.length=true then((withRow s (b6 true c (row s))),[((row s).length:Int) - ((b6 true c (row s)).length:Int)])else(s,[-4]):=A2 s true c
def YE (s:GS) (c:Int):rs s (.reject c)=if within c 0 s.doc.changes.length=true then((withRow s (b6 false c (row s))),[((row s).length:Int) - ((b6 false c (row s)).length:Int)])else(s,[-4]):=A2 s false c
def Mi (s:GS) (p q:Int) (t:List Int):rs s (.comment p q t)=if isPlaces s p q=true then(if isNoteText t=true then
   ((laid {s with comments:=s.comments++[ji s p q t],nextComment:=s.nextComment+1} (tagOf s.nextComment) p.toNat q.toNat),[(s.nextComment:Int)])
   else(s,[-2]))else(s,[-1]):=by
 show vi s (xT s p q t)=_;unfold xT;rw[cO,g5,cO,g5];rfl
def rC (s:GS) (c:Int) (f:aw→GS×List Int):GS×List Int:=match commentAt s c with
 | some x=>f x
 | none=>(s,[-4])
def pE {s:GS} {c:Int} {f:aw→pB}:vi s (theComment s c >>=f)=rC s c fun x=>vi s (f x):=by
 unfold theComment rC
 cases commentAt s c <;> rfl
def TQ (s:GS) (c:Int) (t:List Int):rs s (.reply c t)=rC s c fun x=>if isNoteText t=true then(if x.solved=false then
   ((changed s x.num fun y=>{y with replies:=y.replies++[⟨s.doc.author,s.doc.time,textOf t⟩]}),[(x.replies.length:Int)+1])else(s,[-6]))else(s,[-2]):=by
 rw[nM];unfold raw;unfold reply;rw[pE]
 congr 1;funext x;rw[cO,g5,cO,g5]
 cases x.solved <;> rfl
def TR (s:GS) (c on:Int):rs s (.solve c on)=rC s c fun x=>if within on 0 1=true then(if(x.solved !=(on==1))=true then
   ((changed s x.num fun y=>{y with solved:=on==1}),[0])else(s,[-6]))else(s,[-2]):=by
 rw[nM];unfold raw;unfold solve;rw[pE]
 congr 1;funext x;rw[cO,g5,cO,g5];rfl
def Xm (s:GS) (c:Int):rs s (.drop c)=rC s c fun x=>if(x.author==s.doc.author)=true then
   ({lifted s (tagOf x.num)with comments:=s.comments.filter fun y=>y.num !=x.num},[(carriers s (tagOf x.num):Int)])else(s,[-5]):=by
 rw[nM];unfold raw;unfold Vh;rw[pE]
 congr 1;funext x;rw[cO,g5];rfl
def Kk (s:GS) (c p q:Int):rs s (.reanchor c p q)=rC s c fun x=>if(x.author==s.doc.author)=true then(if isPlaces s p q=true then
   ((changed (nU s x p q) x.num fun y=>{y with quote:=quoteOf s p.toNat q.toNat}),[((shownWith (nU s x p q) (tagOf x.num)).length:Int)])else(s,[-1]))else(s,[-5]):=by
 rw[nM];unfold raw;unfold reanchor;rw[pE]
 congr 1;funext x;rw[cO,g5,cO,g5];rfl
def Qc (s:GS) (c:Int):rs s (.rescue c)=rC s c fun x=>if(condition s (tagOf x.num)==0)=true then(match foundFrom x.quote 0 (signsOf (visible (row s)))with
   | some p=>((laid s (tagOf x.num) p (p+x.quote.length)),[(p:Int),((p+x.quote.length:Nat):Int)])
   | none=>(s,[-8]))else(s,[-7]):=by
 rw[nM];unfold raw;unfold rescue;rw[pE]
 congr 1;funext x;rw[cO,g5]
 cases foundFrom x.quote 0 (signsOf (visible (row s))) <;> rfl
def Kl (s:GS) (p q:Int) (n:List Int):rs s (.bookmark p q n)=if isPlaces s p q=true then(if isName n=true then(if(markNamed s (textOf n)).isNone=true then
   ((laid {s with marks:=s.marks++[⟨s.nextMark,textOf n⟩],nextMark:=s.nextMark+1} (markTag s.nextMark) p.toNat q.toNat),[(s.marks.length:Int)+1])
   else(s,[-5]))else(s,[-2]))else(s,[-1]):=by
 show vi s (uX s p q n)=_;unfold uX;rw[cO,g5,cO,g5,cO,g5];rfl
def rM (s:GS) (n:List Int) (f:bT→GS×List Int):GS×List Int:=match s.marks.find? (fun b=>«ints» b.name==n)with
 | some b=>f b
 | none=>(s,[-4])
def Qe {s:GS} {n:List Int} {f:bT→pB}:vi s (theMark s n >>=f)=rM s n fun b=>vi s (f b):=by
 unfold theMark rM
 cases s.marks.find? (fun b=>«ints» b.name==n) <;> rfl
def Qg (s:GS) (n:List Int):rs s (.unmark n)=rM s n fun b=>((lifted s (markTag b.id)),[(carriers s (markTag b.id):Int)]):=by
 rw[nM];unfold raw;unfold unmark;rw[Qe];rfl
def Xn (s:GS) (n:List Int):rs s (.goto n)=rM s n fun b=>match reach s (markTag b.id)with
   | some z=>(s,(«ints» [z.1,z.2]))
   | none=>(s,[-7]):=by
 rw[nM];unfold raw;unfold goto;rw[Qe]
 congr 1;funext b
 cases reach s (markTag b.id) <;> rfl
def TU (s:GS) (c:Int):rs s (.state c)=rC s c fun x=>(s,(IX s x)):=by
 rw[nM];unfold raw;unfold stateOf;rw[pE];rfl
def Qh (s:GS) (c:Int):rs s (.thread c)=rC s c fun x=>(s,(L6 x)):=by
 rw[nM];unfold raw;unfold thread;rw[pE];rfl
def TV (s:GS) (c:Int):rs s (.spots c)=rC s c fun x=>(s,(IY s x)):=by
 rw[nM];unfold raw;unfold spots;rw[pE];rfl
def Xo (s:GS) (w:Int):rs s (.list w)=if within w 0 3=true then(s,(Hb s w))else(s,[-2]):=by
 show vi s (EA s w)=_;unfold EA;rw[cO,g5];rfl
def ace (s:GS) (p:Int):rs s (.at p)=if below p (count s.doc)=true then(match(visible (row s))[p.toNat]? with
   | some x=>(s,(VZ s x))
   | none=>(s,[-1]))else(s,[-1]):=by
 show vi s (GR s p)=_;unfold GR;rw[cO,g5]
 show(if below p (bJ s.doc)=true then _ else _)=_
 cases (visible (row s))[p.toNat]? <;> rfl
def Mj (s:GS) (a:Int):rs s (.waiting a)=if within a 1 99=true then(s,(Kg s a))else(s,[-2]):=by
 show vi s (xU s a)=_;unfold xU;rw[cO,g5];rfl
def Hh (s:GS):rs s .bookmarks=(s,((s.marks.length:Int)::s.marks.flatMap (toldMark s))):=rfl
def Xp (s:GS) (w:Int):rs s (.text w)=if within w 0 2=true then(s,(Dd s w))else(s,[-2]):=by
 show vi s (EB s w)=_;unfold EB;rw[cO,g5];rfl
def Xq (s:GS):rs s .size=(s,(«ints» [count s.doc,(row s).length,s.doc.changes.length,s.comments.length,s.marks.length])):=rfl
def ze (u:Nat) (V:List Piece):List Nat:=(((xM V.length).zip V).filter fun z=>carries u z.2).map (·.1)
def Fw (s:GS) (u:Nat):(shownWith s u).map (fun z=>z.1)=ze u (visible (row s)):=rfl
def F1 (u:Nat) (a b:List Piece):ze u (a++b)=ze u a++(ze u b).map (a.length+·):=by
 unfold ze
 rw[ae,List.range_add,uY (by simp),dt,bz]
 congr 1
 have:∀(l:List Nat) (m:List Piece),(((l.map (a.length+·)).zip m).filter fun z=>carries u z.2).map (·.1)=(((l.zip m).filter fun z=>carries u z.2).map (·.1)).map (a.length+·):=by
  intro l
  induction l with
  | nil=>intro m;simp
  | cons x r ih=>
   intro m
   cases m with
   | nil=>simp
   | cons y q=>
    rw[aT,dM,dM,bK,bK]
    by_cases h:carries u y=true
    ·rw[if_pos h,if_pos h,aT,aT,aT,ih q]
    ·rw[if_neg h,if_neg h,ih q]
 exact this _ _
def abB {u:Nat} {b:List Piece} (h:∀x∈b,carries u x=true):ze u b=xM b.length:=by
 unfold ze
 rw[dz.mpr fun z hz=>h z.2 (jG hz).2,AH (by simp)]
def TX {u:Nat} {b:List Piece} (h:∀x∈b,carries u x=false):ze u b=[]:=by
 unfold ze
 rw[eM.mpr fun z hz=>by rw[h z.2 (jG hz).2];decide];rfl
def Xr {u:Nat} {a b:List Piece} (h:∀x∈b,carries u x=true):ze u (a++b)=ze u a++kW a.length b.length:=by
 rw[F1,abB h,List.range'_eq_map_range]
def Rf (l:List Nat):Option (Nat×Nat):=match l,l.getLast? with
 | a::_,some b=>some (a,b+1)
 | _,_=>none
def Qi (s:GS) (u:Nat):reach s u=Rf (ze u (visible (row s))):=by
 unfold reach Rf
 rw[← Fw]
 cases shownWith s u with
 | nil=>rfl
 | cons z r=>
  rw[aT,← aT (f:=fun z:Nat×Piece=>z.1),IK]
  rw[kY (by simp)];rfl
def abC (l:List Nat) (n m:Nat):Rf (l++kW n (m+1))=some (match Rf l with | some z=>z.1 | none=>n,n+(m+1)):=by
 have hl:(l++kW n (m+1)).getLast? =some (n+m):=by
  rw[List.range'_concat,← bM,mY];simp
 unfold Rf
 rw[hl]
 cases l with
 | nil=>rw[jI,sN];rfl
 | cons a r=>
  rw[kY (l:=a::r) (by simp)];rfl
def OA:List (Nat×Nat)→Nat→Nat→List (Nat×Nat)
 | [],n,e=>[(n,e)]
 | [(a,b)],n,e=>if b=n then[(a,e)]else[(a,b),(n,e)]
 | x::y::r,n,e=>x::OA (y::r) n e
theorem Cy:∀(m n:Nat),stretches (kW n (m+1))=[(n,n+(m+1))]
 | 0,n=>by simp[stretches]
 | m+1,n=>by
  rw[sN,stretches,Cy m (n+1)]
  simp;omega
def YF:∀(a b:Nat) (g:List (Nat×Nat)) (n e:Nat),∃b' g',OA ((a,b)::g) n e=(a,b')::g'∧∀p,OA ((p,b)::g) n e=(p,b')::g'
 | a,b,[],n,e=>by
  unfold OA
  by_cases h:b=n
  ·rw[if_pos h];exact⟨e,[],rfl,fun p=>by rw[if_pos h]⟩
  ·rw[if_neg h];exact⟨b,[(n,e)],rfl,fun p=>by rw[if_neg h]⟩
 | a,b,y::r,n,e=>⟨b,OA (y::r) n e,rfl,fun p=>rfl⟩
theorem Fx (n m:Nat):∀l:List Nat,stretches (l++kW n (m+1))=OA (stretches l) n (n+(m+1))
 | []=>by rw[jI,Cy];rfl
 | p::l=>by
  rw[dW,stretches,Fx n m l,stretches]
  cases hs:stretches l with
  | nil=>
   show(if n=p+1 then[(p,n+(m+1))]else[(p,p+1),(n,n+(m+1))])=if p+1=n then[(p,n+(m+1))]else[(p,p+1),(n,n+(m+1))]
   by_cases h:n=p+1
   ·rw[if_pos h,if_pos h.symm]
   ·rw[if_neg h,if_neg (fun z=>h z.symm)]
  | cons z g=>
   obtain⟨a,b⟩:=z
   obtain⟨b',g',e1,e2⟩:=YF a b g n (n+(m+1))
   rw[e1]
   show(if a=p+1 then(p,b')::g' else(p,p+1)::(a,b')::g')=OA (if a=p+1 then(p,b)::g else(p,p+1)::(a,b)::g) n (n+(m+1))
   by_cases h:a=p+1
   ·rw[if_pos h,if_pos h,e2]
   ·rw[if_neg h,if_neg h]
    show _=(p,p+1)::OA ((a,b)::g) n (n+(m+1))
    rw[e1]
def Dm (g:List (Nat×Nat)):List Nat:=g.flatMap fun z=>[z.1,z.2]
def Rg (g:List (Nat×Nat)):(Dm g).length=2*g.length:=by
 induction g with
 | nil=>rfl
 | cons z r ih=>
  show(z.1::z.2::Dm r).length=_
  rw[aN,aN,ih,aN];omega
theorem Xs:∀(g:List (Nat×Nat)) (n e:Nat),Dm (OA g n e)=if(Dm g).getLast? =some n then(Dm g).set ((Dm g).length - 1) e else Dm g++[n,e]
 | [],n,e=>rfl
 | [(a,b)],n,e=>by
  show Dm (if b=n then[(a,e)]else[(a,b),(n,e)])=if some b=some n then[a,e]else[a,b,n,e]
  by_cases h:b=n
  ·rw[if_pos h,if_pos (by rw[h])];rfl
  ·rw[if_neg h,if_neg (fun z=>h (bu z))];rfl
 | x::y::r,n,e=>by
  have ih:=Xs (y::r) n e
  show x.1::x.2::Dm (OA (y::r) n e)=if(x.1::x.2::Dm (y::r)).getLast? =some n then(x.1::x.2::Dm (y::r)).set ((x.1::x.2::Dm (y::r)).length - 1) e else(x.1::x.2::Dm (y::r))++[n,e]
  have hl:(x.1::x.2::Dm (y::r)).getLast? =(Dm (y::r)).getLast?:=by
   show(x.1::x.2::y.1::y.2::Dm r).getLast? =(y.1::y.2::Dm r).getLast?
   rw[pQ,pQ]
  rw[hl,ih]
  by_cases h:(Dm (y::r)).getLast? =some n
  ·rw[if_pos h,if_pos h]
   have:(x.1::x.2::Dm (y::r)).length - 1=((Dm (y::r)).length - 1)+1+1:=by
    have:0 < (Dm (y::r)).length:=by rw[Rg];simp
    simp only[aN];omega
   rw[this];rfl
  ·rw[if_neg h,if_neg h];rfl
theorem Qj:∀{a b:List Nat},a.Pairwise (· < ·)→b.Pairwise (· < ·)→(∀x,x∈a↔x∈b)→a=b
 | [],[],_,_,_=>rfl
 | [],y::b,_,_,h=>by have:=(h y).mpr (aE ..);cases this
 | x::a,[],_,_,h=>by have:=(h x).mp (aE ..);cases this
 | x::a,y::b,ha,hb,h=>by
  rw[c5]at ha hb
  have e:x=y:=by
   rcases bx.mp ((h x).mp (aE ..))with e | e
   ·exact e
   ·rcases bx.mp ((h y).mpr (aE ..))with e2 | e2
    ·exact e2.symm
    ·have h1:=hb.1 x e
     have h2:=ha.1 y e2
     omega
  subst e
  rw[Qj ha.2 hb.2 fun z=>?_]
  constructor
  ·intro hz
   rcases bx.mp ((h z).mp (aI _ hz))with e | e
   ·have:=ha.1 z hz;omega
   ·exact e
  ·intro hz
   rcases bx.mp ((h z).mpr (aI _ hz))with e | e
   ·have:=hb.1 z hz;omega
   ·exact e
def Pm (s t:GS):Prop:=t.marks=s.marks∨∃b:bT,b.id=s.nextMark∧t.marks=s.marks++[b]
def gY {s:GS} {b:Prop} [Decidable b] {x y:GS×List Int} (h1:Pm s x.1) (h2:Pm s y.1):Pm s (if b then x else y).1:=by split <;> assumption
def Km {s:GS} {c:Int} {f:aw→GS×List Int} (h:∀x,Pm s (f x).1):Pm s (rC s c f).1:=by
 unfold rC
 cases commentAt s c with
 | none=>exact .inl rfl
 | some x=>exact h x
def acf {s:GS} {n:List Int} {f:bT→GS×List Int} (h:∀x,Pm s (f x).1):Pm s (rM s n f).1:=by
 unfold rM
 cases s.marks.find? (fun b=>«ints» b.name==n)with
 | none=>exact .inl rfl
 | some x=>exact h x
def aei (s:GS) (C:bw):Pm s (rs s C).1:=by
 cases C with
 | author a=>rw[YC];exact gY (.inl rfl) (.inl rfl)
 | clock a=>rw[aae];exact gY (.inl rfl) (gY (.inl rfl) (.inl rfl))
 | track a=>rw[aaf];exact gY (.inl rfl) (.inl rfl)
 | put p l=>rw[adf];exact gY (.inl rfl) (gY (.inl rfl) (.inl rfl))
 | cut p q=>rw[adg];exact gY (.inl rfl) (.inl rfl)
 | move p q r=>rw[abA];exact gY (.inl rfl) (gY (.inl rfl) (.inl rfl))
 | accept c=>rw[YD];exact gY (.inl rfl) (.inl rfl)
 | reject c=>rw[YE];exact gY (.inl rfl) (.inl rfl)
 | comment p q t=>rw[Mi];exact gY (gY (.inl rfl) (.inl rfl)) (.inl rfl)
 | reply c t=>rw[TQ];exact Km fun x=>gY (gY (.inl rfl) (.inl rfl)) (.inl rfl)
 | solve c o=>rw[TR];exact Km fun x=>gY (gY (.inl rfl) (.inl rfl)) (.inl rfl)
 | drop c=>rw[Xm];exact Km fun x=>gY (.inl rfl) (.inl rfl)
 | reanchor c p q=>rw[Kk];exact Km fun x=>gY (gY (.inl rfl) (.inl rfl)) (.inl rfl)
 | rescue c=>
  rw[Qc]
  refine Km fun x=>gY ?_ (.inl rfl)
  cases foundFrom x.quote 0 (signsOf (visible (row s)))with
  | none=>exact .inl rfl
  | some p=>exact .inl rfl
 | bookmark p q n=>rw[Kl];exact gY (gY (gY (.inr ⟨_,rfl,rfl⟩) (.inl rfl)) (.inl rfl)) (.inl rfl)
 | unmark n=>rw[Qg];exact acf fun b=>.inl rfl
 | goto n=>
  rw[Xn]
  refine acf fun b=>?_
  cases reach s (markTag b.id)with
  | none=>exact .inl rfl
  | some z=>exact .inl rfl
 | state c=>rw[TU];exact Km fun x=>.inl rfl
 | thread c=>rw[Qh];exact Km fun x=>.inl rfl
 | spots c=>rw[TV];exact Km fun x=>.inl rfl
 | list w=>rw[Xo];exact gY (.inl rfl) (.inl rfl)
 | «at» p=>
  rw[ace]
  refine gY ?_ (.inl rfl)
  cases (visible (row s))[p.toNat]? with
  | none=>exact .inl rfl
  | some x=>exact .inl rfl
 | waiting a=>rw[Mj];exact gY (.inl rfl) (.inl rfl)
 | bookmarks=>rw[Hh];exact .inl rfl
 | text w=>rw[Xp];exact gY (.inl rfl) (.inl rfl)
 | size=>rw[Xq];exact .inl rfl
def aag {s:GS} (w:WF s) (C:bw):(rs s C).1.marks.Pairwise fun a b=>a.id < b.id:=by
 rcases aei s C with e | ⟨b,hb,e⟩
 ·rw[e];exact w.vh
 ·rw[e,cC]
  refine⟨w.vh,by simp,fun a ha c hc=>?_⟩
  simp at hc
  subst hc
  rw[hb];exact(w.ya a ha).2
end Mt
namespace Mx
open PySem PySem.Spec PyProof.Rows L2
section
variable {X:Cx} {a b c d e:Expr} {es:List Expr} {ta tb tc td te:TE} {pos p:Pos} {x:Str} {t:TA}
def LA (r r' r'':R2) (ta tb tc td:TE):TE:=fun σ H Q=>ta σ H fun x H1=>tb σ H1 fun y H2=>r x y H2 fun z H3=>∃k,z=.bl k∧
 (if k=true then tc σ H3 fun w H4=>r' y w H4 fun z' H5=>∃k',z'=.bl k'∧(if k'=true then td σ H5 fun v H6=>r'' w v H6 Q else Q (.bl false) H5)else Q (.bl false) H3)
def YG {op op' op'':Im} {r r' r'':R2} (ho:Fi X (d8 op) r) (ho':Fi X (d8 op') r') (ho'':Fi X (d8 op'') r'') (ha:PE X a ta) (hb:PE X b tb) (hc:PE X c tc) (hd:PE X d td)
  (hm:JU [op,op',op''] [b,c,d]=false:=by with_unfolding_all rfl):PE X (.Compare a [op,op',op''] [b,c,d] pos) (LA r r' r'' ta tb tc td):=by
 intro pins s σ H Q I h
 refine Compare_chain (gR (ha pins s σ H _ I h) fun v s1 ⟨x,H1,I1,r1,q1⟩=>chain_link (gR (hb pins s1 σ H1 _ I1 q1) fun u s2 ⟨y,H2,I2,r2,q2⟩=>
  gR (ho pins s2 σ H2 x y v u _ I2 r1 r2 q2) fun d1 s3 ⟨z,H3,I3,r3,k,e1,q3⟩=>?_)) hm
 subst e1
 cases r3
 refine de ?_
 cases k with
 | false=>exact ite_ff ⟨.bl false,H3,I3,rfl,q3⟩
 | true=>
  refine ite_tt (chain_link (gR (hc pins s3 σ H3 _ I3 q3) fun w' s4 ⟨z',H4,I4,r4,q4⟩=>gR (ho' pins s4 σ H4 y z' u w' _ I4 r2 r4 q4) fun d2 s5 ⟨z2,H5,I5,r5,k2,e2,q5⟩=>?_))
  subst e2
  cases r5
  refine de ?_
  cases k2 with
  | false=>exact ite_ff ⟨.bl false,H5,I5,rfl,q5⟩
  | true=>exact ite_tt (chain_last (gR (hd pins s5 σ H5 _ I5 q5) fun w3 s6 ⟨z3,H6,I6,r6,q6⟩=>ho'' pins s6 σ H6 z' z3 w' w3 Q I6 r4 r6 q6))
def Qk {op op' op'':Im} {r r' r'':R2} (ho:Fi X (d8 op) r) (ho':Fi X (d8 op') r') (ho'':Fi X (d8 op'') r'') (ha:PE X a ta) (hb:PE X b tb) (hc:PE X c tc) (hd:PE X d td)
  (hm:JU [op,op',op''] [b,c,d]=false:=by with_unfolding_all rfl):PT X (.Compare a [op,op',op''] [b,c,d] pos) (J8 (LA r r' r'' ta tb tc td)):=by
 intro pins s σ H Q I h
 refine isTrue_chain (gR (ha pins s σ H _ I h) fun v s1 ⟨x,H1,I1,r1,q1⟩=>test_link (gR (hb pins s1 σ H1 _ I1 q1) fun u s2 ⟨y,H2,I2,r2,q2⟩=>
  gR (ho pins s2 σ H2 x y v u _ I2 r1 r2 q2) fun d1 s3 ⟨z,H3,I3,r3,k,e1,q3⟩=>?_)) hm
 subst e1
 cases r3
 refine de ?_
 cases k with
 | false=>
  obtain⟨k',e',q'⟩:=q3
  cases e'
  exact ite_ff ⟨H3,I3,q'⟩
 | true=>
  refine ite_tt (test_link (gR (hc pins s3 σ H3 _ I3 q3) fun w' s4 ⟨z',H4,I4,r4,q4⟩=>gR (ho' pins s4 σ H4 y z' u w' _ I4 r2 r4 q4) fun d2 s5 ⟨z2,H5,I5,r5,k2,e2,q5⟩=>?_))
  subst e2
  cases r5
  refine de ?_
  cases k2 with
  | false=>
   obtain⟨k',e',q'⟩:=q5
   cases e'
   exact ite_ff ⟨H5,I5,q'⟩
  | true=>
   refine ite_tt (test_last (gR (hd pins s5 σ H5 _ I5 q5) fun w3 s6 ⟨z3,H6,I6,r6,q6⟩=>gR (ho'' pins s6 σ H6 z' z3 w' w3 _ I6 r4 r6 q6) fun d3 s7 ⟨z4,H7,I7,r7,k3,e3,q7⟩=>?_))
   subst e3
   cases r7
   exact de ⟨H7,I7,q7⟩
def adh (X:Cx) (tv:TE) (t:TA):TE:=fun σ H Q=>tv σ H fun v H1=>EX5 fun(f:Addr) (fd:aG) (ps:List Str) (sp:Sp) (k:Nat)=>aZ X.prog X.w X.K X.mg X.base cH k f fd ps sp∧oZ k X.A∧Binds X.K fd ps []∧gM X.K (.ref f)=true∧v=.ref f∧
 t σ H1 fun vs H2=>sp vs H2 Q E0
def aah {tv:TE} (hv:PE X (.Name x p) tv) (ha:PA X (e::es) t) (he:cw (e::es) X.env=(false,eval e X.env)::cw es X.env:=by rfl) (hpl:(iH pos (cw es X.env)).any (·.1)=false:=by rfl):
  PE X (.Call (.Name x p) (e::es) [] pos) (adh X tv t):=by
 intro pins s σ H Q I h
 refine jm (gR (hv pins s σ H _ I h) fun u s1 ⟨v,H1,I1,rv,f,fd,ps,sp,k,F,hr,hb,hk,ev,q⟩=>?_)
 subst ev
 obtain rfl:u=c9 f:=rv
 refine pq (h₀:=X.base) I.ok.mod.kin hk (gR (ha pos pins s1 σ H1 _ I1 q) fun us s2 ⟨vs,H2,I2,r,q2⟩=>⟨I2.Vj,?_⟩) he hpl
 exact QS (E:=E0) (dvs:=[]) F hr hb .nil wq I2 r (by rw[c7];exact q2)
def acg:R2:=fun x y H Q=>EX4 fun l b xs zs=>x=.ref l∧y=.ref b∧Rd H l (.lst xs)∧Rd H b (.lst zs)∧xs.length+zs.length≤ag∧∀p,H p=none→Q (.ref p) (upd H p (.lst (xs++zs)))
def gZ:Fi X (ui .Add) acg:=by
 intro pins s σ H x y v u Q I rx ry h
 obtain⟨l,b,xs,zs,rfl,rfl,hH,hB,hz,q⟩:=h
 cases rx
 cases ry
 obtain⟨z,its,n,r,e⟩:=hH.ok I.gX
 obtain⟨z2,its2,n2,r2,e2⟩:=hB.ok I.gX
 have hl:=r.length
 have hl2:=r2.length
 refine PySem.P.add_list e e2 ?_ (by rw[a8,a8];omega)
 have ea:its.toArray++its2.toArray=(its++its2).toArray:=by simp
 rw[ea]
 exact⟨.ref _,_,I.aeV (t':=s.toks) (r.append r2) (by rw[ae];omega),rfl,q _ I.fresh⟩
def aai:V→List V→Hp→VK→Prop:=fun x vs H Q=>∃l b xs zs,x=.ref l∧vs=[.ref b]∧H l=some (.lst xs)∧Rd H b (.lst zs)∧xs.length+zs.length≤ag∧Q .non (upd H l (.lst (xs++zs)))
def mw:MtM X "list.extend" aai:=by
 intro pins s σ H x vs v us Q I rx rv h
 obtain⟨l,b,xs,zs,rfl,rfl,hH,hB,hz,q⟩:=h
 cases rx
 obtain⟨u,rfl,ru⟩:=rv.one
 cases ru
 obtain⟨z,its,n,r,hl,e⟩:=I.acP hH
 obtain⟨z2,its2,n2,r2,e2⟩:=hB.ok I.gX
 have hl2:=r2.length
 have hsz:its.toArray.size+its2.toArray.size≤ag:=by rw[a8,a8];omega
 have hlong:¬(!its.toArray.isEmpty&&j3 (its.toArray.size+its2.toArray.size))=true:=by
  rw[S8 hsz,rK]
  exact bG
 refine GN GV ⟨_,e,rfl⟩ Fs (EE _ _)
  (AutoSeq1.list_extend_list_list_0 l its.toArray n b its2.toArray n2 hlong (by rw[a8];omega) (by omega)) ⟨e,e2,?_⟩
 refine⟨.non,_,I.acO (its':=its++its2) hH e (by simp) (r.append r2) ?_,rfl,q⟩
 rw[ae]
 omega
def V9 (K:aq):R2:=fun x y H Q=>EX4 fun a b xs ys=>x=.ref a∧y=.ref b∧iB K H a xs∧iB K H b ys∧xs.length+ys.length≤ag∧
 (xs=[]→Q (.ref b) H)∧(xs≠[]→ys=[]→Q (.ref a) H)∧(xs≠[]→ys≠[]→∀p,H p=none→Q (.ref p) (upd H p (.tup (xs++ys))))
def Ml:Fi X (ui .Add) (V9 X.K):=by
 intro pins s σ H x y v u Q I rx ry h
 obtain⟨a,b,xs,ys,rfl,rfl,ha,hb,hz,q0,q1,q2⟩:=h
 by_cases hx:xs=[]
 ·cases rx
  cases ry
  obtain⟨its,r1,p1,_⟩:=I.tuple ha
  obtain⟨its2,r2,p2,_⟩:=I.tuple hb
  obtain⟨⟨cls,dd,data,sl⟩,ho,hc,n,hd⟩:=id p1
  obtain⟨⟨cls2,dd2,data2,sl2⟩,ho2,hc2,n2,hd2⟩:=id p2
  simp only at hc hd hc2 hd2
  subst hc hd hc2 hd2
  have hv:its=[]:=r1.Lr.mpr hx
  exact Iz ⟨_,ho,rfl⟩ ⟨_,ho2,rfl⟩ AB FP rm pN (oB _ _)
   (tuple_addW0 a b its.toArray its2.toArray n n2 dd dd2 sl sl2 (by simp[hv])) ⟨ho,ho2,⟨.ref b,H,I,rfl,q0 hx⟩⟩
 ·exact abe pins s σ H _ _ v u Q I rx ry ⟨a,b,xs,ys,rfl,rfl,ha,hb,hx,hz,q1 hx,q2 hx⟩
def Fj {prog:cN} {w:dS} {A:PySem.Around} {E:ak→az→Prop} {s:az} {t sl:Addr} {items:Array ak} {vl vu:ak} {lo hi:Option Int} {Q:ak→az→Prop} (ht:IsTup s.heap t items) (hs:s.heap.IsSliceOf sl vl vu .none) (pl:IsPart vl lo) (pu:IsPart vu hi)
  (hw:HT.mh items.size 0 lo=0∧HT.mh items.size items.size hi=items.size) (h:Q (.ref t) s):bO (model prog w) A (vV (.ref t) (.ref sl)) Q E s:=by
 obtain⟨os,hos,hcs,hds⟩:=id hs
 have hTs:s.TypeIs (.ref sl) "slice":=⟨os,hos,hcs⟩
 unfold vV
 try with_reducible refine lX ?_
 first | refine ax (aY ?_) | skip
 refine ax (IA ht.typeIs (by decide) ?_)
 refine ax (kO (name:=Cc "__getitem__") ht.typeIs ee
  (je ee ht.typeIs entry_tuple_getitem ?_ (args_tuple_getitem _ _)))
 show bO _ _ (xR (.ref t) >>=_) _ _ s
 refine ax (tupleItemsOf_ ht ?_)
 refine ax (IB hTs ?_)
 rw[if_pos (by decide)]
 refine ax (HT.z5 hs pl pu ?_)
 have hyes:((((HT.mh items.size 0 lo:Nat):Int)==0&&(1:Int)==1&&(HT.mh items.size items.size hi - HT.mh items.size 0 lo)==items.size)=true):=by
  rw[hw.1,hw.2];simp
 show bO _ _ (if(((HT.mh items.size 0 lo:Nat):Int)==0&&(1:Int)==1&&(HT.mh items.size items.size hi - HT.mh items.size 0 lo)==items.size)=true then _ else _) _ _ s
 rw[if_pos hyes]
 unfold N1
 refine ax (ax (IB ht.typeIs (aY ?_)))
 rw[if_pos (by decide)]
 refine ax (wpAny_rule ?_)
 exact aY ⟨_,rfl,aY h⟩
def aej (K:aq):V→Option Int→Option Int→Hp→VK→Prop:=fun x lo hi H Q=>∃a xs,x=.ref a∧iB K H a xs∧
 ((HT.mh xs.length 0 lo=0∧HT.mh xs.length xs.length hi=xs.length)→Q (.ref a) H)∧
 (¬(HT.mh xs.length 0 lo=0∧HT.mh xs.length xs.length hi=xs.length)→∀p,H p=none→Q (.ref p) (upd H p (.tup (tJ xs lo hi))))
def Rh:SlR X (aej X.K):=by
 intro pins s σ H x v vl vu lo hi sl Q I rx hs pl pu h
 obtain⟨a,xs,rfl,hx,q1,q2⟩:=h
 by_cases hw:HT.mh xs.length 0 lo=0∧HT.mh xs.length xs.length hi=xs.length
 ·cases rx
  obtain⟨its,r,ht,hz⟩:=I.tuple hx
  have hlen:its.toArray.size=xs.length:=by rw[a8];exact r.length.symm
  refine⟨"tuple",_,ee.lookup,ht.typeIs,?_⟩
  exact Fj ht hs pl pu (by rw[hlen];exact hw) ⟨.ref a,H,I,rfl,q1 hw⟩
 ·exact acK pins s σ H _ v vl vu lo hi sl Q I rx hs pl pu ⟨a,xs,rfl,hx,hw,q2 hw⟩
inductive Fz (Q:Hp→Prop):Hp→Prop
 | done {H:Hp}:Q H→Fz Q H
 | iK {H:Hp} (d:Addr) (xs:List V):H d=some (.lst xs)→(∀o,Fz Q (upd H d (.iK o (.lst xs))))→Fz Q H
def Fz.run {Q:Hp→Prop} {pins:List (Addr×Obj)} {σ:L2.St} {H:Hp} {s:az} (h:Fz Q H):L2.Inv X pins σ H s→∃H',L2.Inv X pins σ H' s∧Q H':=by
 induction h with
 | done q=>exact fun I=>⟨_,I,q⟩
 | iK d xs e _ ih=>
  intro I
  obtain⟨od,I'⟩:=I.lock e trivial
  exact ih od I'
def ae4 (t:TE):TE:=fun σ H Q=>t σ H fun v H'=>Fz (Q v) H'
def Dn {t:TE} (h:PE X e t):PE X e (ae4 t):=fun pins s σ H Q I hq=>
 gR (h pins s σ H _ I hq) fun u s' ⟨v,H',I',r,q⟩=>let ⟨H2,I2,q2⟩:=q.run I';⟨v,H2,I2,r,q2⟩
def tFz (t:TS):TS:=fun D σ H=>t {nx:=fun σ' H'=>Fz (D.nx σ') H',rt:=fun v H'=>Fz (D.rt v) H',bk:=D.bk,ct:=D.ct} σ H
def Mm {st:List Stmt} {t:TS} (h:Vy X st t):Vy X st (tFz t):=by
 intro pins s σ H D I hq
 refine gR (h pins s σ H _ I hq) fun f s' q=>?_
 cases f with
 | next=>obtain⟨σ',H',I',q⟩:=q;obtain⟨H2,I2,q2⟩:=q.run I';exact⟨σ',H2,I2,q2⟩
 | brk=>exact q
 | cont=>exact q
 | ret u=>obtain⟨v,σ',H',I',r,q⟩:=q;obtain⟨H2,I2,q2⟩:=q.run I';exact⟨v,σ',H2,I2,r,q2⟩
end
def bR {H:Hp} {a:Addr} {o:HO} (h:H a=none):aM H (upd H a o):=fun b u e=>by rw[aD (a9 e h)];exact e
def cB {H H':Hp} {a:Addr} {o:HO} (s:aM H H') (h:H a=none):aM H (L2.upd H' a o):=fun b u e=>by rw[aD (a9 e h)];exact s b u e
def take_snoc {α:Type} {l:List α} {i:Nat} {x:α} (h:l[i]? =some x):l.take (i+1)=l.take i++[x]:=by rw[IJ,h];rfl
def Dq {σ:L2.St} {j:Nat} {v:Option V}:wipe ((wipe σ [j]).set j v) [j]=wipe σ [j]:=by
 show((σ.set j none).set j v).set j none=σ.set j none
 rw[Sy,Sy]
section
variable {K:aq} {a D:Addr} {xs:List V} {te:TE} {tt:TT} {σ:L2.St} {H1:Hp} {Qd:Hp→Prop} {j:Nat}
def zf (ys:List V) (hs:g6 K H1 a xs) (hD:H1 D=none) (hy:ys.length=xs.length) (hz:ys.length≤ag)
  (step:∀(i:Nat) (x y:V) (H:Hp) (Q:VK),xs[i]? =some x→ys[i]? =some y→aM H1 H→(∀H',aM H H'→Q y H')→te ((wipe σ [j]).set j (some x)) H Q)
  (hd:∀H',aM H1 H'→H' D=some (.lst ys)→Qd H'):
  ∃W:Nat→Nat→Hp→Prop,(∃m,W 0 m (upd H1 D (.lst [])))∧∀i m H,W i m H→
   ((PR K a).stop i H∧Qd H)∨((PR K a).go i H∧∃Nx:Hp→Prop,(∀H',Nx H'→∃m',m' < m∧W (i+1) m' H')∧∀x H',(PR K a).S0 i H x H'→tH j x (wipe σ [j]) H' fun σ2 H2=>wipe σ2 [j]=wipe σ [j]∧ZU σ2 H2 fun b H3=>
    if b=true then te σ2 H3 fun y H4=>∃acc,H4 D=some (.lst acc)∧acc.length < ag∧Nx (upd H4 D (.lst (acc++[y])))else Nx H3):=by
 refine QY (K:=K) (a:=a) (xs:=xs) (fun i H=>aM H1 H∧H D=some (.lst (ys.take i))) ⟨bR hD,by rw[af];rfl⟩ (fun i H _ h=>h.1.seq hs) (fun i x H hx h=>?_) fun H h=>hd H h.1 (by rw[h.2,← hy,cz])
 have hi:i < ys.length:=by rw[hy];exact(ay.mp hx).1
 have hyi:ys[i]? =some ys[i]:=cM hi
 refine⟨Dq,?_⟩
 dsimp only[ZU]
 rw[if_pos rfl]
 refine step i x ys[i] H _ hx hyi h.1 fun H' s'=>⟨ys.take i,s' _ _ h.2,by rw[cc];omega,cB (h.1.trans s') hD,?_⟩
 rw[af,take_snoc hyi]
def LB (ys:List (Option V)) (hs:g6 K H1 a xs) (hD:H1 D=none) (hy:ys.length=xs.length) (hz:ys.length≤ag)
  (test:∀(i:Nat) (x:V) (y:Option V) (H:Hp) (Q:Bool→Hp→Prop),xs[i]? =some x→ys[i]? =some y→aM H1 H→(∀H',aM H H'→Q y.isSome H')→tt ((wipe σ [j]).set j (some x)) H Q)
  (step:∀(i:Nat) (x y:V) (H:Hp) (Q:VK),xs[i]? =some x→ys[i]? =some (some y)→aM H1 H→(∀H',aM H H'→Q y H')→te ((wipe σ [j]).set j (some x)) H Q)
  (hd:∀H',aM H1 H'→H' D=some (.lst (ys.filterMap id))→Qd H'):
  ∃W:Nat→Nat→Hp→Prop,(∃m,W 0 m (upd H1 D (.lst [])))∧∀i m H,W i m H→
   ((PR K a).stop i H∧Qd H)∨((PR K a).go i H∧∃Nx:Hp→Prop,(∀H',Nx H'→∃m',m' < m∧W (i+1) m' H')∧∀x H',(PR K a).S0 i H x H'→tH j x (wipe σ [j]) H' fun σ2 H2=>wipe σ2 [j]=wipe σ [j]∧tt σ2 H2 fun b H3=>
    if b=true then te σ2 H3 fun y H4=>∃acc,H4 D=some (.lst acc)∧acc.length < ag∧Nx (upd H4 D (.lst (acc++[y])))else Nx H3):=by
 refine QY (K:=K) (a:=a) (xs:=xs) (fun i H=>aM H1 H∧H D=some (.lst ((ys.take i).filterMap id))) ⟨bR hD,by rw[af];rfl⟩ (fun i H _ h=>h.1.seq hs) (fun i x H hx h=>?_) fun H h=>hd H h.1 (by rw[h.2,← hy,cz])
 have hi:i < ys.length:=by rw[hy];exact(ay.mp hx).1
 have hyi:ys[i]? =some ys[i]:=cM hi
 refine⟨Dq,?_⟩
 refine test i x ys[i] H _ hx hyi h.1 fun H' s'=>?_
 cases e:ys[i]with
 | none=>
  refine wt ?_
  refine⟨h.1.trans s',?_⟩
  rw[s' _ _ h.2,take_snoc hyi,e,l4]
  simp
 | some y=>
  refine Ab ?_
  refine step i x y H' _ hx (by rw[hyi,e]) (h.1.trans s') fun H2 s2=>⟨(ys.take i).filterMap id,s2 _ _ (s' _ _ h.2),?_,cB ((h.1.trans s').trans s2) hD,?_⟩
  ·have:=zX id (ys.take i)
   rw[cc]at this
   omega
  ·rw[af,take_snoc hyi,e,l4]
   rfl
def aaj (ys:List (Option V)) (hs:iB K H1 a xs) (hsm:∀H,aM H1 H→iB K H a xs) (hD:H1 D=none) (hy:ys.length=xs.length) (hz:ys.length≤ag)
  (test:∀(i:Nat) (x:V) (y:Option V) (H:Hp) (Q:Bool→Hp→Prop),xs[i]? =some x→ys[i]? =some y→aM H1 H→(∀H',aM H H'→Q y.isSome H')→tt ((wipe σ [j]).set j (some x)) H Q)
  (step:∀(i:Nat) (x y:V) (H:Hp) (Q:VK),xs[i]? =some x→ys[i]? =some (some y)→aM H1 H→(∀H',aM H H'→Q y H')→te ((wipe σ [j]).set j (some x)) H Q)
  (hd:∀H',aM H1 H'→H' D=some (.lst (ys.filterMap id))→Qd H'):
  ∃W:Nat→Nat→Hp→Prop,(∃m,W 0 m (upd H1 D (.lst [])))∧∀i m H,W i m H→
   ((ZG K a).stop i H∧Qd H)∨((ZG K a).go i H∧∃Nx:Hp→Prop,(∀H',Nx H'→∃m',m' < m∧W (i+1) m' H')∧∀x H',(ZG K a).S0 i H x H'→tH j x (wipe σ [j]) H' fun σ2 H2=>wipe σ2 [j]=wipe σ [j]∧tt σ2 H2 fun b H3=>
    if b=true then te σ2 H3 fun y H4=>∃acc,H4 D=some (.lst acc)∧acc.length < ag∧Nx (upd H4 D (.lst (acc++[y])))else Nx H3):=by
 refine acS (K:=K) (a:=a) (xs:=xs) (fun i H=>aM H1 H∧H D=some (.lst ((ys.take i).filterMap id))) ⟨bR hD,by rw[af];rfl⟩ (fun i H _ h=>hsm H h.1) (fun i x H hx h=>?_) fun H h=>hd H h.1 (by rw[h.2,← hy,cz])
 have hi:i < ys.length:=by rw[hy];exact(ay.mp hx).1
 have hyi:ys[i]? =some ys[i]:=cM hi
 refine⟨Dq,?_⟩
 refine test i x ys[i] H _ hx hyi h.1 fun H' s'=>?_
 cases e:ys[i]with
 | none=>
  refine wt ?_
  refine⟨h.1.trans s',?_⟩
  rw[s' _ _ h.2,take_snoc hyi,e,l4]
  simp
 | some y=>
  refine Ab ?_
  refine step i x y H' _ hx (by rw[hyi,e]) (h.1.trans s') fun H2 s2=>⟨(ys.take i).filterMap id,s2 _ _ (s' _ _ h.2),?_,cB ((h.1.trans s').trans s2) hD,?_⟩
  ·have:=zX id (ys.take i)
   rw[cc]at this
   omega
  ·rw[af,take_snoc hyi,e,l4]
   rfl
end
section
variable {X:Cx} {K:aq} {e:Expr} {f:Str} {ta:TE} {pos:Pos}
def Ql (hK:X.K=K):Ct X (.builtin "len") (fun xs H Q=>∃p ys,xs=[.ref p]∧(g6 K H p ys∨iB K H p ys)∧Q (.int ys.length) H):=by subst hK;exact cX
def js (hK:X.K=K) (he:PE X e ta) (hb:lY e f X.env (eval e X.env)=eval e X.env):PE X (.Attribute e f pos) (aa8 K ta f):=by subst hK;exact aV he hb
def Mn (hK:X.K=K):Fi X (d8 .In) (rIn K false):=by subst hK;exact v8
def TY (hK:X.K=K):Fi X (ui .Add) (V9 K):=by subst hK;exact Ml
def abD (hK:X.K=K):IxR X (ad7 K):=by subst hK;exact fH
end
theorem Xt:∀{xs:List V} {us:List ak},xs.length=us.length→(∀(j:Nat) (x:V) (u:ak),xs[j]? =some x→us[j]? =some u→RelV x u)→Vals xs us
 | [],[],_,_=>.nil
 | x::xs,u::us,hl,h=>.cons (h 0 x u rfl rfl) (Xt (by simpa using hl) fun j x' u' hx hu=>h (j+1) x' u' (by simpa using hx) (by simpa using hu))
 | [],_::_,hl,_=>by simp at hl
 | _::_,[],hl,_=>by simp at hl
section
variable {X:Cx}
def adi:List V→Hp→VK→Prop:=fun xs H Q=>∃d kvs,xs=[.ref d]∧Rd H d (.dK kvs)∧∀l,H l=none→Q (.ref l) (upd H l (.lst (kvs.map fun kv=>kV kv.1)))
def Mo (hc:X.calm=true):Ct X (.type "list") adi:=by
 intro pins s σ H xs us Q I r h
 obtain⟨d,kvs,rfl,hd,q⟩:=h
 obtain⟨u,rfl,rx⟩:=vals1 r
 cases rx
 obtain⟨hz,lo,vs,rel,dd⟩:=G5 I.gX hd
 obtain⟨ep,hat⟩:=dd.dictAt
 refine PySem.W.kdl_call (PySem.W.kdl_dict (knd:=ik X.prog X.w) (kvs:=vs) (ep:=ep) lo) (I.ok.hd hc) hat (by rw[← rel.length];exact hz) fun h' tk acc' c' hk hS hacc=>?_
 have hv:Vals (kvs.map fun kv=>kV kv.1) acc'.toList:=by
  have el:acc'.toList.length=vs.length:=by rw[← hacc.1];exact j9 ..
  refine Xt (by rw[el,ab,rel.length]) fun j x u hx hu=>?_
  obtain⟨k,y,e,hk⟩:=hacc.2 j u (by rw[← Array.getElem?_toList];exact hu)
  have ek:=congrArg (fun l:List Key=>l[j]?) rel.keys
  simp only[b0,e,oU]at ek
  rw[b0]at hx
  cases e2:kvs[j]? with
  | none=>rw[e2]at hx;cases hx
  | some kv=>
   rw[e2]at hx ek
   cases (bu hx).symm
   cases (bu ek)
   exact Tn hk
 exact⟨.ref s.heap.objs.size,_,I.laid (t':=tk) (fun b o e=>hk b o e) (aJ _) (show jw X.prog X.w _ h' _ (.lst (kvs.map fun kv=>kV kv.1))from⟨by rw[ab];exact hz,acc'.toList,c',hv,by simpa using hS⟩),rfl,q _ (I.gX.fresh (aJ _))⟩
def aak (K:aq):List V→Hp→VK→Prop:=fun vs H Q=>∃(a:Addr) (ns:List Int),vs=[V.ref a]∧iB K H a (ns.map V.int)∧
 ∀(ns':List Int) (p:Addr),ns'.Perm ns→ns'.Pairwise (·≤·)→H p=none→Q (.ref p) (upd H p (.lst (ns'.map V.int)))
def A3:Ct X (.builtin "sorted") (aak X.K):=by
 intro pins s σ H vs us Q I r h
 obtain⟨a,ns,rfl,hs,q⟩:=h
 obtain⟨its,rv,⟨o,ho,hc,n,hd⟩,hz⟩:=I.tuple hs
 rw[Vals.abh r]
 have hi:=rv.ints
 have hl:=rv.length
 refine Calls.call_function_entry kind_sorted plain_sorted entry_sorted (args_sorted1 _) (ax (m:=checkCount "sorted" 1 1 _) (aY (ax (wpAny_collect_seq a (.inr rfl) ho hc hd (fun h1 k1=>ax (wpAny_newList ?_)) (by rw[a8];omega)))))
 have I1:Inv X pins σ H {s with heap:=h1}:=I.kept (t':=s.toks) k1
 have hoL:(h1.push (seqObj "list" its.toArray 0)).get? h1.objs.size=some (seqObj "list" its.toArray 0):=b4 _ rfl
 refine ax (lX (je slot_list_sort ⟨_,hoL,rfl⟩ entry_list_sort (list_sort_treeAny hoL hi (by omega) fun out ns' g1 g2 g3=>⟨_,rfl,aY ⟨_,rfl,?_⟩⟩) (args_list_sort _)))
 obtain⟨ep,he⟩:=sortedHeap_at (vs:=its) (out:=out) hoL
 have hlen:(ns'.map V.int).length≤ag:=by rw[ab]at hz⊢;rw[g2.length_eq];exact hz
 refine⟨.ref h1.objs.size,upd H h1.objs.size (.lst (ns'.map V.int)),I1.laid (t':=s.toks) (fun b u hu=>?_) (aJ _) ⟨hlen,out.toList,ep,G3 g1,he⟩,rfl,q ns' _ g2 g3 (I1.gX.fresh (aJ _))⟩
 have lt:=cp hu
 rw[sortedHeap_old (cI lt) (by rw[size_push'];exact jQ lt)]
 exact bp _ hu
def aal (K:aq):V→List V→Hp→VK→Prop:=fun x vs H Q=>∃l b xs zs,x=.ref l∧vs=[.ref b]∧H l=some (.lst xs)∧H b=some (.tup zs)∧xs.length+zs.length≤ag∧Q .non (upd H l (.lst (xs++zs)))
def Wa:MtM X "list.extend" (aal X.K):=by
 intro pins s σ H x vs v us Q I rx rv h
 obtain⟨l,b,xs,zs,rfl,rfl,hH,hB,hz,q⟩:=h
 cases rx
 obtain⟨u,rfl,ru⟩:=rv.one
 cases ru
 obtain⟨z,its,n,r,hl,e⟩:=I.acP hH
 obtain⟨z2,its2,r2,n2,e2⟩:=(show jw X.prog X.w H s.heap b (.tup zs)from I.gX b _ hB)
 have hl2:=r2.length
 have hsz:its.toArray.size+its2.toArray.size≤ag:=by rw[a8,a8];omega
 have hlong:¬(!its.toArray.isEmpty&&j3 (its.toArray.size+its2.toArray.size))=true:=by
  rw[S8 hsz,rK]
  exact bG
 refine GN GV ⟨_,e,rfl⟩ Fs (EE _ _)
  (AutoSeq1.list_extend_list_tuple_0 l its.toArray n b its2.toArray n2 hlong (by rw[a8];omega) (by omega)) ⟨e,e2,?_⟩
 refine⟨.non,_,I.acO (its':=its++its2) hH e (by simp) (r.append r2) ?_,rfl,q⟩
 rw[ae]
 omega
def OB (t:Addr) (items:Array ak) (n:Nat) (x:ak) (e:ak→Bool) (j:Nat) (hj:j < items.size) (hit:e items[j]=true) (hno:∀m (hm:m < items.size),m < j→e items[m]=false):
  Meets (Builtin.«tuple.index» ⟨[.ref t,x],[]⟩) (fun A R s=>s.heap.get? t=some {cls:=.type "tuple",data:=.seq items n}∧(∀y,y∈items→NQ A.in1 s y x (e y))∧R (.ok (.ret (.int j s.toks))) {s with toks:=s.toks+1}):=
 .of_wp fun prog w A R s h=>by
  obtain⟨hl,he,h⟩:=h
  have ht:IsTup s.heap t items:=⟨_,hl,rfl,n,rfl⟩
  unfold Builtin.«tuple.index»
  refine ax (m:=selfAndSome "tuple.index" "index" 1 3 ⟨[.ref t,x],[]⟩) (aY ?_)
  refine ax (tupleItemsOf_ ht ?_)
  dsimp only
  refine ax (aY (ax (aY (ax ?_))))
  rw[iV,EF]
  simp only[SN,SA,pA,Nat.div_one]
  refine wpAny_forIn_list _ (fun rest b s'=>b.1=none∧s'=s∧∃i,rest=kW i (items.size - i)∧i≤j) _ ?_ ?_ _ _ ⟨rfl,rfl,0,by simp,bZ _⟩
  ·rintro i rest b s' ⟨hb,rfl,k,hr,hk⟩
   rw[show items.size - k=(items.size - (k+1))+1 by omega,sN]at hr
   injection hr with h1 h2
   subst h1
   have hi:i < items.size:=by omega
   rw[yf hi]
   refine ax (he _ (Array.getElem_mem hi) prog w _ _ ?_)
   rcases nA i j with lt | ge
   ·rw[hno i hi lt]
    exact aY ⟨rfl,rfl,i+1,h2,lt⟩
   ·have ij:i=j:=by omega
    subst ij
    rw[hit]
    refine ax ?_
    unfold retInt
    exact ax (wpAny_mkInt (aY (aY (aY ⟨_,rfl,h⟩))))
  ·rintro b s' ⟨hb,rfl,k,hr,hk⟩
   rw[show items.size - k=(items.size - (k+1))+1 by omega,sN]at hr
   cases hr
def abE:V→List V→Hp→VK→Prop:=fun x xs H Q=>∃(a:Addr) (ys:List V) (y:V) (j:Nat) (z:V),x=V.ref a∧xs=[y]∧H a=some (.tup ys)∧z6 y=true∧ys.all z6=true∧ys[j]? =some z∧ZQ z y=true∧
 (∀(m:Nat) (z':V),m < j→ys[m]? =some z'→ZQ z' y=false)∧Q (.int (j:Nat)) H
def YH:MtR X "tuple.index" abE:=by
 intro pins s σ H x xs v us Q I rx rxs h
 obtain⟨a,ys,y,j,z,rfl,rfl,hs,fy,fys,hz,hzj,hno,q⟩:=h
 cases rx
 cases rxs with
 | cons ry rt=>
  rename_i uy ut
  cases rt
  obtain⟨_,its,rv,n,ho⟩:=(show jw X.prog X.w H s.heap a (.tup ys)from I.gX a _ hs)
  obtain⟨u,hu,ru⟩:=rv.get hz
  obtain⟨hjl,hje⟩:=ay.mp hu
  have hvl:=rv.length
  have hj:j < its.toArray.size:=by simpa using hjl
  refine GN zY ⟨_,ho,rfl⟩ PySem.F.entry_tuple_index (PySem.F.args_tuple_index_2 _ _)
   (OB a its.toArray n uy (Vk y) j hj ?_ ?_) ⟨ho,fun u' hu'=>z7 ry fy rv fys u' (by simpa using hu'),?_⟩
  ·have e1:its.toArray[j]=u:=by simpa using hje
   rw[e1,QU ru (Xc fys hz)]
   exact hzj
  ·intro m hm hmj
   have hml:m < its.length:=by simpa using hm
   have hmy:m < ys.length:=by omega
   have hy':ys[m]? =some ys[m]:=cM hmy
   obtain⟨u2,hu2,ru2⟩:=rv.get hy'
   obtain⟨_,hme⟩:=ay.mp hu2
   have e1:its.toArray[m]=u2:=by simpa using hme
   rw[e1,QU ru2 (Xc fys hy')]
   exact hno m _ hmj hy'
  ·exact⟨.int (j:Nat),H,I.tok _,⟨_,rfl⟩,q⟩
def ae5 (r:V→List V→Hp→VK→Prop) (to:TE) (t:TA):TE:=fun σ H Q=>to σ H fun x H1=>EX2 fun p ys=>x=.ref p∧H1 p=some (.tup ys)∧t σ H1 fun xs H2=>r x xs H2 Q
def adj {o e:Expr} {es:List Expr} {to:TE} {t:TA} {name:Str} {apos g8:Pos} {id:String} {r:V→List V→Hp→VK→Prop} (slot:Slot "tuple" name id) (hty:typeOf (.builtin id)=pure (.type "method_descriptor")) (hm:MtR X id r) (ho:PE X o to) (ha:PA X (e::es) t)
  (hbase:lY o name X.env (eval o X.env)=eval o X.env:=by rfl)
  (hfew:((iH g8 (cw (e::es) X.env)).all (fun x=>!x.1)&&(rj g8 (jP [] X.env)).all (fun x=>x.1.isSome)
   &&decide ((e::es).length+([]:List yY).length+(if([]:List yY).isEmpty then 0 else 1) < 30))=true:=by rfl)
  (hline:(apos.endLine==g8.line)=true:=by rfl) (hs:cw (e::es) X.env=(false,eval e X.env)::cw es X.env:=by rfl) (hplain:(iH g8 (cw es X.env)).any (·.1)=false:=by rfl):
  PE X (.Call (.Attribute o name apos) (e::es) [] g8) (ae5 r to t):=by
 intro pins s σ H Q I h
 refine Cf hbase hfew hline rfl (gR (ho pins s σ H _ I h) fun v s1 ⟨x,H1,I1,r1,p,ys,ex,hp,q1⟩=>?_)
 subst ex
 cases r1
 obtain⟨_,its,rv,n,hob⟩:=(show jw X.prog X.w H1 s1.heap p (.tup ys)from I1.gX p _ hp)
 refine⟨"tuple",id,PySem.F.plainAttrs_tuple,slot,hty,⟨_,hob,rfl⟩,fun a e=>?_,?_⟩
 ·cases e
  exact⟨_,hob,rfl⟩
 have hA:=ha g8 pins s1 σ H1 _ I1 q1
 rw[hs]at hA⊢
 refine la (by show(false||(iH g8 (cw es X.env)).any (·.1))=false;rw[hplain] <;> rfl) (mW ?_)
 exact gR hA fun us s2 ⟨vs,H2,I2,r2,q2⟩=>hm pins s2 σ H2 (.ref p) vs (.ref p) us Q I2 rfl r2 q2
end
def TZ {d:Addr} {o:Obj} {kvs:List (Key×V)} {g:TG} {tb:TS} {D:Ends} {σ:L2.St} {H:Hp} (Pv:Nat→L2.St→Hp→Prop) (h0:Pv 0 σ H) (hl:∀i σ H,i≤kvs.length→Pv i σ H→H d=some (.iK o (.dK kvs)))
  (hs:∀i k v σ H,kvs[i]? =some (k,v)→Pv i σ H→g (kV k) σ H fun σ2 H2=>tb {D with nx:=Pv (i+1),ct:=Pv (i+1),bk:=D.nx} σ2 H2) (hd:∀σ H,Pv kvs.length σ H→D.nx σ H):
  ∃W:Nat→Nat→L2.St→Hp→Prop,(∃m,W 0 m σ H)∧∀i m σ H,W i m σ H→
   ((Z2 d o kvs).stop i H∧D.nx σ H)∨((Z2 d o kvs).go i H∧∃N:L2.St→Hp→Prop,(∀σ' H',N σ' H'→∃m',m' < m∧W (i+1) m' σ' H')∧∀x H',(Z2 d o kvs).S0 i H x H'→g x σ H' fun σ2 H2=>tb {D with nx:=N,ct:=N,bk:=D.nx} σ2 H2):=by
 refine⟨fun i m σ H=>m=kvs.length - i∧i≤kvs.length∧Pv i σ H,⟨kvs.length,by simp,bZ _,h0⟩,?_⟩
 rintro i m σ H ⟨rfl,hi,p⟩
 have q:=hl i σ H hi p
 by_cases hlt:i < kvs.length
 ·refine .inr ⟨⟨q,hlt⟩,Pv (i+1),fun σ' H' p'=>⟨kvs.length - (i+1),by omega,rfl,hlt,p'⟩,fun x H' y=>?_⟩
  obtain⟨e,k,v,ek,ex⟩:=y
  subst e ex
  exact hs i k v σ _ ek p
 ·have e:i=kvs.length:=by omega
  subst e
  exact .inl ⟨⟨q,aJ _⟩,hd σ H p⟩
def YI {d:Addr} {o:Obj} {kvs:List (List Key×V)} {g:TG} {tb:TS} {D:Ends} {σ:L2.St} {H:Hp} (Pv:Nat→L2.St→Hp→Prop) (h0:Pv 0 σ H) (hl:∀i σ H,i≤kvs.length→Pv i σ H→H d=some (.iK o (.dT kvs)))
  (hs:∀i k v p σ H,kvs[i]? =some (k,v)→H p=some (.tup (k.map kV))→Pv i σ H→g (.ref p) σ H fun σ2 H2=>tb {D with nx:=Pv (i+1),ct:=Pv (i+1),bk:=D.nx} σ2 H2) (hd:∀σ H,Pv kvs.length σ H→D.nx σ H):
  ∃W:Nat→Nat→L2.St→Hp→Prop,(∃m,W 0 m σ H)∧∀i m σ H,W i m σ H→
   ((Z3 d o kvs).stop i H∧D.nx σ H)∨((Z3 d o kvs).go i H∧∃N:L2.St→Hp→Prop,(∀σ' H',N σ' H'→∃m',m' < m∧W (i+1) m' σ' H')∧∀x H',(Z3 d o kvs).S0 i H x H'→g x σ H' fun σ2 H2=>tb {D with nx:=N,ct:=N,bk:=D.nx} σ2 H2):=by
 refine⟨fun i m σ H=>m=kvs.length - i∧i≤kvs.length∧Pv i σ H,⟨kvs.length,by simp,bZ _,h0⟩,?_⟩
 rintro i m σ H ⟨rfl,hi,p⟩
 have q:=hl i σ H hi p
 by_cases hlt:i < kvs.length
 ·refine .inr ⟨⟨q,hlt⟩,Pv (i+1),fun σ' H' p'=>⟨kvs.length - (i+1),by omega,rfl,hlt,p'⟩,fun x H' y=>?_⟩
  obtain⟨e,k,v,pp,ek,ex,hp⟩:=y
  subst e ex
  exact hs i k v pp σ _ ek hp p
 ·have e:i=kvs.length:=by omega
  subst e
  exact .inl ⟨⟨q,aJ _⟩,hd σ H p⟩
def abF {d:Addr} {o:Obj} {kvs:List (Key×V)} {g:TG} {tt:TT} {te:TE} {vs:List Nat} {σ:L2.St} {H1:Hp} {D:Addr} {Qd:Hp→Prop} (Pv:Nat→Hp→Prop) (h0:Pv 0 (upd H1 D (.lst []))) (hl:∀i H,i≤kvs.length→Pv i H→H d=some (.iK o (.dK kvs)))
  (hs:∀i k v H,kvs[i]? =some (k,v)→Pv i H→g (kV k) (wipe σ vs) H fun σ2 H2=>wipe σ2 vs=wipe σ vs∧tt σ2 H2 fun b H3=>
   if b=true then te σ2 H3 fun y H4=>∃acc,H4 D=some (.lst acc)∧acc.length < ag∧Pv (i+1) (upd H4 D (.lst (acc++[y])))else Pv (i+1) H3) (hd:∀H,Pv kvs.length H→Qd H):
  ∃W:Nat→Nat→Hp→Prop,(∃m,W 0 m (upd H1 D (.lst [])))∧∀i m H,W i m H→
   ((Z2 d o kvs).stop i H∧Qd H)∨((Z2 d o kvs).go i H∧∃Nx:Hp→Prop,(∀H',Nx H'→∃m',m' < m∧W (i+1) m' H')∧∀x H',(Z2 d o kvs).S0 i H x H'→g x (wipe σ vs) H' fun σ2 H2=>wipe σ2 vs=wipe σ vs∧tt σ2 H2 fun b H3=>
    if b=true then te σ2 H3 fun y H4=>∃acc,H4 D=some (.lst acc)∧acc.length < ag∧Nx (upd H4 D (.lst (acc++[y])))else Nx H3):=by
 refine⟨fun i m H=>m=kvs.length - i∧i≤kvs.length∧Pv i H,⟨kvs.length,by simp,bZ _,h0⟩,?_⟩
 rintro i m H ⟨rfl,hi,p⟩
 have q:=hl i H hi p
 by_cases hlt:i < kvs.length
 ·refine .inr ⟨⟨q,hlt⟩,Pv (i+1),fun H' p'=>⟨kvs.length - (i+1),by omega,rfl,hlt,p'⟩,fun x H' y=>?_⟩
  obtain⟨e,k,v,ek,ex⟩:=y
  subst e ex
  exact hs i k v _ ek p
 ·have e:i=kvs.length:=by omega
  subst e
  exact .inl ⟨⟨q,aJ _⟩,hd H p⟩
local macro_rules | `(tactic| trivial)=>`(tactic| exact⟨rfl,rfl,rfl,by decide+kernel,rfl,by decide+kernel,by decide+kernel⟩)
def top (i:Nat):Stmt:=CO.main.body.getD i (.Pass ⟨0,0,0,0⟩)
structure Def (K:aq) (mg:Str→Option ak) (x:Str) (st:Stmt) (ps:List Str) (f:Addr) (fd:aG):Prop where
 fn:Fun K x x st f fd
 b:Binds K fd ps []
 mg:mg x=some (.ref f)
structure o4 (K:aq) (C:Addr) (m qual:Str) (st:Stmt) (ps:List Str) (f:Addr) (fd:aG):Prop where
 fn:Fun K m qual st f fd
 b:Binds K fd ps []
 m:Meth K C m f
abbrev Jb:Stmt:=top 2
abbrev YJ:List Str:=["numbers","number","index"]
abbrev rV:List Str:=["numbers","number"]
def Mp:aW YJ rV (aH Jb):=by trivial
abbrev wD:Stmt:=top 3
abbrev Mq:List Str:=["row","stretch"]
abbrev fq:List Str:=["row"]
def uu:aW Mq fq (aH wD):=by trivial
abbrev zg:Stmt:=top 4
abbrev OC:List Str:=["row","stretch"]
abbrev fW:List Str:=["row"]
def wF:aW OC fW (aH zg):=by trivial
abbrev F2:Stmt:=top 5
abbrev Wb:List Str:=["row","signs","stretch"]
abbrev rW:List Str:=["row"]
def Dr:aW Wb rW (aH F2):=by trivial
abbrev zh:Stmt:=top 6
abbrev OD:List Str:=["row","stretch"]
abbrev jU:List Str:=["row"]
def wG:aW OD jU (aH zh):=by trivial
abbrev A4:Stmt:=top 7
abbrev Ri:List Str:=["row","place","index","left"]
abbrev k0:List Str:=["row","place"]
def nV:aW Ri k0 (aH A4):=by trivial
abbrev A5:Stmt:=top 8
abbrev Rj:List Str:=["row","place"]
abbrev m5:List Str:=["row","place"]
def OE:aW Rj m5 (aH A5):=by trivial
abbrev zi:Stmt:=top 9
abbrev OF:List Str:=["row","index","offset","stretch","size","front","back"]
abbrev lK:List Str:=["row","index","offset"]
def kl:aW OF lK (aH zi):=by trivial
abbrev zj:Stmt:=top 10
abbrev OG:List Str:=["row","place","found"]
abbrev lL:List Str:=["row","place"]
def Ds:aW OG lL (aH zj):=by trivial
abbrev zk:Stmt:=top 11
abbrev OH:List Str:=["row","place","found"]
abbrev nW:List Str:=["row","place"]
def Dt:aW OH nW (aH zk):=by trivial
abbrev zm:Stmt:=top 12
abbrev OI:List Str:=["row","p","q","halves","front"]
abbrev hE:List Str:=["row","p","q"]
def wH:aW OI hE (aH zm):=by trivial
abbrev A6:Stmt:=top 13
abbrev Rk:List Str:=["row","place","stretches","halves"]
abbrev m6:List Str:=["row","place","stretches"]
def Fy:aW Rk m6 (aH A6):=by trivial
abbrev F3:Stmt:=top 15
abbrev Wc:List Str:=["sheet","p","q"]
abbrev o5:List Str:=["sheet","p","q"]
def T2:aW Wc o5 (aH F3):=by trivial
abbrev zo:Stmt:=top 16
abbrev OJ:List Str:=["sheet","c","p","q","parts","laid","stretch"]
abbrev jV:List Str:=["sheet","c","p","q"]
def pW:aW OJ jV (aH zo):=by trivial
abbrev wI:Stmt:=top 17
abbrev Mr:List Str:=["sheet","b","p","q","parts","laid","stretch"]
abbrev my:List Str:=["sheet","b","p","q"]
def oG:aW Mr my (aH wI):=by trivial
abbrev wJ:Stmt:=top 18
abbrev Ms:List Str:=["sheet","c","carriers","stretch"]
abbrev km:List Str:=["sheet","c"]
def lp:aW Ms km (aH wJ):=by trivial
abbrev uv:Stmt:=top 19
abbrev KP:List Str:=["sheet","b","carriers","stretch"]
abbrev lq:List Str:=["sheet","b"]
def ku:aW KP lq (aH uv):=by trivial
abbrev uw:Stmt:=top 20
abbrev KQ:List Str:=["carried","different","numbers","found","number"]
abbrev jB:List Str:=["carried"]
def ja:aW KQ jB (aH uw):=by trivial
abbrev Du:Stmt:=top 24
abbrev T3:List Str:=["number"]
abbrev pF:List Str:=["number"]
def Rl:aW T3 pF (aH Du):=by trivial
abbrev Jc:Stmt:=top 25
abbrev YK:List Str:=["number"]
abbrev Ah:List Str:=["number"]
def Wd:aW YK Ah (aH Jc):=by trivial
abbrev Dv:Stmt:=top 26
abbrev T4:List Str:=["numbers","number"]
abbrev tP:List Str:=["numbers"]
def A7:aW T4 tP (aH Dv):=by trivial
abbrev wK:Stmt:=top 27
abbrev Mu:List Str:=["numbers","number"]
abbrev kx:List Str:=["numbers"]
def ux:aW Mu kx (aH wK):=by trivial
abbrev pX:Stmt:=top 28
abbrev Hi:List Str:=["number"]
abbrev jK:List Str:=["number"]
def F4:aW Hi jK (aH pX):=by trivial
abbrev Jd:Stmt:=top 29
abbrev YL:List Str:=["numbers","number"]
abbrev Ai:List Str:=["numbers"]
def F5:aW YL Ai (aH Jd):=by trivial
abbrev uz:Stmt:=top 31
abbrev KR:List Str:=["sheet","name","b"]
abbrev iD:List Str:=["sheet","name"]
def Aj:aW KR iD (aH uz):=by trivial
abbrev uA:Stmt:=top 32
abbrev KS:List Str:=["sheet","p","q","name"]
abbrev oH:List Str:=["sheet","p","q","name"]
def Je:aW KS oH (aH uA):=by trivial
abbrev Mv:Stmt:=top 33
abbrev aam:List Str:=["sheet","name","b"]
abbrev Hj:List Str:=["sheet","name"]
def Qm:aW aam Hj (aH Mv):=by trivial
abbrev uB:Stmt:=top 34
abbrev KU:List Str:=["row","ends","place","stretch","behind","b","first"]
abbrev jC:List Str:=["row"]
def gw:aW KU jC (aH uB):=by trivial
abbrev We:Stmt:=top 35
abbrev adk:List Str:=["sheet","name","b","ends"]
abbrev Rm:List Str:=["sheet","name"]
def Rn:aW adk Rm (aH We):=by trivial
abbrev zp:Stmt:=top 36
abbrev OK:List Str:=["sheet","carried","b","stretch"]
abbrev nX:List Str:=["sheet"]
def mz:aW OK nX (aH zp):=by trivial
abbrev zq:Stmt:=top 38
abbrev OL:List Str:=["sheet"]
abbrev i3:List Str:=["sheet"]
def Mw:aW OL i3 (aH zq):=by trivial
abbrev wL:Stmt:=top 39
abbrev Dx:List Str:=["stretch","change"]
abbrev mB:List Str:=["stretch","change"]
def KW:aW Dx mB (aH wL):=by trivial
abbrev wM:Stmt:=top 40
abbrev My:List Str:=["sheet","change","stretch"]
abbrev jk:List Str:=["sheet"]
def oI:aW My jk (aH wM):=by trivial
abbrev Mz:Stmt:=top 41
abbrev aan:List Str:=["sheet","stretch"]
abbrev Dy:List Str:=["sheet","stretch"]
def YM:aW aan Dy (aH Mz):=by trivial
abbrev A8:Stmt:=top 42
abbrev Ro:List Str:=["sheet","stretch"]
abbrev m7:List Str:=["sheet","stretch"]
def OM:aW Ro m7 (aH A8):=by trivial
abbrev Jf:Stmt:=top 43
abbrev YN:List Str:=["some","others","mark"]
abbrev Ak:List Str:=["some","others"]
def F6:aW YN Ak (aH Jf):=by trivial
abbrev zr:Stmt:=top 44
abbrev ON:List Str:=["sheet","p","signs","insertions","left","right","comments","bookmarks"]
abbrev nY:List Str:=["sheet","p","signs"]
def kC:aW ON nY (aH zr):=by trivial
abbrev aao:Stmt:=top 45
abbrev aek:List Str:=["sheet","p","signs"]
abbrev T5:List Str:=["sheet","p","signs"]
def adl:aW aek T5 (aH aao):=by trivial
abbrev zt:Stmt:=top 46
abbrev OO:List Str:=["sheet","stretches","deletions","left","stretch"]
abbrev lM:List Str:=["sheet","stretches"]
def pY:aW OO lM (aH zt):=by trivial
abbrev wN:Stmt:=top 47
abbrev MA:List Str:=["sheet","stretches","change","brought","stretch"]
abbrev mC:List Str:=["sheet","stretches"]
def oJ:aW MA mC (aH wN):=by trivial
abbrev aap:Stmt:=top 48
abbrev ael:List Str:=["sheet","p","q","parts"]
abbrev T6:List Str:=["sheet","p","q"]
def aaq:aW ael T6 (aH aap):=by trivial
abbrev Wf:Stmt:=top 49
abbrev adm:List Str:=["sheet","p","q","r","last","parts","left","brought"]
abbrev MB:List Str:=["sheet","p","q","r"]
def Hk:aW adm MB (aH Wf):=by trivial
abbrev F7:Stmt:=top 56
abbrev Wg:List Str:=["row"]
abbrev rX:List Str:=["row"]
def T7:aW Wg rX (aH F7):=by trivial
abbrev F8:Stmt:=top 57
abbrev Wh:List Str:=["sheet","p","q"]
abbrev rY:List Str:=["sheet","p","q"]
def T8:aW Wh rY (aH F8):=by trivial
abbrev wO:Stmt:=top 58
abbrev MC:List Str:=["sheet","p","q","text","c"]
abbrev pZ:List Str:=["sheet","p","q","text"]
def Cz:aW MC pZ (aH wO):=by trivial
abbrev Rp:Stmt:=top 59
abbrev abG:List Str:=["sheet","c","text","comment"]
abbrev LC:List Str:=["sheet","c","text"]
def T9:aW abG LC (aH Rp):=by trivial
abbrev Rq:Stmt:=top 60
abbrev abH:List Str:=["sheet","c","on","comment"]
abbrev LD:List Str:=["sheet","c","on"]
def Ua:aW abH LD (aH Rq):=by trivial
abbrev Wi:Stmt:=top 61
abbrev adn:List Str:=["sheet","c"]
abbrev Rr:List Str:=["sheet","c"]
def abI:aW adn Rr (aH Wi):=by trivial
abbrev F9:Stmt:=top 62
abbrev Wj:List Str:=["sheet","c","p","q","comment"]
abbrev A9:List Str:=["sheet","c","p","q"]
def Ko:aW Wj A9 (aH F9):=by trivial
abbrev Dz:Stmt:=top 63
abbrev Ub:List Str:=["sheet","c","stretch"]
abbrev tQ:List Str:=["sheet","c"]
def Ba:aW Ub tQ (aH Dz):=by trivial
abbrev Bb:Stmt:=top 64
abbrev Rt:List Str:=["signs","wanted","size","place"]
abbrev p0:List Str:=["signs","wanted"]
def zu:aW Rt p0 (aH Bb):=by trivial
abbrev MD:Stmt:=top 65
abbrev aar:List Str:=["sheet","c","quote","p","q"]
abbrev Hl:List Str:=["sheet","c"]
def EO:aW aar Hl (aH MD):=by trivial
abbrev nN:Stmt:=top 67
abbrev Fl:List Str:=["sheet","c"]
abbrev gO:List Str:=["sheet","c"]
def DA:aW Fl gO (aH nN):=by trivial
abbrev Ga:Stmt:=top 68
abbrev Wk:List Str:=["changes","c"]
abbrev rZ:List Str:=["changes","c"]
def Uc:aW Wk rZ (aH Ga):=by trivial
abbrev Jg:Stmt:=top 69
abbrev YO:List Str:=["changes","c"]
abbrev wa:List Str:=["changes","c"]
def Wl:aW YO wa (aH Jg):=by trivial
abbrev ME:Stmt:=top 70
abbrev aas:List Str:=["sheet","c","before","kept","stretch"]
abbrev DB:List Str:=["sheet","c"]
def wb:aW aas DB (aH ME):=by trivial
abbrev MF:Stmt:=top 71
abbrev aat:List Str:=["sheet","c","before","kept","stretch"]
abbrev DC:List Str:=["sheet","c"]
def wc:aW aat DC (aH MF):=by trivial
abbrev Bc:Stmt:=top 73
abbrev Ru:List Str:=["sheet","a"]
abbrev p7:List Str:=["sheet","a"]
def OP:aW Ru p7 (aH Bc):=by trivial
abbrev DD:Stmt:=top 74
abbrev Ud:List Str:=["sheet","t"]
abbrev tR:List Str:=["sheet","t"]
def Rv:aW Ud tR (aH DD):=by trivial
abbrev wQ:Stmt:=top 75
abbrev MG:List Str:=["sheet","on"]
abbrev mD:List Str:=["sheet","on"]
def KY:aW MG mD (aH wQ):=by trivial
abbrev Jh:Stmt:=top 77
abbrev YQ:List Str:=["numbers"]
abbrev kD:List Str:=["numbers"]
def Wm:aW YQ kD (aH Jh):=by trivial
abbrev wR:Stmt:=top 78
abbrev MH:List Str:=["shown","pieces"]
abbrev mE:List Str:=["shown","pieces"]
def KZ:aW MH mE (aH wR):=by trivial
abbrev Bd:Stmt:=top 79
abbrev Rw:List Str:=["sheet","c","comment","carriers","shown","pieces","is_quote","stretch"]
abbrev vj:List Str:=["sheet","c"]
def jW:aW Rw vj (aH Bd):=by trivial
abbrev zw:Stmt:=top 80
abbrev OQ:List Str:=["sheet","c","comment","told","answer"]
abbrev sQ:List Str:=["sheet","c"]
def p9:aW OQ sQ (aH zw):=by trivial
abbrev Gb:Stmt:=top 81
abbrev Wn:List Str:=["row","c","spots","place","stretch","behind"]
abbrev wU:List Str:=["row","c"]
def pG:aW Wn wU (aH Gb):=by trivial
abbrev Be:Stmt:=top 82
abbrev Rx:List Str:=["sheet","c","spots"]
abbrev vk:List Str:=["sheet","c"]
def FA:aW Rx vk (aH Be):=by trivial
abbrev DE:Stmt:=top 83
abbrev Ue:List Str:=["comment","w"]
abbrev tS:List Str:=["comment","w"]
def Ry:aW Ue tS (aH DE):=by trivial
abbrev DF:Stmt:=top 84
abbrev Ug:List Str:=["sheet","w","carried","orphans","c","stretch"]
abbrev ym:List Str:=["sheet","w"]
def jL:aW Ug ym (aH DF):=by trivial
abbrev Ji:Stmt:=top 85
abbrev YR:List Str:=["sheet","p","stretch","told","b"]
abbrev ER:List Str:=["sheet","p"]
def Bg:aW YR ER (aH Ji):=by trivial
abbrev Bh:Stmt:=top 86
abbrev Rz:List Str:=["comment","a","writers","answer"]
abbrev qd:List Str:=["comment","a"]
def sR:aW Rz qd (aH Bh):=by trivial
abbrev wV:Stmt:=top 87
abbrev MI:List Str:=["sheet","a","c"]
abbrev qe:List Str:=["sheet","a"]
def uC:aW MI qe (aH wV):=by trivial
abbrev r0:Stmt:=top 88
abbrev Jj:List Str:=["sheet","ends","told","b"]
abbrev m8:List Str:=["sheet"]
def l7:aW Jj m8 (aH r0):=by trivial
abbrev Bi:Stmt:=top 89
abbrev RA:List Str:=["row","told","stretch","beside","sign"]
abbrev qf:List Str:=["row"]
def nZ:aW RA qf (aH Bi):=by trivial
abbrev DG:Stmt:=top 90
abbrev Uh:List Str:=["sheet","w","stretch"]
abbrev yn:List Str:=["sheet","w"]
def Bj:aW Uh yn (aH DG):=by trivial
abbrev DH:Stmt:=top 91
abbrev Ui:List Str:=["sheet","shown"]
abbrev yo:List Str:=["sheet"]
def Hm:aW Ui yo (aH DH):=by trivial
abbrev zx:Stmt:=top 94
abbrev OR:List Str:=["sheet","reader"]
abbrev sS:List Str:=["sheet","reader"]
def MJ:aW OR sS (aH zx):=by trivial
abbrev Bk:Stmt:=top 95
abbrev RB:List Str:=["sheet","reader"]
abbrev vm:List Str:=["sheet","reader"]
def OS:aW RB vm (aH Bk):=by trivial
abbrev Bl:Stmt:=top 96
abbrev RC:List Str:=["sheet","reader"]
abbrev vn:List Str:=["sheet","reader"]
def OT:aW RC vn (aH Bl):=by trivial
abbrev Gd:Stmt:=top 97
abbrev Wo:List Str:=["sheet","reader","p"]
abbrev Bm:List Str:=["sheet","reader"]
def Kp:aW Wo Bm (aH Gd):=by trivial
abbrev Ge:Stmt:=top 98
abbrev Wq:List Str:=["sheet","reader","p"]
abbrev Bn:List Str:=["sheet","reader"]
def Kq:aW Wq Bn (aH Ge):=by trivial
abbrev DI:Stmt:=top 99
abbrev Uj:List Str:=["sheet","reader","p","q"]
abbrev yp:List Str:=["sheet","reader"]
def Bo:aW Uj yp (aH DI):=by trivial
abbrev zy:Stmt:=top 100
abbrev OU:List Str:=["sheet","reader"]
abbrev sT:List Str:=["sheet","reader"]
def MK:aW OU sT (aH zy):=by trivial
abbrev zz:Stmt:=top 101
abbrev OV:List Str:=["sheet","reader"]
abbrev sU:List Str:=["sheet","reader"]
def ML:aW OV sU (aH zz):=by trivial
abbrev wW:Stmt:=top 102
abbrev MN:List Str:=["sheet","reader","p","q"]
abbrev qg:List Str:=["sheet","reader"]
def uD:aW MN qg (aH wW):=by trivial
abbrev Bp:Stmt:=top 103
abbrev RD:List Str:=["sheet","reader","c"]
abbrev vo:List Str:=["sheet","reader"]
def FC:aW RD vo (aH Bp):=by trivial
abbrev Bq:Stmt:=top 104
abbrev RE:List Str:=["sheet","reader","c"]
abbrev vp:List Str:=["sheet","reader"]
def FD:aW RE vp (aH Bq):=by trivial
abbrev DJ:Stmt:=top 105
abbrev Uk:List Str:=["sheet","reader"]
abbrev yq:List Str:=["sheet","reader"]
def RF:aW Uk yq (aH DJ):=by trivial
abbrev uE:Stmt:=top 106
abbrev K0:List Str:=["sheet","reader","c","p"]
abbrev oK:List Str:=["sheet","reader"]
def r8:aW K0 oK (aH uE):=by trivial
abbrev zA:Stmt:=top 107
abbrev OW:List Str:=["sheet","reader"]
abbrev sV:List Str:=["sheet","reader"]
def MO:aW OW sV (aH zA):=by trivial
abbrev uF:Stmt:=top 108
abbrev K1:List Str:=["sheet","reader","p","q"]
abbrev oM:List Str:=["sheet","reader"]
def r9:aW K1 oM (aH uF):=by trivial
abbrev zB:Stmt:=top 109
abbrev OX:List Str:=["sheet","reader"]
abbrev sW:List Str:=["sheet","reader"]
def MP:aW OX sW (aH zB):=by trivial
abbrev DK:Stmt:=top 110
abbrev Ul:List Str:=["sheet","reader"]
abbrev yr:List Str:=["sheet","reader"]
def RG:aW Ul yr (aH DK):=by trivial
abbrev Br:Stmt:=top 111
abbrev RH:List Str:=["sheet","reader"]
abbrev vq:List Str:=["sheet","reader"]
def OY:aW RH vq (aH Br):=by trivial
abbrev zC:Stmt:=top 112
abbrev OZ:List Str:=["sheet","reader"]
abbrev sX:List Str:=["sheet","reader"]
def MQ:aW OZ sX (aH zC):=by trivial
abbrev Bs:Stmt:=top 113
abbrev RI:List Str:=["sheet","reader"]
abbrev vt:List Str:=["sheet","reader"]
def O0:aW RI vt (aH Bs):=by trivial
abbrev DL:Stmt:=top 114
abbrev Um:List Str:=["sheet","reader"]
abbrev yt:List Str:=["sheet","reader"]
def RJ:aW Um yt (aH DL):=by trivial
abbrev Jk:Stmt:=top 115
abbrev YS:List Str:=["sheet","reader"]
abbrev ES:List Str:=["sheet","reader"]
def Wr:aW YS ES (aH Jk):=by trivial
abbrev wX:Stmt:=top 116
abbrev MR:List Str:=["sheet","reader"]
abbrev qh:List Str:=["sheet","reader"]
def K2:aW MR qh (aH wX):=by trivial
abbrev sf:Stmt:=top 117
abbrev Jl:List Str:=["sheet","reader"]
abbrev m9:List Str:=["sheet","reader"]
def Hn:aW Jl m9 (aH sf):=by trivial
abbrev DM:Stmt:=top 118
abbrev Uo:List Str:=["sheet","reader"]
abbrev yu:List Str:=["sheet","reader"]
def RK:aW Uo yu (aH DM):=by trivial
abbrev DN:Stmt:=top 119
abbrev Up:List Str:=["sheet","reader"]
abbrev yw:List Str:=["sheet","reader"]
def RL:aW Up yw (aH DN):=by trivial
abbrev Bt:Stmt:=top 121
abbrev RM:List Str:=["sheet","calls","reader","told","act","answer"]
abbrev qi:List Str:=["sheet","calls"]
def n0:aW RM qi (aH Bt):=by trivial
abbrev Jm:Stmt:=top 122
abbrev YT:List Str:=["calls"]
abbrev si:List Str:=["calls"]
def Ws:aW YT si (aH Jm):=by trivial
abbrev wY:Stmt:=inClass (top 1) 0
abbrev MS:List Str:=["self","signs","insertions","deletions","comments","bookmarks"]
abbrev fu:List Str:=["self","signs","insertions","deletions","comments","bookmarks"]
def K3:aW MS fu (aH wY):=by trivial
abbrev o6:Stmt:=inClass (top 1) 1
abbrev Gf:List Str:=["self"]
abbrev fw:List Str:=["self"]
def Fm:aW Gf fw (aH o6):=by trivial
abbrev mF:Stmt:=inClass (top 1) 2
abbrev DO:List Str:=["self"]
abbrev eG:List Str:=["self"]
def CS:aW DO eG (aH mF):=by trivial
abbrev wZ:Stmt:=inClass (top 1) 3
abbrev MT:List Str:=["self","start","stop"]
abbrev mG:List Str:=["self","start","stop"]
def K4:aW MT mG (aH wZ):=by trivial
abbrev jz:Stmt:=inClass (top 1) 4
abbrev yb:List Str:=["self","insertions"]
abbrev eK:List Str:=["self","insertions"]
def w8:aW yb eK (aH jz):=by trivial
abbrev jX:Stmt:=inClass (top 1) 5
abbrev zD:List Str:=["self","deletions"]
abbrev eQ:List Str:=["self","deletions"]
def yc:aW zD eQ (aH jX):=by trivial
abbrev kE:Stmt:=inClass (top 1) 6
abbrev Al:List Str:=["self","comments"]
abbrev fj:List Str:=["self","comments"]
def zE:aW Al fj (aH kE):=by trivial
abbrev jY:Stmt:=inClass (top 1) 7
abbrev zF:List Str:=["self","bookmarks"]
abbrev eR:List Str:=["self","bookmarks"]
def yd:aW zF eR (aH jY):=by trivial
abbrev w9:Stmt:=inClass (top 52) 0
abbrev MU:List Str:=["self","author","time","quote","text"]
abbrev mH:List Str:=["self","author","time","quote","text"]
def K5:aW MU mH (aH w9):=by trivial
abbrev Bu:Stmt:=inClass (top 53) 0
abbrev RN:List Str:=["self"]
abbrev qj:List Str:=["self"]
def O1:aW RN qj (aH Bu):=by trivial
abbrev zG:Stmt:=inClass (top 93) 0
abbrev O2:List Str:=["self","calls"]
abbrev n6:List Str:=["self","calls"]
def MV:aW O2 n6 (aH zG):=by trivial
abbrev sj:Stmt:=inClass (top 93) 1
abbrev Jn:List Str:=["self"]
abbrev kF:List Str:=["self"]
def Ho:aW Jn kF (aH sj):=by trivial
abbrev mI:Stmt:=inClass (top 93) 2
abbrev DP:List Str:=["self","number"]
abbrev gx:List Str:=["self"]
def rP:aW DP gx (aH mI):=by trivial
abbrev o7:Stmt:=inClass (top 93) 3
abbrev Gg:List Str:=["self","size","start"]
abbrev k5:List Str:=["self"]
def nO:aW Gg k5 (aH o7):=by trivial
set_option genSizeOf false in
set_option genInjectivity false in
structure pH where
 wd:Addr
 we:aG
 fX:Addr
 fY:aG
 gF:Addr
 gG:aG
 xa:Addr
 xb:aG
 lN:Addr
 lO:aG
 ng:Addr
 nh:aG
 qk:Addr
 qm:aG
 n8:Addr
 n9:aG
 oa:Addr
 oe:aG
 sY:Addr
 sZ:aG
 i4:Addr
 i5:aG
 qp:Addr
 qr:aG
 sk:Addr
 sm:aG
 lP:Addr
 lQ:aG
 qt:Addr
 qv:aG
 mJ:Addr
 mK:aG
 oN:Addr
 oO:aG
 lu:Addr
 lz:aG
 tT:Addr
 tU:aG
 ET:Addr
 EU:aG
 yx:Addr
 yy:aG
 mL:Addr
 mM:aG
 l8:Addr
 l9:aG
 EV:Addr
 EW:aG
 jD:Addr
 jE:aG
 uG:Addr
 uH:aG
 MW:Addr
 MX:aG
 lA:Addr
 lB:aG
 Wt:Addr
 Wu:aG
 tf:Addr
 tj:aG
 jZ:Addr
 j0:aG
 qw:Addr
 qx:aG
 kG:Addr
 kH:aG
 Hq:Addr
 Hr:aG
 qy:Addr
 qz:aG
 EX:Addr
 EY:aG
 tm:Addr
 tp:aG
 Xu:Addr
 Xv:aG
 og:Addr
 oh:aG
 qA:Addr
 qB:aG
 Xw:Addr
 Xx:aG
 RO:Addr
 RP:aG
 xc:Addr
 xf:aG
 xg:Addr
 xh:aG
 xi:Addr
 xj:aG
 RQ:Addr
 RR:aG
 RS:Addr
 RT:aG
 Wv:Addr
 Ww:aG
 Gh:Addr
 Gi:aG
 yz:Addr
 yA:aG
 vw:Addr
 vz:aG
 MY:Addr
 MZ:aG
 iN:Addr
 iO:aG
 xk:Addr
 xm:aG
 Am:Addr
 An:aG
 Hs:Addr
 Ht:aG
 Hu:Addr
 Hv:aG
 vA:Addr
 vB:aG
 yB:Addr
 yC:aG
 qC:Addr
 qD:aG
 lR:Addr
 lS:aG
 qE:Addr
 qF:aG
 Bv:Addr
 Bw:aG
 zH:Addr
 zI:aG
 Bx:Addr
 By:aG
 Bz:Addr
 BA:aG
 yD:Addr
 yE:aG
 DQ:Addr
 DR:aG
 Jo:Addr
 Jp:aG
 vC:Addr
 vD:aG
 xn:Addr
 xo:aG
 sr:Addr
 sv:aG
 vE:Addr
 vF:aG
 DS:Addr
 DT:aG
 DU:Addr
 DV:aG
 oj:Addr
 zJ:aG
 qG:Addr
 BB:aG
 qH:Addr
 BC:aG
 xp:Addr
 Gj:aG
 xq:Addr
 Gk:aG
 tV:Addr
 DW:aG
 om:Addr
 zK:aG
 oo:Addr
 zL:aG
 mN:Addr
 xt:aG
 qI:Addr
 BD:aG
 qJ:Addr
 BE:aG
 tW:Addr
 DX:aG
 lC:Addr
 uI:aG
 oq:Addr
 zM:aG
 lD:Addr
 uJ:aG
 ot:Addr
 zN:aG
 tX:Addr
 DY:aG
 qK:Addr
 BF:aG
 ou:Addr
 zO:aG
 qL:Addr
 BG:aG
 tY:Addr
 DZ:aG
 Ao:Addr
 Jq:aG
 mO:Addr
 xu:aG
 kJ:Addr
 sx:aG
 tZ:Addr
 D0:aG
 t9:Addr
 D4:aG
 vG:Addr
 vH:aG
 Jr:Addr
 EZ:aG
 aj:Addr
 fA:Addr
 fZ:aG
 gk:Addr
 gm:aG
 fB:Addr
 fC:aG
 qM:Addr
 qN:aG
 fN:Addr
 fO:aG
 f6:Addr
 f7:aG
 gy:Addr
 gz:aG
 f9:Addr
 gc:aG
 dn:Addr
 mP:Addr
 qO:aG
 cu:Addr
 qP:Addr
 vI:aG
 cE:Addr
 ow:Addr
 tq:aG
 ni:Addr
 nj:aG
 ia:Addr
 ib:aG
 o8:Addr
 o9:aG
 Hw:Addr
structure Tx (K:aq) (mg:Str→Option ak) (t:pH):Prop where
 without:Def K mg "without" Jb rV t.wd t.we
 gJ:Def K mg "count_pieces" wD fq t.fX t.fY
 jM:Def K mg "count_shown" zg fW t.gF t.gG
 Hx:Def K mg "signs_of" F2 rW t.xa t.xb
 ua:Def K mg "shown_signs" zh jU t.lN t.lO
 xw:Def K mg "find_place" A4 k0 t.ng t.nh
 xx:Def K mg "stretch_at" A5 m5 t.qk t.qm
 yF:Def K mg "part_within" zi lK t.n8 t.n9
 yG:Def K mg "part_before" zj lL t.oa t.oe
 D5:Def K mg "part_behind" zk nW t.sY t.sZ
 mQ:Def K mg "part_around" zm hE t.i4 t.i5
 xy:Def K mg "set_before" A6 m6 t.qp t.qr
 D6:Def K mg "is_range" F3 o5 t.sk t.sm
 ub:Def K mg "lay_comment" zo jV t.lP t.lQ
 BH:Def K mg "lay_bookmark" wI my t.qt t.qv
 vJ:Def K mg "lift_comment" wJ km t.mJ t.mK
 zP:Def K mg "lift_bookmark" uv lq t.oN t.oO
 tu:Def K mg "first_carried" uw jB t.lu t.lz
 E1:Def K mg "is_letter" Du pF t.tT t.tU
 RU:Def K mg "is_sign" Jc Ah t.ET t.EU
 Js:Def K mg "are_signs" Dv tP t.yx t.yy
 vK:Def K mg "is_note_text" wK kx t.mL t.mM
 uK:Def K mg "is_small_letter" pX jK t.l8 t.l9
 RV:Def K mg "is_name" Jd Ai t.EV t.EW
 ox:Def K mg "find_bookmark" uz iD t.jD t.jE
 zQ:Def K mg "make_bookmark" uA oH t.uG t.uH
 unmark:Def K mg "unmark" Mv Hj t.MW t.MX
 tw:Def K mg "bookmark_ends" uB jC t.lA t.lB
 goto:Def K mg "goto" We Rm t.Wt t.Wu
 D7:Def K mg "forget_gone" zp nX t.tf t.tj
 pI:Def K mg "next_change" zq i3 t.jZ t.j0
 BI:Def K mg "bears_newest" wL mB t.qw t.qx
 qQ:Def K mg "enter_change" wM jk t.kG t.kH
 Wx:Def K mg "is_own" Mz Dy t.Hq t.Hr
 BJ:Def K mg "is_tracked" A8 m7 t.qy t.qz
 LF:Def K mg "in_both" Jf Ak t.EX t.EY
 D8:Def K mg "new_stretch" zr nY t.tm t.tp
 put:Def K mg "put" aao T5 t.Xu t.Xv
 yH:Def K mg "left_behind" zt lM t.og t.oh
 BK:Def K mg "brought_over" wN mC t.qA t.qB
 cut:Def K mg "cut" aap T6 t.Xw t.Xx
 move:Def K mg "move" Wf MB t.RO t.RP
 Hy:Def K mg "quote_of" F7 rX t.xc t.xf
 Hz:Def K mg "quote_at" F8 rY t.xg t.xh
 BL:Def K mg "make_comment" wO pZ t.xi t.xj
 reply:Def K mg "reply" Rp LC t.RQ t.RR
 solve:Def K mg "solve" Rq LD t.RS t.RT
 drop:Def K mg "drop" Wi Rr t.Wv t.Ww
 reanchor:Def K mg "reanchor" F9 A9 t.Gh t.Gi
 Jt:Def K mg "is_orphan" Dz tQ t.yz t.yA
 Gm:Def K mg "find_signs" Bb p0 t.vw t.vz
 rescue:Def K mg "rescue" MD Hl t.MY t.MZ
 ma:Def K mg "is_entered_or_all" nN gO t.iN t.iO
 HA:Def K mg "is_among" Ga rZ t.xk t.xm
 LG:Def K mg "left_of" Jg wa t.Am t.An
 accept:Def K mg "accept" ME DB t.Hs t.Ht
 reject:Def K mg "reject" MF DC t.Hu t.Hv
 Gn:Def K mg "set_author" Bc p7 t.vA t.vB
 Ju:Def K mg "set_clock" DD tR t.yB t.yC
 BM:Def K mg "set_tracking" wQ mD t.qC t.qD
 counted:Def K mg "counted" Jh kD t.lR t.lS
 BN:Def K mg "state_number" wR mE t.qE t.qF
 Gp:Def K mg "tell_state" Bd vj t.Bv t.Bw
 D9:Def K mg "tell_thread" zw sQ t.zH t.zI
 M0:Def K mg "spots_of" Gb wU t.Bx t.By
 Gq:Def K mg "tell_spots" Be vk t.Bz t.BA
 Jv:Def K mg "is_listed" DE tS t.yD t.yE
 Jw:Def K mg "tell_list" DF ym t.DQ t.DR
 RW:Def K mg "tell_at" Ji ER t.Jo t.Jp
 Gr:Def K mg "is_waiting" Bh qd t.vC t.vD
 BO:Def K mg "tell_waiting" wV qe t.xn t.xo
 xA:Def K mg "tell_bookmarks" r0 m8 t.sr t.sv
 Gs:Def K mg "all_pieces" Bi qf t.vE t.vF
 Jx:Def K mg "tell_text" DG yn t.DS t.DT
 Jy:Def K mg "tell_size" DH yo t.DU t.DV
 yI:Def K mg "call_author" zx sS t.oj t.zJ
 BP:Def K mg "call_clock" Bk vm t.qG t.BB
 BQ:Def K mg "call_track" Bl vn t.qH t.BC
 HB:Def K mg "call_put" Gd Bm t.xp t.Gj
 HC:Def K mg "call_cut" Ge Bn t.xq t.Gk
 E2:Def K mg "call_move" DI yp t.tV t.DW
 yJ:Def K mg "call_accept" zy sT t.om t.zK
 yK:Def K mg "call_reject" zz sU t.oo t.zL
 vL:Def K mg "call_comment" wW qg t.mN t.xt
 BR:Def K mg "call_reply" Bp vo t.qI t.BD
 BS:Def K mg "call_solve" Bq vp t.qJ t.BE
 E3:Def K mg "call_drop" DJ yq t.tW t.DX
 tD:Def K mg "call_reanchor" uE oK t.lC t.uI
 yL:Def K mg "call_rescue" zA sV t.oq t.zM
 tE:Def K mg "call_bookmark" uF oM t.lD t.uJ
 yM:Def K mg "call_unmark" zB sW t.ot t.zN
 E4:Def K mg "call_goto" DK yr t.tX t.DY
 BU:Def K mg "call_state" Br vq t.qK t.BF
 yN:Def K mg "call_thread" zC sX t.ou t.zO
 BV:Def K mg "call_spots" Bs vt t.qL t.BG
 E5:Def K mg "call_list" DL yt t.tY t.DZ
 LH:Def K mg "call_at" Jk ES t.Ao t.Jq
 vM:Def K mg "call_waiting" wX qh t.mO t.xu
 qR:Def K mg "call_bookmarks" sf m9 t.kJ t.sx
 call_text:Def K mg "call_text" DM yu t.tZ t.D0
 E6:Def K mg "call_size" DN yw t.t9 t.D4
 Gu:Def K mg "answers_on" Bt qi t.vG t.vH
 answers:Def K mg "answers" Jm si t.Jr t.EZ
 k6:mg "Stretch"=some (.ref t.aj)
 aO:S3 K t.aj
 k7:Mk K t.aj t.fA
 dU:gI K t.aj "signs"
 cD:gI K t.aj "insertions"
 dk:gI K t.aj "deletions"
 cg:gI K t.aj "comments"
 cj:gI K t.aj "bookmarks"
 hG:o4 K t.aj "__init__" "Stretch.__init__" wY fu t.fA t.fZ
 jb:o4 K t.aj "is_shown" "Stretch.is_shown" o6 fw t.gk t.gm
 gn:o4 K t.aj "shown_size" "Stretch.shown_size" mF eG t.fB t.fC
 vN:o4 K t.aj "part" "Stretch.part" wZ mG t.qM t.qN
 ip:o4 K t.aj "with_insertions" "Stretch.with_insertions" jz eK t.fN t.fO
 iR:o4 K t.aj "with_deletions" "Stretch.with_deletions" jX eQ t.f6 t.f7
 jt:o4 K t.aj "with_comments" "Stretch.with_comments" kE fj t.gy t.gz
 iS:o4 K t.aj "with_bookmarks" "Stretch.with_bookmarks" jY eR t.f9 t.gc
 M3:mg "Comment"=some (.ref t.dn)
 cY:S3 K t.dn
 M4:Mk K t.dn t.mP
 iq:gI K t.dn "author"
 uL:gI K t.dn "time"
 jc:gI K t.dn "quote"
 uM:gI K t.dn "text"
 gp:gI K t.dn "replies"
 ff:gI K t.dn "solved"
 BW:o4 K t.dn "__init__" "Comment.__init__" w9 mH t.mP t.qO
 Uq:mg "Sheet"=some (.ref t.cu)
 aQ:S3 K t.cu
 Ur:Mk K t.cu t.qP
 gg:gI K t.cu "author"
 lT:gI K t.cu "time"
 ir:gI K t.cu "tracking"
 eD:gI K t.cu "change_authors"
 bA:gI K t.cu "row"
 bL:gI K t.cu "comments"
 iT:gI K t.cu "comments_made"
 cZ:gI K t.cu "bookmarks"
 gA:gI K t.cu "bookmarks_made"
 Gv:o4 K t.cu "__init__" "Sheet.__init__" Bu qj t.qP t.vI
 Qn:mg "Reader"=some (.ref t.cE)
 bQ:S3 K t.cE
 Qo:Mk K t.cE t.ow
 lE:gI K t.cE "calls"
 gq:gI K t.cE "position"
 Ea:o4 K t.cE "__init__" "Reader.__init__" zG n6 t.ow t.tq
 xB:o4 K t.cE "is_done" "Reader.is_done" sj kF t.ni t.nj
 a6:o4 K t.cE "take_number" "Reader.take_number" mI gx t.ia t.ib
 gB:o4 K t.cE "take_list" "Reader.take_list" o7 k5 t.o8 t.o9
 vc:∃tk,mg "LONGEST_NOTE_TEXT"=some (.int 200 tk)
 Eb:∃tk,mg "LONGEST_NAME"=some (.int 20 tk)
 M5:∃tk,mg "LAST_END"=some (.int 10 tk)
 CA:∃tk,mg "LONGEST_QUOTE"=some (.int 40 tk)
 Xy:mg "CALLS"=some (.ref t.Hw)
 Xz:∀H,iB K H t.Hw [.ref t.oj,.ref t.qG,.ref t.qH,.ref t.xp,.ref t.xq,.ref t.tV,.ref t.om,.ref t.oo,.ref t.mN,.ref t.qI,.ref t.qJ,.ref t.tW,.ref t.lC,.ref t.oq,.ref t.lD,.ref t.ot,.ref t.tX,.ref t.qK,.ref t.ou,.ref t.qL,.ref t.tY,.ref t.Ao,.ref t.mO,.ref t.kJ,.ref t.tZ,.ref t.t9]
 XA:mg "all"=none
 aau:mg "any"=none
 jx:mg "len"=none
 Jz:mg "list"=none
 XB:mg "range"=none
 Ec:mg "sorted"=none
 aav:mg "sum"=none
 XC:mg "tuple"=none
 xC:t.aj≠t.dn
 cK:t.aj≠t.cu
 yO:t.aj≠t.cE
 kK:t.dn≠t.cu
 qS:t.dn≠t.cE
 uN:t.cu≠t.cE
section
variable {P:cN} {w:dS} {K:aq} {mg:Str→Option ak} {base:Heap}
def bB {X:Cx} {x:Str} {st:Stmt} {ps:List Str} {f:Addr} {fd:aG} {k:Nat} {sp:Sp} {e:Expr} {es:List Expr} {t:TA} {p pos:Pos} (D:Def X.K X.mg x st ps f fd) (G:aZ X.prog X.w X.K X.mg X.base cH k f fd ps sp) (hr:oZ k X.A) (ha:PA X (e::es) t)
  (hg:Gl X x:=by rfl) (hdb:(x==("__debug__":Str))=false:=by decide) (he:cw (e::es) X.env=(false,eval e X.env)::cw es X.env:=by rfl) (hpl:(iH pos (cw es X.env)).any (·.1)=false:=by rfl):
  PE X (.Call (.Name x p) (e::es) [] pos) (Fu sp [] E0 t):=aba G hr hg D.mg D.fn.kp D.b .nil wq ha hdb he hpl
def FE {X:Cx} {C:Addr} {m qual:Str} {st:Stmt} {ps:List Str} {f:Addr} {fd:aG} {k:Nat} {sp:Sp} {o e:Expr} {es:List Expr} {ta:TE} {t:TA} {apos pos:Pos} {pl:Sem Bool} (D:o4 X.K C m qual st ps f fd) (c:S3 X.K C) (G:aZ X.prog X.w X.K X.mg X.base cH k f fd ps sp) (hr:oZ k X.A) (ho:PE X o ta) (ha:PA X (e::es) t)
  (hst:cw (e::es) X.env=(false,eval e X.env)::cw es X.env:=by rfl) (hpl:(iH pos (cw es X.env)).any (·.1)=false:=by rfl)
  (ht:eval (.Call (.Attribute o m apos) (e::es) [] pos) X.env=(do
   let ov ← eval o X.env
   B7 apos.atName
   let (f,first) ← holding [ov] (wm ov m pl)
   Ex pos f first (iH pos (cw (e::es) X.env)) (rj pos (jP [] X.env))):=by rfl):
  PE X (.Call (.Attribute o m apos) (e::es) [] pos) (vb C m sp [] E0 ta t):=abb ho c D.m G hr D.b .nil wq ha hst hpl ht
def dG {X:Cx} {C:Addr} {m qual:Str} {st:Stmt} {ps:List Str} {f:Addr} {fd:aG} {k:Nat} {sp:Sp} {o:Expr} {ta:TE} {apos pos:Pos} {pl:Sem Bool} (D:o4 X.K C m qual st ps f fd) (c:S3 X.K C) (G:aZ X.prog X.w X.K X.mg X.base cH k f fd ps sp) (hr:oZ k X.A) (ho:PE X o ta)
  (ht:eval (.Call (.Attribute o m apos) [] [] pos) X.env=(do
   let ov ← eval o X.env
   B7 apos.atName
   let (f,first) ← holding [ov] (wm ov m pl)
   Ex pos f first (iH pos (cw [] X.env)) (rj pos (jP [] X.env))):=by rfl):
  PE X (.Call (.Attribute o m apos) [] [] pos) (vb C m sp [] E0 ta vf):=ZM ho c D.m G hr D.b .nil wq ht
end
variable {P:cN} {w:dS} {K:aq} {mg:Str→Option ak} {base:Heap} {t:pH}
def get_map {α:Type} {f:α→V} {l:List α} {i:Nat} {x:V} (h:(l.map f)[i]? =some x):∃z,l[i]? =some z∧x=f z:=by
 rw[b0]at h
 cases e:l[i]? with
 | none=>rw[e]at h;cases h
 | some z=>rw[e]at h;exact⟨z,rfl,(bu h).symm⟩
def Gw:Sp:=fun vs H Q _=>∃z:Int,vs=[.int z]∧Q (.bl (bo z 32 126)) H
def HD (T:Tx K mg t):aZ P w K mg base cH 1 t.tT t.tU pF Gw:=by
 refine T.E1.fn.ok Rl (fun vs H Q E h=>?_) (fun cdv A outer s H vs Q E hr h=>?_)
 ·obtain⟨z,rfl,_⟩:=h
  rfl
 ·obtain⟨z,rfl,k⟩:=h
  refine⟨_,ao (aU (C4 iX iX aP (pv 0) aP)),?_⟩
  refine⟨_,rfl,_,_,rfl,rfl,_,rfl,?_⟩
  refine fi (fun h=>?_) fun h=>?_
  ·refine⟨_,_,rfl,rfl,?_⟩
   have e:bo z 32 126=decide (z≤126):=by
    unfold bo
    rw[show decide (((32:Nat):Int)≤z)=true from h];rfl
   rw[e]at k;exact k
  ·have e:bo z 32 126=false:=by
    unfold bo
    rw[show decide (((32:Nat):Int)≤z)=false from by simpa using h];rfl
   rw[e]at k;exact k
def Us:Sp:=fun vs H Q _=>∃z:Int,vs=[.int z]∧Q (.bl (eU z)) H
def YU (z:Int):eU z=(decide (V.int z=V.int 10)||bo z 32 126):=by
 unfold eU bo
 rw[iP];rfl
def Wy (T:Tx K mg t):aZ P w K mg base cH 2 t.ET t.EU Ah Us:=by
 have GL:aZ P w K mg base cH 1 t.tT t.tU pF Gw:=HD T
 refine T.RU.fn.ok Wd (fun vs H Q E h=>?_) (fun cdv A outer s H vs Q E hr h=>?_)
 ·obtain⟨z,rfl,_⟩:=h
  rfl
 ·obtain⟨z,rfl,k⟩:=h
  refine⟨_,ao (aU (ab9 (jq nQ (pv 0) aP (d6 _)) (FU (bB T.E1 GL hr (aa (pv 0) ah))))),?_⟩
  refine⟨_,rfl,rfl,_,rfl,?_⟩
  rw[YU]at k
  refine fi (fun h=>?_) fun h=>?_
  ·rw[h]at k;exact k
  ·rw[show decide (V.int z=V.int 10)=false from by simpa using h]at k
   exact⟨_,rfl,z,rfl,k⟩
def M6 (K:aq):Sp:=fun vs H Q _=>EX2 fun(a:Addr) (ns:List Int)=>vs=[.ref a]∧g6 K H a (ns.map V.int)∧ns.length≤ag∧∀H',aM H H'→Q (.bl (!(ns.isEmpty||!ns.all eU))) H'
def RX (T:Tx K mg t):aZ P w K mg base cH 3 t.yx t.yy tP (M6 K):=by
 have GS:aZ P w K mg base cH 2 t.ET t.EU Ah Us:=Wy T
 refine T.Js.fn.ok A7 (fun vs H Q E h=>?_) (fun cdv A outer s H vs Q E hr h=>?_)
 ·obtain⟨a,ns,rfl,_⟩:=h
  rfl
 ·obtain⟨a,ns,rfl,hs,hz,k⟩:=h
  refine⟨_,ao (aU (IP (jq LQ (cT cX rfl T.jx bV (aa (pv 0) ah)) aP (d6 _))
   (FU (cT (VM rfl) rfl T.XA rfl (aa (pU (own:=[("number",1)]) rfl A7.nd (dQ (pv 0)) (eC (by rfl)) (fun _ _ _ _ _=>da (i:=1) A7.nd rfl (bc rfl)) (fun _ _ _ _ _=>j7)
    (fun _ _ _ _ _=>bB T.RU GS hr (aa (pv 1) ah))) ah))))),?_⟩
  refine⟨_,rfl,_,_,rfl,.inl hs,_,_,rfl,rfl,_,rfl,?_⟩
  refine fi (fun h=>?_) fun h=>?_
  ·refine⟨_,rfl,a,rfl,⟨_,hs⟩,fun D' hD=>zf (xs:=ns.map V.int) (ns.map fun z=>V.bl (eU z)) hs hD (by simp) (by simpa using hz) (fun i x y H' Q' hx hy s' q=>?_) fun H' s' e=>?_⟩
   ·obtain⟨z,ez,rfl⟩:=get_map hx
    obtain⟨z',ez',rfl⟩:=get_map hy
    cases ez.symm.trans ez'
    exact⟨_,rfl,z,rfl,q H' (aM.refl _)⟩
   ·refine⟨D',ns.map eU,rfl,by rw[bD];exact g6.of e,?_⟩
    have e2:(!(ns.isEmpty||!ns.all eU))=(ns.map eU).all id:=by
     have:ns.isEmpty=false:=by
      cases ns with
      | nil=>simp at h
      | cons _ _=>rfl
     rw[this,vW];simp
    rw[← e2];exact k H' s'
  ·have e:ns=[]:=by
    cases ns with
    | nil=>rfl
    | cons _ _=>simp at h
   subst e
   exact k H (aM.refl _)
def BX (K:aq):Sp:=fun vs H Q _=>EX2 fun(a:Addr) (ns:List Int)=>vs=[.ref a]∧g6 K H a (ns.map V.int)∧ns.length≤ag∧∀H',aM H H'→Q (.bl (fV ns)) H'
def CB (T:Tx K mg t):aZ P w K mg base cH 2 t.mL t.mM kx (BX K):=by
 have GS:aZ P w K mg base cH 1 t.tT t.tU pF Gw:=HD T
 obtain⟨tk,hk⟩:=T.vc
 refine T.vK.fn.ok ux (fun vs H Q E h=>?_) (fun cdv A outer s H vs Q E hr h=>?_)
 ·obtain⟨a,ns,rfl,_⟩:=h
  rfl
 ·obtain⟨a,ns,rfl,hs,hz,k⟩:=h
  refine⟨_,ao (aU (IP (C4 iX iX aP (cT cX rfl T.jx bV (aa (pv 0) ah)) (GY (v:=.int 200) rfl hk ⟨_,rfl⟩))
   (FU (cT (VM rfl) rfl T.XA rfl (aa (pU (own:=[("number",1)]) rfl ux.nd (dQ (pv 0)) (eC (by rfl)) (fun _ _ _ _ _=>da (i:=1) ux.nd rfl (bc rfl)) (fun _ _ _ _ _=>j7)
    (fun _ _ _ _ _=>bB T.E1 GS hr (aa (pv 1) ah))) ah))))),?_⟩
  refine⟨_,rfl,_,_,rfl,.inl hs,_,_,rfl,rfl,_,rfl,?_⟩
  have el:(((ns.map V.int).length:Nat):Int)=(ns.length:Int):=by rw[ab]
  have nope:fV ns=false→∀H',aM H H'→Q (.bl false) H':=fun e H' s'=>by rw[← e];exact k H' s'
  refine fi (fun h=>?_) fun h=>?_
  ·refine⟨_,_,rfl,rfl,_,rfl,?_⟩
   refine fi (fun h2=>?_) fun h2=>?_
   ·refine⟨_,rfl,a,rfl,⟨_,hs⟩,fun D' hD=>zf (xs:=ns.map V.int) (ns.map fun z=>V.bl (bo z 32 126)) hs hD (by simp) (by simpa using hz) (fun i x y H' Q' hx hy s' q=>?_) fun H' s' e=>?_⟩
    ·obtain⟨z,ez,rfl⟩:=get_map hx
     obtain⟨z',ez',rfl⟩:=get_map hy
     cases ez.symm.trans ez'
     exact⟨_,rfl,z,rfl,q H' (aM.refl _)⟩
    ·refine⟨D',ns.map fun z=>bo z 32 126,rfl,by rw[bD];exact g6.of e,?_⟩
     have e2:fV ns=(ns.map fun z=>bo z 32 126).all id:=by
      unfold fV
      have h1:ns.isEmpty=false:=by
       cases ns with
       | nil=>simp at h
       | cons _ _=>rfl
      have h3:decide (ns.length≤200)=true:=by simp at h2⊢;omega
      rw[h1,h3,vW];simp
     rw[← e2];exact k H' s'
   ·refine nope ?_ H (aM.refl _)
    unfold fV
    have h3:decide (ns.length≤200)=false:=by simp at h2⊢;omega
    rw[h3];simp
  ·refine⟨_,rfl,wt (nope ?_ H (aM.refl _))⟩
   have e:ns=[]:=by
    cases ns with
    | nil=>rfl
    | cons _ _=>simp at h;omega
   subst e;rfl
open Vatrka (Piece visible shown)
def nv (l:List Nat):List V:=l.map fun(n:Nat)=>V.int (n:Int)
def fQ (l:List Nat):(nv l).length=l.length:=by unfold nv;rw[ab]
def Kn (H:Hp) (a:Addr) (xs:List V):Prop:=∃o,H a=some (.iK o (.lst xs))
def Kn.rd {H:Hp} {a:Addr} {xs:List V} (h:Kn H a xs):Rd H a (.lst xs):=.inr h
def Kn.sq {K:aq} {H:Hp} {a:Addr} {xs:List V} (h:Kn H a xs):g6 K H a xs:=.inl (.inr h)
def M7 (sg i d c b:V):List (Str×V):=dB "bookmarks" b (dB "comments" c (dB "deletions" d (dB "insertions" i (dB "signs" sg []))))
def lU (sg i d c b:V):(M7 sg i d c b).lookup ("signs":Str)=some sg:=by
 unfold M7;rw[aK,if_neg (by decide+kernel),aK,if_neg (by decide+kernel),aK,if_neg (by decide+kernel),aK,if_neg (by decide+kernel),aK,if_pos rfl]
def oP (sg i d c b:V):(M7 sg i d c b).lookup ("insertions":Str)=some i:=by
 unfold M7;rw[aK,if_neg (by decide+kernel),aK,if_neg (by decide+kernel),aK,if_neg (by decide+kernel),aK,if_pos rfl]
def vO (sg i d c b:V):(M7 sg i d c b).lookup ("deletions":Str)=some d:=by
 unfold M7;rw[aK,if_neg (by decide+kernel),aK,if_neg (by decide+kernel),aK,if_pos rfl]
def k8 (sg i d c b:V):(M7 sg i d c b).lookup ("comments":Str)=some c:=by
 unfold M7;rw[aK,if_neg (by decide+kernel),aK,if_pos rfl]
def qT (sg i d c b:V):(M7 sg i d c b).lookup ("bookmarks":Str)=some b:=by
 unfold M7;rw[aK,if_pos rfl]
def aaw (sg i d c b:V) {m:Str} (h1:¬m="signs") (h2:¬m="insertions") (h3:¬m="deletions") (h4:¬m="comments") (h5:¬m="bookmarks"):(M7 sg i d c b).lookup m=none:=by
 unfold M7;rw[aK,if_neg h5,aK,if_neg h4,aK,if_neg h3,aK,if_neg h2,aK,if_neg h1];rfl
def YV (C:Addr) (H:Hp) (a sg i d c m:Addr):Prop:=∃dx,H a=some (.ins C dx (M7 (.ref sg) (.ref i) (.ref d) (.ref c) (.ref m)))
structure x8 (b:List Piece) (ins del d4 bm:List Nat):Prop where
 ne:b≠[]
 vP:Mt.Xl b ins del
 Ut:d4.Nodup
 d4:∀x∈b,∀c,c∈d4↔2*c∈x.tags
 RY:bm.Nodup
 bm:∀x∈b,∀m,m∈bm↔2*m+1∈x.tags
structure StV (C:Addr) (H:Hp) (a:Addr) (b:List Piece) (sg i d c m:Addr) (ins del d4 bm:List Nat):Prop where
 at_:YV C H a sg i d c m
 sg:Kn H sg (nv (b.map (·.sign)))
 i:H i=some (.tup (nv ins))
 d:H d=some (.tup (nv del))
 c:H c=some (.tup (nv d4))
 m:H m=some (.tup (nv bm))
 gS:x8 b ins del d4 bm
def Fn (C:Addr) (H:Hp) (a:Addr) (b:List Piece):Prop:=∃sg i d c m ins del d4 bm,StV C H a b sg i d c m ins del d4 bm
def ig (C:Addr) (H:Hp) (rs:List Addr) (bs:List (List Piece)):Prop:=Paired (Fn C H) rs bs
def kR (C:Addr) (H:Hp) (a:Addr) (row:List Piece):Prop:=∃rs bs,Kn H a (rs.map V.ref)∧ig C H rs bs∧bs.flatten=row
def Imm (C:Addr):HO→Prop
 | .iK _ _=>True
 | .tup _=>True
 | .ins C' _ _=>C'=C
 | _=>False
def KpI (C:Addr) (H H':Hp):Prop:=∀b o,H b=some o→Imm C o→H' b=some o
def aM.oz {C:Addr} {H H':Hp} (s:L2.aM H H'):KpI C H H':=fun b o e _=>s b o e
def Kn.kp {C:Addr} {H H':Hp} {a:Addr} {xs:List V} (h:Kn H a xs) (k:KpI C H H'):Kn H' a xs:=let ⟨o,e⟩:=h;⟨o,k _ _ e trivial⟩
def YV.kp {C:Addr} {H H':Hp} {a sg i d c m:Addr} (h:YV C H a sg i d c m) (k:KpI C H H'):YV C H' a sg i d c m:=let ⟨dx,e⟩:=h;⟨dx,k _ _ e rfl⟩
def StV.kp {C:Addr} {H H':Hp} {a:Addr} {b:List Piece} {sg i d c m:Addr} {ins del d4 bm:List Nat} (h:StV C H a b sg i d c m ins del d4 bm) (k:KpI C H H'):StV C H' a b sg i d c m ins del d4 bm:=
 ⟨h.at_.kp k,h.sg.kp k,k _ _ h.i trivial,k _ _ h.d trivial,k _ _ h.c trivial,k _ _ h.m trivial,h.gS⟩
def Fn.kp {C:Addr} {H H':Hp} {a:Addr} {b:List Piece} (h:Fn C H a b) (k:KpI C H H'):Fn C H' a b:=by
 obtain⟨sg,i,d,c,m,ins,del,d4,bm,v⟩:=h
 exact⟨sg,i,d,c,m,ins,del,d4,bm,v.kp k⟩
def ig.kp {C:Addr} {H H':Hp} {rs:List Addr} {bs:List (List Piece)} (h:ig C H rs bs) (k:KpI C H H'):ig C H' rs bs:=Paired.oX h fun _ _ z=>z.kp k
def kR.kp {C:Addr} {H H':Hp} {a:Addr} {row:List Piece} (h:kR C H a row) (k:KpI C H H'):kR C H' a row:=by
 obtain⟨rs,bs,e,l,f⟩:=h
 exact⟨rs,bs,e.kp k,l.kp k,f⟩
def Fn.ne {C:Addr} {H:Hp} {a:Addr} {b:List Piece} (h:Fn C H a b):b≠[]:=by
 obtain⟨_,_,_,_,_,_,_,_,_,v⟩:=h
 exact v.gS.ne
def ig.len {C:Addr} {H:Hp} {rs:List Addr} {bs:List (List Piece)} (h:ig C H rs bs):rs.length=bs.length:=b9 h
theorem cQ {α β:Type} {F:α→β→Prop}:∀{l1:List α} {l2:List β} {i:Nat} {x:α},Paired F l1 l2→l1[i]? =some x→∃y,l2[i]? =some y∧F x y
 | _,_,_,_,.nil,e=>by simp at e
 | _,_,0,_,.cons r _,e=>by simp at e;subst e;exact⟨_,rfl,r⟩
 | _,_,i+1,x,.cons _ t,e=>by
  obtain⟨y,h1,h2⟩:=cQ (i:=i) (x:=x) t (by simpa using e)
  exact⟨y,by simpa using h1,h2⟩
theorem yP {α β:Type} {F:α→β→Prop}:∀{l1:List α} {l2:List β} {i:Nat} {y:β},Paired F l1 l2→l2[i]? =some y→∃x,l1[i]? =some x∧F x y
 | _,_,_,_,.nil,e=>by simp at e
 | _,_,0,_,.cons r _,e=>by simp at e;subst e;exact⟨_,rfl,r⟩
 | _,_,i+1,x,.cons _ t,e=>by
  obtain⟨y,h1,h2⟩:=yP (i:=i) (y:=x) t (by simpa using e)
  exact⟨y,by simpa using h1,h2⟩
theorem fF {α β:Type} {F:α→β→Prop}:∀{a b:List α} {c d:List β},Paired F a c→Paired F b d→Paired F (a++b) (c++d)
 | _,_,_,_,.nil,s=>s
 | _,_,_,_,.cons r t,s=>.cons r (fF t s)
theorem pJ {α β:Type} {F:α→β→Prop}:∀{a:List α} {c:List β} (n:Nat),Paired F a c→Paired F (a.take n) (c.take n)
 | _,_,0,_=>.nil
 | _,_,_+1,.nil=>.nil
 | _,_,n+1,.cons r t=>.cons r (pJ n t)
theorem kT {α β:Type} {F:α→β→Prop}:∀{a:List α} {c:List β} (n:Nat),Paired F a c→Paired F (a.drop n) (c.drop n)
 | _,_,0,r=>r
 | _,_,_+1,.nil=>.nil
 | _,_,n+1,.cons _ t=>kT n t
theorem Ed {α β:Type} {F:α→β→Prop}:∀{a:List α} {c:List β} {y:β},Paired F a c→y∈c→∃x∈a,F x y
 | _,_,_,.nil,h=>by cases h
 | _,_,_,.cons r t,h=>by
  rcases bx.mp h with rfl | h
  ·exact⟨_,aE ..,r⟩
  ·obtain⟨x,hx,e⟩:=Ed t h
   exact⟨x,aI _ hx,e⟩
def ig.nes {C:Addr} {H:Hp} {rs:List Addr} {bs:List (List Piece)} (h:ig C H rs bs):∀b∈bs,b≠[]:=fun b hb=>let ⟨_,_,e⟩:=Ed h hb;e.ne
def ig.le {C:Addr} {H:Hp} {rs:List Addr} {bs:List (List Piece)} (h:ig C H rs bs):rs.length≤bs.flatten.length:=by
 rw[h.len];exact Mt.Dl h.nes
def qU (C:Addr):Sp:=fun vs H Q _=>EX7 fun(p dx:Addr) (sg i d c b:V)=>vs=[.ref p,sg,i,d,c,b]∧H p=some (.ins C dx [])∧Q .non (upd H p (.ins C dx (M7 sg i d c b)))
def iE (T:Tx K mg t):aZ P w K mg base cH 1 t.fA t.fZ fu (qU t.aj):=by
 refine T.hG.fn.ok K3 (fun vs H Q E h=>?_) (fun cdv A outer s H vs Q E hr h=>?_)
 ·obtain⟨p,dx,sg,i,d,c,b,rfl,_⟩:=h
  rfl
 ·obtain⟨p,dx,sg,i,d,c,b,rfl,hp,k⟩:=h
  refine⟨_,ai (eZ (pv 0) (pv 1) rfl) (ai (eZ (pv 0) (pv 2) rfl) (ai (eZ (pv 0) (pv 3) rfl) (ai (eZ (pv 0) (pv 4) rfl) (ao (eZ (pv 0) (pv 5) rfl))))),?_⟩
  refine⟨_,rfl,_,rfl,p,_,dx,[],rfl,hp,T.aO,T.dU,(by show 0 < 1000;decide),?_⟩
  refine⟨_,rfl,_,rfl,p,_,dx,_,rfl,af,T.aO,T.cD,(by show 1 < 1000;decide),?_⟩
  rw[g7]
  refine⟨_,rfl,_,rfl,p,_,dx,_,rfl,af,T.aO,T.dk,(by show 2 < 1000;decide),?_⟩
  rw[g7]
  refine⟨_,rfl,_,rfl,p,_,dx,_,rfl,af,T.aO,T.cg,(by show 3 < 1000;decide),?_⟩
  rw[g7]
  refine⟨_,rfl,_,rfl,p,_,dx,_,rfl,af,T.aO,T.cj,(by show 4 < 1000;decide),?_⟩
  rw[g7]
  exact k
def BY {C:Addr} {H:Hp} {Q:VK} {sg i d c b:V} (k:∀x dx H',aM H H'→H x=none→H' x=some (.ins C dx (M7 sg i d c b))→Q (.ref x) H'):
  ∀x dx,H x=none→H dx=none→dx≠x→qU C (.ref x::([sg,i,d,c,b]++[])) (upd (upd H dx (.own x)) x (.ins C dx [])) (fun v H2=>v=.non∧Q (.ref x) H2) E0:=by
 intro x dx hx hdx ne
 refine⟨x,dx,sg,i,d,c,b,rfl,af,rfl,?_⟩
 rw[g7]
 refine k x dx _ (fun a o e=>?_) hx af
 rw[aD (a9 e hx),aD (a9 e hdx)];exact e
def Ap (C:Addr):Sp:=fun vs H Q _=>EX7 fun(a sg i d c m:Addr) (ds:List V)=>vs=[.ref a]∧YV C H a sg i d c m∧H d=some (.tup ds)∧Q (.bl ds.isEmpty) H
def j8 (T:Tx K mg t):aZ P w K mg base cH 1 t.gk t.gm fw (Ap t.aj):=by
 refine T.jb.fn.ok Fm (fun vs H Q E h=>?_) (fun cdv A outer s H vs Q E hr h=>?_)
 ·obtain⟨a,sg,i,d,c,m,ds,rfl,_⟩:=h
  rfl
 ·obtain⟨a,sg,i,d,c,m,ds,rfl,⟨dx,ha⟩,hd,k⟩:=h
  refine⟨_,ao (aU (jq nQ (cT cX rfl T.jx bV (aa (aV (pv 0) rfl) ah)) aP (d6 _))),?_⟩
  refine⟨_,rfl,a,_,dx,_,_,rfl,ha,T.aO,T.dk,vO ..,d,_,rfl,.inr (iB.of hd),rfl,?_⟩
  have e:decide (V.int ((ds.length:Nat):Int)=V.int 0)=ds.isEmpty:=by
   rw[iP]
   cases ds with
   | nil=>rfl
   | cons _ _=>simp;omega
  rw[← e]at k;exact k
def Ee (C:Addr):Sp:=fun vs H Q _=>EX2 fun(a:Addr) (b:List Piece)=>vs=[.ref a]∧Fn C H a b∧Q (.int ((visible b).length:Nat)) H
def ju (T:Tx K mg t):aZ P w K mg base cH 2 t.fB t.fC eG (Ee t.aj):=by
 have GS:aZ P w K mg base cH 1 t.gk t.gm fw (Ap t.aj):=j8 T
 refine T.gn.fn.ok CS (fun vs H Q E h=>?_) (fun cdv A outer s H vs Q E hr h=>?_)
 ·obtain⟨a,b,rfl,_⟩:=h
  rfl
 ·obtain⟨a,b,rfl,⟨sg,i,d,c,m,ins,del,d4,bm,v⟩,k⟩:=h
  obtain⟨dx,ha⟩:=v.at_
  refine⟨_,ao (aU (z0 (fM (dG T.jb T.aO GS hr (pv 0)) (fun _=>rfl)) (cT cX rfl T.jx bV (aa (aV (pv 0) rfl) ah)) aP)),?_⟩
  refine⟨_,rfl,a,dx,_,rfl,ha,aaw _ _ _ _ _ (by decide+kernel) (by decide+kernel) (by decide+kernel) (by decide+kernel) (by decide+kernel),a,sg,i,d,c,m,_,rfl,⟨dx,ha⟩,v.d,_,rfl,?_⟩
  have vl:=v.gS.vP.EN
  have en:(nv del).isEmpty=del.isEmpty:=by unfold nv;cases del <;> rfl
  refine fi (fun h=>?_) fun h=>?_
  ·refine⟨_,rfl,a,_,dx,_,_,rfl,ha,T.aO,T.dU,lU ..,sg,_,rfl,.inl v.sg.sq,?_⟩
   rw[en]at h
   rw[vl,if_pos h]at k
   rw[fQ,ab];exact k
  ·rw[en]at h
   rw[vl,if_neg h]at k
   exact k
def Qp {n d k:Nat} (h:k≤n):HT.mh n d (some (k:Int))=k:=by rw[HT.W8];exact jH h
def M8 {xs:List V} {s e:Nat} (h1:s≤e) (h2:e≤xs.length):tJ xs (some (s:Int)) (some (e:Int))=(xs.drop s).take (e - s):=by
 unfold tJ;rw[Qp (k:=s) (by omega),Qp (k:=e) h2]
def x8.sub {b b':List Piece} {ins del d4 bm:List Nat} (h:x8 b ins del d4 bm) (ne:b'≠[]) (s:∀x∈b',x∈b):x8 b' ins del d4 bm:=
 ⟨ne,h.vP.sub s,h.Ut,fun x hx=>h.d4 x (s x hx),h.RY,fun x hx=>h.bm x (s x hx)⟩
def ado (b:List Piece) (s e:Nat):((nv (b.map (·.sign))).drop s).take (e - s)=nv (((b.drop s).take (e - s)).map (·.sign)):=by
 unfold nv;rw[← i7,← i8,← i7,← i8]
def sy (C:Addr) (H:Hp) (a:Addr) (row:List Piece):Prop:=∃rs bs,Rd H a (.lst (rs.map V.ref))∧ig C H rs bs∧bs.flatten=row
def kR.r {C:Addr} {H:Hp} {a:Addr} {row:List Piece} (h:kR C H a row):sy C H a row:=let ⟨rs,bs,e,l,f⟩:=h;⟨rs,bs,e.rd,l,f⟩
def hJ {H H':Hp} {a:Addr} {u:HO} (s:aM H H') (h:Rd H a u):Rd H' a u:=by
 rcases h with h | ⟨o,h⟩
 ·exact .inl (s _ _ h)
 ·exact .inr ⟨o,s _ _ h⟩
def sy.same {C:Addr} {H H':Hp} {a:Addr} {row:List Piece} (h:sy C H a row) (s:aM H H'):sy C H' a row:=by
 obtain⟨rs,bs,e,l,f⟩:=h
 exact⟨rs,bs,hJ s e,l.kp (aM.oz s),f⟩
def gD {rs:List Addr} {i:Nat} {x:V} (h:(rs.map V.ref)[i]? =some x):∃a,rs[i]? =some a∧x=.ref a:=get_map h
def CT {sg i d c b:V}:∀{m:Str},m∈(["is_shown","shown_size","part","with_insertions","with_deletions","with_comments","with_bookmarks"]:List Str)→(M7 sg i d c b).lookup m=none:=by
 intro m hm
 refine aaw _ _ _ _ _ ?_ ?_ ?_ ?_ ?_ <;> (rintro rfl;revert hm;decide+kernel)
def Uu (C:Addr):Sp:=fun vs H Q _=>EX4 fun(a:Addr) (b:List Piece) (s e:Nat)=>vs=[.ref a,.int s,.int e]∧Fn C H a b∧s < e∧e≤b.length∧∀x H',aM H H'→Fn C H' x ((b.drop s).take (e - s))→Q (.ref x) H'
def K6 (T:Tx K mg t):aZ P w K mg base cH 3 t.qM t.qN mG (Uu t.aj):=by
 have GI:aZ P w K mg base cH 1 t.fA t.fZ fu (qU t.aj):=iE T
 refine T.vN.fn.ok K4 (fun vs H Q E h=>?_) (fun cdv A outer s H vs Q E hr h=>?_)
 ·obtain⟨a,b,s,e,rfl,_⟩:=h
  rfl
 ·obtain⟨a,b,s0,e0,rfl,⟨sg,i,d,c,m,ins,del,d4,bm,v⟩,hse,heb,k⟩:=h
  obtain⟨dx,ha⟩:=v.at_
  refine⟨_,Mm (ao (aU (sP T.k7 GI hr rfl T.k6 T.hG.b .nil wq (aa (nS AS (aV (pv 0) rfl) (m3 (pv 1)) (m3 (pv 2)))
   (aa (aV (pv 0) rfl) (aa (aV (pv 0) rfl) (aa (aV (pv 0) rfl) (aa (aV (pv 0) rfl) ah)))))))),?_⟩
  refine⟨_,rfl,a,_,dx,_,_,rfl,ha,T.aO,T.dU,lU ..,_,rfl,_,rfl,_,rfl,_,rfl,sg,_,rfl,v.sg.sq,fun p hp=>?_⟩
  have hap:upd H p (.lst (tJ (nv (b.map (·.sign))) (some (s0:Int)) (some (e0:Int)))) a=some (.ins t.aj dx (M7 (.ref sg) (.ref i) (.ref d) (.ref c) (.ref m))):=by rw[aD (a9 ha hp)];exact ha
  refine⟨_,rfl,a,_,dx,_,_,rfl,hap,T.aO,T.cD,oP ..,?_⟩
  refine⟨_,rfl,a,_,dx,_,_,rfl,hap,T.aO,T.dk,vO ..,?_⟩
  refine⟨_,rfl,a,_,dx,_,_,rfl,hap,T.aO,T.cg,k8 ..,?_⟩
  refine⟨_,rfl,a,_,dx,_,_,rfl,hap,T.aO,T.cj,qT ..,?_⟩
  refine BY fun x dx' H' s' hx e=>?_
  have s0':aM H H':=(bR hp).trans s'
  refine .iK p _ (s' _ _ af) fun o=>.done ?_
  have nxp:x≠p:=fun z=>by rw[z,af]at hx;cases hx
  have s2:aM H (upd H' p (.iK o (.lst (tJ (nv (b.map (·.sign))) (some (s0:Int)) (some (e0:Int)))))):=cB s0' hp
  refine k x _ s2 ⟨p,i,d,c,m,ins,del,d4,bm,⟨dx',by rw[aD nxp];exact e⟩,⟨o,?_⟩,s2 _ _ v.i,s2 _ _ v.d,s2 _ _ v.c,s2 _ _ v.m,v.gS.sub ?_ fun y hy=>uo (eJ hy)⟩
  ·rw[af,M8 (by omega) (by rw[fQ,ab];exact heb),ado]
  ·intro z
   have:=congrArg c8 z
   rw[cc,dH]at this
   simp at this
   omega
def JA (C:Addr):Sp:=fun vs H Q _=>EX7 fun(a sg i d c m u:Addr)=>vs=[.ref a,.ref u]∧YV C H a sg i d c m∧∀x H',aM H H'→YV C H' x sg u d c m→Q (.ref x) H'
def mR (T:Tx K mg t):aZ P w K mg base cH 3 t.fN t.fO eK (JA t.aj):=by
 have GI:aZ P w K mg base cH 1 t.fA t.fZ fu (qU t.aj):=iE T
 refine T.ip.fn.ok w8 (fun vs H Q E h=>?_) (fun cdv A outer s H vs Q E hr h=>?_)
 ·obtain⟨a,sg,i,d,c,m,u,rfl,_⟩:=h
  rfl
 ·obtain⟨a,sg,i,d,c,m,u,rfl,⟨dx,ha⟩,k⟩:=h
  refine⟨_,ao (aU (sP T.k7 GI hr rfl T.k6 T.hG.b .nil wq (aa (aV (pv 0) rfl) (aa (pv 1) (aa (aV (pv 0) rfl) (aa (aV (pv 0) rfl) (aa (aV (pv 0) rfl) ah))))))),?_⟩
  refine⟨_,rfl,a,_,dx,_,_,rfl,ha,T.aO,T.dU,lU ..,_,rfl,_,rfl,a,_,dx,_,_,rfl,ha,T.aO,T.dk,vO ..,
   _,rfl,a,_,dx,_,_,rfl,ha,T.aO,T.cg,k8 ..,_,rfl,a,_,dx,_,_,rfl,ha,T.aO,T.cj,qT ..,?_⟩
  exact BY fun x dx' H' s' hx e=>k x H' s' ⟨dx',e⟩
def JB (C:Addr):Sp:=fun vs H Q _=>EX7 fun(a sg i d c m u:Addr)=>vs=[.ref a,.ref u]∧YV C H a sg i d c m∧∀x H',aM H H'→YV C H' x sg i u c m→Q (.ref x) H'
def nG (T:Tx K mg t):aZ P w K mg base cH 3 t.f6 t.f7 eQ (JB t.aj):=by
 have GI:aZ P w K mg base cH 1 t.fA t.fZ fu (qU t.aj):=iE T
 refine T.iR.fn.ok yc (fun vs H Q E h=>?_) (fun cdv A outer s H vs Q E hr h=>?_)
 ·obtain⟨a,sg,i,d,c,m,u,rfl,_⟩:=h
  rfl
 ·obtain⟨a,sg,i,d,c,m,u,rfl,⟨dx,ha⟩,k⟩:=h
  refine⟨_,ao (aU (sP T.k7 GI hr rfl T.k6 T.hG.b .nil wq (aa (aV (pv 0) rfl) (aa (aV (pv 0) rfl) (aa (pv 1) (aa (aV (pv 0) rfl) (aa (aV (pv 0) rfl) ah))))))),?_⟩
  refine⟨_,rfl,a,_,dx,_,_,rfl,ha,T.aO,T.dU,lU ..,_,rfl,a,_,dx,_,_,rfl,ha,T.aO,T.cD,oP ..,_,rfl,
   _,rfl,a,_,dx,_,_,rfl,ha,T.aO,T.cg,k8 ..,_,rfl,a,_,dx,_,_,rfl,ha,T.aO,T.cj,qT ..,?_⟩
  exact BY fun x dx' H' s' hx e=>k x H' s' ⟨dx',e⟩
def JC (C:Addr):Sp:=fun vs H Q _=>EX7 fun(a sg i d c m u:Addr)=>vs=[.ref a,.ref u]∧YV C H a sg i d c m∧∀x H',aM H H'→YV C H' x sg i d u m→Q (.ref x) H'
def oA (T:Tx K mg t):aZ P w K mg base cH 3 t.gy t.gz fj (JC t.aj):=by
 have GI:aZ P w K mg base cH 1 t.fA t.fZ fu (qU t.aj):=iE T
 refine T.jt.fn.ok zE (fun vs H Q E h=>?_) (fun cdv A outer s H vs Q E hr h=>?_)
 ·obtain⟨a,sg,i,d,c,m,u,rfl,_⟩:=h
  rfl
 ·obtain⟨a,sg,i,d,c,m,u,rfl,⟨dx,ha⟩,k⟩:=h
  refine⟨_,ao (aU (sP T.k7 GI hr rfl T.k6 T.hG.b .nil wq (aa (aV (pv 0) rfl) (aa (aV (pv 0) rfl) (aa (aV (pv 0) rfl) (aa (pv 1) (aa (aV (pv 0) rfl) ah))))))),?_⟩
  refine⟨_,rfl,a,_,dx,_,_,rfl,ha,T.aO,T.dU,lU ..,_,rfl,a,_,dx,_,_,rfl,ha,T.aO,T.cD,oP ..,_,rfl,a,_,dx,_,_,rfl,ha,T.aO,T.dk,vO ..,
   _,rfl,_,rfl,a,_,dx,_,_,rfl,ha,T.aO,T.cj,qT ..,?_⟩
  exact BY fun x dx' H' s' hx e=>k x H' s' ⟨dx',e⟩
def M9 (C:Addr):Sp:=fun vs H Q _=>EX7 fun(a sg i d c m u:Addr)=>vs=[.ref a,.ref u]∧YV C H a sg i d c m∧∀x H',aM H H'→YV C H' x sg i d c u→Q (.ref x) H'
def nH (T:Tx K mg t):aZ P w K mg base cH 3 t.f9 t.gc eR (M9 t.aj):=by
 have GI:aZ P w K mg base cH 1 t.fA t.fZ fu (qU t.aj):=iE T
 refine T.iS.fn.ok yd (fun vs H Q E h=>?_) (fun cdv A outer s H vs Q E hr h=>?_)
 ·obtain⟨a,sg,i,d,c,m,u,rfl,_⟩:=h
  rfl
 ·obtain⟨a,sg,i,d,c,m,u,rfl,⟨dx,ha⟩,k⟩:=h
  refine⟨_,ao (aU (sP T.k7 GI hr rfl T.k6 T.hG.b .nil wq (aa (aV (pv 0) rfl) (aa (aV (pv 0) rfl) (aa (aV (pv 0) rfl) (aa (aV (pv 0) rfl) (aa (pv 1) ah))))))),?_⟩
  refine⟨_,rfl,a,_,dx,_,_,rfl,ha,T.aO,T.dU,lU ..,_,rfl,a,_,dx,_,_,rfl,ha,T.aO,T.cD,oP ..,_,rfl,a,_,dx,_,_,rfl,ha,T.aO,T.dk,vO ..,
   _,rfl,a,_,dx,_,_,rfl,ha,T.aO,T.cg,k8 ..,_,rfl,?_⟩
  exact BY fun x dx' H' s' hx e=>k x H' s' ⟨dx',e⟩
def i6 (C:Addr):Sp:=fun vs H Q _=>EX2 fun(a:Addr) (row:List Piece)=>vs=[.ref a]∧sy C H a row∧row.length≤ag∧∀H',aM H H'→Q (.int (row.length:Nat)) H'
def iF (T:Tx K mg t):aZ P w K mg base cH 1 t.fX t.fY fq (i6 t.aj):=by
 refine T.gJ.fn.ok uu (fun vs H Q E h=>?_) (fun cdv A outer s H vs Q E hr h=>?_)
 ·obtain⟨a,row,rfl,_⟩:=h
  rfl
 ·obtain⟨a,row,rfl,⟨rs,bs,hl,hR,rfl⟩,hz,k⟩:=h
  refine⟨_,ao (aU (cT (ZR rfl) rfl T.aav rfl (aa (pU (own:=[("stretch",1)]) rfl uu.nd (dQ (pv 0)) (eC (by rfl)) (fun _ _ _ _ _=>da (i:=1) uu.nd rfl (bc rfl)) (fun _ _ _ _ _=>j7)
    (fun _ _ _ _ _=>cT (Ql (K:=K) rfl) rfl T.jx bV (aa (js (K:=K) rfl (pv 1) rfl) ah))) ah))),?_⟩
  have hlen:=hR.le
  refine⟨_,rfl,a,rfl,⟨_,.inl hl⟩,fun D' hD=>zf (xs:=rs.map V.ref) (bs.map fun b=>V.int (b.length:Int)) (.inl hl) hD (by rw[ab,ab,hR.len]) (by rw[ab,← hR.len];omega) (fun i x y H' Q' hx hy s' q=>?_) fun H' s' e=>?_⟩
  ·obtain⟨r,er,rfl⟩:=gD hx
   obtain⟨b,eb,rfl⟩:=get_map hy
   obtain⟨b',eb',sg,i0,d,c,m,ins,del,d4,bm,v⟩:=cQ hR er
   cases eb.symm.trans eb'
   obtain⟨dx,ha⟩:=v.at_
   refine⟨_,rfl,r,_,dx,_,_,rfl,s' _ _ ha,T.aO,T.dU,lU ..,sg,_,rfl,.inl (v.kp (aM.oz s')).sg.sq,?_⟩
   rw[fQ,ab]
   exact q H' (aM.refl _)
  ·refine⟨D',bs.map fun b=>(b.length:Int),rfl,by rw[bD];exact g6.of e,?_⟩
   rw[Mt.ur]
   exact k H' s'
def iU (C:Addr):Sp:=fun vs H Q _=>EX2 fun(a:Addr) (row:List Piece)=>vs=[.ref a]∧sy C H a row∧row.length≤ag∧∀H',aM H H'→Q (.int ((visible row).length:Nat)) H'
def jl (T:Tx K mg t):aZ P w K mg base cH 3 t.gF t.gG fW (iU t.aj):=by
 have GS:aZ P w K mg base cH 2 t.fB t.fC eG (Ee t.aj):=ju T
 refine T.jM.fn.ok wF (fun vs H Q E h=>?_) (fun cdv A outer s H vs Q E hr h=>?_)
 ·obtain⟨a,row,rfl,_⟩:=h
  rfl
 ·obtain⟨a,row,rfl,⟨rs,bs,hl,hR,rfl⟩,hz,k⟩:=h
  refine⟨_,ao (aU (cT (ZR rfl) rfl T.aav rfl (aa (pU (own:=[("stretch",1)]) rfl wF.nd (dQ (pv 0)) (eC (by rfl)) (fun _ _ _ _ _=>da (i:=1) wF.nd rfl (bc rfl)) (fun _ _ _ _ _=>j7)
    (fun _ _ _ _ _=>dG T.gn T.aO GS hr (pv 1))) ah))),?_⟩
  have hlen:=hR.le
  refine⟨_,rfl,a,rfl,⟨_,.inl hl⟩,fun D' hD=>zf (xs:=rs.map V.ref) (bs.map fun b=>V.int ((visible b).length:Int)) (.inl hl) hD (by rw[ab,ab,hR.len]) (by rw[ab,← hR.len];omega) (fun i x y H' Q' hx hy s' q=>?_) fun H' s' e=>?_⟩
  ·obtain⟨r,er,rfl⟩:=gD hx
   obtain⟨b,eb,rfl⟩:=get_map hy
   obtain⟨b',eb',hst⟩:=cQ hR er
   cases eb.symm.trans eb'
   have hst':=hst.kp (aM.oz s')
   obtain⟨sg,i0,d,c,m,ins,del,d4,bm,v⟩:=id hst'
   obtain⟨dx,ha⟩:=v.at_
   exact⟨_,rfl,r,dx,_,rfl,ha,CT (by decide+kernel),r,b,rfl,hst',q H' (aM.refl _)⟩
  ·refine⟨D',bs.map fun b=>((visible b).length:Int),rfl,by rw[bD];exact g6.of e,?_⟩
   rw[Mt.KO]
   exact k H' s'
def Acc (C:Addr) (H:Hp) (l:Addr) (fl:List Piece):Prop:=∃lr lb,H l=some (.lst (lr.map V.ref))∧ig C H lr lb∧lb.flatten=fl
def Acc.r {C:Addr} {H:Hp} {l:Addr} {fl:List Piece} (h:Acc C H l fl):sy C H l fl:=let ⟨lr,lb,e,r,f⟩:=h;⟨lr,lb,.inl e,r,f⟩
def Acc.nil {C:Addr} {H:Hp} {l:Addr} (h:H l=some (.lst [])):Acc C H l []:=⟨[],[],h,.nil,rfl⟩
def Acc.same {C:Addr} {H H':Hp} {l:Addr} {fl:List Piece} (h:Acc C H l fl) (s:aM H H'):Acc C H' l fl:=let ⟨lr,lb,e,r,f⟩:=h;⟨lr,lb,s _ _ e,r.kp (aM.oz s),f⟩
def Na {C:Addr} {H:Hp} {l:Addr} {xs:List V} {o:HO} (h:H l=some (.lst xs)):KpI C H (upd H l o):=fun b u e im=>by
 rw[aD (d5 e h (by rintro rfl;exact im))];exact e
def Acc.push {C:Addr} {H:Hp} {l x:Addr} {lr:List Addr} {lb:List (List Piece)} {fl b:List Piece} (e:H l=some (.lst (lr.map V.ref))) (r:ig C H lr lb) (f:lb.flatten=fl) (hx:Fn C H x b):Acc C (upd H l (.lst (lr.map V.ref++[.ref x]))) l (fl++b):=by
 refine⟨lr++[x],lb++[b],?_,fF (r.kp (Na e)) (.cons (hx.kp (Na e)) .nil),?_⟩
 ·rw[af,bz];rfl
 ·rw[eY,f];simp
def XD {C:Addr} {H:Hp} {lr:List Addr} {lb:List (List Piece)} {fl:List Piece} {n:Nat} (r:ig C H lr lb) (f:lb.flatten=fl) (h:fl.length < n):(lr.map V.ref).length < n:=by
 have:=r.le
 rw[f]at this
 rw[ab];omega
def O3 {C:Addr} {H:Hp} {x y:Addr} {r1 r2:List Piece} {Q:VK} (h1:sy C H x r1) (h2:sy C H y r2) (hz:r1.length+r2.length≤ag) (k:∀p H',aM H H'→H p=none→Acc C H' p (r1++r2)→Q (.ref p) H'):acg (.ref x) (.ref y) H Q:=by
 obtain⟨rs1,bs1,e1,l1,f1⟩:=h1
 obtain⟨rs2,bs2,e2,l2,f2⟩:=h2
 have le1:=l1.le
 have le2:=l2.le
 rw[f1]at le1
 rw[f2]at le2
 refine⟨x,y,_,_,rfl,rfl,e1,e2,by rw[ab,ab];omega,fun p hp=>k p _ (bR hp) hp ⟨rs1++rs2,bs1++bs2,?_,?_,?_⟩⟩
 ·rw[af,bz]
 ·exact fF (ig.kp l1 (aM.oz (bR hp))) (ig.kp l2 (aM.oz (bR hp)))
 ·rw[eY,f1,f2]
def Acc.fz {C:Addr} {H:Hp} {l:Addr} {fl:List Piece} {Q:Hp→Prop} (h:Acc C H l fl) (k:∀H',kR C H' l fl→(∀b,b≠l→H' b=H b)→KpI C H H'→Q H'):Fz Q H:=by
 obtain⟨lr,lb,e,r,f⟩:=h
 refine .iK l _ e fun o=>.done (k _ ⟨lr,lb,⟨o,af⟩,r.kp (Na e),f⟩ (fun b hb=>aD hb) (Na e))
def aem (K:aq) (ta:TE):TT:=fun σ H Q=>ta σ H fun x H'=>∃k,acG K x H' k∧Q k H'
def Aq {X:Cx} {K:aq} {a:Expr} {ta:TE} (hK:X.K=K) (ha:PE X a ta) (he:∀whole,NK a X.env whole=(do let v ← whole;B7 a.pos;holding [v] (truthy v))):PT X a (aem K ta):=by subst hK;exact fM ha he
def JD {K:aq} {a D C:Addr} {te:TE} {σ:L2.St} {H1:Hp} {Qd:Hp→Prop} {j:Nat} {rs:List Addr} {bs:List (List Piece)} (g:List Piece→List Piece) (hs:g6 K H1 a (rs.map V.ref)) (hL:ig C H1 rs bs) (hD:H1 D=none) (hz:rs.length≤ag)
  (step:∀(i:Nat) (r:Addr) (b:List Piece) (H:Hp) (Q:VK),rs[i]? =some r→bs[i]? =some b→aM H1 H→Fn C H r b→(∀x H',aM H H'→Fn C H' x (g b)→Q (.ref x) H')→te ((wipe σ [j]).set j (some (.ref r))) H Q)
  (hd:∀H',aM H1 H'→Acc C H' D ((bs.map g).flatten)→Qd H'):
  ∃W:Nat→Nat→Hp→Prop,(∃m,W 0 m (upd H1 D (.lst [])))∧∀i m H,W i m H→
   ((PR K a).stop i H∧Qd H)∨((PR K a).go i H∧∃Nx:Hp→Prop,(∀H',Nx H'→∃m',m' < m∧W (i+1) m' H')∧∀x H',(PR K a).S0 i H x H'→tH j x (wipe σ [j]) H' fun σ2 H2=>wipe σ2 [j]=wipe σ [j]∧ZU σ2 H2 fun b H3=>
    if b=true then te σ2 H3 fun y H4=>∃acc,H4 D=some (.lst acc)∧acc.length < ag∧Nx (upd H4 D (.lst (acc++[y])))else Nx H3):=by
 refine QY (K:=K) (a:=a) (xs:=rs.map V.ref) (fun i H=>aM H1 H∧∃lr,H D=some (.lst (lr.map V.ref))∧ig C H lr ((bs.take i).map g)) ⟨bR hD,[],af,.nil⟩ (fun i H _ h=>h.1.seq hs) (fun i x H hx h=>?_) fun H h=>?_
 ·obtain⟨r,er,rfl⟩:=gD hx
  obtain⟨b,eb,hst⟩:=cQ hL er
  obtain⟨s1,lr,hl,hR⟩:=h
  refine⟨Dq,?_⟩
  dsimp only[ZU]
  rw[if_pos rfl]
  refine step i r b H _ er eb s1 (hst.kp (aM.oz s1)) fun x H' s' hx'=>⟨_,s' _ _ hl,?_,cB (s1.trans s') hD,lr++[x],?_,?_⟩
  ·have e1:=hR.len
   have e2:=(ay.mp er).1
   rw[ab,cc]at e1
   rw[ab];omega
  ·rw[af,bz];rfl
  ·rw[take_snoc eb,bz]
   have kp:=Na (C:=C) (o:=.lst (lr.map V.ref++[.ref x])) (s' _ _ hl)
   exact fF ((ig.kp hR (aM.oz s')).kp kp) (.cons (hx'.kp kp) .nil)
 ·obtain⟨s1,lr,hl,hR⟩:=h
  rw[ab,hL.len,cz]at hR
  exact hd H s1 ⟨lr,_,hl,hR,rfl⟩
def yQ (p:List Piece→Bool) (rs:List Addr) (bs:List (List Piece)):List Addr:=((rs.zip bs).filter fun z=>p z.2).map (·.1)
theorem BZ {C:Addr} {H:Hp} (p:List Piece→Bool):∀{rs:List Addr} {bs:List (List Piece)},ig C H rs bs→ig C H (yQ p rs bs) (bs.filter p)
 | _,_,.nil=>.nil
 | r::rs,b::bs,.cons h t=>by
  have ih:=BZ p (C:=C) (H:=H) t
  unfold yQ at ih⊢
  rw[dM,bK,bK]
  by_cases hb:p b=true
  ·rw[if_pos hb,if_pos hb,aT];exact .cons h ih
  ·rw[if_neg hb,if_neg hb];exact ih
def xD (p:List Piece→Bool) (rs:List Addr) (bs:List (List Piece)):List (Option V):=(rs.zip bs).map fun z=>if p z.2=true then some (V.ref z.1)else none
theorem HE (p:List Piece→Bool):∀(rs:List Addr) (bs:List (List Piece)),(xD p rs bs).filterMap id=(yQ p rs bs).map V.ref
 | [],_=>by simp[xD,yQ]
 | _::_,[]=>by simp[xD,yQ]
 | r::rs,b::bs=>by
  have ih:=HE p rs bs
  unfold xD yQ at ih⊢
  rw[dM,aT,bK]
  by_cases hb:p b=true
  ·rw[if_pos hb,if_pos hb,aT,aT,← ih];rfl
  ·rw[if_neg hb,if_neg hb,← ih];rfl
def wg {p:List Piece→Bool} {rs:List Addr} {bs:List (List Piece)} {i:Nat} {r:Addr} {b:List Piece} {y:Option V} (h1:rs[i]? =some r) (h2:bs[i]? =some b) (h:(xD p rs bs)[i]? =some y):y=if p b=true then some (V.ref r)else none:=by
 unfold xD at h
 have e:(rs.zip bs)[i]? =some (r,b):=g0.mpr ⟨h1,h2⟩
 rw[b0,e]at h
 exact(bu h).symm
def HF {K:aq} {a D C:Addr} {tt:TT} {te:TE} {σ:L2.St} {H1:Hp} {Qd:Hp→Prop} {j:Nat} {rs:List Addr} {bs:List (List Piece)} (p:List Piece→Bool) (hs:g6 K H1 a (rs.map V.ref)) (hL:ig C H1 rs bs) (hD:H1 D=none) (hz:rs.length≤ag)
  (test:∀(r:Addr) (b:List Piece) (H:Hp) (Q:Bool→Hp→Prop),b∈bs→aM H1 H→Fn C H r b→(∀H',aM H H'→Q (p b) H')→tt ((wipe σ [j]).set j (some (.ref r))) H Q)
  (step:∀(x:V) (H:Hp) (Q:VK),Q x H→te ((wipe σ [j]).set j (some x)) H Q)
  (hd:∀H',aM H1 H'→Acc C H' D (bs.filter p).flatten→Qd H'):
  ∃W:Nat→Nat→Hp→Prop,(∃m,W 0 m (upd H1 D (.lst [])))∧∀i m H,W i m H→
   ((PR K a).stop i H∧Qd H)∨((PR K a).go i H∧∃Nx:Hp→Prop,(∀H',Nx H'→∃m',m' < m∧W (i+1) m' H')∧∀x H',(PR K a).S0 i H x H'→tH j x (wipe σ [j]) H' fun σ2 H2=>wipe σ2 [j]=wipe σ [j]∧tt σ2 H2 fun b H3=>
    if b=true then te σ2 H3 fun y H4=>∃acc,H4 D=some (.lst acc)∧acc.length < ag∧Nx (upd H4 D (.lst (acc++[y])))else Nx H3):=by
 refine LB (xs:=rs.map V.ref) (xD p rs bs) hs hD (by unfold xD;rw[ab,ab,gU,hL.len,iV]) (by unfold xD;rw[ab,gU,hL.len,iV,← hL.len];exact hz)
  (fun i x y H' Q' hx hy s' q=>?_) (fun i x y H' Q' hx hy s' q=>?_) fun H2 s2 e2=>?_
 ·obtain⟨r,er,rfl⟩:=gD hx
  obtain⟨b,eb,hst⟩:=cQ hL er
  have ey:=wg er eb hy
  refine test r b H' Q' (a7 eb) s' (hst.kp (aM.oz s')) fun H2 s2=>?_
  have e3:p b=y.isSome:=by
   rw[ey]
   by_cases h:p b=true
   ·rw[if_pos h,h];rfl
   ·rw[if_neg h,show p b=false by simpa using h];rfl
  rw[e3];exact q H2 s2
 ·obtain⟨r,er,rfl⟩:=gD hx
  obtain⟨b,eb,hst⟩:=cQ hL er
  have ey:=wg er eb hy
  have ey:V.ref r=y:=by
   by_cases h:p b=true
   ·rw[if_pos h]at ey;exact(bu ey).symm
   ·rw[if_neg h]at ey;cases ey
  refine step _ H' Q' ?_
  rw[ey];exact q H' (aM.refl _)
 ·rw[HE]at e2
  exact hd H2 s2 ⟨_,_,e2,BZ _ (ig.kp hL (aM.oz s2)),rfl⟩
theorem B0 {α:Type} (p:List α→Bool):∀bs:List (List α),(bs.filter p).flatten.length≤bs.flatten.length
 | []=>aJ _
 | b::bs=>by
  have:=B0 p bs
  rw[bK]
  split
  ·rw[bC,bC,ae,ae];omega
  ·rw[bC,ae];omega
def ifJ {c:Prop} [Decidable c] {A:Prop} {R:L2.St→Hp→Prop} {σ:L2.St} {H:Hp} (J:L2.St→Hp→Prop) (rest:∀σ' H',J σ' H'→R σ' H') (yes:c→(∀σ' H',J σ' H'→R σ' H')→A) (no:¬c→J σ H):if c then A else R σ H:=by
 by_cases h:c
 ·rw[if_pos h];exact yes h rest
 ·rw[if_neg h];exact rest _ _ (no h)
def zR {bs:List (List Piece)} {i:Nat} {b:List Piece} (h:bs[i]? =some b):visible (bs.take (i+1)).flatten=visible (bs.take i).flatten++visible b:=by
 rw[Mt.wC h,Mt.bU]
def Uv {bs:List (List Piece)} (i:Nat):(visible (bs.take i).flatten).length≤(visible bs.flatten).length:=by
 have e:bs.flatten=(bs.take i).flatten++(bs.drop i).flatten:=by rw[← eY,cR]
 rw[e,Mt.bU,ae];omega
def qV (l:List Piece):List V:=nv (l.map (·.sign))
def O4 (a b:List Piece):qV (a++b)=qV a++qV b:=by unfold qV nv;rw[bz,bz]
def Wz (a:List Piece):(qV a).length=a.length:=by unfold qV;rw[fQ,ab]
def JE (C:Addr):Sp:=fun vs H Q _=>EX2 fun(a:Addr) (row:List Piece)=>vs=[.ref a]∧sy C H a row∧row.length≤ag∧∀q H',aM H H'→H q=none→H' q=some (.lst (qV row))→Q (.ref q) H'
def Kr (T:Tx K mg t):aZ P w K mg base cH 1 t.xa t.xb rW (JE t.aj):=by
 refine T.Hx.fn.ok Dr (fun vs H Q E h=>?_) (fun cdv A outer s H vs Q E hr h=>?_)
 ·obtain⟨a,row,rfl,_⟩:=h
  rfl
 ·obtain⟨a,row,rfl,⟨rs,bs,hl,hR,rfl⟩,hz,k⟩:=h
  refine⟨_,(ai (bP (i:=1) Dr.nd rfl (bc rfl) (b5 ah))
   (ai (mi cS rfl (dQ (pv 0)) (da (i:=2) Dr.nd rfl (bc rfl)) (ao (fo (pD bF dE dF mw (pv 1) (aa (aV (pv 2) rfl) ah)))))
   (ao (aU (pv 1))))),?_⟩
  refine⟨bZ _,fun q hq=>?_⟩
  have s1:aM H (upd H q (.lst [])):=bR hq
  refine⟨_,rfl,a,rfl,⟨_,.inl (hJ s1 hl)⟩,lj (K:=K) (a:=a) (xs:=rs.map V.ref) (fun i σ H'=>∃v:Option V,σ=[some (.ref a),some (.ref q),v]∧aM H H'∧H' q=some (.lst (qV (bs.take i).flatten)))
   ⟨none,rfl,s1,af⟩ (fun i σ H' _ ⟨_,_,s2,_⟩=>.inl (hJ s2 hl)) ?_ ?_⟩
  ·rintro i y σ H' hi ⟨v,rfl,s2,hq'⟩
   obtain⟨r,er,rfl⟩:=gD hi
   obtain⟨b,eb,hst⟩:=cQ hR er
   obtain⟨sg,i0,d,c,m,ins,del,d4,bm,vv⟩:=hst.kp (aM.oz s2)
   obtain⟨dx,ha⟩:=vv.at_
   refine⟨_,rfl,.inl ⟨rfl,_,g6.of hq'⟩,_,rfl,r,_,dx,_,_,rfl,ha,T.aO,T.dU,lU ..,q,sg,_,_,rfl,rfl,hq',vv.sg.rd,?_,?_⟩
   ·have h1:=congrArg c8 (Mt.zd eb)
    simp only[ae]at h1
    rw[Wz,fQ,ab]
    omega
   ·refine⟨_,rfl,cB s2 hq,?_⟩
    rw[af,Mt.wC eb,O4];rfl
  ·rintro σ H' ⟨v,rfl,s2,hq'⟩
   rw[ab,hR.len,cz]at hq'
   exact⟨_,rfl,k q H' s2 hq hq'⟩
def RZ:List Piece→Bool
 | x::_=>shown x
 | []=>true
def Qq {b:List Piece} {ins del d4 bm:List Nat} (h:x8 b ins del d4 bm):RZ b=del.isEmpty:=by
 cases b with
 | nil=>exact absurd rfl h.ne
 | cons x r=>show x.del.isEmpty=_;rw[(h.vP x (aE ..)).2]
theorem Nb {C:Addr} {H:Hp}:∀{rs:List Addr} {bs:List (List Piece)},ig C H rs bs→(bs.filter RZ).flatten=visible bs.flatten
 | _,_,.nil=>rfl
 | _,b::bs,.cons hst t=>by
  obtain⟨sg,i,d,c',m,ins,del,d4,bm,vv⟩:=hst
  rw[bK,Qq vv.gS,bC,Mt.bU,vv.gS.vP.vis,← Nb t]
  split
  ·rw[bC]
  ·rfl
def vQ (C:Addr):Sp:=fun vs H Q _=>EX2 fun(a:Addr) (row:List Piece)=>vs=[.ref a]∧sy C H a row∧row.length≤ag∧∀q H',aM H H'→H q=none→H' q=some (.lst (qV (visible row)))→Q (.ref q) H'
def xE (T:Tx K mg t):aZ P w K mg base cH 2 t.lN t.lO jU (vQ t.aj):=by
 have g0g:aZ P w K mg base cH 1 t.gk t.gm fw (Ap t.aj):=j8 T
 have g1q:aZ P w K mg base cH 1 t.xa t.xb rW (JE t.aj):=Kr T
 refine T.ua.fn.ok wG (fun vs H Q E h=>?_) (fun cdv A outer s H vs Q E hr h=>?_)
 ·obtain⟨a,row,rfl,_⟩:=h
  rfl
 ·obtain⟨a,row,rfl,⟨rs,bs,hl,hR,rfl⟩,hz,k⟩:=h
  refine⟨_,(ao (aU (bB T.Hx g1q (hr.mono (by decide)) (aa (pU (own:=[("stretch",1)]) rfl wG.nd (dQ (pv 0)) (eC (by rfl)) (fun _ _ _ _ _=>da (i:=1) wG.nd rfl (bc rfl)) (fun _ _ _ _ _=>pT (Aq (K:=K) rfl (dG T.jb T.aO g0g (hr.mono (by decide)) (pv 1)) (fun _=>rfl))) (fun _ _ _ _ _=>(pv 1))) ah)))),?_⟩
  have hle:=hR.le
  refine⟨_,rfl,a,rfl,⟨_,.inl hl⟩,fun D hD=>HF (C:=t.aj) RZ (.inl hl) hR hD (by omega) (fun r b H' Q' hb s' hst q=>?_) (fun x H' Q' q=>?_) fun H' s' hA=>?_⟩
  ·obtain⟨sg,i0,d,c,m,ins,del,d4,bm,vv⟩:=hst
   obtain⟨dx,ha⟩:=vv.at_
   refine⟨_,rfl,r,dx,_,rfl,ha,CT (by decide+kernel),r,sg,i0,d,c,m,_,rfl,⟨dx,ha⟩,vv.d,_,rfl,?_⟩
   have en:(nv del).isEmpty=RZ b:=by rw[Qq vv.gS];unfold nv;cases del <;> rfl
   rw[en];exact q H' (aM.refl _)
  ·exact⟨_,rfl,q⟩
  ·rw[Nb hR]at hA
   refine⟨D,_,rfl,hA.r,bg (Mt.il _) hz,fun q H2 s2 hq h2=>?_⟩
   exact k q H2 (s'.trans s2) (s'.free hq) h2
def yR (C:Addr):Sp:=fun vs H Q _=>EX4 fun(a:Addr) (rs:List Addr) (bs:List (List Piece)) (p:Nat)=>vs=[.ref a,.int p]∧Rd H a (.lst (rs.map V.ref))∧ig C H rs bs∧p < (visible bs.flatten).length∧
 ∀(i k:Nat) (b:List Piece) (ins:List Nat) (q:Addr) (H':Hp),bs[i]? =some b→k < b.length→Mt.Xl b ins []→(visible (bs.take i).flatten).length+k=p→aM H H'→H' q=some (.tup [.int i,.int k])→Q (.ref q) H'
def zS (T:Tx K mg t):aZ P w K mg base cH 3 t.ng t.nh k0 (yR t.aj):=by
 have GS:aZ P w K mg base cH 2 t.fB t.fC eG (Ee t.aj):=ju T
 refine T.xw.fn.ok nV (fun vs H Q E h=>?_) (fun cdv A outer s H vs Q E hr h=>?_)
 ·obtain⟨a,rs,bs,p,rfl,_⟩:=h
  rfl
 ·obtain⟨a,rs,bs,p,rfl,hl,hR,hp,k⟩:=h
  refine⟨_,ai (bP (i:=2) nV.nd rfl (bc rfl) aP) (ai (bP (i:=3) nV.nd rfl (bc rfl) (pv 1))
   (ai (SY cS (dN ad0 (pv 3) (dG T.gn T.aO GS hr (gv AR (pv 0) (pv 2) (fun _ _=>rfl))) (d6 _))
    (ai (ZE (i:=3) nV.nd rfl (bc rfl) (dG T.gn T.aO GS hr (gv AR (pv 0) (pv 2) (fun _ _=>rfl))) acD) (ao (ZE (i:=2) nV.nd rfl (bc rfl) aP acC))))
   (ao (aU (jS (aa (pv 2) (aa (pv 3) ah))))))),?_⟩
  refine⟨_,rfl,?_⟩
  refine⟨fun n σ H'=>∃i l:Nat,σ=[some (.ref a),some (.int p),some (.int i),some (.int l)]∧H'=H∧n=bs.length - i∧i≤bs.length∧(visible (bs.take i).flatten).length+l=p,⟨_,0,p,rfl,rfl,rfl,bZ _,by simp[Mt.hZ]⟩,?_⟩
  rintro n σ H' ⟨i,l,rfl,rfl,rfl,hi,e⟩
  have hib:i < bs.length:=by
   rcases nA i bs.length with z | z
   ·exact z
   ·rw[fI z]at e;omega
  have eb:bs[i]? =some bs[i]:=cM hib
  obtain⟨r,er,hst⟩:=yP hR eb
  generalize bs[i]=b at eb hst
  obtain⟨sg,i0,d,c,m,ins,del,d4,bm,vv⟩:=id hst
  obtain⟨dx,ha⟩:=vv.at_
  have ix:Yl (rs.map V.ref) (i:Int)=some (.ref r):=dJ (by rw[b0,er];rfl)
  refine⟨_,rfl,_,rfl,_,rfl,a,_,_,_,rfl,rfl,.inl hl,ix,r,dx,_,rfl,ha,CT (by decide+kernel),r,b,rfl,hst,_,_,rfl,rfl,_,rfl,?_⟩
  refine fi (fun h=>?_) fun h=>?_
  ·have h:(visible b).length≤l:=by simpa using h
   refine⟨fun σ' H''=>∃i' l':Nat,σ'=[some (.ref a),some (.int p),some (.int i'),some (.int l')]∧H''=H'∧i'=i+1∧l'=l - (visible b).length,?_,?_⟩
   ·rintro σ' H'' ⟨i',l',rfl,rfl,rfl,rfl⟩
    refine⟨bs.length - (i+1),by omega,i+1,_,rfl,rfl,rfl,hib,?_⟩
    rw[zR eb,ae];omega
   ·refine⟨_,rfl,_,rfl,_,rfl,a,_,_,_,rfl,rfl,.inl hl,ix,r,dx,_,rfl,ha,CT (by decide+kernel),r,b,rfl,hst,_,_,rfl,rfl,?_⟩
    refine⟨_,rfl,_,_,rfl,rfl,?_⟩
    refine⟨i+1,l - (visible b).length,?_,rfl,rfl,rfl⟩
    have e1:((l - (visible b).length:Nat):Int)=(l:Int) - ((visible b).length:Int):=by omega
    rw[e1]
    rfl
  ·have h:l < (visible b).length:=by simpa using h
   have hd:del.isEmpty=true:=by
    rw[vv.gS.vP.EN]at h
    split at h
    ·assumption
    ·omega
   have hdel:del=[]:=nB.mp hd
   rw[vv.gS.vP.EN,if_pos hd]at h
   refine⟨_,rfl,_,rfl,(by show 2≤ag;decide),fun q hq=>?_⟩
   exact k i l b ins q _ eb h (hdel▸vv.gS.vP) e (bR hq) af
def Ef (C:Addr):Sp:=fun vs H Q _=>EX3 fun(a:Addr) (row:List Piece) (p:Nat)=>vs=[.ref a,.int p]∧sy C H a row∧p < (visible row).length∧
 ∀(r:Addr) (b:List Piece) (x:Piece) (H':Hp),Fn C H' r b→x∈b→(visible row)[p]? =some x→aM H H'→Q (.ref r) H'
def FF (T:Tx K mg t):aZ P w K mg base cH 4 t.qk t.qm m5 (Ef t.aj):=by
 have GF:aZ P w K mg base cH 3 t.ng t.nh k0 (yR t.aj):=zS T
 refine T.xx.fn.ok OE (fun vs H Q E h=>?_) (fun cdv A outer s H vs Q E hr h=>?_)
 ·obtain⟨a,row,p,rfl,_⟩:=h
  rfl
 ·obtain⟨a,row,p,rfl,⟨rs,bs,hl,hR,rfl⟩,hp,k⟩:=h
  refine⟨_,ao (aU (gv AR (pv 0) (gv fH (bB T.xw GF hr (aa (pv 0) (aa (pv 1) ah))) aP (fun _ _=>rfl)) (fun _ _=>rfl))),?_⟩
  refine⟨_,rfl,_,rfl,_,rfl,a,rs,bs,p,rfl,hl,hR,hp,fun i j b ins q H' eb hj u e s' hq=>?_⟩
  obtain⟨r,er,hst⟩:=yP hR eb
  obtain⟨x,hx,bf⟩:=Mt.A1 eb u hj e
  have ix:Yl (rs.map V.ref) (i:Int)=some (.ref r):=dJ (by rw[b0,er];rfl)
  exact⟨q,_,_,_,rfl,rfl,iB.of hq,dJ (j:=0) rfl,a,_,_,_,rfl,rfl,.inl (hJ s' hl),ix,k r b x H' (hst.kp (aM.oz s')) (a7 hx) bf.vis s'⟩
def Qr {xs:List V} {i:Nat} (h:i≤xs.length):tJ xs none (some (i:Int))=xs.take i:=by
 unfold tJ;rw[HT.G0,Qp (k:=i) h];simp
def Qs {xs:List V} {i:Nat} (h:i≤xs.length):tJ xs (some (i:Int)) none=xs.drop i:=by
 unfold tJ;rw[HT.G0,Qp (k:=i) h]
 exact fI (by rw[dH];exact aJ _)
def B1 (C:Addr):Sp:=fun vs H Q _=>EX6 fun(a:Addr) (rs:List Addr) (bs:List (List Piece)) (i off:Nat) (b:List Piece)=>vs=[.ref a,.int i,.int off]∧Rd H a (.lst (rs.map V.ref))∧ig C H rs bs∧bs[i]? =some b∧off≤b.length∧bs.flatten.length < ag∧
 ∀(f g q:Addr) (H':Hp),aM H H'→kR C H' f ((bs.take i).flatten++b.take off)→kR C H' g (b.drop off++(bs.drop (i+1)).flatten)→H' q=some (.tup [.ref f,.ref g])→Q (.ref q) H'
def Eg (T:Tx K mg t):aZ P w K mg base cH 4 t.n8 t.n9 lK (B1 t.aj):=by
 have g1p:aZ P w K mg base cH 3 t.qM t.qN mG (Uu t.aj):=K6 T
 refine T.yF.fn.ok kl (fun vs H Q E h=>?_) (fun cdv A outer s H vs Q E hr h=>?_)
 ·obtain⟨a,rs,bs,i,off,b,rfl,_⟩:=h
  rfl
 ·obtain⟨a,rs,bs,i,off,b,rfl,hl,hR,eb,hoff,hz,k⟩:=h
  refine⟨_,Mm (ai (bP (i:=3) kl.nd rfl (bc rfl) (gv AR (pv 0) (pv 1) (fun _ _=>rfl)))
   (ai (bP (i:=4) kl.nd rfl (bc rfl) (cT cX rfl T.jx bV (aa (aV (pv 3) rfl) ah)))
   (ai (bP (i:=5) kl.nd rfl (bc rfl) (nS AS (pv 0) AQ (m3 (pv 1))))
   (ai (bP (i:=6) kl.nd rfl (bc rfl) (nS AS (pv 0) (m3 (e6 za (pv 1) aP)) AQ))
   (ai (dC (dN LQ (pv 2) aP (d6 _)) (ao (fo (pD bF cV cW ke (pv 5) (aa (FE T.vN T.aO g1p (hr.mono (by decide)) (pv 3) (aa aP (aa (pv 2) ah))) ah)))) b8)
   (ai (dC (dN LP (pv 2) (pv 4) (d6 _)) (ao (bP (i:=6) kl.nd rfl (bc rfl) (e6 gZ (b5 (aa (FE T.vN T.aO g1p (hr.mono (by decide)) (pv 3) (aa (pv 2) (aa (pv 4) ah))) ah)) (pv 6)))) b8)
   (ao (aU (jS (aa (pv 5) (aa (pv 6) ah))))))))))),?_⟩
  obtain⟨r,er,hst⟩:=yP hR eb
  obtain⟨sg,i0,d,c,m,ins,del,d4,bm,vv⟩:=id hst
  obtain⟨dx,ha⟩:=vv.at_
  have hib:i < bs.length:=(ay.mp eb).1
  have hrl:=hR.len
  have hle:=hR.le
  have ix:Yl (rs.map V.ref) (i:Int)=some (.ref r):=dJ (by rw[b0,er];rfl)
  refine⟨_,rfl,_,rfl,a,_,_,_,rfl,rfl,.inl hl,ix,?_⟩
  refine⟨_,rfl,r,_,dx,_,_,rfl,ha,T.aO,T.dU,lU ..,sg,_,rfl,.inl vv.sg.sq,?_⟩
  refine⟨_,rfl,_,rfl,_,rfl,a,_,rfl,.inl hl,fun pf hpf=>?_⟩
  have s1:aM H (upd H pf (.lst (tJ (rs.map V.ref) none (some (i:Int))))):=bR hpf
  refine⟨_,rfl,_,rfl,_,_,rfl,rfl,_,rfl,a,_,rfl,.inl (hJ s1 hl),fun pb hpb=>?_⟩
  have e1:tJ (rs.map V.ref) none (some (i:Int))=(rs.take i).map V.ref:=by rw[Qr (by rw[ab];omega),i8]
  have e2:tJ (rs.map V.ref) (some ((i:Int)+1)) none=(rs.drop (i+1)).map V.ref:=by
   have:((i:Int)+1)=((i+1:Nat):Int):=by omega
   rw[this,Qs (by rw[ab];omega),i7]
  rw[e1]at s1 hpb⊢
  rw[e2]
  have npb:H pb=none:=s1.free hpb
  have npf:pf≠pb:=fun z=>by rw[← z,af]at hpb;cases hpb
  have s2:aM H (upd (upd H pf (.lst ((rs.take i).map V.ref))) pb (.lst ((rs.drop (i+1)).map V.ref))):=cB s1 npb
  have esz:((nv (b.map (·.sign))).length:Int)=(b.length:Int):=by rw[fQ,ab]
  rw[esz]
  refine⟨_,rfl,_,_,rfl,rfl,_,rfl,?_⟩
  refine ifJ (fun σ' H'=>σ'=[some (.ref a),some (.int i),some (.int off),some (.ref r),some (.int (b.length:Int)),some (.ref pf),some (.ref pb)]∧aM H H'∧H' pb=some (.lst ((rs.drop (i+1)).map V.ref))∧
   ∃fr fb,H' pf=some (.lst (fr.map V.ref))∧ig t.aj H' fr fb∧fb.flatten=(bs.take i).flatten++b.take off) ?_ ?_ ?_
  ·rintro σ' H3 ⟨rfl,s3,hb3,fr,fb,hf3,hR3,ef⟩
   refine⟨_,rfl,_,rfl,_,_,rfl,rfl,_,rfl,?_⟩
   refine ifJ (fun σ' H'=>∃pg,σ'=[some (.ref a),some (.int i),some (.int off),some (.ref r),some (.int (b.length:Int)),some (.ref pf),some (.ref pg)]∧pf≠pg∧H pg=none∧aM H H'∧H' pf=some (.lst (fr.map V.ref))∧ig t.aj H' fr fb∧
    ∃gr gb,H' pg=some (.lst (gr.map V.ref))∧ig t.aj H' gr gb∧gb.flatten=b.drop off++(bs.drop (i+1)).flatten) ?_ ?_ ?_
   ·rintro σ' H4 ⟨pg,rfl,nfg,npg,s4,hf4,hR4,gr,gb,hg4,hG4,eg⟩
    refine⟨_,rfl,_,rfl,(by show 2≤ag;decide),fun q hq=>?_⟩
    have nqf:pf≠q:=a9 hf4 hq
    have nqg:pg≠q:=a9 hg4 hq
    refine .iK pf (fr.map V.ref) (by rw[aD nqf];exact hf4) fun o1=>.iK pg (gr.map V.ref) (by rw[aD (dv nfg),aD nqg];exact hg4) fun o2=>.done ?_
    generalize hH5:upd (upd (upd H4 q (.tup [.ref pf,.ref pg])) pf (.iK o1 (.lst (fr.map V.ref)))) pg (.iK o2 (.lst (gr.map V.ref)))=H5
    have kp:KpI t.aj H4 H5:=fun x o e im=>by
     rw[← hH5]
     have n1:x≠pg:=d5 e hg4 (by rintro rfl;exact im)
     have n2:x≠pf:=d5 e hf4 (by rintro rfl;exact im)
     have n3:x≠q:=a9 e hq
     rw[aD n1,aD n2,aD n3];exact e
    have s5:aM H H5:=fun x o e=>by
     rw[← hH5,aD (a9 e npg),aD (a9 e hpf),aD (a9 (s4 _ _ e) hq)];exact s4 _ _ e
    refine k pf pg q H5 s5 ⟨fr,fb,⟨o1,by rw[← hH5,aD nfg,af]⟩,hR4.kp kp,ef⟩ ⟨gr,gb,⟨o2,by rw[← hH5,af]⟩,hG4.kp kp,eg⟩ ?_
    rw[← hH5,aD (dv nqg),aD (dv nqf),af]
   ·intro h kk
    have h:off < b.length:=by simpa using h
    have hst3:=hst.kp (aM.oz s3)
    refine⟨_,rfl,r,dx,_,rfl,s3 _ _ ha,CT (by decide+kernel),_,rfl,_,rfl,r,b,off,b.length,rfl,hst3,h,aJ _,fun x H4 s4 hx=>?_⟩
    refine⟨(by show 1≤ag;decide),fun pl hpl=>?_⟩
    have npl:H4 pl=none:=hpl
    have s5:aM H3 (upd H4 pl (.lst [.ref x])):=cB s4 (s4.free hpl)
    refine⟨_,rfl,pl,pb,_,_,rfl,rfl,.inl af,.inl (s5 _ _ hb3),?_,fun pg hpg=>?_⟩
    ·show 1+((rs.drop (i+1)).map V.ref).length≤ag
     rw[ab,dH];omega
    ·have s6:aM H3 (upd (upd H4 pl (.lst [.ref x])) pg (.lst ([.ref x]++(rs.drop (i+1)).map V.ref))):=cB s5 (s5.free hpg)
     have s7:aM H4 (upd (upd H4 pl (.lst [.ref x])) pg (.lst ([.ref x]++(rs.drop (i+1)).map V.ref))):=cB (bR hpl) ((bR hpl).free hpg)
     refine kk _ _ ⟨pg,rfl,a9 (s5 _ _ hf3) hpg,(s3.trans s5).free hpg,s3.trans s6,s6 _ _ hf3,hR3.kp (aM.oz s6),x::rs.drop (i+1),b.drop off::bs.drop (i+1),?_,?_,rfl⟩
     ·rw[af];rfl
     ·refine .cons ?_ (kT (i+1) (ig.kp hR (aM.oz (s3.trans s6))))
      have e9:(b.drop off).take (b.length - off)=b.drop off:=fI (by rw[dH];exact aJ _)
      rw[e9]at hx
      exact hx.kp (aM.oz s7)
   ·intro h
    have h:¬off < b.length:=by simpa using h
    refine⟨pb,rfl,npf,npb,s3,hf3,hR3,rs.drop (i+1),bs.drop (i+1),hb3,kT (i+1) (ig.kp hR (aM.oz s3)),?_⟩
    rw[show b.drop off=[]from rD (by omega)];rfl
  ·intro h kk
   have h:0 < off:=by simpa using h
   have hst2:=hst.kp (aM.oz s2)
   have hpf2:upd (upd H pf (.lst ((rs.take i).map V.ref))) pb (.lst ((rs.drop (i+1)).map V.ref)) pf=some (.lst ((rs.take i).map V.ref)):=by rw[aD npf,af]
   refine⟨_,rfl,.inl ⟨rfl,_,g6.of hpf2⟩,_,rfl,r,dx,_,rfl,s2 _ _ ha,CT (by decide+kernel),_,rfl,r,b,0,off,rfl,hst2,h,hoff,fun x H4 s4 hx=>?_⟩
   refine⟨pf,_,_,rfl,rfl,s4 _ _ hpf2,?_,?_⟩
   ·rw[ab,cc];omega
   ·have hf4:=s4 _ _ hpf2
    have hpb2:upd (upd H pf (.lst ((rs.take i).map V.ref))) pb (.lst ((rs.drop (i+1)).map V.ref)) pb=some (.lst ((rs.drop (i+1)).map V.ref)):=af
    have kp:KpI t.aj H4 (upd H4 pf (.lst ((rs.take i).map V.ref++[.ref x]))):=fun y o e im=>by
     rw[aD (d5 e hf4 (by rintro rfl;exact im))];exact e
    refine kk _ _ ⟨rfl,cB (s2.trans s4) hpf,?_,rs.take i++[x],bs.take i++[b.take off],?_,?_,?_⟩
    ·rw[aD (dv npf)];exact s4 _ _ hpb2
    ·rw[af,bz];rfl
    ·refine fF (pJ i ((ig.kp hR (aM.oz (s2.trans s4))).kp kp)) (.cons ?_ .nil)
     have hx:Fn t.aj H4 x (b.take off):=by simpa using hx
     exact hx.kp kp
    ·simp
  ·intro h
   have h:¬0 < off:=by simpa using h
   have h0:off=0:=by omega
   refine⟨rfl,s2,af,rs.take i,bs.take i,by rw[aD npf,af],pJ i (ig.kp hR (aM.oz s2)),?_⟩
   rw[h0];simp
def B2 (C:Addr):Sp:=fun vs H Q _=>EX3 fun(a:Addr) (row:List Piece) (p:Nat)=>vs=[.ref a,.int p]∧sy C H a row∧p < (visible row).length∧row.length < ag∧
 ∀(f g q:Addr) (H':Hp) (fa:List Piece) (x:Piece) (fb:List Piece),aM H H'→Mt.mj row p fa x fb→kR C H' f fa→kR C H' g (x::fb)→H' q=some (.tup [.ref f,.ref g])→Q (.ref q) H'
def Eh (T:Tx K mg t):aZ P w K mg base cH 5 t.oa t.oe lL (B2 t.aj):=by
 have g1n:aZ P w K mg base cH 3 t.ng t.nh k0 (yR t.aj):=zS T
 have g1j:aZ P w K mg base cH 4 t.n8 t.n9 lK (B1 t.aj):=Eg T
 refine T.yG.fn.ok Ds (fun vs H Q E h=>?_) (fun cdv A outer s H vs Q E hr h=>?_)
 ·obtain⟨a,row,p,rfl,_⟩:=h
  rfl
 ·obtain⟨a,row,p,rfl,⟨rs,bs,hl,hR,rfl⟩,hp,hz,k⟩:=h
  refine⟨_,(ai (bP (i:=2) Ds.nd rfl (bc rfl) (bB T.xw g1n (hr.mono (by decide)) (aa (pv 0) (aa (pv 1) ah))))
   (ao (aU (bB T.yF g1j (hr.mono (by decide)) (aa (pv 0) (aa (gv fH (pv 2) aP (fun _ _=>rfl)) (aa (gv fH (pv 2) aP (fun _ _=>rfl)) ah))))))),?_⟩
  refine⟨_,rfl,_,rfl,a,rs,bs,p,rfl,hl,hR,hp,fun i j b ins q H' eb hj u e s' hq=>?_⟩
  obtain⟨x,hx,bf⟩:=Mt.A1 eb u hj e
  refine⟨_,rfl,_,rfl,q,_,_,_,rfl,rfl,iB.of hq,dJ (j:=0) rfl,_,rfl,q,_,_,_,rfl,rfl,iB.of hq,dJ (j:=1) rfl,
   a,rs,bs,i,j,b,rfl,hJ s' hl,hR.kp (aM.oz s'),eb,by omega,hz,fun f g q2 H2 s2 h1 h2 h3=>?_⟩
  refine k f g q2 H2 _ x _ (s'.trans s2) bf h1 ?_ h3
  have ed:b.drop j=x::b.drop (j+1):=by
   rw[fP hj,(ay.mp hx).2]
  rw[ed]at h2;exact h2
def HG (C:Addr):Sp:=fun vs H Q _=>EX3 fun(a:Addr) (row:List Piece) (p:Nat)=>vs=[.ref a,.int p]∧sy C H a row∧p < (visible row).length∧row.length < ag∧
 ∀(f g q:Addr) (H':Hp) (fa:List Piece) (x:Piece) (fb:List Piece),aM H H'→Mt.mj row p fa x fb→kR C H' f (fa++[x])→kR C H' g fb→H' q=some (.tup [.ref f,.ref g])→Q (.ref q) H'
def Nc (T:Tx K mg t):aZ P w K mg base cH 5 t.sY t.sZ nW (HG t.aj):=by
 have g1n:aZ P w K mg base cH 3 t.ng t.nh k0 (yR t.aj):=zS T
 have g1j:aZ P w K mg base cH 4 t.n8 t.n9 lK (B1 t.aj):=Eg T
 refine T.D5.fn.ok Dt (fun vs H Q E h=>?_) (fun cdv A outer s H vs Q E hr h=>?_)
 ·obtain⟨a,row,p,rfl,_⟩:=h
  rfl
 ·obtain⟨a,row,p,rfl,⟨rs,bs,hl,hR,rfl⟩,hp,hz,k⟩:=h
  refine⟨_,(ai (bP (i:=2) Dt.nd rfl (bc rfl) (bB T.xw g1n (hr.mono (by decide)) (aa (pv 0) (aa (pv 1) ah))))
   (ao (aU (bB T.yF g1j (hr.mono (by decide)) (aa (pv 0) (aa (gv fH (pv 2) aP (fun _ _=>rfl)) (aa (e6 za (gv fH (pv 2) aP (fun _ _=>rfl)) aP) ah))))))),?_⟩
  refine⟨_,rfl,_,rfl,a,rs,bs,p,rfl,hl,hR,hp,fun i j b ins q H' eb hj u e s' hq=>?_⟩
  obtain⟨x,hx,bf⟩:=Mt.A1 eb u hj e
  refine⟨_,rfl,_,rfl,q,_,_,_,rfl,rfl,iB.of hq,dJ (j:=0) rfl,_,rfl,q,_,_,_,rfl,rfl,iB.of hq,dJ (j:=1) rfl,_,_,rfl,rfl,
   a,rs,bs,i,j+1,b,rfl,hJ s' hl,hR.kp (aM.oz s'),eb,by omega,hz,fun f g q2 H2 s2 h1 h2 h3=>?_⟩
  refine k f g q2 H2 _ x _ (s'.trans s2) bf ?_ h2 h3
  rw[take_snoc hx,← bM]at h1
  exact h1
def abJ {a m fa:List Piece} {y x:Piece} (e:a++y::m=fa++[x]):∃m',y::m=m'++[x]:=by
 refine⟨(y::m).dropLast,?_⟩
 have h:(y::m).getLast (by simp)=x:=by
  have h1:(a++y::m).getLast (by simp)=(y::m).getLast (by simp):=List.getLast_append_of_ne_nil (by simp) (by simp)
  have h2:(a++y::m).getLast (by simp)=x:=by
   have:(a++y::m).getLast? =some x:=by rw[e];simp
   rw[kY (by simp)]at this
   exact bu this
  rw[← h1];exact h2
 rw[← h];exact(List.dropLast_concat_getLast (by simp)).symm
def nr (C:Addr):Sp:=fun vs H Q _=>EX4 fun(r:Addr) (row:List Piece) (p q:Nat)=>vs=[.ref r,.int p,.int q]∧sy C H r row∧p < q∧q≤(visible row).length∧row.length < ag∧
 ∀(f g h u:Addr) (H':Hp) (a m b:List Piece),aM H H'→Mt.Around row p q a m b→kR C H' f a→kR C H' g m→kR C H' h b→H' u=some (.tup [.ref f,.ref g,.ref h])→Q (.ref u) H'
def mS (T:Tx K mg t):aZ P w K mg base cH 6 t.i4 t.i5 hE (nr t.aj):=by
 have g1k:aZ P w K mg base cH 5 t.oa t.oe lL (B2 t.aj):=Eh T
 have g2q:aZ P w K mg base cH 5 t.sY t.sZ nW (HG t.aj):=Nc T
 refine T.mQ.fn.ok wH (fun vs H Q E h=>?_) (fun cdv A outer s H vs Q E hr h=>?_)
 ·obtain⟨a,row,p,q,rfl,_⟩:=h
  rfl
 ·obtain⟨r,row,p,q,rfl,hR,hpq,hq,hz,k⟩:=h
  refine⟨_,(ai (bP (i:=3) wH.nd rfl (bc rfl) (bB T.D5 g2q (hr.mono (by decide)) (aa (pv 0) (aa (e6 uq (pv 2) aP) ah))))
   (ai (bP (i:=4) wH.nd rfl (bc rfl) (bB T.yG g1k (hr.mono (by decide)) (aa (gv fH (pv 3) aP (fun _ _=>rfl)) (aa (pv 1) ah))))
   (ao (aU (jS (aa (gv fH (pv 4) aP (fun _ _=>rfl)) (aa (gv fH (pv 4) aP (fun _ _=>rfl)) (aa (gv fH (pv 3) aP (fun _ _=>rfl)) ah)))))))),?_⟩
  have eq1:(q:Int) - 1=((q - 1:Nat):Int):=by omega
  refine⟨_,rfl,_,rfl,_,_,rfl,rfl,r,row,q - 1,by show[V.ref r,V.int ((q:Int) - 1)]=_;rw[eq1],hR,by omega,hz,fun f g u H1 fa x fb s1 bf h1 h2 h3=>?_⟩
  have c1:(visible (fa++[x])).length=q:=by
   rw[Mt.bU,Mt.dw bf.shown,ae,bf.cnt];simp[Mt.hZ];omega
  have hz1:(fa++[x]).length < ag:=by
   have:=congrArg c8 bf.dj
   simp only[ae,aN,oV]at this⊢
   omega
  refine⟨_,rfl,u,_,_,_,rfl,rfl,iB.of h3,dJ (j:=0) rfl,_,rfl,f,fa++[x],p,rfl,h1.r,by rw[c1];exact hpq,hz1,fun f2 g2 u2 H2 fa2 y fb2 s2 bf2 k1 k2 k3=>?_⟩
  refine⟨_,rfl,u2,_,_,_,rfl,rfl,iB.of k3,dJ (j:=0) rfl,_,rfl,u2,_,_,_,rfl,rfl,iB.of k3,dJ (j:=1) rfl,_,rfl,u,_,_,_,rfl,rfl,iB.of (s2 _ _ h3),dJ (j:=1) rfl,(by show 3≤ag;decide),fun z hz=>?_⟩
  have s3:aM H2 (upd H2 z (.tup [.ref f2,.ref g2,.ref g])):=bR hz
  refine k f2 g2 g z _ fa2 (y::fb2) fb ((s1.trans s2).trans s3) ⟨?_,bf2.cnt,?_,⟨y,fb2,rfl,bf2.shown⟩,?_⟩ (k1.kp (aM.oz s3)) (k2.kp (aM.oz s3)) ((h2.kp (aM.oz s2)).kp (aM.oz s3)) af
  ·rw[bf.dj,← bM,← bf2.dj];simp
  ·have e:=bf2.dj
   rw[e,Mt.bU,ae,bf2.cnt]at c1
   omega
  ·obtain⟨m',e⟩:=abJ bf2.dj.symm
   exact⟨m',x,e,bf.shown⟩
def Ei (C:Addr):Sp:=fun vs H Q _=>EX5 fun(a:Addr) (row:List Piece) (p:Nat) (l:Addr) (new:List Piece)=>vs=[.ref a,.int p,.ref l]∧sy C H a row∧sy C H l new∧p < (visible row).length∧row.length+new.length < ag∧
 ∀(q:Addr) (H':Hp) (fa:List Piece) (x:Piece) (fb:List Piece),aM H H'→H q=none→Mt.mj row p fa x fb→kR C H' q (fa++(new++x::fb))→Q (.ref q) H'
def FG (T:Tx K mg t):aZ P w K mg base cH 6 t.qp t.qr m6 (Ei t.aj):=by
 have g1k:aZ P w K mg base cH 5 t.oa t.oe lL (B2 t.aj):=Eh T
 refine T.xy.fn.ok Fy (fun vs H Q E h=>?_) (fun cdv A outer s H vs Q E hr h=>?_)
 ·obtain⟨a,row,p,l,new,rfl,_⟩:=h
  rfl
 ·obtain⟨a,row,p,l,new,rfl,hR,hN,hp,hz,k⟩:=h
  refine⟨_,Mm (ai (bP (i:=3) Fy.nd rfl (bc rfl) (bB T.yG g1k (hr.mono (by decide)) (aa (pv 0) (aa (pv 1) ah))))
   (ao (aU (e6 gZ (e6 gZ (gv fH (pv 3) aP (fun _ _=>rfl)) (pv 2)) (gv fH (pv 3) aP (fun _ _=>rfl)))))),?_⟩
  refine⟨_,rfl,_,rfl,a,row,p,rfl,hR,hp,by omega,fun f g u H1 fa x fb s1 bf h1 h2 h3=>?_⟩
  obtain⟨rs1,bs1,e1,l1,f1⟩:=h1
  obtain⟨rs2,bs2,e2,l2,f2⟩:=h2
  obtain⟨rs3,bs3,e3,l3,f3⟩:=hN
  have le1:=l1.le
  have le2:=l2.le
  have le3:=l3.le
  have el:=congrArg c8 bf.dj
  rw[f1]at le1
  rw[f2]at le2
  rw[f3]at le3
  rw[ae]at el
  refine⟨_,rfl,u,_,_,_,rfl,rfl,iB.of h3,dJ (j:=0) rfl,_,rfl,f,l,_,_,rfl,rfl,e1.rd,hJ s1 e3,?_,fun z1 hz1=>?_⟩
  ·rw[ab,ab];omega
  ·have s2:aM H1 (upd H1 z1 (.lst (rs1.map V.ref++rs3.map V.ref))):=bR hz1
   refine⟨_,rfl,u,_,_,_,rfl,rfl,iB.of (s2 _ _ h3),dJ (j:=1) rfl,z1,g,_,_,rfl,rfl,.inl af,(e2.kp (C:=t.aj) (aM.oz s2)).rd,?_,fun z2 hz2=>?_⟩
   ·rw[ae,ab,ab,ab];omega
   ·have s3:aM H1 (upd (upd H1 z1 (.lst (rs1.map V.ref++rs3.map V.ref))) z2 (.lst (rs1.map V.ref++rs3.map V.ref++rs2.map V.ref))):=cB s2 (s2.free hz2)
    refine .iK z2 _ af fun o=>.done ?_
    have n1:H1 z2=none:=s2.free hz2
    have s4:aM H1 (upd (upd (upd H1 z1 (.lst (rs1.map V.ref++rs3.map V.ref))) z2 (.lst (rs1.map V.ref++rs3.map V.ref++rs2.map V.ref))) z2 (.iK o (.lst (rs1.map V.ref++rs3.map V.ref++rs2.map V.ref)))):=cB s3 n1
    refine k z2 _ fa x fb (s1.trans s4) (s1.free n1) bf ⟨rs1++(rs3++rs2),bs1++(bs3++bs2),⟨o,?_⟩,?_,?_⟩
    ·rw[af];simp
    ·exact fF (ig.kp l1 (aM.oz s4)) (fF (ig.kp l3 (aM.oz (s1.trans s4))) (ig.kp l2 (aM.oz s4)))
    ·rw[eY,eY,f1,f2,f3]
theorem Ej {f:Str} {v x:V}:∀{fs:List (Str×V)},fs.lookup f=some x→(dB f v fs).length=fs.length
 | [],h=>by cases h
 | (g,y)::r,h=>by
  rw[show dB f v ((g,y)::r)=(if g=f then(g,v)::r else(g,y)::dB f v r)from rfl]
  by_cases e:g=f
  ·rw[if_pos e];rfl
  ·rw[if_neg e,aN,aN]
   have hb:(f==g)=false:=beq_eq_false_iff_ne.mpr (dv e)
   simp only[kU,hb]at h
   rw[Ej h]
structure eX (t:pH) (H:Hp) (sh ca ra dx:Addr) (fs:List (Str×V)) (d:aC):Prop where
 at_:H sh=some (.ins t.cu dx fs)
 Ek:fs.lookup ("author":Str)=some (.int (d.author:Int))
 HH:fs.lookup ("time":Str)=some (.int (d.time:Int))
 WA:fs.lookup ("tracking":Str)=some (.bl d.tracking)
 Vl:fs.lookup ("change_authors":Str)=some (.ref ca)
 zT:fs.lookup ("row":Str)=some (.ref ra)
 x9:fs.length < 1000
 Kt:H ca=some (.lst (d.changes.map fun c=>V.int (c.author:Int)))
 row:kR t.aj H ra d.row
def eX.same {t:pH} {H H':Hp} {sh ca ra dx:Addr} {fs:List (Str×V)} {d:aC} (h:eX t H sh ca ra dx fs d) (s:aM H H'):eX t H' sh ca ra dx fs d:=
 ⟨s _ _ h.at_,h.Ek,h.HH,h.WA,h.Vl,h.zT,h.x9,s _ _ h.Kt,h.row.kp (aM.oz s)⟩
def eX.El {t:pH} {H:Hp} {sh ca ra dx ra':Addr} {fs:List (Str×V)} {d:aC} {r:List Piece} (T1:t.aj≠t.cu) (h:eX t H sh ca ra dx fs d) (hr:kR t.aj H ra' r):
  eX t (upd H sh (.ins t.cu dx (dB "row" (.ref ra') fs))) sh ca ra' dx (dB "row" (.ref ra') fs) {d with row:=r}:=by
 refine⟨af,?_,?_,?_,?_,?_,?_,?_,hr.kp fun b o e im=>?_⟩
 ·rw[aK,if_neg (by decide+kernel)];exact h.Ek
 ·rw[aK,if_neg (by decide+kernel)];exact h.HH
 ·rw[aK,if_neg (by decide+kernel)];exact h.WA
 ·rw[aK,if_neg (by decide+kernel)];exact h.Vl
 ·rw[aK,if_pos rfl]
 ·rw[Ej h.zT];exact h.x9
 ·rw[aD (d5 h.Kt h.at_ (by intro z;cases z))];exact h.Kt
 ·rw[aD (d5 e h.at_ (by rintro rfl;exact T1 im.symm))];exact e
def qW (t:pH):Sp:=fun vs H Q _=>EX6 fun(sh ca ra dx:Addr) (fs:List (Str×V)) (d:aC)=>vs=[.ref sh]∧eX t H sh ca ra dx fs d∧Q (.int (cJ d:Nat)) H
def qX (T:Tx K mg t):aZ P w K mg base cH 1 t.jZ t.j0 i3 (qW t):=by
 refine T.pI.fn.ok Mw (fun vs H Q E h=>?_) (fun cdv A outer s H vs Q E hr h=>?_)
 ·obtain⟨sh,ca,ra,dx,fs,d,rfl,_⟩:=h
  rfl
 ·obtain⟨sh,ca,ra,dx,fs,d,rfl,hd,k⟩:=h
  refine⟨_,(ao (aU (e6 za (cT cX rfl T.jx bV (aa (aV (pv 0) rfl) ah)) aP))),?_⟩
  refine⟨_,rfl,sh,_,dx,_,_,rfl,hd.at_,T.aQ,T.eD,hd.Vl,ca,_,rfl,.inl (g6.of hd.Kt),_,_,rfl,rfl,?_⟩
  have e:((((d.changes.map fun c=>V.int (c.author:Int)).length:Nat):Int)+1)=((cJ d:Nat):Int):=by
   rw[ab];unfold cJ;omega
  rw[← e]at k;exact k
def xF (m:Nat) (l:List Nat):S7 (.int (m:Int)) (nv l)=du l m:=by
 unfold S7 nv du
 rw[Cj]
 congr 1
 funext x
 show((x:Int)==(m:Int))=(x==m)
 rw[bH];simp
 constructor <;> intro h <;> omega
def Uw (n d:Nat):HT.mh n d (some (-1))=n - 1:=by
 show(if(-1:Int) < 0 then((-1:Int)+(n:Int)).toNat else min (-1:Int).toNat n)=n - 1
 rw[if_pos (by decide)];omega
def oQ (l:List Nat):(nv l).all z6=true:=by unfold nv;rw[vW,gC];intro x _;rfl
def nt (ins del:List Nat) (m:Nat):Bool:=du (ins.drop (ins.length - 1)) m||du del m
def Ux (l:List Nat):tJ (nv l) (some (-1)) none=nv (l.drop (l.length - 1)):=by
 unfold tJ
 rw[HT.G0]
 have e:HT.mh (nv l).length 0 (some (-1))=l.length - 1:=by rw[Uw,fQ]
 rw[e,fI (by rw[dH];exact aJ _)]
 unfold nv;rw[i7]
def FH (C:Addr):Sp:=fun vs H Q _=>EX12 fun(a:Addr) (b:List Piece) (sg i d c m:Addr) (ins del d4 bm:List Nat) (n:Nat)=>vs=[.ref a,.int n]∧StV C H a b sg i d c m ins del d4 bm∧∀H',aM H H'→Q (.bl (nt ins del n)) H'
def K7 (T:Tx K mg t):aZ P w K mg base cH 1 t.qw t.qx mB (FH t.aj):=by
 refine T.BI.fn.ok KW (fun vs H Q E h=>?_) (fun cdv A outer s H vs Q E hr h=>?_)
 ·obtain⟨a,b,sg,i,d,c,m,ins,del,d4,bm,n,rfl,_⟩:=h
  rfl
 ·obtain⟨a,b,sg,i,d,c,m,ins,del,d4,bm,n,rfl,v,k⟩:=h
  obtain⟨dx,ha⟩:=v.at_
  refine⟨_,(ao (aU (ab9 (jq v8 (pv 1) (nS Rh (aV (pv 0) rfl) (m3 (fe dA aP)) AQ) (by with_unfolding_all rfl)) (FU (jq v8 (pv 1) (aV (pv 0) rfl) (by with_unfolding_all rfl)))))),?_⟩
  have go:∀(H':Hp) (p:Addr) (xs:List V),aM H H'→xs=nv (ins.drop (ins.length - 1))→iB K H' p xs→
    (rIn K false (.int (n:Int)) (.ref p) H' fun x H1=>∃c,x=.bl c∧if c=true then Q (.bl true) H1 else
     (tOp (rIn K false) (kd 1) (aa8 K (kd 0) "deletions")) (L2.start Dx [.ref a,.int n]) H1 Q):=by
   intro H' p xs s' e hp
   refine⟨p,xs,rfl,.inr hp,rfl,by rw[e];exact oQ _,_,rfl,?_⟩
   show if S7 (.int (n:Int)) xs=true then _ else _
   rw[e,xF]
   refine fi (fun h=>?_) fun h=>?_
   ·have:=k H' s'
    unfold nt at this
    rw[h]at this;exact this
   ·refine⟨_,rfl,_,rfl,a,_,dx,_,_,rfl,s' _ _ ha,T.aO,T.dk,vO ..,d,_,rfl,.inr (iB.of (s' _ _ v.d)),rfl,oQ _,?_⟩
    show Q (.bl (S7 (.int (n:Int)) (nv del))) H'
    have:=k H' s'
    unfold nt at this
    rw[show du (ins.drop (ins.length - 1)) n=false by simpa using h]at this
    rw[xF];exact this
  refine⟨_,rfl,_,rfl,a,_,dx,_,_,rfl,ha,T.aO,T.cD,oP ..,_,rfl,_,rfl,i,_,rfl,iB.of v.i,fun hw=>?_,fun hw p hp=>?_⟩
  ·refine go H i (nv ins) (aM.refl _) ?_ (iB.of v.i)
   have h1:HT.mh (nv ins).length 0 (some (-1))=ins.length - 1:=by rw[Uw,fQ]
   have h2:ins.length - 1=0:=by rw[← h1];exact hw.1
   rw[h2];rfl
  ·exact go _ p _ (bR hp) (Ux ins) (iB.of af)
def xG (m:Nat):List Piece→Bool
 | x::_=>nt x.ins x.del m
 | []=>false
def aax {l:List Nat} {m:Nat} (h:m∈l→l.getLast? =some m):du (l.drop (l.length - 1)) m=du l m:=by
 rw[bH,Mt.iQ,Mt.iQ]
 constructor
 ·exact fun z=>uo z
 ·intro z
  have e:=h z
  cases l with
  | nil=>cases z
  | cons a r=>
   rw[List.getLast?_eq_getElem?]at e
   have:=a7 (l:=(a::r).drop ((a::r).length - 1)) (i:=0) (a:=m) (by rw[List.getElem?_drop];simpa using e)
   exact this
def aay {m:Nat} {x:Piece} (hp:x.pend=[]) (h:m∈x.ins→x.ins.getLast? =some m):nt x.ins x.del m=vX m x:=by
 unfold nt vX
 rw[aax h,hp];simp
def E7 {b:List Piece} {f:Piece→Bool} {v:Bool} (ne:b≠[]) (h:∀x∈b,f x=v):b.any f=v:=by
 cases v with
 | true=>
  cases b with
  | nil=>exact absurd rfl ne
  | cons x r=>rw[fG,h x (aE ..)];rfl
 | false=>rw[Iu];intro x hx;rw[h x hx];simp
def HI {m:Nat} {b:List Piece} {ins del d4 bm:List Nat} (hb:x8 b ins del d4 bm) (hp:∀x∈b,x.pend=[]) (h:∀x∈b,m∈x.ins→x.ins.getLast? =some m):xG m b=b.any (vX m)∧xG m b=nt ins del m:=by
 have e:xG m b=nt ins del m:=by
  cases b with
  | nil=>exact absurd rfl hb.ne
  | cons x r=>
   have:=hb.vP x (aE ..)
   show nt x.ins x.del m=_
   rw[this.1,this.2]
 refine⟨?_,e⟩
 rw[e,E7 hb.ne]
 intro x hx
 rw[← aay (hp x hx) (h x hx),(hb.vP x hx).1,(hb.vP x hx).2]
theorem any_flatten' (f:Piece→Bool):∀bs:List (List Piece),bs.flatten.any f=bs.any fun b=>b.any f
 | []=>rfl
 | b::bs=>by rw[bC,uZ,any_flatten' f bs,fG]
def HJ (t:pH):Sp:=fun vs H Q _=>EX7 fun(sh ca ra dx:Addr) (fs:List (Str×V)) (d:aC) (kind:Nat)=>vs=[.ref sh]∧eX t H sh ca ra dx fs d∧(∀x∈d.row,x.pend=[])∧(∀x∈d.row,cJ d∈x.ins→x.ins.getLast? =some (cJ d))∧
 d.row.length≤ag∧d.changes.length < ag∧∀l H',H l=none→H' l=some (.lst [.int ((gd d kind d.row).2:Nat)])→eX t H' sh ca ra dx fs (gd d kind d.row).1→(∀b o,H b=some o→b≠ca→H' b=some o)→Q (.ref l) H'
def uO (T:Tx K mg t):aZ P w K mg base cH 2 t.kG t.kH jk (HJ t):=by
 have g0h:aZ P w K mg base cH 1 t.jZ t.j0 i3 (qW t):=qX T
 have g2g:aZ P w K mg base cH 1 t.qw t.qx mB (FH t.aj):=K7 T
 refine T.qQ.fn.ok oI (fun vs H Q E h=>?_) (fun cdv A outer s H vs Q E hr h=>?_)
 ·obtain⟨sh,ca,ra,dx,fs,d,kind,rfl,_⟩:=h
  rfl
 ·obtain⟨sh,ca,ra,dx,fs,d,kind,rfl,hd,hp,hm,hz,hc,k⟩:=h
  refine⟨_,(ai (bP (i:=1) oI.nd rfl (Su rfl) (bB T.pI g0h (hr.mono (by decide)) (aa (pv 0) ah)))
   (ai (dC (fM (cT (ZS rfl) rfl T.aau rfl (aa (pU (own:=[("stretch",2)]) rfl oI.nd (dQ (aV (pv 0) rfl)) (eC (by rfl)) (fun _ _ _ _ _=>da (i:=2) oI.nd rfl (bc rfl)) (fun _ _ _ _ _=>j7) (fun _ _ _ _ _=>(bB T.BI g2g (hr.mono (by decide)) (aa (pv 2) (aa (pv 1) ah))))) ah)) (fun _=>rfl)) (ai (fo (pD bF cV cW ke (aV (pv 0) rfl) (aa (aV (pv 0) rfl) ah)))
   (ao (aU (b5 (aa (pv 1) ah))))) b8)
   (ao (aU (b5 (aa aP ah)))))),?_⟩
  obtain⟨rs,bs,hl,hR,ebs⟩:=id hd.row
  have hle:=hR.le
  rw[ebs]at hle
  refine⟨_,rfl,sh,ca,ra,dx,fs,d,rfl,hd,?_⟩
  refine⟨_,rfl,sh,_,dx,_,_,rfl,hd.at_,T.aQ,T.bA,hd.zT,ra,rfl,⟨_,hl.sq⟩,fun D' hD=>zf (xs:=rs.map V.ref) (bs.map fun b=>V.bl (xG (cJ d) b)) hl.sq hD (by rw[ab,ab,hR.len]) (by rw[ab,← hR.len];omega) (fun i x y H' Q' hx hy s' q=>?_) fun H' s' e=>?_⟩
  ·obtain⟨r,er,rfl⟩:=gD hx
   obtain⟨b,eb,rfl⟩:=get_map hy
   obtain⟨b',eb',sg,i0,d0,c0,m0,ins,del,d4,bm,v⟩:=cQ hR er
   cases eb.symm.trans eb'
   have hbm:∀x∈b,x∈d.row:=fun x hx=>by rw[← ebs];exact dr.mpr ⟨b,a7 eb,hx⟩
   have e2:=(HI (m:=cJ d) v.gS (fun x hx=>hp x (hbm x hx)) fun x hx=>hm x (hbm x hx)).2
   refine⟨_,rfl,_,rfl,r,b,sg,i0,d0,c0,m0,ins,del,d4,bm,cJ d,rfl,v.kp (aM.oz s'),fun H2 s2=>?_⟩
   rw[← e2];exact q H2 s2
  ·refine⟨D',bs.map (xG (cJ d)),rfl,by rw[bD];exact g6.of e,_,rfl,?_⟩
   have ea:(bs.map (xG (cJ d))).any id=d.row.any (vX (cJ d)):=by
    rw[← ebs,any_flatten',Cj]
    have:∀b∈bs,(id∘xG (cJ d)) b=b.any (vX (cJ d)):=fun b hb=>by
     obtain⟨r,_,sg,i0,d0,c0,m0,ins,del,d4,bm,v⟩:=Ed hR hb
     have hbm:∀x∈b,x∈d.row:=fun x hx=>by rw[← ebs];exact dr.mpr ⟨b,hb,hx⟩
     exact(HI (m:=cJ d) v.gS (fun x hx=>hp x (hbm x hx)) fun x hx=>hm x (hbm x hx)).1
    clear e hR hl ebs hle
    induction bs with
    | nil=>rfl
    | cons b r ih=>rw[fG,fG,this b (aE ..),ih fun c hc=>this c (aI _ hc)]
   have hd':=hd.same s'
   rw[ea]
   refine fi (fun h=>?_) fun h=>?_
   ·
    have ef:gd d kind d.row=({d with row:=d.row,changes:=d.changes++[{author:=d.author,time:=d.time,kind:=kind}]},cJ d):=by
     unfold gd;rw[if_pos h]
    rw[ef]at k
    refine⟨_,rfl,sh,_,dx,_,_,rfl,hd'.at_,T.aQ,T.eD,hd'.Vl,.inl ⟨rfl,_,g6.of hd'.Kt⟩,_,rfl,sh,_,dx,_,_,rfl,hd'.at_,T.aQ,T.gg,hd'.Ek,ca,_,_,rfl,rfl,hd'.Kt,by rw[ab];exact hc,?_⟩
    refine⟨_,rfl,(by show 1≤ag;decide),fun l hl2=>?_⟩
    have nsc:sh≠ca:=d5 hd'.at_ hd'.Kt (by intro z;cases z)
    have nlc:l≠ca:=fun z=>by rw[z,af]at hl2;cases hl2
    have hl1:H' l=none:=by rw[aD nlc]at hl2;exact hl2
    refine k l _ (s'.free hl1) af ?_ fun b o eb hb=>?_
    ·refine⟨?_,hd.Ek,hd.HH,hd.WA,hd.Vl,hd.zT,hd.x9,?_,hd'.row.kp fun b o eb im=>?_⟩
     ·rw[aD (a9 hd'.at_ hl1),aD nsc];exact hd'.at_
     ·rw[aD (dv nlc),af,bz];rfl
     ·rw[aD (a9 eb hl1),aD (d5 eb hd'.Kt (by rintro rfl;exact im))];exact eb
    ·rw[aD (a9 (s' _ _ eb) hl1),aD hb];exact s' _ _ eb
   ·have ef:gd d kind d.row=({d with row:=d.row},0):=by
     unfold gd;rw[if_neg h]
    rw[ef]at k
    refine⟨(by show 1≤ag;decide),fun l hl2=>?_⟩
    have s2:aM H (upd H' l (.lst [.int 0])):=cB s' (s'.free hl2)
    exact k l _ (s'.free hl2) af (hd.same s2) fun b o eb _=>s2 _ _ eb
def O5 (d:aC) (ins:List Nat):Bool:=match ins.getLast? with
 | some c=>CP d c==some d.author
 | none=>false
def adp (d:aC) (x:Piece):Vatrka.own d x=O5 d x.ins:=rfl
def Em {α:Type} (l:List α):l=[]∨∃ini c,l=ini++[c]:=by
 rcases rS l with h | ⟨ini,c,h⟩
 ·exact .inl h
 ·exact .inr ⟨ini,c,by rw[h,rT]⟩
def sD (a b:List Nat):nv (a++b)=nv a++nv b:=by unfold nv;rw[bz]
def XE (t:pH):Sp:=fun vs H Q _=>EX17 fun(sh ca ra dx:Addr) (fs:List (Str×V)) (d:aC) (a:Addr) (b:List Piece) (sg i dd c m:Addr) (ins del d4 bm:List Nat)=>vs=[.ref sh,.ref a]∧eX t H sh ca ra dx fs d∧StV t.aj H a b sg i dd c m ins del d4 bm∧
 (∀c∈ins,1≤c∧c≤d.changes.length)∧Q (.bl (O5 d ins)) H
def YW (T:Tx K mg t):aZ P w K mg base cH 1 t.Hq t.Hr Dy (XE t):=by
 refine T.Wx.fn.ok YM (fun vs H Q E h=>?_) (fun cdv A outer s H vs Q E hr h=>?_)
 ·obtain⟨sh,ca,ra,dx,fs,d,a,b,sg,i,dd,c,m,ins,del,d4,bm,rfl,_⟩:=h
  rfl
 ·obtain⟨sh,ca,ra,dx,fs,d,a,b,sg,i,dd,c,m,ins,del,d4,bm,rfl,hd,v,hins,k⟩:=h
  obtain⟨dx2,ha⟩:=v.at_
  refine⟨_,(ai (dC (dN nQ (cT cX rfl T.jx bV (aa (aV (pv 1) rfl) ah)) aP (d6 _)) (ao (aU PQ)) b8)
   (ao (aU (jq nQ (gv AR (aV (pv 0) rfl) (e6 uq (gv fH (aV (pv 1) rfl) (fe dA aP) (fun _ _=>rfl)) aP) (fun _ _=>rfl)) (aV (pv 0) rfl) (d6 _))))),?_⟩
  refine⟨_,rfl,a,_,dx2,_,_,rfl,ha,T.aO,T.cD,oP ..,i,_,rfl,.inr (iB.of v.i),rfl,_,rfl,?_⟩
  rcases Em ins with rfl | ⟨ini,c0,rfl⟩
  ·refine fi (fun h=>?_) fun h=>?_
   ·exact k
   ·exact absurd (show decide (V.int ((nv []).length:Nat)=V.int 0)=true by decide) h
  ·refine fi (fun h=>?_) fun h=>?_
   ·exfalso
    have h:decide (V.int (((nv (ini++[c0])).length:Nat):Int)=V.int 0)=true:=h
    rw[iP,fQ,ae]at h
    simp at h;omega
   ·obtain⟨h1,h2⟩:=hins c0 (by simp)
    obtain⟨ch,ech⟩:∃ch,d.changes[c0 - 1]? =some ch:=⟨_,cM (by omega)⟩
    have e1:(c0:Int) - 1=((c0 - 1:Nat):Int):=by omega
    refine⟨_,rfl,sh,_,dx,_,_,rfl,hd.at_,T.aQ,T.eD,hd.Vl,_,rfl,a,_,dx2,_,_,rfl,ha,T.aO,T.cD,oP ..,_,rfl,i,_,_,_,rfl,rfl,iB.of v.i,by rw[sD];exact S6 _ _,_,_,rfl,rfl,
     ca,_,_,_,rfl,rfl,g6.of hd.Kt,by rw[e1];exact dJ (v:=V.int (ch.author:Int)) (by rw[b0,ech];rfl),_,rfl,sh,_,dx,_,_,rfl,hd.at_,T.aQ,T.gg,hd.Ek,rfl,?_⟩
    have e2:O5 d (ini++[c0])=decide (V.int (ch.author:Int)=V.int (d.author:Int)):=by
     unfold O5
     rw[mY]
     show(CP d c0==some d.author)=_
     unfold CP
     rw[if_neg (by omega),ech,iP,bH]
     simp
     constructor <;> intro h <;> omega
    rw[e2]at k;exact k
def En (t:pH):Sp:=fun vs H Q _=>EX17 fun(sh ca ra dx:Addr) (fs:List (Str×V)) (d:aC) (a:Addr) (b:List Piece) (sg i dd c m:Addr) (ins del d4 bm:List Nat)=>vs=[.ref sh,.ref a]∧eX t H sh ca ra dx fs d∧StV t.aj H a b sg i dd c m ins del d4 bm∧
 (∀c∈ins,1≤c∧c≤d.changes.length)∧Q (.bl (d.tracking&&!O5 d ins)) H
def FI (T:Tx K mg t):aZ P w K mg base cH 2 t.qy t.qz m7 (En t):=by
 have g4d:aZ P w K mg base cH 1 t.Hq t.Hr Dy (XE t):=YW T
 refine T.BJ.fn.ok OM (fun vs H Q E h=>?_) (fun cdv A outer s H vs Q E hr h=>?_)
 ·obtain⟨sh,ca,ra,dx,fs,d,a,b,sg,i,dd,c,m,ins,del,d4,bm,rfl,_⟩:=h
  rfl
 ·obtain⟨sh,ca,ra,dx,fs,d,a,b,sg,i,dd,c,m,ins,del,d4,bm,rfl,hd,v,hins,k⟩:=h
  refine⟨_,(ao (aU (IP (aV (pv 0) rfl) (FU (VA (bB T.Wx g4d (hr.mono (by decide)) (aa (pv 0) (aa (pv 1) ah)))))))),?_⟩
  refine⟨_,rfl,sh,_,dx,_,_,rfl,hd.at_,T.aQ,T.ir,hd.WA,_,rfl,?_⟩
  refine fi (fun h=>?_) fun h=>?_
  ·rw[h]at k
   exact⟨_,rfl,_,rfl,sh,ca,ra,dx,fs,d,a,b,sg,i,dd,c,m,ins,del,d4,bm,rfl,hd,v,hins,_,rfl,k⟩
  ·rw[show d.tracking=false by simpa using h]at k
   exact k
def Uy:Sp:=fun vs H Q _=>EX4 fun(a b:Addr) (xs ys:List Nat)=>vs=[.ref a,.ref b]∧H a=some (.tup (nv xs))∧H b=some (.tup (nv ys))∧xs.length≤ag∧∀q H',aM H H'→H' q=some (.tup (nv (xs.filter (du ys))))→Q (.ref q) H'
def Nd (xs ys:List Nat):(xs.map fun(x:Nat)=>if du ys x=true then some (V.int (x:Int))else none).filterMap id=nv (xs.filter (du ys)):=by
 induction xs with
 | nil=>rfl
 | cons x r ih=>
  rw[aT]
  by_cases h:du ys x=true
  ·rw[if_pos h,bK,if_pos h]
   show V.int (x:Int)::List.filterMap id _=_
   rw[ih];rfl
  ·rw[if_neg h,bK,if_neg h]
   exact ih
def WB (T:Tx K mg t):aZ P w K mg base cH 1 t.EX t.EY Ak Uy:=by
 refine T.LF.fn.ok F6 (fun vs H Q E h=>?_) (fun cdv A outer s H vs Q E hr h=>?_)
 ·obtain⟨a,b,xs,ys,rfl,_⟩:=h
  rfl
 ·obtain⟨a,b,xs,ys,rfl,ha,hb,hz,k⟩:=h
  refine⟨_,(ao (aU (vZ Oo rfl T.XC rfl (aa (pU (own:=[("mark",2)]) rfl F6.nd (ZH (pv 0)) (eC (by rfl)) (fun _ _ _ _ _=>da (i:=2) F6.nd rfl (bc rfl)) (fun _ _ _ _ _=>pT (dN (Mn (K:=K) rfl) (pv 2) (pv 1) (by with_unfolding_all rfl))) (fun _ _ _ _ _=>(pv 2))) ah)))),?_⟩
  refine⟨_,rfl,a,rfl,⟨_,iB.of ha⟩,fun D' hD=>aaj (xs:=nv xs) (xs.map fun(x:Nat)=>if du ys x=true then some (V.int (x:Int))else none) (iB.of ha) (fun H' s'=>iB.of (s' _ _ ha)) hD (by rw[fQ,ab]) (by rw[ab];exact hz)
   (fun i x y H' Q' hx hy s' q=>?_) (fun i x y H' Q' hx hy s' q=>?_) fun H' s' e=>?_⟩
  ·obtain⟨z,ez,rfl⟩:=get_map hx
   rw[b0,ez]at hy
   have hy:(if du ys z=true then some (V.int (z:Int))else none)=y:=bu hy
   refine⟨_,rfl,_,rfl,b,_,rfl,.inr (iB.of (s' _ _ hb)),rfl,oQ _,_,rfl,?_⟩
   have e2:S7 (V.int (z:Int)) (nv ys)=y.isSome:=by
    rw[xF,← hy]
    by_cases h:du ys z=true
    ·rw[if_pos h,h];rfl
    ·rw[if_neg h,show du ys z=false by simpa using h];rfl
   show Q' (S7 (V.int (z:Int)) (nv ys)) H'
   rw[e2];exact q H' (aM.refl _)
  ·obtain⟨z,ez,rfl⟩:=get_map hx
   rw[b0,ez]at hy
   have hy:(if du ys z=true then some (V.int (z:Int))else none)=some y:=bu hy
   have ey:V.int (z:Int)=y:=by
    by_cases h:du ys z=true
    ·rw[if_pos h]at hy;exact bu hy
    ·rw[if_neg h]at hy;cases hy
   refine⟨_,rfl,?_⟩
   rw[ey];exact q H' (aM.refl _)
  ·rw[Nd]at e
   refine⟨D',_,rfl,.inl ⟨g6.of e,fun l hl=>?_⟩⟩
   exact k l _ (cB s' (s'.free hl)) af
def aaz {tt:TT} {ta tb:TE} {i:Nat} {u:TS} {D:Ends} {σ:L2.St} {H:Hp} (J:V→Hp→Prop) (rest:∀v H',J v H'→u D (σ.set i (some v)) H') (h:(∀v H',J v H'→u D (σ.set i (some v)) H')→tIf tt ta tb σ H fun v H'=>u D (σ.set i (some v)) H'):
  SV (Oj (tIf tt ta tb) (tH i)) u D σ H:=h rest
def abK (row:List Piece):Prop:=∀x∈row,∀u∈x.tags,u < 10000
def LI {b:List Piece} {ins del d4 bm:List Nat} (h:x8 b ins del d4 bm) (tb:abK b):d4.length≤10000∧bm.length≤10000:=by
 obtain⟨x,hx⟩:=cG b h.ne
 refine⟨Mt.kj _ _ h.Ut fun c hc=>?_,Mt.kj _ _ h.RY fun c hc=>?_⟩
 ·have:=tb x hx _ ((h.d4 x hx c).mp hc);omega
 ·have:=tb x hx _ ((h.bm x hx c).mp hc);omega
def Uz {ns:List Int} (h:ns.all eU=true):ns.map V.int=nv (ns.map fun z=>z.toNat):=by
 unfold nv
 rw[bD]
 refine fT fun z hz=>?_
 have:=gC.mp h z hz
 unfold eU at this
 simp at this
 show V.int z=V.int ((z.toNat:Nat):Int)
 congr 1
 omega
def Qt (d:aC) (p:Nat) (l:List Nat):(di d p l).map (·.sign)=l:=by
 unfold di;rw[bD];exact Sv _
def YX {p:Nat} {row:List Piece} {x y:Piece} (hp:p≠0) (hx:(visible row)[p - 1]? =some x) (hy:(visible row)[p]? =some y):iw p row=x.tags.filter (du y.tags):=by
 unfold iw;rw[if_neg hp,hx,hy]
def XF {d:aC} {p:Nat} {l:List Nat} {d4 bm:List Nat} (hl:l≠[]) (h1:d4.Nodup) (h2:bm.Nodup) (h3:∀c,c∈d4↔2*c∈iw p d.row) (h4:∀c,c∈bm↔2*c+1∈iw p d.row):
  x8 (di d p l) (if d.tracking=true then[cJ d]else[]) [] d4 bm:=by
 have key:∀x∈di d p l,x.ins=(if d.tracking=true then[cJ d]else[])∧x.del=[]∧x.tags=iw p d.row:=fun x hx=>by
  unfold di at hx
  obtain⟨c,_,rfl⟩:=aR.mp hx
  exact⟨rfl,rfl,rfl⟩
 refine⟨fun e=>?_,fun x hx=>⟨(key x hx).1,(key x hx).2.1⟩,h1,fun x hx c=>?_,h2,fun x hx c=>?_⟩
 ·have:=congrArg c8 e
  unfold di at this
  rw[ab]at this
  exact hl (iz.mp this)
 ·rw[(key x hx).2.2];exact h3 c
 ·rw[(key x hx).2.2];exact h4 c
def HK (t:pH):Sp:=fun vs H Q _=>EX9 fun(sh ca ra dx:Addr) (fs:List (Str×V)) (d:aC) (p:Nat) (sa:Addr) (ns:List Int)=>vs=[.ref sh,.int p,.ref sa]∧eX t H sh ca ra dx fs d∧p < (visible d.row).length∧Kn H sa (ns.map V.int)∧ns≠[]∧ns.all eU=true∧abK d.row∧
 ∀x H',aM H H'→Fn t.aj H' x (di d p (ns.map fun z=>z.toNat))→Q (.ref x) H'
def Nf (T:Tx K mg t):aZ P w K mg base cH 5 t.tm t.tp nY (HK t):=by
 have g0h:aZ P w K mg base cH 1 t.jZ t.j0 i3 (qW t):=qX T
 have g1a:aZ P w K mg base cH 1 t.fA t.fZ fu (qU t.aj):=iE T
 have g1b:aZ P w K mg base cH 4 t.qk t.qm m5 (Ef t.aj):=FF T
 have g2p:aZ P w K mg base cH 1 t.EX t.EY Ak Uy:=WB T
 refine T.D8.fn.ok kC (fun vs H Q E h=>?_) (fun cdv A outer s H vs Q E hr h=>?_)
 ·obtain⟨sh,ca,ra,dx,fs,d,p,sa,ns,rfl,_⟩:=h
  rfl
 ·obtain⟨sh,ca,ra,dx,fs,d,p,sa,ns,rfl,hd,hp,hsa,hne,hsg,htb,k⟩:=h
  refine⟨_,(ai (bP (i:=3) kC.nd rfl (bc rfl) (z0 (fM (aV (pv 0) rfl) (fun _=>rfl)) (jS (aa (bB T.pI g0h (hr.mono (by decide)) (aa (pv 0) ah)) ah)) (jS ah)))
   (ai (dC (dN nQ (pv 1) aP (d6 _)) (ao (aU (sP T.k7 g1a (hr.mono (by decide)) rfl T.k6 T.hG.b .nil wq (aa (pv 2) (aa (pv 3) (aa (jS ah) (aa (jS ah) (aa (jS ah) ah)))))))) b8)
   (ai (bP (i:=4) kC.nd rfl (bc rfl) (bB T.xx g1b (hr.mono (by decide)) (aa (aV (pv 0) rfl) (aa (e6 uq (pv 1) aP) ah))))
   (ai (bP (i:=5) kC.nd rfl (bc rfl) (bB T.xx g1b (hr.mono (by decide)) (aa (aV (pv 0) rfl) (aa (pv 1) ah))))
   (ai (bP (i:=6) kC.nd rfl (bc rfl) (bB T.LF g2p (hr.mono (by decide)) (aa (aV (pv 4) rfl) (aa (aV (pv 5) rfl) ah))))
   (ai (bP (i:=7) kC.nd rfl (bc rfl) (bB T.LF g2p (hr.mono (by decide)) (aa (aV (pv 4) rfl) (aa (aV (pv 5) rfl) ah))))
   (ao (aU (sP T.k7 g1a (hr.mono (by decide)) rfl T.k6 T.hG.b .nil wq (aa (pv 2) (aa (pv 3) (aa (jS ah) (aa (pv 6) (aa (pv 7) ah)))))))))))))),?_⟩
  have hne2:(ns.map fun z=>z.toNat)≠[]:=by simpa using hne
  refine aaz (fun v H'=>∃q,v=.ref q∧aM H H'∧H' q=some (.tup (nv (if d.tracking=true then[cJ d]else[])))) ?_ fun kk=>?_
  ·rintro v H1 ⟨q,rfl,s1,hq⟩
   refine⟨_,rfl,rfl,_,rfl,?_⟩
   rw[iP]
   refine fi (fun h=>?_) fun h=>?_
   ·have hp0:p=0:=by simpa using h
    subst hp0
    refine⟨_,rfl,_,rfl,bZ _,fun q1 h1=>⟨bZ _,fun q2 h2=>⟨bZ _,fun q3 h3=>?_⟩⟩⟩
    refine BY fun x dx' H2 s2 hx e=>?_
    have t1:=bR (o:=.tup []) h1
    have t2:=bR (o:=.tup []) h2
    have t3:=bR (o:=.tup []) h3
    have s3:aM H1 H2:=((t1.trans t2).trans t3).trans s2
    refine k x H2 (s1.trans s3) ⟨sa,q,q1,q2,q3,_,[],[],[],⟨dx',e⟩,?_,s3 _ _ hq,s2 _ _ (t3 _ _ (t2 _ _ af)),s2 _ _ (t3 _ _ af),s2 _ _ af,XF hne2 .nil .nil (fun c=>?_) fun c=>?_⟩
    ·rw[Qt,← Uz hsg]
     exact hsa.kp (C:=t.aj) (aM.oz (s1.trans s3))
    ·unfold iw;simp
    ·unfold iw;simp
   ·have hp0:p≠0:=by simpa using h
    have ep:(p:Int) - 1=((p - 1:Nat):Int):=by omega
    have hd1:=hd.same s1
    refine⟨_,rfl,sh,_,dx,_,_,rfl,hd1.at_,T.aQ,T.bA,hd1.zT,_,rfl,_,_,rfl,rfl,ra,d.row,p - 1,by show[V.ref ra,V.int ((p:Int) - 1)]=_;rw[ep],hd1.row.r,by omega,fun rl bl xl H2 hl hxl vl s2=>?_⟩
    have hd2:=hd1.same s2
    refine⟨_,rfl,sh,_,dx,_,_,rfl,hd2.at_,T.aQ,T.bA,hd2.zT,_,rfl,ra,d.row,p,rfl,hd2.row.r,hp,fun rr br xr H3 hr3 hxr vr s3=>?_⟩
    obtain⟨sg1,i1,d1,c1,m1,ins1,del1,com1,bm1,v1⟩:=hl.kp (aM.oz s3)
    obtain⟨sg2,i2,d2,c2,m2,ins2,del2,com2,bm2,v2⟩:=hr3
    obtain⟨dxl,hal⟩:=v1.at_
    obtain⟨dxr,har⟩:=v2.at_
    have mxl:xl∈d.row:=(aA.mp (a7 vl)).1
    have hc1:com1.length≤10000:=Mt.kj _ _ v1.gS.Ut fun c hc=>by have:=htb xl mxl _ ((v1.gS.d4 xl hxl c).mp hc);omega
    have hb1:bm1.length≤10000:=Mt.kj _ _ v1.gS.RY fun c hc=>by have:=htb xl mxl _ ((v1.gS.bm xl hxl c).mp hc);omega
    have z1:10000≤ag:=by rw[bS];decide
    refine⟨_,rfl,rl,_,dxl,_,_,rfl,hal,T.aO,T.cg,k8 ..,_,rfl,rr,_,dxr,_,_,rfl,har,T.aO,T.cg,k8 ..,c1,c2,com1,com2,rfl,v1.c,v2.c,bg hc1 z1,fun qc H4 s4 hqc=>?_⟩
    refine⟨_,rfl,rl,_,dxl,_,_,rfl,s4 _ _ hal,T.aO,T.cj,qT ..,_,rfl,rr,_,dxr,_,_,rfl,s4 _ _ har,T.aO,T.cj,qT ..,m1,m2,bm1,bm2,rfl,s4 _ _ v1.m,s4 _ _ v2.m,bg hb1 z1,fun qb H5 s5 hqb=>?_⟩
    refine⟨_,rfl,_,rfl,bZ _,fun q1 h1=>⟨_,rfl,_,rfl,?_⟩⟩
    have t1:=bR (o:=.tup []) h1
    refine BY fun x dx' H6 s6 hx e=>?_
    have sA:aM H5 H6:=t1.trans s6
    have s25:aM H1 H5:=((s2.trans s3).trans s4).trans s5
    have ct:=YX hp0 vl vr
    refine k x H6 ((s1.trans s25).trans sA) ⟨sa,q,q1,qc,qb,_,[],_,_,⟨dx',e⟩,?_,sA _ _ (s25 _ _ hq),s6 _ _ af,sA _ _ (s5 _ _ hqc),sA _ _ hqb,XF hne2 (v1.gS.Ut.sublist (kb ..)) (v1.gS.RY.sublist (kb ..)) (fun c=>?_) fun c=>?_⟩
    ·rw[Qt,← Uz hsg]
     exact hsa.kp (C:=t.aj) (aM.oz ((s1.trans s25).trans sA))
    ·rw[ct,aA,aA,Mt.iQ,Mt.iQ,v1.gS.d4 xl hxl c,v2.gS.d4 xr hxr c]
    ·rw[ct,aA,aA,Mt.iQ,Mt.iQ,v1.gS.bm xl hxl c,v2.gS.bm xr hxr c]
  ·refine⟨_,rfl,sh,_,dx,_,_,rfl,hd.at_,T.aQ,T.ir,hd.WA,_,rfl,?_⟩
   refine fi (fun h=>?_) fun h=>?_
   ·refine⟨_,rfl,sh,ca,ra,dx,fs,d,rfl,hd,(by show 1≤ag;decide),fun q hq=>?_⟩
    exact kk _ _ ⟨q,rfl,bR hq,by rw[af,if_pos h];rfl⟩
   ·refine⟨bZ _,fun q hq=>?_⟩
    exact kk _ _ ⟨q,rfl,bR hq,by rw[af,if_neg h];rfl⟩
open Mt (dc overOf)
def Ku (d:aC) (x:Piece):u6 d x=!(d.tracking&&!O5 d x.ins):=by
 unfold u6;rw[adp];cases d.tracking <;> cases O5 d x.ins <;> rfl
def XG {d:aC} {b:List Piece} {ins del:List Nat} (u:Mt.Xl b ins del) (h:¬del.isEmpty=true):b.flatMap (dc (eO d))=b∧b.flatMap (overOf d)=[]:=by
 have hs:∀x∈b,¬shown x=true:=fun x hx=>by unfold vY;rw[(u x hx).2];exact h
 constructor
 ·clear u
  induction b with
  | nil=>rfl
  | cons x r ih=>
   rw[bW,ih fun y hy=>hs y (aI _ hy)]
   unfold dc;rw[if_neg (hs x (aE ..))];rfl
 ·rw[kQ]
  intro x hx
  unfold overOf;rw[if_neg (hs x hx)]
def XH {d:aC} {b:List Piece} {ins del:List Nat} (u:Mt.Xl b ins del) (h:del.isEmpty=true) (k:(d.tracking&&!O5 d ins)=true):
  b.flatMap (dc (eO d))=b.map (fun x=>{x with del:=[cJ d]})∧b.flatMap (overOf d)=b.map (fun x=>{x with ins:=x.ins++[cJ d]}):=by
 have hs:∀x∈b,shown x=true∧u6 d x=false:=fun x hx=>⟨by unfold vY;rw[(u x hx).2];exact h,by rw[Ku,(u x hx).1,k];rfl⟩
 clear u
 induction b with
 | nil=>exact⟨rfl,rfl⟩
 | cons x r ih=>
  obtain⟨i1,i2⟩:=ih fun y hy=>hs y (aI _ hy)
  obtain⟨h1,h2⟩:=hs x (aE ..)
  constructor
  ·rw[bW,i1,aT]
   unfold dc eO;rw[if_pos h1,if_neg (by rw[h2];decide)];rfl
  ·rw[bW,i2,aT]
   unfold overOf N2;rw[if_pos h1,if_neg (by rw[h2];decide)];rfl
def XI {d:aC} {b:List Piece} {ins del:List Nat} (u:Mt.Xl b ins del) (h:del.isEmpty=true) (k:¬(d.tracking&&!O5 d ins)=true):
  b.flatMap (dc (eO d))=[]∧b.flatMap (overOf d)=b:=by
 have hs:∀x∈b,shown x=true∧u6 d x=true:=fun x hx=>⟨by unfold vY;rw[(u x hx).2];exact h,by rw[Ku,(u x hx).1,show(d.tracking&&!O5 d ins)=false by simpa using k];rfl⟩
 clear u
 constructor
 ·rw[kQ]
  intro x hx
  unfold dc eO;rw[if_pos (hs x hx).1,if_pos (hs x hx).2]
 ·induction b with
  | nil=>rfl
  | cons x r ih=>
   obtain⟨h1,h2⟩:=hs x (aE ..)
   rw[bW,ih fun y hy=>hs y (aI _ hy)]
   unfold overOf N2;rw[if_pos h1,if_pos h2];rfl
def x8.aen {b:List Piece} {ins del d4 bm:List Nat} (h:x8 b ins del d4 bm) (n:Nat):x8 (b.map fun x=>{x with del:=[n]}) ins [n] d4 bm:=by
 refine⟨by simpa using h.ne,fun x hx=>?_,h.Ut,fun x hx=>?_,h.RY,fun x hx=>?_⟩
 all_goals obtain⟨y,hy,rfl⟩:=aR.mp hx
 ·exact⟨(h.vP y hy).1,rfl⟩
 ·exact h.d4 y hy
 ·exact h.bm y hy
def x8.aeo {b:List Piece} {ins del d4 bm:List Nat} (h:x8 b ins del d4 bm) (n:Nat):x8 (b.map fun x=>{x with ins:=x.ins++[n]}) (ins++[n]) del d4 bm:=by
 refine⟨by simpa using h.ne,fun x hx=>?_,h.Ut,fun x hx=>?_,h.RY,fun x hx=>?_⟩
 all_goals obtain⟨y,hy,rfl⟩:=aR.mp hx
 ·exact⟨by show y.ins++[n]=_;rw[(h.vP y hy).1],(h.vP y hy).2⟩
 ·exact h.d4 y hy
 ·exact h.bm y hy
def XJ (d:aC) (row:List Piece):Prop:=∀x∈row,∀c∈x.ins,1≤c∧c≤d.changes.length
def Qu {d:aC} {row b:List Piece} {ins del d4 bm:List Nat} (h:XJ d row) (v:x8 b ins del d4 bm) (hb:∀x∈b,x∈row):∀c∈ins,1≤c∧c≤d.changes.length:=by
 obtain⟨x,hx⟩:=cG b v.ne
 have:=h x (hb x hx)
 rw[(v.vP x hx).1]at this
 exact this
def ach (del:List Nat):(nv del).isEmpty=del.isEmpty:=by unfold nv;cases del <;> rfl
def Qv {bs:List (List Piece)} {i:Nat} {b:List Piece} (g:Piece→List Piece) (h:bs[i]? =some b):(bs.take (i+1)).flatten.flatMap g=(bs.take i).flatten.flatMap g++b.flatMap g:=by
 rw[Mt.wC h,eh]
def HM {bs:List (List Piece)} {i:Nat} {b:List Piece} (h:bs[i]? =some b) (hb:b≠[]):(bs.take i).flatten.length < bs.flatten.length:=by
 rw[Mt.zd h,ae,ae]
 have:=gQ.mpr hb
 omega
def B3 (t:pH):Sp:=fun vs H Q _=>EX8 fun(sh ca ra dx:Addr) (fs:List (Str×V)) (d:aC) (a:Addr) (m:List Piece)=>vs=[.ref sh,.ref a]∧eX t H sh ca ra dx fs d∧sy t.aj H a m∧XJ d m∧m.length≤ag∧
 ∀l H',aM H H'→sy t.aj H' l (m.flatMap (dc (eO d)))→Q (.ref l) H'
def Eo (T:Tx K mg t):aZ P w K mg base cH 4 t.og t.oh lM (B3 t):=by
 have g0h:aZ P w K mg base cH 1 t.jZ t.j0 i3 (qW t):=qX T
 have g0g:aZ P w K mg base cH 1 t.gk t.gm fw (Ap t.aj):=j8 T
 have g1o:aZ P w K mg base cH 2 t.qy t.qz m7 (En t):=FI T
 have g0j:aZ P w K mg base cH 3 t.f6 t.f7 eQ (JB t.aj):=nG T
 refine T.yH.fn.ok pY (fun vs H Q E h=>?_) (fun cdv A outer s H vs Q E hr h=>?_)
 ·obtain⟨sh,ca,ra,dx,fs,d,a,m,rfl,_⟩:=h
  rfl
 ·obtain⟨sh,ca,ra,dx,fs,d,a,m,rfl,hd,⟨rs,bs,hl,hR,rfl⟩,hins,hz,k⟩:=h
  refine⟨_,(ai (bP (i:=2) pY.nd rfl (bc rfl) (jS (aa (bB T.pI g0h (hr.mono (by decide)) (aa (pv 0) ah)) ah)))
   (ai (bP (i:=3) pY.nd rfl (bc rfl) (b5 ah))
   (ai (mi cS rfl (dQ (pv 1)) (da (i:=4) pY.nd rfl (bc rfl)) (ao (dC (jh (fM (dG T.jb T.aO g0g (hr.mono (by decide)) (pv 4)) (fun _=>rfl))) (ao (fo (pD bF cV cW ke (pv 3) (aa (pv 4) ah)))) (ao (dC (fM (bB T.BJ g1o (hr.mono (by decide)) (aa (pv 0) (aa (pv 4) ah))) (fun _=>rfl)) (ao (fo (pD bF cV cW ke (pv 3) (aa (FE T.iR T.aO g0j (hr.mono (by decide)) (pv 4) (aa (pv 2) ah)) ah)))) b8)))))
   (ao (aU (pv 3)))))),?_⟩
  refine⟨_,rfl,sh,ca,ra,dx,fs,d,rfl,hd,(by show 1≤ag;decide),fun dq hdq=>?_⟩
  have s1:aM H (upd H dq (.tup [.int (cJ d:Nat)])):=bR hdq
  refine⟨bZ _,fun l hl0=>?_⟩
  have s2:aM H (upd (upd H dq (.tup [.int (cJ d:Nat)])) l (.lst [])):=cB s1 (s1.free hl0)
  have hlH:H l=none:=s1.free hl0
  have ndl:dq≠l:=fun z=>by rw[← z,af]at hl0;cases hl0
  refine⟨_,rfl,a,rfl,⟨_,.inl (hJ s2 hl)⟩,lj (K:=K) (a:=a) (xs:=rs.map V.ref) (fun i σ H'=>∃v:Option V,σ=[some (.ref sh),some (.ref a),some (.ref dq),some (.ref l),v]∧aM H H'∧H' dq=some (.tup [.int (cJ d:Nat)])∧Acc t.aj H' l ((bs.take i).flatten.flatMap (dc (eO d))))
   ⟨none,rfl,s2,by rw[aD ndl,af],.nil af⟩ (fun i σ H' _ ⟨_,_,s3,_⟩=>.inl (hJ s3 hl)) ?_ ?_⟩
  ·rintro i y σ H' hi ⟨v,rfl,s3,hdq',lr,lb,hl',hL,fL⟩
   obtain⟨r,er,rfl⟩:=gD hi
   obtain⟨b,eb,hst⟩:=cQ hR er
   have hst':=hst.kp (aM.oz s3)
   obtain⟨sg,i0,d0,c0,m0,ins,del,d4,bm,vv⟩:=id hst'
   obtain⟨dx2,ha⟩:=vv.at_
   have hbm:∀x∈b,x∈bs.flatten:=fun x hx=>dr.mpr ⟨b,a7 eb,hx⟩
   have hil:=Qu hins vv.gS hbm
   have hlen:(lr.map V.ref).length < ag:=by
    refine XD hL fL ?_
    have h1:=Mt.jj (l:=(bs.take i).flatten) (g:=dc (eO d)) fun x _=>Mt.EM ..
    have h2:=HM eb vv.gS.ne
    omega
   have ef:=Qv (dc (eO d)) eb
   have hd3:=hd.same s3
   have su:∀o,aM H (upd H' l o):=fun o=>cB s3 hlH
   have nql:∀o,upd H' l o dq=some (.tup [.int (cJ d:Nat)]):=fun o=>by rw[aD ndl];exact hdq'
   refine⟨_,rfl,r,dx2,_,rfl,ha,CT (by decide+kernel),r,sg,i0,d0,c0,m0,_,rfl,⟨dx2,ha⟩,vv.d,_,rfl,?_⟩
   rw[ach]
   refine fi (fun h=>?_) fun h=>?_
   ·
    have h:¬del.isEmpty=true:=by simpa using h
    rw[(XG vv.gS.vP h).1]at ef
    refine⟨_,rfl,.inl ⟨rfl,_,g6.of hl'⟩,_,rfl,l,_,_,rfl,rfl,hl',hlen,?_⟩
    exact⟨_,rfl,su _,nql _,by rw[ef];exact Acc.push hl' hL fL hst'⟩
   ·have h:del.isEmpty=true:=by simpa using h
    refine⟨_,rfl,_,rfl,sh,ca,ra,dx,fs,d,r,b,sg,i0,d0,c0,m0,ins,del,d4,bm,rfl,hd3,vv,hil,_,rfl,?_⟩
    refine fi (fun h2=>?_) fun h2=>?_
    ·rw[(XH vv.gS.vP h h2).1]at ef
     refine⟨_,rfl,.inl ⟨rfl,_,g6.of hl'⟩,_,rfl,r,dx2,_,rfl,ha,CT (by decide+kernel),_,rfl,r,sg,i0,d0,c0,m0,dq,rfl,⟨dx2,ha⟩,fun x H4 s4 hx=>?_⟩
     have hl4:=s4 _ _ hl'
     refine⟨l,_,_,rfl,rfl,hl4,hlen,?_⟩
     refine⟨_,rfl,cB (s3.trans s4) hlH,by rw[aD ndl];exact s4 _ _ hdq',?_⟩
     rw[ef]
     refine Acc.push hl4 (hL.kp (aM.oz s4)) fL ⟨sg,i0,dq,c0,m0,ins,[cJ d],d4,bm,hx,?_,s4 _ _ vv.i,s4 _ _ hdq',s4 _ _ vv.c,s4 _ _ vv.m,vv.gS.aen _⟩
     rw[bD]
     exact vv.sg.kp (C:=t.aj) (aM.oz s4)
    ·rw[(XI vv.gS.vP h h2).1,c7]at ef
     exact⟨_,rfl,s3,hdq',by rw[ef];exact⟨lr,lb,hl',hL,fL⟩⟩
  ·rintro σ H' ⟨v,rfl,s3,hdq',hA⟩
   rw[ab,hR.len,cz]at hA
   exact⟨_,rfl,k l H' s3 hA.r⟩
open Vatrka (Piece visible)
def HN {K:aq} {a b:Addr} {xs ys:List V} {H:Hp} {Q:VK} (ha:H a=some (.tup xs)) (hb:H b=some (.tup ys)) (hz:xs.length+ys.length≤ag) (k:∀u H',aM H H'→H' u=some (.tup (xs++ys))→Q (.ref u) H'):V9 K (.ref a) (.ref b) H Q:=by
 refine⟨a,b,xs,ys,rfl,rfl,iB.of ha,iB.of hb,hz,fun e=>k b H (aM.refl _) (by rw[e];exact hb),fun _ e=>k a H (aM.refl _) (by rw[e,c7];exact ha),fun _ _ p hp=>k p _ (bR hp) af⟩
def Kv (d:aC) (m:List Piece):(m.flatMap (overOf d)).length≤m.length:=by rw[Mt.TJ];exact Mt.il m
def FJ (t:pH):Sp:=fun vs H Q _=>EX8 fun(sh ca ra dx:Addr) (fs:List (Str×V)) (d:aC) (a:Addr) (m:List Piece)=>vs=[.ref sh,.ref a]∧eX t H sh ca ra dx fs d∧sy t.aj H a m∧XJ d m∧(∀x∈m,x.ins.length≤10000)∧m.length≤ag∧
 ∀l H',aM H H'→sy t.aj H' l (m.flatMap (overOf d))→Q (.ref l) H'
def K8 (T:Tx K mg t):aZ P w K mg base cH 4 t.qA t.qB mC (FJ t):=by
 have g0h:aZ P w K mg base cH 1 t.jZ t.j0 i3 (qW t):=qX T
 have g0g:aZ P w K mg base cH 1 t.gk t.gm fw (Ap t.aj):=j8 T
 have g1o:aZ P w K mg base cH 2 t.qy t.qz m7 (En t):=FI T
 have g0i:aZ P w K mg base cH 3 t.fN t.fO eK (JA t.aj):=mR T
 refine T.BK.fn.ok oJ (fun vs H Q E h=>?_) (fun cdv A outer s H vs Q E hr h=>?_)
 ·obtain⟨sh,ca,ra,dx,fs,d,a,m,rfl,_⟩:=h
  rfl
 ·obtain⟨sh,ca,ra,dx,fs,d,a,m,rfl,hd,⟨rs,bs,hl,hR,rfl⟩,hins,hil0,hz,k⟩:=h
  refine⟨_,(ai (bP (i:=2) oJ.nd rfl (bc rfl) (bB T.pI g0h (hr.mono (by decide)) (aa (pv 0) ah)))
   (ai (bP (i:=3) oJ.nd rfl (bc rfl) (b5 ah))
   (ai (mi cS rfl (dQ (pv 1)) (da (i:=4) oJ.nd rfl (bc rfl)) (ai (dC (jh (fM (dG T.jb T.aO g0g (hr.mono (by decide)) (pv 4)) (fun _=>rfl))) (ao SW) b8)
   (ao (dC (fM (bB T.BJ g1o (hr.mono (by decide)) (aa (pv 0) (aa (pv 4) ah))) (fun _=>rfl)) (ao (fo (pD bF cV cW ke (pv 3) (aa (FE T.ip T.aO g0i (hr.mono (by decide)) (pv 4) (aa (e6 Ml (aV (pv 4) rfl) (jS (aa (pv 2) ah))) ah)) ah)))) (ao (fo (pD bF cV cW ke (pv 3) (aa (pv 4) ah))))))))
   (ao (aU (pv 3)))))),?_⟩
  refine⟨_,rfl,sh,ca,ra,dx,fs,d,rfl,hd,?_⟩
  refine⟨bZ _,fun l hlH=>?_⟩
  have s2:aM H (upd H l (.lst [])):=bR hlH
  refine⟨_,rfl,a,rfl,⟨_,.inl (hJ s2 hl)⟩,lj (K:=K) (a:=a) (xs:=rs.map V.ref) (fun i σ H'=>∃v:Option V,σ=[some (.ref sh),some (.ref a),some (.int (cJ d:Nat)),some (.ref l),v]∧aM H H'∧Acc t.aj H' l ((bs.take i).flatten.flatMap (overOf d)))
   ⟨none,rfl,s2,.nil af⟩ (fun i σ H' _ ⟨_,_,s3,_⟩=>.inl (hJ s3 hl)) ?_ ?_⟩
  ·rintro i y σ H' hi ⟨v,rfl,s3,lr,lb,hl',hL,fL⟩
   obtain⟨r,er,rfl⟩:=gD hi
   obtain⟨b,eb,hst⟩:=cQ hR er
   have hst':=hst.kp (aM.oz s3)
   obtain⟨sg,i0,d0,c0,m0,ins,del,d4,bm,vv⟩:=id hst'
   obtain⟨dx2,ha⟩:=vv.at_
   have hbm:∀x∈b,x∈bs.flatten:=fun x hx=>dr.mpr ⟨b,a7 eb,hx⟩
   have hil:=Qu hins vv.gS hbm
   have hin:ins.length≤10000:=by
    obtain⟨x,hx⟩:=cG b vv.gS.ne
    have:=hil0 x (hbm x hx)
    rw[(vv.gS.vP x hx).1]at this;exact this
   have hlen:(lr.map V.ref).length < ag:=by
    refine XD hL fL ?_
    have h1:=Kv d (bs.take i).flatten
    have h2:=HM eb vv.gS.ne
    omega
   have ef:=Qv (overOf d) eb
   have hd3:=hd.same s3
   have su:∀o,aM H (upd H' l o):=fun o=>cB s3 hlH
   refine⟨_,rfl,r,dx2,_,rfl,ha,CT (by decide+kernel),r,sg,i0,d0,c0,m0,_,rfl,⟨dx2,ha⟩,vv.d,_,rfl,?_⟩
   rw[ach]
   refine fi (fun h=>?_) fun h=>?_
   ·have h:¬del.isEmpty=true:=by simpa using h
    rw[(XG vv.gS.vP h).2,c7]at ef
    exact⟨_,rfl,s3,by rw[ef];exact⟨lr,lb,hl',hL,fL⟩⟩
   ·have h:del.isEmpty=true:=by simpa using h
    refine⟨_,rfl,_,rfl,sh,ca,ra,dx,fs,d,r,b,sg,i0,d0,c0,m0,ins,del,d4,bm,rfl,hd3,vv,hil,_,rfl,?_⟩
    refine fi (fun h2=>?_) fun h2=>?_
    ·rw[(XH vv.gS.vP h h2).2]at ef
     refine⟨_,rfl,.inl ⟨rfl,_,g6.of hl'⟩,_,rfl,r,dx2,_,rfl,ha,CT (by decide+kernel),_,rfl,r,_,dx2,_,_,rfl,ha,T.aO,T.cD,oP ..,_,rfl,(by show 1≤ag;decide),fun q hq=>?_⟩
     have sq:aM H' (upd H' q (.tup [.int (cJ d:Nat)])):=bR hq
     refine HN (sq _ _ vv.i) af (by rw[fQ,bS];show ins.length+1≤16777216;omega) fun u H3 s5 hu=>?_
     have s6:aM H' H3:=sq.trans s5
     refine⟨r,sg,i0,d0,c0,m0,u,rfl,⟨dx2,s6 _ _ ha⟩,fun x H4 s4 hx=>?_⟩
     have s7:aM H' H4:=s6.trans s4
     have hl4:=s7 _ _ hl'
     refine⟨l,_,_,rfl,rfl,hl4,hlen,?_⟩
     refine⟨_,rfl,cB (s3.trans s7) hlH,?_⟩
     rw[ef]
     refine Acc.push hl4 (hL.kp (aM.oz s7)) fL ⟨sg,u,d0,c0,m0,ins++[cJ d],del,d4,bm,hx,?_,?_,s7 _ _ vv.d,s7 _ _ vv.c,s7 _ _ vv.m,vv.gS.aeo _⟩
     ·rw[bD]
      exact vv.sg.kp (C:=t.aj) (aM.oz s7)
     ·rw[sD];exact s4 _ _ hu
    ·rw[(XI vv.gS.vP h h2).2]at ef
     refine⟨_,rfl,.inl ⟨rfl,_,g6.of hl'⟩,_,rfl,l,_,_,rfl,rfl,hl',hlen,?_⟩
     exact⟨_,rfl,su _,by rw[ef];exact Acc.push hl' hL fL hst'⟩
  ·rintro σ H' ⟨v,rfl,s3,hA⟩
   rw[ab,hR.len,cz]at hA
   exact⟨_,rfl,k l H' s3 hA.r⟩
abbrev rLe:R2:=rI0 fun i j=>.bl (decide (i≤j))
abbrev rLt:R2:=rI0 fun i j=>.bl (decide (i < j))
def WC {te:TE} {σ:L2.St} {H:Hp} {i:Nat} {lo p n:Int} {Q:Bool→Hp→Prop} (hp:σ[i]? =some (some (.int p))) (he:∀Q':VK,(∀H',aM H H'→Q' (.int n) H')→te σ H Q') (k:∀H',aM H H'→Q (decide (lo≤p)&&decide (p≤n)) H'):
  J8 (QP rLe rLe (tC (.int lo)) (kd i) te) σ H Q:=by
 refine⟨_,hp,_,_,rfl,rfl,_,rfl,?_⟩
 by_cases h:lo≤p
 ·rw[if_pos (decide_eq_true h)]
  refine he _ fun H' s'=>⟨_,_,rfl,rfl,_,rfl,?_⟩
  have:=k H' s'
  rw[decide_eq_true h,hW]at this
  exact this
 ·rw[if_neg (by simpa using h)]
  have:=k H (aM.refl _)
  rw[decide_eq_false h,gL]at this
  exact⟨_,rfl,this⟩
def aep {te:TE} {σ:L2.St} {H:Hp} {i j:Nat} {p q n:Int} {Q:Bool→Hp→Prop} (hp:σ[i]? =some (some (.int p))) (hq:σ[j]? =some (some (.int q))) (he:∀Q':VK,(∀H',aM H H'→Q' (.int n) H')→te σ H Q')
  (k:∀H',aM H H'→Q (decide (0≤p)&&(decide (p < q)&&decide (q≤n))) H'):J8 (LA rLe rLt rLe (tC (.int 0)) (kd i) (kd j) te) σ H Q:=by
 refine⟨_,hp,_,_,rfl,rfl,_,rfl,?_⟩
 by_cases h:0≤p
 ·rw[if_pos (decide_eq_true h)]
  refine⟨_,hq,_,_,rfl,rfl,_,rfl,?_⟩
  by_cases h2:p < q
  ·rw[if_pos (decide_eq_true h2)]
   refine he _ fun H' s'=>⟨_,_,rfl,rfl,_,rfl,?_⟩
   have:=k H' s'
   rw[decide_eq_true h,hW,decide_eq_true h2,hW]at this
   exact this
  ·rw[if_neg (by simpa using h2)]
   have:=k H (aM.refl _)
   rw[decide_eq_false h2,gL,rK]at this
   exact⟨_,rfl,this⟩
 ·rw[if_neg (by simpa using h)]
  have:=k H (aM.refl _)
  rw[decide_eq_false h,gL]at this
  exact⟨_,rfl,this⟩
def XM:FT→List Int
 | .refused n=>[-(n:Int)]
 | .told l=>Vatrkg.ints l
structure DocOk (d:aC):Prop where
 wz:∀x∈d.row,Mt.dO d.changes.length x
 tags:abK d.row
 chg:d.changes.length≤1000
 len:d.row.length≤8000000
def DocOk.ins {d:aC} (h:DocOk d) {m:List Piece} (hm:∀x∈m,x∈d.row):XJ d m:=fun x hx=>(h.wz x (hm x hx)).ins
theorem UA:∀{l:List Nat} {m:Nat},l.Pairwise (· < ·)→(∀c∈l,c≤m)→m∈l→l.getLast? =some m
 | [],_,_,_,h=>by cases h
 | [a],m,_,_,h=>by simp at h;rw[h];rfl
 | a::b::r,m,hp,hle,h=>by
  rw[c5]at hp
  rw[pQ]
  refine UA hp.2 (fun c hc=>hle c (aI _ hc)) ?_
  rcases bx.mp h with e | h
  ·have:=hp.1 b (aE ..)
   have:=hle b (by simp)
   omega
  ·exact h
def fit {d:aC} {r:List Piece} (h:∀x∈r,Mt.dO (d.changes.length+1) x):(∀x∈r,x.pend=[])∧∀x∈r,cJ d∈x.ins→x.ins.getLast? =some (cJ d):=
 ⟨fun x hx=>(h x hx).pend,fun x hx hm=>UA (h x hx).inc (fun c hc=>((h x hx).ins c hc).2) hm⟩
def Qw (fs fs':List (Str×V)):Prop:=∀f:Str,f≠"row"→fs'.lookup f=fs.lookup f
def Ng (fs:List (Str×V)):Qw fs fs:=fun _ _=>rfl
def pK (fs:List (Str×V)) (v:V):Qw fs (dB "row" v fs):=fun f hf=>by rw[aK,if_neg hf]
def Gx (t:pH) (H:Hp) (sh ca dx:Addr) (fs:List (Str×V)) (x:aC×FT) (Q:VK):Prop:=
 ∀l H' ra' fs',H l=none→H' l=some (.lst ((XM x.2).map V.int))→eX t H' sh ca ra' dx fs' x.1→Qw fs fs'→(∀b o,H b=some o→b≠sh→b≠ca→H' b=some o)→Q (.ref l) H'
def Gx.refuse {t:pH} {H H1:Hp} {sh ca ra dx l:Addr} {fs:List (Str×V)} {d:aC} {n:Nat} {Q:VK} (k:Gx t H sh ca dx fs (d,.refused n) Q) (hd:eX t H sh ca ra dx fs d) (s1:aM H H1) (hl:H1 l=none):Q (.ref l) (upd H1 l (.lst [.int (-(n:Int))])):=
 k l _ ra fs (s1.free hl) af (hd.same (cB s1 (s1.free hl))) (Ng fs) fun b o e _ _=>cB s1 (s1.free hl) b o e
def abL {d:aC} {p:Nat} {signs:List Nat} {a b:List Piece} {x:Piece} (h:∀x∈d.row,Mt.dO d.changes.length x) (hb:Mt.mj d.row p a x b):∀y∈a++(di d p signs++x::b),Mt.dO (d.changes.length+1) y:=fun y hy=>by
 have m:∀z∈a++x::b,Mt.dO (d.changes.length+1) z:=fun z hz=>(h z (by rw[hb.dj];exact hz)).mono (fE _)
 rcases aX.mp hy with hy | hy
 ·exact m y (aS _ hy)
 ·rcases aX.mp hy with hy | hy
  ·exact(Mt.AZ h hy).1
  ·exact m y (aF _ hy)
def HP (T:Tx K mg t) {H:Hp} {sh ca ra dx:Addr} {fs:List (Str×V)} {d:aC} {σ:L2.St} {i:Nat} {Q:VK} (hi:σ[i]? =some (some (.ref sh))) (hd:eX t H sh ca ra dx fs d) (hz:d.row.length≤ag) (k:∀H',aM H H'→Q (.int ((visible d.row).length:Nat)) H'):
  Fu (iU t.aj) [] E0 (nR (aa8 K (kd i) "row") vf) σ H Q:=
 ⟨_,hi,sh,_,dx,_,_,rfl,hd.at_,T.aQ,T.bA,hd.zT,ra,d.row,rfl,hd.row.r,hz,k⟩
def aeq (t:pH):Sp:=fun vs H Q _=>EX9 fun(sh ca ra dx:Addr) (fs:List (Str×V)) (d:aC) (p:Int) (sa:Addr) (ns:List Int)=>vs=[.ref sh,.int p,.ref sa]∧eX t H sh ca ra dx fs d∧DocOk d∧Kn H sa (ns.map V.int)∧ns.length≤20000∧Gx t H sh ca dx fs (bq d (.put p ns)) Q
def adq (T:Tx K mg t):aZ P w K mg base cH 7 t.Xu t.Xv T5 (aeq t):=by
 have g0e:aZ P w K mg base cH 3 t.gF t.gG fW (iU t.aj):=jl T
 have g3k:aZ P w K mg base cH 3 t.yx t.yy tP (M6 K):=RX T
 have g1c:aZ P w K mg base cH 6 t.qp t.qr m6 (Ei t.aj):=FG T
 have g2r:aZ P w K mg base cH 5 t.tm t.tp nY (HK t):=Nf T
 have g0o:aZ P w K mg base cH 2 t.kG t.kH jk (HJ t):=uO T
 refine T.put.fn.ok adl (fun vs H Q E h=>?_) (fun cdv A outer s H vs Q E hr h=>?_)
 ·obtain⟨sh,ca,ra,dx,fs,d,p,sa,ns,rfl,_⟩:=h
  rfl
 ·obtain⟨sh,ca,ra,dx,fs,d,p,sa,ns,rfl,hd,ok,hsa,hns,k⟩:=h
  have zl:ag=16777216:=bS
  have hrl:=ok.len
  refine⟨_,(ai (dC (jh (tI iX iX aP (pv 1) (e6 uq (bB T.jM g0e (hr.mono (by decide)) (aa (aV (pv 0) rfl) ah)) aP))) (ao (aU (b5 (aa (fe dA aP) ah)))) b8)
   (ai (dC (jh (fM (bB T.Js g3k (hr.mono (by decide)) (aa (pv 2) ah)) (fun _=>rfl))) (ao (aU (b5 (aa (fe dA aP) ah)))) b8)
   (ai (eZ (pv 0) (bB T.xy g1c (hr.mono (by decide)) (aa (aV (pv 0) rfl) (aa (pv 1) (aa (b5 (aa (bB T.D8 g2r (hr.mono (by decide)) (aa (pv 0) (aa (pv 1) (aa (pv 2) ah)))) ah)) ah)))) rfl)
   (ao (aU (bB T.qQ g0o (hr.mono (by decide)) (aa (pv 0) ah))))))),?_⟩
  have ek:bq d (.put p ns)=xX d p ns:=rfl
  rw[ek]at k
  refine WC (i:=1) (n:=((visible d.row).length:Int) - 1) rfl (fun Q' kq=>HP T rfl hd (by omega) fun H' s'=>⟨_,_,rfl,rfl,kq H' s'⟩) fun H1 s1=>?_
  have eb:(decide (0≤p)&&decide (p≤((visible d.row).length:Int) - 1))=gi p (bJ d):=by
   unfold gi bJ
   congr 1
   rw[bH];simp;omega
  rw[eb]
  have hd1:=hd.same s1
  unfold xX at k
  refine fi (fun h=>?_) fun h=>?_
  ·rw[if_pos (by simpa using h)]at k
   exact⟨_,rfl,(by show 1≤ag;decide),fun l hl=>k.refuse hd s1 hl⟩
  ·have hbl:gi p (bJ d)=true:=by simpa using h
   rw[if_neg (by rw[hbl];decide)]at k
   obtain⟨hp0,hp1⟩:=Mt.Ag.mp hbl
   have hsa1:=hsa.kp (C:=t.aj) (aM.oz s1)
   refine⟨_,rfl,sa,ns,rfl,hsa1.sq,by omega,fun H2 s2=>⟨_,rfl,?_⟩⟩
   refine fi (fun h2=>?_) fun h2=>?_
   ·rw[if_pos (by simpa using h2)]at k
    exact⟨_,rfl,(by show 1≤ag;decide),fun l hl=>k.refuse hd (s1.trans s2) hl⟩
   ·have hsg:(ns.isEmpty||!ns.all eU)=false:=by simpa using h2
    rw[if_neg (by rw[hsg];decide)]at k
    rw[EC]at hsg
    have hne:ns≠[]:=fun e=>by rw[e]at hsg;cases hsg.1
    have hall:ns.all eU=true:=by simpa using hsg.2
    have hd2:=hd1.same s2
    have hsa2:=hsa1.kp (C:=t.aj) (aM.oz s2)
    obtain⟨pn,rfl⟩:∃n:Nat,p=(n:Int):=⟨p.toNat,by omega⟩
    have hpn:pn < (visible d.row).length:=by
     have:(pn:Int) < ((visible d.row).length:Int):=hp1
     omega
    refine⟨_,rfl,sh,_,dx,_,_,rfl,hd2.at_,T.aQ,T.bA,hd2.zT,_,rfl,_,rfl,_,rfl,_,rfl,sh,ca,ra,dx,fs,d,pn,sa,ns,rfl,hd2,hpn,hsa2,hne,hall,ok.tags,fun x H3 s3 hx=>?_⟩
    refine⟨(by show 1≤ag;decide),fun l1 hl1=>?_⟩
    have s4:aM H3 (upd H3 l1 (.lst [.ref x])):=bR hl1
    have hd4:=(hd2.same s3).same s4
    have hnl:(di d pn (ns.map fun z=>z.toNat)).length=ns.length:=by unfold di;rw[ab,ab]
    refine⟨ra,d.row,pn,l1,di d pn (ns.map fun z=>z.toNat),rfl,hd4.row.r,⟨[x],[_],.inl af,.cons (hx.kp (aM.oz s4)) .nil,by simp⟩,hpn,by rw[hnl];omega,fun q H5 fa y fb s5 hq bf hrow=>?_⟩
    have hd5:=hd4.same s5
    refine⟨_,rfl,sh,_,dx,fs,rfl,hd5.at_,T.aQ,T.bA,hd5.x9,?_⟩
    have hd6:=hd5.El T.cK hrow
    have ft:=fit (abL (signs:=ns.map fun z=>z.toNat) ok.wz bf)
    have el:=congrArg c8 bf.dj
    refine⟨_,rfl,sh,ca,q,dx,_,_,1,rfl,hd6,ft.1,ft.2,?_,?_,fun l H7 hl h7 hd7 kp7=>?_⟩
    ·show(fa++(di d pn (ns.map fun z=>z.toNat)++y::fb)).length≤ag
     simp only[ae,aN]at el⊢
     rw[hnl];omega
    ·have:=ok.chg
     show d.changes.length < ag
     omega
    ·have ef:lG (Cq d pn (ns.map fun z=>z.toNat))=((gd {d with row:=fa++(di d pn (ns.map fun z=>z.toNat)++y::fb)} 1 (fa++(di d pn (ns.map fun z=>z.toNat)++y::fb))).1,.told [(gd {d with row:=fa++(di d pn (ns.map fun z=>z.toNat)++y::fb)} 1 (fa++(di d pn (ns.map fun z=>z.toNat)++y::fb))).2]):=by
      unfold lG Cq
      rw[bf.putBefore];rfl
     rw[show(Cq d ((pn:Int)).toNat (ns.map fun z=>z.toNat))=Cq d pn (ns.map fun z=>z.toNat)from rfl,ef]at k
     have sA:aM H H5:=(((s1.trans s2).trans s3).trans s4).trans s5
     have hl5:H5 l=none:=by
      have nl:l≠sh:=fun z=>by rw[z,af]at hl;cases hl
      rw[aD nl]at hl;exact hl
     refine k l H7 q _ (sA.free hl5) h7 hd7 (pK fs _) fun b o e n1 n2=>?_
     exact kp7 b o (by rw[aD n1];exact sA _ _ e) n2
def XN {d:aC} {p q:Nat} {a m b:List Piece} (h:∀x∈d.row,Mt.dO d.changes.length x) (ar:Mt.Around d.row p q a m b):(∀y∈a,Mt.dO (d.changes.length+1) y)∧(∀y∈m.flatMap (dc (eO d)),Mt.dO (d.changes.length+1) y)∧(∀y∈m.flatMap (overOf d),Mt.dO (d.changes.length+1) y)∧∀y∈b,Mt.dO (d.changes.length+1) y:=by
 have mem:∀z∈a++(m++b),Mt.dO d.changes.length z:=by rw[← ar.dj];exact h
 refine⟨fun y hy=>(mem y (aS _ hy)).mono (fE _),fun y hy=>?_,fun y hy=>?_,fun y hy=>(mem y (aF _ (aF _ hy))).mono (fE _)⟩
 ·obtain⟨x,hx,hy⟩:=fJ.mp hy
  exact(Mt.Di (mem x (aF _ (aS _ hx))) hy).1
 ·obtain⟨x,hx,hy⟩:=fJ.mp hy
  exact(Mt.P9 (mem x (aF _ (aS _ hx))) hy).1
def aaA {P:Piece→Prop} {a m b:List Piece} (h1:∀y∈a,P y) (h2:∀y∈m,P y) (h3:∀y∈b,P y):∀y∈a++(m++b),P y:=fun y hy=>by
 rcases aX.mp hy with hy | hy
 ·exact h1 y hy
 ·rcases aX.mp hy with hy | hy
  ·exact h2 y hy
  ·exact h3 y hy
def aer (t:pH):Sp:=fun vs H Q _=>EX8 fun(sh ca ra dx:Addr) (fs:List (Str×V)) (d:aC) (p q:Int)=>vs=[.ref sh,.int p,.int q]∧eX t H sh ca ra dx fs d∧DocOk d∧Gx t H sh ca dx fs (bq d (.cut p q)) Q
def R0 (T:Tx K mg t) {H H5:Hp} {sh ca ra dx q:Addr} {fs:List (Str×V)} {d:aC} {r:List Piece} {kind:Nat} {Q:VK} {x:aC×FT} (ex:x=((gd d kind r).1,.told [(gd d kind r).2])) (k:Gx t H sh ca dx fs x Q) (ok:DocOk d)
  (hd5:eX t H5 sh ca ra dx fs d) (sA:aM H H5) (hrow:kR t.aj H5 q r) (hp:∀y∈r,Mt.dO (d.changes.length+1) y) (hz:r.length≤ag):
  HJ t [.ref sh] (upd H5 sh (.ins t.cu dx (dB "row" (.ref q) fs))) Q E0:=by
 have hd6:=hd5.El T.cK hrow
 have ft:=fit hp
 have hc:=ok.chg
 have zl:ag=16777216:=bS
 refine⟨sh,ca,q,dx,_,_,kind,rfl,hd6,ft.1,ft.2,hz,by show d.changes.length < ag;omega,fun l H7 hl h7 hd7 kp7=>?_⟩
 subst ex
 have hl5:H5 l=none:=by
  have nl:l≠sh:=fun z=>by rw[z,af]at hl;cases hl
  rw[aD nl]at hl;exact hl
 refine k l H7 q _ (sA.free hl5) h7 hd7 (pK fs _) fun b o e n1 n2=>?_
 exact kp7 b o (by rw[aD n1];exact sA _ _ e) n2
def ads (T:Tx K mg t):aZ P w K mg base cH 7 t.Xw t.Xx T6 (aer t):=by
 have g0e:aZ P w K mg base cH 3 t.gF t.gG fW (iU t.aj):=jl T
 have g0f:aZ P w K mg base cH 6 t.i4 t.i5 hE (nr t.aj):=mS T
 have g1m:aZ P w K mg base cH 4 t.og t.oh lM (B3 t):=Eo T
 have g0o:aZ P w K mg base cH 2 t.kG t.kH jk (HJ t):=uO T
 refine T.cut.fn.ok aaq (fun vs H Q E h=>?_) (fun cdv A outer s H vs Q E hr h=>?_)
 ·obtain⟨sh,ca,ra,dx,fs,d,p,q,rfl,_⟩:=h
  rfl
 ·obtain⟨sh,ca,ra,dx,fs,d,p,q,rfl,hd,ok,k⟩:=h
  have zl:ag=16777216:=bS
  have hrl:=ok.len
  refine⟨_,(ai (dC (jh (Qk iX LP iX aP (pv 1) (pv 2) (e6 uq (bB T.jM g0e (hr.mono (by decide)) (aa (aV (pv 0) rfl) ah)) aP))) (ao (aU (b5 (aa (fe dA aP) ah)))) b8)
   (ai (bP (i:=3) aaq.nd rfl (bc rfl) (bB T.mQ g0f (hr.mono (by decide)) (aa (aV (pv 0) rfl) (aa (pv 1) (aa (pv 2) ah)))))
   (ai (eZ (pv 0) (Dn (e6 gZ (e6 gZ (gv fH (pv 3) aP (fun _ _=>rfl)) (bB T.yH g1m (hr.mono (by decide)) (aa (pv 0) (aa (gv fH (pv 3) aP (fun _ _=>rfl)) ah)))) (gv fH (pv 3) aP (fun _ _=>rfl)))) rfl)
   (ao (aU (bB T.qQ g0o (hr.mono (by decide)) (aa (pv 0) ah))))))),?_⟩
  have ek:bq d (.cut p q)=xY d p q:=rfl
  rw[ek]at k
  refine aep (i:=1) (j:=2) (n:=((visible d.row).length:Int) - 1) rfl rfl (fun Q' kq=>HP T rfl hd (by omega) fun H' s'=>⟨_,_,rfl,rfl,kq H' s'⟩) fun H1 s1=>?_
  have eb:(decide (0≤p)&&(decide (p < q)&&decide (q≤((visible d.row).length:Int) - 1)))=dZ p q (bJ d - 1):=by
   unfold dZ bJ
   rw[bH];simp;omega
  rw[eb]
  have hd1:=hd.same s1
  unfold xY at k
  refine fi (fun h=>?_) fun h=>?_
  ·rw[if_pos (by simpa using h)]at k
   exact⟨_,rfl,(by show 1≤ag;decide),fun l hl=>k.refuse hd s1 hl⟩
  ·have hst:dZ p q (bJ d - 1)=true:=by simpa using h
   rw[if_neg (by rw[hst];decide)]at k
   obtain⟨hp0,hp1,hp2⟩:=Mt.lJ.mp hst
   obtain⟨pn,rfl⟩:∃n:Nat,p=(n:Int):=⟨p.toNat,by omega⟩
   obtain⟨qn,rfl⟩:∃n:Nat,q=(n:Int):=⟨q.toNat,by omega⟩
   have hc:bJ d=(visible d.row).length:=rfl
   refine⟨_,rfl,sh,_,dx,_,_,rfl,hd1.at_,T.aQ,T.bA,hd1.zT,_,rfl,_,rfl,ra,d.row,pn,qn,rfl,hd1.row.r,by omega,by omega,by omega,fun f g h u H2 a m b s2 ar hf hg hh hu=>?_⟩
   have hd2:=hd1.same s2
   have el:=congrArg c8 ar.dj
   simp only[ae]at el
   have mm:∀x∈m,x∈d.row:=fun x hx=>by rw[ar.dj];exact aF _ (aS _ hx)
   refine⟨_,rfl,u,_,_,_,rfl,rfl,iB.of hu,dJ (j:=0) rfl,_,rfl,_,rfl,u,_,_,_,rfl,rfl,iB.of hu,dJ (j:=1) rfl,sh,ca,ra,dx,fs,d,g,m,rfl,hd2,hg.r,ok.ins mm,by omega,fun lf H3 s3 hlf=>?_⟩
   have cl:=Mt.jj (l:=m) (g:=dc (eO d)) fun x _=>Mt.EM ..
   refine O3 (hf.r.same s3) hlf (by omega) fun z1 H4 s4 hz1 ha4=>?_
   refine⟨_,rfl,u,_,_,_,rfl,rfl,iB.of (s4 _ _ (s3 _ _ hu)),dJ (j:=2) rfl,?_⟩
   refine O3 ha4.r ((hh.r.same s3).same s4) (by rw[ae];omega) fun z2 H5 s5 hz2 ha5=>?_
   refine ha5.fz fun H6 hrow ne6 kp6=>?_
   have sB:aM H2 H5:=(s3.trans s4).trans s5
   have hd5:=hd2.same sB
   have sA:aM H H5:=(s1.trans s2).trans sB
   have hzH:H z2=none:=(s1.trans s2).free (s3.free (s4.free hz2))
   have sA6:aM H H6:=fun x o e=>by rw[ne6 x (a9 e hzH)];exact sA _ _ e
   have hd6:eX t H6 sh ca ra dx fs d:=hd.same sA6
   refine⟨_,rfl,sh,_,dx,fs,rfl,hd6.at_,T.aQ,T.bA,hd6.x9,?_⟩
   have pc:=XN ok.wz ar
   rw[bM]at hrow
   refine⟨_,rfl,R0 T (kind:=2) ?_ k ok hd6 sA6 hrow (aaA pc.1 pc.2.1 pc.2.2.2) (by simp only[ae];omega)⟩
   show lG (SD d pn qn)=_
   unfold lG SD
   rw[ar.onStretch]
def aes {σ:L2.St} {H:Hp} {i j k:Nat} {lo p n:Int} {Q:Bool→Hp→Prop} (h0:σ[i]? =some (some (.int lo))) (h1:σ[j]? =some (some (.int p))) (h2:σ[k]? =some (some (.int n))) (q:Q (decide (lo≤p)&&decide (p≤n)) H):
  J8 (QP rLe rLe (kd i) (kd j) (kd k)) σ H Q:=by
 refine⟨_,h0,_,h1,_,_,rfl,rfl,_,rfl,?_⟩
 by_cases h:lo≤p
 ·rw[if_pos (decide_eq_true h)]
  rw[decide_eq_true h,hW]at q
  exact⟨_,h2,_,_,rfl,rfl,_,rfl,q⟩
 ·rw[if_neg (by simpa using h)]
  rw[decide_eq_false h,gL]at q
  exact⟨_,rfl,q⟩
def aaB {σ:L2.St} {H:Hp} {i:Nat} {n:Int} (h:σ[i]? =some (some (.int n))):∀Q':VK,(∀H',aM H H'→Q' (.int n) H')→kd i σ H Q':=fun Q' kq=>⟨_,h,kq H (aM.refl _)⟩
def adt (t:pH):Sp:=fun vs H Q _=>EX9 fun(sh ca ra dx:Addr) (fs:List (Str×V)) (d:aC) (p q r:Int)=>vs=[.ref sh,.int p,.int q,.int r]∧eX t H sh ca ra dx fs d∧DocOk d∧Gx t H sh ca dx fs (bq d (.move p q r)) Q
def abM (T:Tx K mg t):aZ P w K mg base cH 7 t.RO t.RP MB (adt t):=by
 have g0e:aZ P w K mg base cH 3 t.gF t.gG fW (iU t.aj):=jl T
 have g0f:aZ P w K mg base cH 6 t.i4 t.i5 hE (nr t.aj):=mS T
 have g1m:aZ P w K mg base cH 4 t.og t.oh lM (B3 t):=Eo T
 have g2h:aZ P w K mg base cH 4 t.qA t.qB mC (FJ t):=K8 T
 have g1c:aZ P w K mg base cH 6 t.qp t.qr m6 (Ei t.aj):=FG T
 have g0o:aZ P w K mg base cH 2 t.kG t.kH jk (HJ t):=uO T
 refine T.move.fn.ok Hk (fun vs H Q E h=>?_) (fun cdv A outer s H vs Q E hr h=>?_)
 ·obtain⟨sh,ca,ra,dx,fs,d,p,q,r,rfl,_⟩:=h
  rfl
 ·obtain⟨sh,ca,ra,dx,fs,d,p,q,r,rfl,hd,ok,k⟩:=h
  have zl:ag=16777216:=bS
  have hrl:=ok.len
  refine⟨_,(ai (bP (i:=4) Hk.nd rfl (bc rfl) (e6 uq (bB T.jM g0e (hr.mono (by decide)) (aa (aV (pv 0) rfl) ah)) aP))
   (ai (dC (jh (QO (Qk iX LP iX aP (pv 1) (pv 2) (pv 4)) (Lq (tI iX iX aP (pv 3) (pv 4)))).pt) (ao (aU (b5 (aa (fe dA aP) ah)))) b8)
   (ai (dC (tI iX iX (pv 1) (pv 3) (pv 2)) (ao (aU (b5 (aa (fe dA aP) ah)))) b8)
   (ai (bP (i:=5) Hk.nd rfl (bc rfl) (bB T.mQ g0f (hr.mono (by decide)) (aa (aV (pv 0) rfl) (aa (pv 1) (aa (pv 2) ah)))))
   (ai (bP (i:=6) Hk.nd rfl (bc rfl) (bB T.yH g1m (hr.mono (by decide)) (aa (pv 0) (aa (gv fH (pv 5) aP (fun _ _=>rfl)) ah))))
   (ai (bP (i:=7) Hk.nd rfl (bc rfl) (bB T.BK g2h (hr.mono (by decide)) (aa (pv 0) (aa (gv fH (pv 5) aP (fun _ _=>rfl)) ah))))
   (ai (dC (dN LP (pv 3) (pv 1) (d6 _)) (ao (eZ (pv 0) (Dn (e6 gZ (e6 gZ (bB T.xy g1c (hr.mono (by decide)) (aa (gv fH (pv 5) aP (fun _ _=>rfl)) (aa (pv 3) (aa (pv 7) ah)))) (pv 6)) (gv fH (pv 5) aP (fun _ _=>rfl)))) rfl)) (ao (eZ (pv 0) (Dn (e6 gZ (e6 gZ (gv fH (pv 5) aP (fun _ _=>rfl)) (pv 6)) (bB T.xy g1c (hr.mono (by decide)) (aa (gv fH (pv 5) aP (fun _ _=>rfl)) (aa (e6 uq (pv 3) (pv 2)) (aa (pv 7) ah)))))) rfl)))
   (ao (aU (bB T.qQ g0o (hr.mono (by decide)) (aa (pv 0) ah))))))))))),?_⟩
  have ek:bq d (.move p q r)=u7 d p q r:=rfl
  rw[ek]at k
  have hc:bJ d=(visible d.row).length:=rfl
  refine HP T rfl hd (by omega) fun H1 s1=>⟨_,_,rfl,rfl,?_⟩
  have hd1:=hd.same s1
  refine aep (i:=1) (j:=2) (n:=((visible d.row).length:Int) - 1) rfl rfl (aaB rfl) fun H2 s2=>?_
  have eb:(decide (0≤p)&&(decide (p < q)&&decide (q≤((visible d.row).length:Int) - 1)))=dZ p q (bJ d - 1):=by
   unfold dZ bJ
   rw[bH];simp;omega
  have eb2:(decide (0≤r)&&decide (r≤((visible d.row).length:Int) - 1))=gi r (bJ d):=by
   unfold gi bJ
   congr 1
   rw[bH];simp;omega
  rw[eb]
  unfold u7 at k
  have bad:(dZ p q (bJ d - 1)&&gi r (bJ d))=false→∀H',aM H H'→∀l,H' l=none→Q (.ref l) (upd H' l (.lst [.int (-((1:Nat):Int))])):=fun e H' s' l hl=>by
   rw[if_pos e]at k
   exact k.refuse hd s' hl
  refine fi (fun h=>?_) fun h=>?_
  rotate_left
  ·have h:dZ p q (bJ d - 1)=false:=by simpa using h
   refine Ab ⟨_,rfl,(by show 1≤ag;decide),fun l hl=>bad (by rw[h];rfl) H2 (s1.trans s2) l hl⟩
  ·refine WC (i:=3) (n:=((visible d.row).length:Int) - 1) rfl (aaB rfl) fun H3 s3=>?_
   rw[eb2]
   have sB:aM H H3:=(s1.trans s2).trans s3
   refine fi (fun h2=>?_) fun h2=>?_
   ·have h2:gi r (bJ d)=false:=by simpa using h2
    exact⟨_,rfl,(by show 1≤ag;decide),fun l hl=>bad (by rw[h2,rK]) H3 sB l hl⟩
   ·have h2:gi r (bJ d)=true:=by simpa using h2
    rw[if_neg (by rw[h,h2];decide)]at k
    refine aes (i:=1) (j:=3) (k:=2) rfl rfl rfl ?_
    refine fi (fun h3=>?_) fun h3=>?_
    ·rw[if_pos (by simpa using h3)]at k
     exact⟨_,rfl,(by show 1≤ag;decide),fun l hl=>k.refuse hd sB hl⟩
    ·have h3:¬(p≤r∧r≤q):=by simpa using h3
     rw[if_neg h3]at k
     obtain⟨hp0,hp1,hp2⟩:=Mt.lJ.mp h
     obtain⟨hr0,hr1⟩:=Mt.Ag.mp h2
     obtain⟨pn,rfl⟩:∃n:Nat,p=(n:Int):=⟨p.toNat,by omega⟩
     obtain⟨qn,rfl⟩:∃n:Nat,q=(n:Int):=⟨q.toNat,by omega⟩
     obtain⟨rn,rfl⟩:∃n:Nat,r=(n:Int):=⟨r.toNat,by omega⟩
     have hd3:=hd.same sB
     refine⟨_,rfl,sh,_,dx,_,_,rfl,hd3.at_,T.aQ,T.bA,hd3.zT,_,rfl,_,rfl,ra,d.row,pn,qn,rfl,hd3.row.r,by omega,by omega,by omega,fun f g h' u H4 a m b s4 ar hf hg hh hu=>?_⟩
     have hd4:=hd3.same s4
     have el:=congrArg c8 ar.dj
     simp only[ae]at el
     have mm:∀x∈m,x∈d.row:=fun x hx=>by rw[ar.dj];exact aF _ (aS _ hx)
     have hil:∀x∈m,x.ins.length≤10000:=fun x hx=>by
      have o:=ok.wz x (mm x hx)
      have:=Mt.Mh o.inc fun c hc=>(o.ins c hc).2
      have:=ok.chg
      omega
     refine⟨_,rfl,_,rfl,u,_,_,_,rfl,rfl,iB.of hu,dJ (j:=1) rfl,sh,ca,ra,dx,fs,d,g,m,rfl,hd4,hg.r,ok.ins mm,by omega,fun lf H5 s5 hlf=>?_⟩
     have hd5:=hd4.same s5
     refine⟨_,rfl,_,rfl,u,_,_,_,rfl,rfl,iB.of (s5 _ _ hu),dJ (j:=1) rfl,sh,ca,ra,dx,fs,d,g,m,rfl,hd5,hg.r.same s5,ok.ins mm,hil,by omega,fun br H6 s6 hbr=>?_⟩
     have s56:aM H4 H6:=s5.trans s6
     have hu6:=s56 _ _ hu
     have cl:=Mt.jj (l:=m) (g:=dc (eO d)) fun x _=>Mt.EM ..
     have cl2:=Kv d m
     have cv:=ar.Ke
     have ca':=ar.Dc
     have pc:=XN ok.wz ar
     have cb:(visible b).length=(visible d.row).length - qn:=by
      have e:(visible d.row).length=(visible (a++(m++b))).length:=by rw[← ar.dj]
      rw[Mt.bU,Mt.bU,ae,ae,ca',cv]at e
      have:=ar.lt
      omega
     have ans:∀r',(oE d pn qn rn).1.row=r'→lG (oE d pn qn rn)=((gd d 4 r').1,.told [(gd d 4 r').2]):=fun r' e=>by
      unfold oE at e
      rw[Mt.mn]at e
      unfold lG oE
      rw[e]
     refine⟨_,rfl,_,rfl,_,_,rfl,rfl,_,rfl,?_⟩
     refine fi (fun h4=>?_) fun h4=>?_
     ·
      have h4:rn < pn:=by simpa using h4
      refine⟨_,rfl,u,_,_,_,rfl,rfl,iB.of hu6,dJ (j:=0) rfl,_,rfl,_,rfl,f,a,rn,br,m.flatMap (overOf d),rfl,hf.r.same s56,hbr,by omega,by omega,fun z1 H7 fa x fb s7 hz1 bf hrow7=>?_⟩
      have hlen7:=congrArg c8 bf.dj
      simp only[ae,aN]at hlen7
      refine⟨_,rfl,O3 hrow7.r (hlf.same (s6.trans s7)) (by simp only[ae,aN];omega) fun z2 H8 s8 hz2 ha8=>?_⟩
      refine⟨_,rfl,u,_,_,_,rfl,rfl,iB.of (s8 _ _ (s7 _ _ hu6)),dJ (j:=2) rfl,?_⟩
      refine O3 ha8.r (((hh.r.same s56).same s7).same s8) (by simp only[ae,aN];omega) fun z3 H9 s9 hz3 ha9=>?_
      refine ha9.fz fun H10 hrow ne10 kp10=>?_
      have sC:aM H4 H9:=((s56.trans s7).trans s8).trans s9
      have sA:aM H H9:=(sB.trans s4).trans sC
      have hzH:H z3=none:=(sB.trans s4).free (s56.free (s7.free (s8.free hz3)))
      have sA10:aM H H10:=fun x o e=>by rw[ne10 x (a9 e hzH)];exact sA _ _ e
      have hd10:eX t H10 sh ca ra dx fs d:=hd.same sA10
      refine⟨_,rfl,sh,_,dx,fs,rfl,hd10.at_,T.aQ,T.bA,hd10.x9,?_⟩
      rw[bM]at hrow
      have pcs2:∀y∈fa++(m.flatMap (overOf d)++x::fb),Mt.dO (d.changes.length+1) y:=by
       have pa:=pc.1
       rw[bf.dj]at pa
       exact aaA (fun y hy=>pa y (aS _ hy)) pc.2.2.1 fun y hy=>pa y (aF _ hy)
      refine⟨_,rfl,R0 T (kind:=4) (ans _ ?_) k ok hd10 sA10 hrow (aaA pcs2 pc.2.1 pc.2.2.2) (by simp only[ae,aN];omega)⟩
      unfold oE
      rw[Mt.mn,Mt.L8 ar bf h4]
     ·
      have h4:¬rn < pn:=by simpa using h4
      have hqr:qn < rn:=by omega
      have er:(rn:Int) - (qn:Int)=((rn - qn:Nat):Int):=by omega
      refine⟨_,rfl,u,_,_,_,rfl,rfl,iB.of hu6,dJ (j:=0) rfl,_,rfl,O3 (hf.r.same s56) (hlf.same s6) (by omega) fun z1 H7 s7 hz1 ha7=>?_⟩
      refine⟨_,rfl,u,_,_,_,rfl,rfl,iB.of (s7 _ _ hu6),dJ (j:=2) rfl,_,rfl,_,rfl,_,_,rfl,rfl,_,rfl,h',b,rn - qn,br,m.flatMap (overOf d),by show[V.ref h',V.int ((rn:Int) - (qn:Int)),V.ref br]=_;rw[er],(hh.r.same s56).same s7,hbr.same s7,by omega,by omega,fun z2 H8 fa x fb s8 hz2 bf hrow8=>?_⟩
      have hlen8:=congrArg c8 bf.dj
      simp only[ae,aN]at hlen8
      refine O3 (ha7.r.same s8) hrow8.r (by simp only[ae,aN];omega) fun z3 H9 s9 hz3 ha9=>?_
      refine ha9.fz fun H10 hrow ne10 kp10=>?_
      have sC:aM H4 H9:=((s56.trans s7).trans s8).trans s9
      have sA:aM H H9:=(sB.trans s4).trans sC
      have hzH:H z3=none:=(sB.trans s4).free (s56.free (s7.free (s8.free hz3)))
      have sA10:aM H H10:=fun x o e=>by rw[ne10 x (a9 e hzH)];exact sA _ _ e
      have hd10:eX t H10 sh ca ra dx fs d:=hd.same sA10
      refine⟨_,rfl,sh,_,dx,fs,rfl,hd10.at_,T.aQ,T.bA,hd10.x9,?_⟩
      rw[bM]at hrow
      have pcs2:∀y∈fa++(m.flatMap (overOf d)++x::fb),Mt.dO (d.changes.length+1) y:=by
       have pb:=pc.2.2.2
       rw[bf.dj]at pb
       exact aaA (fun y hy=>pb y (aS _ hy)) pc.2.2.1 fun y hy=>pb y (aF _ hy)
      refine⟨_,rfl,R0 T (kind:=4) (ans _ ?_) k ok hd10 sA10 hrow (aaA pc.1 pc.2.1 pcs2) (by simp only[ae,aN];omega)⟩
      unfold oE
      rw[Mt.mn,Mt.P8 ar bf (by omega)]
open Mt (b6)
def kL (c:Int) (l:List Nat):Bool:=if c=0 then !l.isEmpty else du l c.toNat
def As (c:Int) (l:List Nat):List Nat:=if c=0 then[]else dm c.toNat l
def Ep (v:Bool) (c:Int) (a b:List Piece):b6 v c (a++b)=b6 v c a++b6 v c b:=by
 unfold b6 AI AJ iu
 by_cases h:c=0
 ·rw[if_pos h,if_pos h,if_pos h]
  cases v
  ·rw[if_neg (by decide),if_neg (by decide),if_neg (by decide),dt,bz]
  ·rw[if_pos rfl,if_pos rfl,if_pos rfl,dt,bz]
 ·rw[if_neg h,if_neg h,if_neg h,eh]
theorem CD (v:Bool) (c:Int):∀bs:List (List Piece),b6 v c bs.flatten=(bs.map (b6 v c)).flatten
 | []=>by
  unfold b6 AI AJ iu
  split <;> (try split) <;> rfl
 | b::bs=>by rw[bC,Ep,CD v c bs,aT,bC]
def Nh {b:List Piece} {f:Piece→List Piece} {g:Piece→Piece} (h:∀x∈b,f x=[g x]):b.flatMap f=b.map g:=by
 induction b with
 | nil=>rfl
 | cons x r ih=>rw[bW,h x (aE ..),ih fun y hy=>h y (aI _ hy)];rfl
def Gy {b:List Piece} {ins del d4 bm:List Nat} {c:Int} (h:x8 b ins del d4 bm) (hp:∀x∈b,x.pend=[]):
  (kL c del=true→b6 true c b=[])∧(kL c del=false→(b6 true c b).map (·.sign)=b.map (·.sign)∧x8 (b6 true c b) (As c ins) del d4 bm):=by
 unfold kL b6 As
 by_cases c0:c=0
 ·simp only[if_pos c0,if_true]
  unfold AI
  constructor
  ·intro hd
   have:visible b=[]:=by rw[h.vP.vis,if_neg (by simpa using hd)]
   show(visible b).map xZ=[]
   rw[this];rfl
  ·intro hd
   have he:del=[]:=by simpa using hd
   have:visible b=b:=by rw[h.vP.vis,he];rfl
   show((visible b).map xZ).map (·.sign)=_∧x8 ((visible b).map xZ) [] del d4 bm
   rw[this]
   refine⟨by rw[bD];rfl,by simpa using h.ne,fun x hx=>?_,h.Ut,fun x hx=>?_,h.RY,fun x hx=>?_⟩
   all_goals obtain⟨y,hy,rfl⟩:=aR.mp hx
   ·exact⟨rfl,he.symm⟩
   ·exact h.d4 y hy
   ·exact h.bm y hy
 ·simp only[if_neg c0]
  unfold iu
  constructor
  ·intro hd
   rw[kQ]
   intro x hx
   unfold dY
   rw[if_pos rfl,Mt.tM (hp x hx),(h.vP x hx).2,if_pos hd]
  ·intro hd
   have e:b.flatMap (dY true c.toNat)=b.map fun x=>{x with ins:=dm c.toNat x.ins}:=Nh fun x hx=>by
    unfold dY
    rw[if_pos rfl,Mt.tM (hp x hx),(h.vP x hx).2,if_neg (by rw[hd];decide)]
   rw[e]
   refine⟨by rw[bD];rfl,by simpa using h.ne,fun x hx=>?_,h.Ut,fun x hx=>?_,h.RY,fun x hx=>?_⟩
   all_goals obtain⟨y,hy,rfl⟩:=aR.mp hx
   ·exact⟨by show dm c.toNat y.ins=_;rw[(h.vP y hy).1],(h.vP y hy).2⟩
   ·exact h.d4 y hy
   ·exact h.bm y hy
def Gz {b:List Piece} {ins del d4 bm:List Nat} {c:Int} (h:x8 b ins del d4 bm) (hp:∀x∈b,x.pend=[]):
  (kL c ins=true→b6 false c b=[])∧(kL c ins=false→(b6 false c b).map (·.sign)=b.map (·.sign)∧x8 (b6 false c b) ins (As c del) d4 bm):=by
 unfold kL b6 As
 by_cases c0:c=0
 ·simp only[if_pos c0,pz,if_false]
  unfold AJ
  constructor
  ·intro hd
   have:b.filter fh=[]:=by
    rw[eM]
    intro x hx
    unfold fh
    rw[(h.vP x hx).1];simpa using hd
   rw[this];rfl
  ·intro hd
   have he:ins=[]:=by simpa using hd
   have:b.filter fh=b:=dz.mpr fun x hx=>by unfold fh;rw[(h.vP x hx).1,he];rfl
   rw[this]
   refine⟨by rw[bD];rfl,by simpa using h.ne,fun x hx=>?_,h.Ut,fun x hx=>?_,h.RY,fun x hx=>?_⟩
   all_goals obtain⟨y,hy,rfl⟩:=aR.mp hx
   ·exact⟨he.symm,rfl⟩
   ·exact h.d4 y hy
   ·exact h.bm y hy
 ·simp only[if_neg c0]
  unfold iu
  constructor
  ·intro hd
   rw[kQ]
   intro x hx
   unfold dY
   rw[if_neg (by decide),Mt.tN (hp x hx),(h.vP x hx).1,if_pos hd]
  ·intro hd
   have e:b.flatMap (dY false c.toNat)=b.map fun x=>{x with del:=dm c.toNat x.del}:=Nh fun x hx=>by
    unfold dY
    rw[if_neg (by decide),Mt.tN (hp x hx),(h.vP x hx).1,if_neg (by rw[hd];decide)]
   rw[e]
   refine⟨by rw[bD];rfl,by simpa using h.ne,fun x hx=>?_,h.Ut,fun x hx=>?_,h.RY,fun x hx=>?_⟩
   all_goals obtain⟨y,hy,rfl⟩:=aR.mp hx
   ·exact⟨(h.vP y hy).1,by show dm c.toNat y.del=_;rw[(h.vP y hy).2]⟩
   ·exact h.d4 y hy
   ·exact h.bm y hy
def jN (v:Bool) (c:Int):List Piece→Bool
 | x::_=>!kL c (if v=true then x.del else x.ins)
 | []=>true
def Er {v:Bool} {c:Int} {b:List Piece} {ins del d4 bm:List Nat} (h:x8 b ins del d4 bm):jN v c b=!kL c (if v=true then del else ins):=by
 cases b with
 | nil=>exact absurd rfl h.ne
 | cons x r=>
  have:=h.vP x (aE ..)
  show(!kL c (if v=true then x.del else x.ins))=_
  rw[this.1,this.2]
theorem B4 {C:Addr} {H:Hp} (v:Bool) (c:Int):∀{rs:List Addr} {bs:List (List Piece)},ig C H rs bs→(∀x∈bs.flatten,x.pend=[])→((bs.filter (jN v c)).map (b6 v c)).flatten=b6 v c bs.flatten∧(b6 v c bs.flatten).length=(bs.filter (jN v c)).flatten.length
 | _,_,.nil,_=>by rw[CD];exact⟨rfl,rfl⟩
 | _,b::bs,.cons hst t,hp=>by
  obtain⟨sg,i,d,c',m,ins,del,d4,bm,vv⟩:=hst
  have hpb:∀x∈b,x.pend=[]:=fun x hx=>hp x (by rw[bC];exact aS _ hx)
  obtain⟨i1,i2⟩:=B4 v c t fun x hx=>hp x (by rw[bC];exact aF _ hx)
  rw[bK,Er vv.gS,bC,Ep]
  have key:(kL c (if v=true then del else ins)=true→b6 v c b=[])∧(kL c (if v=true then del else ins)=false→(b6 v c b).map (·.sign)=b.map (·.sign)):=by
   cases v with
   | true=>exact⟨(Gy vv.gS hpb).1,fun z=>((Gy vv.gS hpb).2 z).1⟩
   | false=>exact⟨(Gz vv.gS hpb).1,fun z=>((Gz vv.gS hpb).2 z).1⟩
  cases e:kL c (if v=true then del else ins)with
  | true=>rw[if_neg (by decide),key.1 e,jI];exact⟨i1,i2⟩
  | false=>
   rw[if_pos (by decide),aT,bC,i1,ae,bC,ae,i2]
   have:=congrArg c8 (key.2 e)
   rw[ab,ab]at this
   exact⟨rfl,by rw[this]⟩
def abN (t:pH) (H:Hp) (sh ca dx:Addr) (fs:List (Str×V)) (d':aC) (as:List Int) (Q:VK):Prop:=
 ∀l H' ra' fs',H l=none→H' l=some (.lst (as.map V.int))→eX t H' sh ca ra' dx fs' d'→Qw fs fs'→(∀b o,H b=some o→b≠sh→b≠ca→H' b=some o)→Q (.ref l) H'
def abN.same {t:pH} {H H1:Hp} {sh ca ra dx l:Addr} {fs:List (Str×V)} {d:aC} {n:Int} {Q:VK} (k:abN t H sh ca dx fs d [n] Q) (hd:eX t H sh ca ra dx fs d) (s1:aM H H1) (hl:H1 l=none):Q (.ref l) (upd H1 l (.lst [.int n])):=
 k l _ ra fs (s1.free hl) af (hd.same (cB s1 (s1.free hl))) (Ng fs) fun b o e _ _=>cB s1 (s1.free hl) b o e
def abO {c:Int} (h:0≤c) (l:List Nat):S7 (.int c) (nv l)=du l c.toNat:=by
 have:c=((c.toNat:Nat):Int):=by omega
 rw[this,xF];rfl
def JF (t:pH):Sp:=fun vs H Q _=>EX7 fun(sh ca ra dx:Addr) (fs:List (Str×V)) (d:aC) (c:Int)=>vs=[.ref sh,.int c]∧eX t H sh ca ra dx fs d∧Q (.bl (bo c 0 d.changes.length)) H
def uc (T:Tx K mg t):aZ P w K mg base cH 1 t.iN t.iO gO (JF t):=by
 refine T.ma.fn.ok DA (fun vs H Q E h=>?_) (fun cdv A outer s H vs Q E hr h=>?_)
 ·obtain⟨sh,ca,ra,dx,fs,d,c,rfl,_⟩:=h
  rfl
 ·obtain⟨sh,ca,ra,dx,fs,d,c,rfl,hd,k⟩:=h
  refine⟨_,(ao (aU (C4 iX iX aP (pv 1) (cT cX rfl T.jx bV (aa (aV (pv 0) rfl) ah))))),?_⟩
  refine⟨_,rfl,_,_,rfl,rfl,_,rfl,?_⟩
  unfold bo at k
  refine fi (fun h=>?_) fun h=>?_
  ·refine⟨_,rfl,sh,_,dx,_,_,rfl,hd.at_,T.aQ,T.eD,hd.Vl,ca,_,rfl,.inl (g6.of hd.Kt),_,_,rfl,rfl,?_⟩
   rw[show decide (((0:Nat):Int)≤c)=true from h,hW]at k
   show Q (.bl (decide (c≤(((d.changes.map fun c=>V.int (c.author:Int)).length:Nat):Int)))) H
   rw[ab];exact k
  ·rw[show decide (((0:Nat):Int)≤c)=false by simpa using h,gL]at k
   exact k
def R1:Sp:=fun vs H Q _=>EX3 fun(a:Addr) (l:List Nat) (c:Int)=>vs=[.ref a,.int c]∧H a=some (.tup (nv l))∧0≤c∧Q (.bl (kL c l)) H
def Kw (T:Tx K mg t):aZ P w K mg base cH 1 t.xk t.xm rZ R1:=by
 refine T.HA.fn.ok Uc (fun vs H Q E h=>?_) (fun cdv A outer s H vs Q E hr h=>?_)
 ·obtain⟨a,l,c,rfl,_⟩:=h
  rfl
 ·obtain⟨a,l,c,rfl,ha,hc,k⟩:=h
  refine⟨_,(ai (dC (dN nQ (pv 1) aP (d6 _)) (ao (aU (jq LQ (cT cX rfl T.jx bV (aa (pv 0) ah)) aP (d6 _)))) b8)
   (ao (aU (jq v8 (pv 1) (pv 0) (by with_unfolding_all rfl))))),?_⟩
  refine⟨_,rfl,rfl,_,rfl,?_⟩
  rw[iP]
  unfold kL at k
  refine fi (fun h=>?_) fun h=>?_
  ·have h:c=0:=by simpa using h
   rw[if_pos h]at k
   refine⟨_,rfl,a,_,rfl,.inr (iB.of ha),_,_,rfl,rfl,?_⟩
   have e:decide ((0:Int) < (((nv l).length:Nat):Int))=!l.isEmpty:=by
    rw[fQ]
    cases l with
    | nil=>rfl
    | cons x r=>simp
   show Q (.bl (decide ((0:Int) < (((nv l).length:Nat):Int)))) H
   rw[e];exact k
  ·have h:¬c=0:=by simpa using h
   rw[if_neg h]at k
   refine⟨_,rfl,_,rfl,a,_,rfl,.inr (iB.of ha),rfl,oQ _,?_⟩
   show Q (.bl (S7 (.int c) (nv l))) H
   rw[abO hc];exact k
def E8:Sp:=fun vs H Q _=>EX3 fun(a:Addr) (l:List Nat) (c:Int)=>vs=[.ref a,.int c]∧H a=some (.tup (nv l))∧l.Nodup∧0≤c∧l.length≤ag∧∀q H',aM H H'→H' q=some (.tup (nv (dm c.toNat l)))→Q (.ref q) H'
def HQ {l:List Nat} {c:Nat} (h:¬c∈l):dm c l=l:=dz.mpr fun x hx=>by
 have:x≠c:=fun e=>h (e▸hx)
 simpa using this
theorem FK:∀{l:List Nat} {c i:Nat},l.Nodup→l[i]? =some c→dm c l=l.take i++l.drop (i+1)
 | [],_,_,_,h=>by simp at h
 | x::l,c,0,nd,h=>by
  simp at h
  subst h
  have:=HQ (gT.mp nd).1
  unfold dm at this⊢
  rw[bK,if_neg (by simp),this];rfl
 | x::l,c,i+1,nd,h=>by
  have h:l[i]? =some c:=by simpa using h
  have nx:x≠c:=fun e=>(gT.mp nd).1 (e▸a7 h)
  have:=FK (gT.mp nd).2 h
  unfold dm at this⊢
  rw[bK,if_pos (by simpa using nx),this];rfl
def GA (T:Tx K mg t):aZ P w K mg base cH 1 t.wd t.we rV E8:=by
 refine T.without.fn.ok Mp (fun vs H Q E h=>?_) (fun cdv A outer s H vs Q E hr h=>?_)
 ·obtain⟨a,l,c,rfl,_⟩:=h
  rfl
 ·obtain⟨a,l,c,rfl,ha,nd,hc,hz,k⟩:=h
  refine⟨_,(ai (dC (dN QV (pv 1) (pv 0) (by with_unfolding_all rfl)) (ao (aU (pv 0))) b8)
   (ai (bP (i:=2) Mp.nd rfl (bc rfl) (adj zY PySem.F.type_tuple_index YH (pv 0) (aa (pv 1) ah)))
   (ao (aU (e6 Ml (nS Rh (pv 0) AQ (m3 (pv 2))) (nS Rh (pv 0) (m3 (e6 za (pv 2) aP)) AQ)))))),?_⟩
  obtain⟨cn,rfl⟩:∃n:Nat,c=(n:Int):=⟨c.toNat,by omega⟩
  have ecn:((cn:Nat):Int).toNat=cn:=rfl
  rw[ecn]at k
  refine⟨_,rfl,_,rfl,a,_,rfl,.inr (iB.of ha),rfl,oQ _,_,rfl,?_⟩
  show if(!S7 (.int (cn:Int)) (nv l))=true then _ else _
  rw[xF]
  refine fi (fun h=>?_) fun h=>?_
  ·have h:¬cn∈l:=fun z=>by rw[Mt.iQ.mpr z]at h;cases h
   exact⟨_,rfl,k a H (aM.refl _) (by rw[HQ h];exact ha)⟩
  ·have h:cn∈l:=Mt.iQ.mp (by simpa using h)
   have hi:l.idxOf cn < l.length:=List.idxOf_lt_length_iff.mpr h
   have eg:l[l.idxOf cn]? =some cn:=by rw[cM hi,List.getElem_idxOf hi]
   have hno:∀(m:Nat) (z':V),m < l.idxOf cn→(nv l)[m]? =some z'→ZQ z' (.int (cn:Int))=false:=fun m z' hm hz'=>by
    obtain⟨x,ex,rfl⟩:=get_map hz'
    have hne:x≠cn:=fun e=>by
     subst e
     have:=List.not_of_lt_findIdx (p:=(·==x)) (xs:=l) (i:=m) hm
     have hml:=(ay.mp ex)
     rw[hml.2]at this
     simp at this
    show((x:Int)==(cn:Int))=false
    rw[beq_eq_false_iff_ne];omega
   generalize l.idxOf cn=i at hi eg hno
   refine⟨_,rfl,a,_,rfl,ha,_,rfl,a,nv l,.int (cn:Int),i,.int (cn:Int),rfl,rfl,ha,rfl,oQ _,by unfold nv;rw[b0,eg];rfl,by show((cn:Int)==(cn:Int))=true;simp,hno,?_⟩
   have nl:(nv l).length=l.length:=fQ l
   refine⟨_,rfl,_,rfl,_,rfl,a,_,rfl,iB.of ha,fun hw=>?_,fun hw p hp=>?_⟩
   ·exfalso
    have h2:=hw.2
    rw[Qp (k:=i) (by omega)]at h2
    omega
   ·have s1:=bR (o:=.tup (tJ (nv l) none (some (i:Int)))) hp
    refine⟨_,rfl,_,rfl,_,_,rfl,rfl,_,rfl,a,_,rfl,iB.of (s1 _ _ ha),fun hw=>?_,fun hw p2 hp2=>?_⟩
    ·exfalso
     have h1:=hw.1
     have e1:(i:Int)+1=((i+1:Nat):Int):=by omega
     rw[e1,Qp (k:=i+1) (by omega)]at h1
     omega
    ·have e1:(i:Int)+1=((i+1:Nat):Int):=by omega
     rw[e1,Qr (by omega)]at *
     rw[Qs (by omega)]at *
     refine HN (xs:=(nv l).take i) (ys:=(nv l).drop (i+1)) ?_ af ?_ fun u H' s' hu=>?_
     ·rw[aD (fun z=>by rw[← z,af]at hp2;cases hp2),af]
     ·rw[cc,dH];omega
     ·refine k u H' ((s1.trans (bR hp2)).trans s') ?_
      rw[hu,FK nd eg]
      unfold nv;rw[bz,i8,i7]
def Ni:Sp:=fun vs H Q _=>EX3 fun(a:Addr) (l:List Nat) (c:Int)=>vs=[.ref a,.int c]∧H a=some (.tup (nv l))∧l.Nodup∧0≤c∧l.length≤ag∧∀q H',aM H H'→H' q=some (.tup (nv (As c l)))→Q (.ref q) H'
def Nj (T:Tx K mg t):aZ P w K mg base cH 2 t.Am t.An wa Ni:=by
 have g1i:aZ P w K mg base cH 1 t.wd t.we rV E8:=GA T
 refine T.LG.fn.ok Wl (fun vs H Q E h=>?_) (fun cdv A outer s H vs Q E hr h=>?_)
 ·obtain⟨a,l,c,rfl,_⟩:=h
  rfl
 ·obtain⟨a,l,c,rfl,ha,nd,hc,hz,k⟩:=h
  refine⟨_,(ai (dC (dN nQ (pv 1) aP (d6 _)) (ao (aU (jS ah))) b8)
   (ao (aU (bB T.without g1i (hr.mono (by decide)) (aa (pv 0) (aa (pv 1) ah)))))),?_⟩
  refine⟨_,rfl,rfl,_,rfl,?_⟩
  rw[iP]
  unfold As at k
  refine fi (fun h=>?_) fun h=>?_
  ·rw[if_pos (by simpa using h)]at k
   exact⟨bZ _,fun q hq=>k q _ (bR hq) af⟩
  ·rw[if_neg (by simpa using h)]at k
   exact⟨_,rfl,_,rfl,a,l,c,rfl,ha,nd,hc,hz,k⟩
def HR (t:pH) (H:Hp) (sh ca dx:Addr) (fs:List (Str×V)) (v:Bool) (d:aC) (c:Int) (Q:VK):Prop:=
 if bo c 0 d.changes.length=true then abN t H sh ca dx fs {d with row:=b6 v c d.row} [(d.row.length:Int) - ((b6 v c d.row).length:Int)] Q else abN t H sh ca dx fs d [-4] Q
def Qx (t:pH) (v:Bool):Sp:=fun vs H Q _=>EX7 fun(sh ca ra dx:Addr) (fs:List (Str×V)) (d:aC) (c:Int)=>vs=[.ref sh,.int c]∧eX t H sh ca ra dx fs d∧DocOk d∧HR t H sh ca dx fs v d c Q
def YY (T:Tx K mg t):aZ P w K mg base cH 4 t.Hs t.Ht DB (Qx t true):=by
 have g0s:aZ P w K mg base cH 1 t.iN t.iO gO (JF t):=uc T
 have g0b:aZ P w K mg base cH 1 t.fX t.fY fq (i6 t.aj):=iF T
 have g1r:aZ P w K mg base cH 1 t.xk t.xm rZ R1:=Kw T
 have g2b:aZ P w K mg base cH 2 t.Am t.An wa Ni:=Nj T
 have g0i:aZ P w K mg base cH 3 t.fN t.fO eK (JA t.aj):=mR T
 refine T.accept.fn.ok wb (fun vs H Q E h=>?_) (fun cdv A outer s H vs Q E hr h=>?_)
 ·obtain⟨sh,ca,ra,dx,fs,d,c,rfl,_⟩:=h
  rfl
 ·obtain⟨sh,ca,ra,dx,fs,d,c,rfl,hd,ok,k⟩:=h
  have zl:ag=16777216:=bS
  have hrl:=ok.len
  refine⟨_,(ai (dC (jh (fM (bB T.ma g0s (hr.mono (by decide)) (aa (pv 0) (aa (pv 1) ah))) (fun _=>rfl))) (ao (aU (b5 (aa (fe dA aP) ah)))) b8)
   (ai (bP (i:=2) wb.nd rfl (bc rfl) (bB T.gJ g0b (hr.mono (by decide)) (aa (aV (pv 0) rfl) ah)))
   (ai (tK (i:=3) (own:=[("stretch",4)]) rfl wb.nd rfl rfl (yi rfl rfl rfl rfl) (dQ (aV (pv 0) rfl)) (eC (by rfl)) (fun _ _ _ _ _=>da (i:=4) wb.nd rfl (bc rfl)) (fun _ _ _ _ _=>pT (jh (Aq (K:=K) rfl (bB T.HA g1r (hr.mono (by decide)) (aa (js (K:=K) rfl (pv 4) rfl) (aa (pv 1) ah))) (fun _=>rfl)))) (fun _ _ _ _ _=>(pv 4)))
   (ai (eZ (pv 0) (Dn (pU (own:=[("stretch",4)]) rfl wb.nd (dQ (pv 3)) (eC (by rfl)) (fun _ _ _ _ _=>da (i:=4) wb.nd rfl (bc rfl)) (fun _ _ _ _ _=>j7) (fun _ _ _ _ _=>(FE T.ip T.aO g0i (hr.mono (by decide)) (pv 4) (aa (bB T.LG g2b (hr.mono (by decide)) (aa (js (K:=K) rfl (pv 4) rfl) (aa (pv 1) ah))) ah))))) rfl)
   (ao (aU (b5 (aa (e6 uq (pv 2) (bB T.gJ g0b (hr.mono (by decide)) (aa (pv 3) ah))) ah)))))))),?_⟩
  refine⟨_,rfl,_,rfl,sh,ca,ra,dx,fs,d,c,rfl,hd,_,rfl,?_⟩
  unfold HR at k
  refine fi (fun h=>?_) fun h=>?_
  ·have h:bo c 0 d.changes.length=false:=by simpa using h
   rw[if_neg (by rw[h];decide)]at k
   exact⟨_,rfl,(by show 1≤ag;decide),fun l hl=>k.same hd (aM.refl _) hl⟩
  ·have h:bo c 0 d.changes.length=true:=by simpa using h
   rw[if_pos h]at k
   have hc0:0≤c:=(Mt.iC.mp h).1
   refine⟨_,rfl,sh,_,dx,_,_,rfl,hd.at_,T.aQ,T.bA,hd.zT,ra,d.row,rfl,hd.row.r,by omega,fun H1 s1=>?_⟩
   have hd1:=hd.same s1
   obtain⟨rs,bs,hl,hR,ebs⟩:=id hd1.row
   have hle:=hR.le
   rw[ebs]at hle
   have hbm:∀b∈bs,∀x∈b,x∈d.row:=fun b hb x hx=>by rw[← ebs];exact dr.mpr ⟨b,hb,hx⟩
   have hpend:∀x∈bs.flatten,x.pend=[]:=fun x hx=>(ok.wz x (by rw[← ebs];exact hx)).pend
   refine⟨_,rfl,sh,_,dx,_,_,rfl,hd1.at_,T.aQ,T.bA,hd1.zT,ra,rfl,⟨_,hl.sq⟩,fun D1 hD1=>LB (xs:=rs.map V.ref) (xD (jN true c) rs bs) hl.sq hD1 (by unfold xD;rw[ab,ab,gU,hR.len,iV])
    (by unfold xD;rw[ab,gU,hR.len,iV,← hR.len];omega) (fun i x y H' Q' hx hy s' q=>?_) (fun i x y H' Q' hx hy s' q=>?_) fun H2 s2 e2=>?_⟩
   ·obtain⟨r,er,rfl⟩:=gD hx
    obtain⟨b,eb,hst⟩:=cQ hR er
    have ey:=wg er eb hy
    obtain⟨sg,i0,d0,c0,m0,ins,del,d4,bm,vv⟩:=hst.kp (aM.oz s')
    obtain⟨dx2,ha⟩:=vv.at_
    refine⟨_,rfl,r,_,dx2,_,_,rfl,ha,T.aO,T.dk,vO ..,_,rfl,d0,del,c,rfl,vv.d,hc0,_,rfl,?_⟩
    have e3:(!kL c del)=y.isSome:=by
     have:=Er (v:=true) (c:=c) vv.gS
     rw[if_pos rfl]at this
     rw[ey,← this]
     by_cases h:jN true c b=true
     ·rw[if_pos h,h];rfl
     ·rw[if_neg h,show jN true c b=false by simpa using h];rfl
    show Q' (!kL c del) H'
    rw[e3];exact q H' (aM.refl _)
   ·obtain⟨r,er,rfl⟩:=gD hx
    obtain⟨b,eb,hst⟩:=cQ hR er
    have ey:=wg er eb hy
    have ey:V.ref r=y:=by
     by_cases h:jN true c b=true
     ·rw[if_pos h]at ey;exact(bu ey).symm
     ·rw[if_neg h]at ey;cases ey
    refine⟨_,rfl,?_⟩
    rw[ey];exact q H' (aM.refl _)
   ·rw[HE]at e2
    have hK:ig t.aj H2 (yQ (jN true c) rs bs) (bs.filter (jN true c)):=BZ _ (ig.kp hR (aM.oz s2))
    have hkl:(yQ (jN true c) rs bs).length≤ag:=by
     rw[hK.len]
     have:=bX (jN true c) bs
     rw[← hR.len]at this;omega
    refine⟨_,rfl,D1,rfl,⟨_,g6.of e2⟩,fun D2 hD2=>JD (C:=t.aj) (b6 true c) (g6.of e2) hK hD2 hkl (fun i r b H' Q' er eb s' hst q=>?_) fun H3 s3 hA=>?_⟩
    ·obtain⟨sg,i0,d0,c0,m0,ins,del,d4,bm,vv⟩:=hst
     obtain⟨dx2,ha⟩:=vv.at_
     have hbf:=aA.mp (a7 eb)
     have hpb:∀x∈b,x.pend=[]:=fun x hx=>(ok.wz x (hbm b hbf.1 x hx)).pend
     have hkeep:kL c del=false:=by
      have:=Er (v:=true) (c:=c) vv.gS
      rw[if_pos rfl,hbf.2]at this
      simpa using this.symm
     obtain⟨x0,hx0⟩:=cG b vv.gS.ne
     have hnd:ins.Nodup:=by
      have o:=(ok.wz x0 (hbm b hbf.1 x0 hx0)).inc
      rw[(vv.gS.vP x0 hx0).1]at o
      exact o.imp cI
     have hil:ins.length≤ag:=by
      have o:=ok.wz x0 (hbm b hbf.1 x0 hx0)
      have:=Mt.Mh o.inc fun c hc=>(o.ins c hc).2
      rw[(vv.gS.vP x0 hx0).1]at this
      have:=ok.chg
      omega
     obtain⟨es,hb⟩:=(Gy (c:=c) vv.gS hpb).2 hkeep
     refine⟨_,rfl,r,dx2,_,rfl,ha,CT (by decide+kernel),_,rfl,r,_,dx2,_,_,rfl,ha,T.aO,T.cD,oP ..,_,rfl,i0,ins,c,rfl,vv.i,hnd,hc0,hil,fun qq H4 s4 hq4=>?_⟩
     refine⟨r,sg,i0,d0,c0,m0,qq,rfl,⟨dx2,s4 _ _ ha⟩,fun x H5 s5 hx=>?_⟩
     have s45:=s4.trans s5
     refine q x H5 s45 ⟨sg,qq,d0,c0,m0,_,del,d4,bm,hx,?_,s5 _ _ hq4,s45 _ _ vv.d,s45 _ _ vv.c,s45 _ _ vv.m,hb⟩
     rw[es]
     exact vv.sg.kp (C:=t.aj) (aM.oz s45)
    ·obtain⟨v1,v2⟩:=B4 true c hR hpend
     rw[v1,ebs]at hA
     rw[ebs]at v2
     refine hA.fz fun H4 hrow ne4 kp4=>?_
     have sA:aM H H3:=(s1.trans s2).trans s3
     have hzH:H D2=none:=(s1.trans s2).free hD2
     have sA4:aM H H4:=fun x o e=>by rw[ne4 x (a9 e hzH)];exact sA _ _ e
     have hd4:eX t H4 sh ca ra dx fs d:=hd.same sA4
     have nD:D1≠D2:=a9 e2 hD2
     have e4:H4 D1=some (.lst ((yQ (jN true c) rs bs).map V.ref)):=by rw[ne4 D1 nD];exact s3 _ _ e2
     refine⟨_,rfl,sh,_,dx,fs,rfl,hd4.at_,T.aQ,T.bA,hd4.x9,?_⟩
     have hd5:=hd4.El T.cK hrow
     have n1:D1≠sh:=d5 e4 hd4.at_ (by intro z;cases z)
     have hK5:ig t.aj (upd H4 sh (.ins t.cu dx (dB "row" (.ref D2) fs))) (yQ (jN true c) rs bs) (bs.filter (jN true c)):=
      ((ig.kp hK (aM.oz s3)).kp kp4).kp fun b o e im=>by rw[aD (d5 e hd4.at_ (by rintro rfl;exact T.cK im.symm))];exact e
     have hkz:(bs.filter (jN true c)).flatten.length≤ag:=by
      have h1:(bs.filter (jN true c)).flatten.length≤bs.flatten.length:=B0 _ bs
      rw[ebs]at h1;omega
     refine⟨_,rfl,_,rfl,D1,_,rfl,⟨_,_,.inl (by rw[aD n1];exact e4),hK5,rfl⟩,hkz,fun H6 s6=>?_⟩
     refine⟨_,_,rfl,rfl,(by show 1≤ag;decide),fun l hl6=>?_⟩
     have hlsh:l≠sh:=fun z=>by
      rw[z,s6 _ _ hd5.at_]at hl6;cases hl6
     have hl4:H4 l=none:=by
      have:=s6.free hl6
      rw[aD hlsh]at this;exact this
     refine k l _ D2 _ (sA4.free hl4) ?_ ((hd5.same s6).same (bR hl6)) (pK fs _) fun b o e n1 n2=>?_
     ·rw[af,v2]
      rfl
     ·rw[aD (a9 (s6 b o (by rw[aD n1];exact sA4 _ _ e)) hl6)]
      exact s6 b o (by rw[aD n1];exact sA4 _ _ e)
def YZ (T:Tx K mg t):aZ P w K mg base cH 4 t.Hu t.Hv DC (Qx t false):=by
 have g0s:aZ P w K mg base cH 1 t.iN t.iO gO (JF t):=uc T
 have g0b:aZ P w K mg base cH 1 t.fX t.fY fq (i6 t.aj):=iF T
 have g1r:aZ P w K mg base cH 1 t.xk t.xm rZ R1:=Kw T
 have g2b:aZ P w K mg base cH 2 t.Am t.An wa Ni:=Nj T
 have g0j:aZ P w K mg base cH 3 t.f6 t.f7 eQ (JB t.aj):=nG T
 refine T.reject.fn.ok wc (fun vs H Q E h=>?_) (fun cdv A outer s H vs Q E hr h=>?_)
 ·obtain⟨sh,ca,ra,dx,fs,d,c,rfl,_⟩:=h
  rfl
 ·obtain⟨sh,ca,ra,dx,fs,d,c,rfl,hd,ok,k⟩:=h
  have zl:ag=16777216:=bS
  have hrl:=ok.len
  refine⟨_,(ai (dC (jh (fM (bB T.ma g0s (hr.mono (by decide)) (aa (pv 0) (aa (pv 1) ah))) (fun _=>rfl))) (ao (aU (b5 (aa (fe dA aP) ah)))) b8)
   (ai (bP (i:=2) wc.nd rfl (bc rfl) (bB T.gJ g0b (hr.mono (by decide)) (aa (aV (pv 0) rfl) ah)))
   (ai (tK (i:=3) (own:=[("stretch",4)]) rfl wc.nd rfl rfl (yi rfl rfl rfl rfl) (dQ (aV (pv 0) rfl)) (eC (by rfl)) (fun _ _ _ _ _=>da (i:=4) wc.nd rfl (bc rfl)) (fun _ _ _ _ _=>pT (jh (Aq (K:=K) rfl (bB T.HA g1r (hr.mono (by decide)) (aa (js (K:=K) rfl (pv 4) rfl) (aa (pv 1) ah))) (fun _=>rfl)))) (fun _ _ _ _ _=>(pv 4)))
   (ai (eZ (pv 0) (Dn (pU (own:=[("stretch",4)]) rfl wc.nd (dQ (pv 3)) (eC (by rfl)) (fun _ _ _ _ _=>da (i:=4) wc.nd rfl (bc rfl)) (fun _ _ _ _ _=>j7) (fun _ _ _ _ _=>(FE T.iR T.aO g0j (hr.mono (by decide)) (pv 4) (aa (bB T.LG g2b (hr.mono (by decide)) (aa (js (K:=K) rfl (pv 4) rfl) (aa (pv 1) ah))) ah))))) rfl)
   (ao (aU (b5 (aa (e6 uq (pv 2) (bB T.gJ g0b (hr.mono (by decide)) (aa (pv 3) ah))) ah)))))))),?_⟩
  refine⟨_,rfl,_,rfl,sh,ca,ra,dx,fs,d,c,rfl,hd,_,rfl,?_⟩
  unfold HR at k
  refine fi (fun h=>?_) fun h=>?_
  ·have h:bo c 0 d.changes.length=false:=by simpa using h
   rw[if_neg (by rw[h];decide)]at k
   exact⟨_,rfl,(by show 1≤ag;decide),fun l hl=>k.same hd (aM.refl _) hl⟩
  ·have h:bo c 0 d.changes.length=true:=by simpa using h
   rw[if_pos h]at k
   have hc0:0≤c:=(Mt.iC.mp h).1
   refine⟨_,rfl,sh,_,dx,_,_,rfl,hd.at_,T.aQ,T.bA,hd.zT,ra,d.row,rfl,hd.row.r,by omega,fun H1 s1=>?_⟩
   have hd1:=hd.same s1
   obtain⟨rs,bs,hl,hR,ebs⟩:=id hd1.row
   have hle:=hR.le
   rw[ebs]at hle
   have hbm:∀b∈bs,∀x∈b,x∈d.row:=fun b hb x hx=>by rw[← ebs];exact dr.mpr ⟨b,hb,hx⟩
   have hpend:∀x∈bs.flatten,x.pend=[]:=fun x hx=>(ok.wz x (by rw[← ebs];exact hx)).pend
   refine⟨_,rfl,sh,_,dx,_,_,rfl,hd1.at_,T.aQ,T.bA,hd1.zT,ra,rfl,⟨_,hl.sq⟩,fun D1 hD1=>LB (xs:=rs.map V.ref) (xD (jN false c) rs bs) hl.sq hD1 (by unfold xD;rw[ab,ab,gU,hR.len,iV])
    (by unfold xD;rw[ab,gU,hR.len,iV,← hR.len];omega) (fun i x y H' Q' hx hy s' q=>?_) (fun i x y H' Q' hx hy s' q=>?_) fun H2 s2 e2=>?_⟩
   ·obtain⟨r,er,rfl⟩:=gD hx
    obtain⟨b,eb,hst⟩:=cQ hR er
    have ey:=wg er eb hy
    obtain⟨sg,i0,d0,c0,m0,ins,del,d4,bm,vv⟩:=hst.kp (aM.oz s')
    obtain⟨dx2,ha⟩:=vv.at_
    refine⟨_,rfl,r,_,dx2,_,_,rfl,ha,T.aO,T.cD,oP ..,_,rfl,i0,ins,c,rfl,vv.i,hc0,_,rfl,?_⟩
    have e3:(!kL c ins)=y.isSome:=by
     have:=Er (v:=false) (c:=c) vv.gS
     rw[if_neg (by decide)]at this
     rw[ey,← this]
     by_cases h:jN false c b=true
     ·rw[if_pos h,h];rfl
     ·rw[if_neg h,show jN false c b=false by simpa using h];rfl
    show Q' (!kL c ins) H'
    rw[e3];exact q H' (aM.refl _)
   ·obtain⟨r,er,rfl⟩:=gD hx
    obtain⟨b,eb,hst⟩:=cQ hR er
    have ey:=wg er eb hy
    have ey:V.ref r=y:=by
     by_cases h:jN false c b=true
     ·rw[if_pos h]at ey;exact(bu ey).symm
     ·rw[if_neg h]at ey;cases ey
    refine⟨_,rfl,?_⟩
    rw[ey];exact q H' (aM.refl _)
   ·rw[HE]at e2
    have hK:ig t.aj H2 (yQ (jN false c) rs bs) (bs.filter (jN false c)):=BZ _ (ig.kp hR (aM.oz s2))
    have hkl:(yQ (jN false c) rs bs).length≤ag:=by
     rw[hK.len]
     have:=bX (jN false c) bs
     rw[← hR.len]at this;omega
    refine⟨_,rfl,D1,rfl,⟨_,g6.of e2⟩,fun D2 hD2=>JD (C:=t.aj) (b6 false c) (g6.of e2) hK hD2 hkl (fun i r b H' Q' er eb s' hst q=>?_) fun H3 s3 hA=>?_⟩
    ·obtain⟨sg,i0,d0,c0,m0,ins,del,d4,bm,vv⟩:=hst
     obtain⟨dx2,ha⟩:=vv.at_
     have hbf:=aA.mp (a7 eb)
     have hpb:∀x∈b,x.pend=[]:=fun x hx=>(ok.wz x (hbm b hbf.1 x hx)).pend
     have hkeep:kL c ins=false:=by
      have:=Er (v:=false) (c:=c) vv.gS
      rw[if_neg (by decide),hbf.2]at this
      simpa using this.symm
     obtain⟨x0,hx0⟩:=cG b vv.gS.ne
     have hnd:del.Nodup:=by
      have o:=(ok.wz x0 (hbm b hbf.1 x0 hx0)).one
      rw[(vv.gS.vP x0 hx0).2]at o
      match del,o with
      | [],_=>exact .nil
      | [_],_=>simp
      | _::_::_,o=>simp at o
     have hil:del.length≤ag:=by
      have o:=(ok.wz x0 (hbm b hbf.1 x0 hx0)).one
      rw[(vv.gS.vP x0 hx0).2]at o
      omega
     obtain⟨es,hb⟩:=(Gz (c:=c) vv.gS hpb).2 hkeep
     refine⟨_,rfl,r,dx2,_,rfl,ha,CT (by decide+kernel),_,rfl,r,_,dx2,_,_,rfl,ha,T.aO,T.dk,vO ..,_,rfl,d0,del,c,rfl,vv.d,hnd,hc0,hil,fun qq H4 s4 hq4=>?_⟩
     refine⟨r,sg,i0,d0,c0,m0,qq,rfl,⟨dx2,s4 _ _ ha⟩,fun x H5 s5 hx=>?_⟩
     have s45:=s4.trans s5
     refine q x H5 s45 ⟨sg,i0,qq,c0,m0,ins,_,d4,bm,hx,?_,s45 _ _ vv.i,s5 _ _ hq4,s45 _ _ vv.c,s45 _ _ vv.m,hb⟩
     rw[es]
     exact vv.sg.kp (C:=t.aj) (aM.oz s45)
    ·obtain⟨v1,v2⟩:=B4 false c hR hpend
     rw[v1,ebs]at hA
     rw[ebs]at v2
     refine hA.fz fun H4 hrow ne4 kp4=>?_
     have sA:aM H H3:=(s1.trans s2).trans s3
     have hzH:H D2=none:=(s1.trans s2).free hD2
     have sA4:aM H H4:=fun x o e=>by rw[ne4 x (a9 e hzH)];exact sA _ _ e
     have hd4:eX t H4 sh ca ra dx fs d:=hd.same sA4
     have nD:D1≠D2:=a9 e2 hD2
     have e4:H4 D1=some (.lst ((yQ (jN false c) rs bs).map V.ref)):=by rw[ne4 D1 nD];exact s3 _ _ e2
     refine⟨_,rfl,sh,_,dx,fs,rfl,hd4.at_,T.aQ,T.bA,hd4.x9,?_⟩
     have hd5:=hd4.El T.cK hrow
     have n1:D1≠sh:=d5 e4 hd4.at_ (by intro z;cases z)
     have hK5:ig t.aj (upd H4 sh (.ins t.cu dx (dB "row" (.ref D2) fs))) (yQ (jN false c) rs bs) (bs.filter (jN false c)):=
      ((ig.kp hK (aM.oz s3)).kp kp4).kp fun b o e im=>by rw[aD (d5 e hd4.at_ (by rintro rfl;exact T.cK im.symm))];exact e
     have hkz:(bs.filter (jN false c)).flatten.length≤ag:=by
      have h1:(bs.filter (jN false c)).flatten.length≤bs.flatten.length:=B0 _ bs
      rw[ebs]at h1;omega
     refine⟨_,rfl,_,rfl,D1,_,rfl,⟨_,_,.inl (by rw[aD n1];exact e4),hK5,rfl⟩,hkz,fun H6 s6=>?_⟩
     refine⟨_,_,rfl,rfl,(by show 1≤ag;decide),fun l hl6=>?_⟩
     have hlsh:l≠sh:=fun z=>by
      rw[z,s6 _ _ hd5.at_]at hl6;cases hl6
     have hl4:H4 l=none:=by
      have:=s6.free hl6
      rw[aD hlsh]at this;exact this
     refine k l _ D2 _ (sA4.free hl4) ?_ ((hd5.same s6).same (bR hl6)) (pK fs _) fun b o e n1 n2=>?_
     ·rw[af,v2]
      rfl
     ·rw[aD (a9 (s6 b o (by rw[aD n1];exact sA4 _ _ e)) hl6)]
      exact s6 b o (by rw[aD n1];exact sA4 _ _ e)
def UB (fs fs':List (Str×V)):Prop:=∀f:Str,f≠"author"→f≠"time"→f≠"tracking"→f≠"row"→fs'.lookup f=fs.lookup f
def lV {fs fs':List (Str×V)} (h:Qw fs fs'):UB fs fs':=fun f _ _ _ h4=>h f h4
def WD (fs:List (Str×V)):UB fs fs:=fun _ _ _ _ _=>rfl
def aaC (t:pH) (H:Hp) (sh ca ra dx:Addr) (fs:List (Str×V)) (d':aC) (as:List Int) (Q:VK):Prop:=
 ∀l H' fs',H l=none→H' l=some (.lst (as.map V.int))→eX t H' sh ca ra dx fs' d'→UB fs fs'→(∀b o,H b=some o→b≠sh→H' b=some o)→Q (.ref l) H'
def aaC.same {t:pH} {H H1:Hp} {sh ca ra dx l:Addr} {fs:List (Str×V)} {d:aC} {n:Int} {Q:VK} (k:aaC t H sh ca ra dx fs d [n] Q) (hd:eX t H sh ca ra dx fs d) (s1:aM H H1) (hl:H1 l=none):Q (.ref l) (upd H1 l (.lst [.int n])):=
 k l _ fs (s1.free hl) af (hd.same (cB s1 (s1.free hl))) (WD fs) fun b o e _=>cB s1 (s1.free hl) b o e
def R3 {t:pH} {H H1:Hp} {sh ca ra dx:Addr} {fs:List (Str×V)} {d d':aC} {f:Str} {v:V} {Q:VK} (T1:t.aj≠t.cu) (k:aaC t H sh ca ra dx fs d' [0] Q) (hd:eX t H sh ca ra dx fs d) (s1:aM H H1) (hf:f="author"∨f="time"∨f="tracking") {x:V} (hx:fs.lookup f=some x)
  (h1:(dB f v fs).lookup ("author":Str)=some (.int (d'.author:Int))) (h2:(dB f v fs).lookup ("time":Str)=some (.int (d'.time:Int))) (h3:(dB f v fs).lookup ("tracking":Str)=some (.bl d'.tracking)) (hr:d'.row=d.row) (hc:d'.changes=d.changes):
  ∀l,upd H1 sh (.ins t.cu dx (dB f v fs)) l=none→Q (.ref l) (upd (upd H1 sh (.ins t.cu dx (dB f v fs))) l (.lst [.int 0])):=by
 intro l hl
 have nl:l≠sh:=fun z=>by rw[z,af]at hl;cases hl
 have hl1:H1 l=none:=by rw[aD nl]at hl;exact hl
 have hlH:H l=none:=s1.free hl1
 have n4:¬("row":Str)=f:=by rcases hf with rfl | rfl | rfl <;> decide+kernel
 have n5:¬("change_authors":Str)=f:=by rcases hf with rfl | rfl | rfl <;> decide+kernel
 have nsc:ca≠sh:=d5 hd.Kt hd.at_ (by intro z;cases z)
 refine k l _ (dB f v fs) hlH af ?_ (fun g g1 g2 g3 g4=>?_) fun b o e hb=>?_
 ·refine⟨by rw[aD (dv nl),af],h1,h2,h3,?_,?_,?_,?_,?_⟩
  ·rw[aK,if_neg n5];exact hd.Vl
  ·rw[aK,if_neg n4];exact hd.zT
  ·rw[Ej hx];exact hd.x9
  ·rw[aD (a9 hd.Kt hlH),aD nsc,hc];exact s1 _ _ hd.Kt
  ·rw[hr]
   refine hd.row.kp fun b o e im=>?_
   rw[aD (a9 e hlH),aD (d5 e hd.at_ (by rintro rfl;exact T1 im.symm))];exact s1 _ _ e
 ·rw[aK,if_neg (by rcases hf with rfl | rfl | rfl <;> assumption)]
 ·rw[aD (a9 e hlH),aD hb];exact s1 _ _ e
def Au (t:pH) (call:Int→EG):Sp:=fun vs H Q _=>EX7 fun(sh ca ra dx:Addr) (fs:List (Str×V)) (d:aC) (a:Int)=>vs=[.ref sh,.int a]∧eX t H sh ca ra dx fs d∧aaC t H sh ca ra dx fs (bq d (call a)).1 (XM (bq d (call a)).2) Q
def O6 (T:Tx K mg t):aZ P w K mg base cH 1 t.vA t.vB p7 (Au t .author):=by
 refine T.Gn.fn.ok OP (fun vs H Q E h=>?_) (fun cdv A outer s H vs Q E hr h=>?_)
 ·obtain⟨sh,ca,ra,dx,fs,d,a,rfl,_⟩:=h
  rfl
 ·obtain⟨sh,ca,ra,dx,fs,d,a,rfl,hd,k⟩:=h
  refine⟨_,(ai (dC (jh (tI iX iX aP (pv 1) aP)) (ao (aU (b5 (aa (fe dA aP) ah)))) b8)
   (ai (eZ (pv 0) (pv 1) rfl)
   (ao (aU (b5 (aa aP ah)))))),?_⟩
  have ek:bq d (.author a)=if bo a 1 99=true then({d with author:=a.toNat},.told [0])else(d,.refused 2):=rfl
  rw[ek]at k
  refine WC (i:=1) (n:=99) rfl (fun Q' kq=>kq H (aM.refl _)) fun H1 s1=>?_
  have eb:(decide ((1:Int)≤a)&&decide (a≤99))=bo a 1 99:=rfl
  rw[eb]
  refine fi (fun h=>?_) fun h=>?_
  ·rw[if_neg (by simpa using h)]at k
   exact⟨_,rfl,(by show 1≤ag;decide),fun l hl=>k.same hd s1 hl⟩
  ·have h:bo a 1 99=true:=by simpa using h
   rw[if_pos h]at k
   have ea:V.int a=V.int ((a.toNat:Nat):Int):=by
    have:=(Mt.iC.mp h).1
    congr 1;omega
   refine⟨_,rfl,_,rfl,sh,_,dx,fs,rfl,s1 _ _ hd.at_,T.aQ,T.gg,hd.x9,(by show 1≤ag;decide),?_⟩
   refine R3 T.cK k hd s1 (.inl rfl) hd.Ek ?_ ?_ ?_ rfl rfl
   ·rw[aK,if_pos rfl,ea]
   ·rw[aK,if_neg (by decide+kernel)];exact hd.HH
   ·rw[aK,if_neg (by decide+kernel)];exact hd.WA
def R4 (T:Tx K mg t):aZ P w K mg base cH 1 t.yB t.yC tR (Au t .clock):=by
 refine T.Ju.fn.ok Rv (fun vs H Q E h=>?_) (fun cdv A outer s H vs Q E hr h=>?_)
 ·obtain⟨sh,ca,ra,dx,fs,d,a,rfl,_⟩:=h
  rfl
 ·obtain⟨sh,ca,ra,dx,fs,d,a,rfl,hd,k⟩:=h
  refine⟨_,(ai (dC (dN LP (pv 1) aP (d6 _)) (ao (aU (b5 (aa (fe dA aP) ah)))) b8)
   (ai (dC (dN LP (pv 1) (aV (pv 0) rfl) (d6 _)) (ao (aU (b5 (aa (fe dA aP) ah)))) b8)
   (ai (eZ (pv 0) (pv 1) rfl)
   (ao (aU (b5 (aa aP ah))))))),?_⟩
  have ek:bq d (.clock a)=if a < 0 then(d,.refused 2)else if a < (d.time:Int)then(d,.refused 3)else({d with time:=a.toNat},.told [0]):=rfl
  rw[ek]at k
  refine⟨_,rfl,_,_,rfl,rfl,_,rfl,?_⟩
  refine fi (fun h=>?_) fun h=>?_
  ·rw[if_pos (by simpa using h)]at k
   exact⟨_,rfl,(by show 1≤ag;decide),fun l hl=>k.same hd (aM.refl _) hl⟩
  ·have h0:¬a < 0:=by simpa using h
   rw[if_neg h0]at k
   refine⟨_,rfl,_,rfl,sh,_,dx,_,_,rfl,hd.at_,T.aQ,T.lT,hd.HH,_,_,rfl,rfl,_,rfl,?_⟩
   refine fi (fun h=>?_) fun h=>?_
   ·rw[if_pos (by simpa using h)]at k
    exact⟨_,rfl,(by show 1≤ag;decide),fun l hl=>k.same hd (aM.refl _) hl⟩
   ·rw[if_neg (by simpa using h)]at k
    have ea:V.int a=V.int ((a.toNat:Nat):Int):=by congr 1;omega
    refine⟨_,rfl,_,rfl,sh,_,dx,fs,rfl,hd.at_,T.aQ,T.lT,hd.x9,(by show 1≤ag;decide),?_⟩
    refine R3 T.cK k hd (aM.refl _) (.inr (.inl rfl)) hd.HH ?_ ?_ ?_ rfl rfl
    ·rw[aK,if_neg (by decide+kernel)];exact hd.Ek
    ·rw[aK,if_pos rfl,ea]
    ·rw[aK,if_neg (by decide+kernel)];exact hd.WA
def K9 (T:Tx K mg t):aZ P w K mg base cH 1 t.qC t.qD mD (Au t .track):=by
 refine T.BM.fn.ok KY (fun vs H Q E h=>?_) (fun cdv A outer s H vs Q E hr h=>?_)
 ·obtain⟨sh,ca,ra,dx,fs,d,a,rfl,_⟩:=h
  rfl
 ·obtain⟨sh,ca,ra,dx,fs,d,a,rfl,hd,k⟩:=h
  refine⟨_,(ai (dC (QO (dN LO (pv 1) aP (d6 _)) (Lq (dN LO (pv 1) aP (d6 _)))).pt (ao (aU (b5 (aa (fe dA aP) ah)))) b8)
   (ai (eZ (pv 0) (jq nQ (pv 1) aP (d6 _)) rfl)
   (ao (aU (b5 (aa aP ah)))))),?_⟩
  have ek:bq d (.track a)=if bo a 0 1=true then({d with tracking:=a==1},.told [0])else(d,.refused 2):=rfl
  rw[ek]at k
  have good:a=0∨a=1→Au t .track [.ref sh,.int a] H Q E→∀l,upd H sh (.ins t.cu dx (dB "tracking" (.bl (decide (V.int a=V.int 1))) fs)) l=none→Q (.ref l) (upd (upd H sh (.ins t.cu dx (dB "tracking" (.bl (decide (V.int a=V.int 1))) fs))) l (.lst [.int 0])):=fun ha _=>by
   rw[if_pos (Mt.iC.mpr (by omega))]at k
   refine R3 T.cK k hd (aM.refl _) (.inr (.inr rfl)) hd.WA ?_ ?_ ?_ rfl rfl
   ·rw[aK,if_neg (by decide+kernel)];exact hd.Ek
   ·rw[aK,if_neg (by decide+kernel)];exact hd.HH
   ·rw[aK,if_pos rfl,iP]
  have sp:Au t .track [.ref sh,.int a] H Q E:=⟨sh,ca,ra,dx,fs,d,a,rfl,hd,by rw[ek];exact k⟩
  refine⟨_,rfl,rfl,_,rfl,?_⟩
  rw[iP]
  by_cases h0:a=0
  ·have e0:(!(a==0))=false:=by rw[h0];rfl
   rw[e0]
   refine wt (wt ?_)
   exact⟨_,rfl,rfl,_,rfl,sh,_,dx,fs,rfl,hd.at_,T.aQ,T.ir,hd.x9,(by show 1≤ag;decide),good (.inl h0) sp⟩
  ·have e0:(!(a==0))=true:=by simpa using h0
   rw[e0]
   refine Ab ⟨_,rfl,rfl,_,rfl,?_⟩
   rw[iP]
   by_cases h1:a=1
   ·have e1:(!(a==1))=false:=by rw[h1];rfl
    rw[e1]
    refine wt ?_
    exact⟨_,rfl,rfl,_,rfl,sh,_,dx,fs,rfl,hd.at_,T.aQ,T.ir,hd.x9,(by show 1≤ag;decide),good (.inr h1) sp⟩
   ·have e1:(!(a==1))=true:=by simpa using h1
    rw[e1]
    rw[if_neg (fun z=>by have:=Mt.iC.mp z;omega)]at k
    exact Ab ⟨_,rfl,(by show 1≤ag;decide),fun l hl=>k.same hd (aM.refl _) hl⟩
theorem Qy (f:Str) (v w:V):∀fs:List (Str×V),dB f v (dB f w fs)=dB f v fs
 | []=>by
  show(if f=f then _ else _)=_
  rw[if_pos rfl];rfl
 | (g,x)::r=>by
  rw[show dB f w ((g,x)::r)=(if g=f then(g,w)::r else(g,x)::dB f w r)from rfl,show dB f v ((g,x)::r)=(if g=f then(g,v)::r else(g,x)::dB f v r)from rfl]
  by_cases h:g=f
  ·rw[if_pos h,if_pos h,show dB f v ((g,w)::r)=(if g=f then(g,v)::r else(g,w)::dB f v r)from rfl,if_pos h]
  ·rw[if_neg h,if_neg h,show dB f v ((g,x)::dB f w r)=(if g=f then(g,v)::dB f w r else(g,x)::dB f v (dB f w r))from rfl,if_neg h,Qy f v w r]
def HS (a:Addr) (i:Int):List (Str×V):=dB "position" (.int i) (dB "calls" (.ref a) [])
def JG (a:Addr) (i:Int):(HS a i).lookup ("calls":Str)=some (.ref a):=by unfold HS;rw[aK,if_neg (by decide+kernel),aK,if_pos rfl]
def HU (a:Addr) (i:Int):(HS a i).lookup ("position":Str)=some (.int i):=by unfold HS;rw[aK,if_pos rfl]
def adu (a:Addr) (i:Int) {m:Str} (h1:¬m="calls") (h2:¬m="position"):(HS a i).lookup m=none:=by unfold HS;rw[aK,if_neg h2,aK,if_neg h1];rfl
def GB {a:Addr} {i:Int}:∀{m:Str},m∈(["is_done","take_number","take_list"]:List Str)→(HS a i).lookup m=none:=by
 intro m hm
 refine adu _ _ ?_ ?_ <;> (rintro rfl;revert hm;decide+kernel)
def XO (a:Addr) (i j:Int):dB "position" (.int j) (HS a i)=HS a j:=by unfold HS;rw[Qy]
def xH (t:pH) (H:Hp) (rd dx a:Addr) (i:Int):Prop:=H rd=some (.ins t.cE dx (HS a i))
def UC (t:pH):Sp:=fun vs H Q _=>EX3 fun(p dx a:Addr)=>vs=[.ref p,.ref a]∧H p=some (.ins t.cE dx [])∧Q .non (upd H p (.ins t.cE dx (HS a 0)))
def Nk (T:Tx K mg t):aZ P w K mg base cH 1 t.ow t.tq n6 (UC t):=by
 refine T.Ea.fn.ok MV (fun vs H Q E h=>?_) (fun cdv A outer s H vs Q E hr h=>?_)
 ·obtain⟨p,dx,a,rfl,_⟩:=h
  rfl
 ·obtain⟨p,dx,a,rfl,hp,k⟩:=h
  refine⟨_,(ai (eZ (pv 0) (pv 1) rfl)
   (ao (eZ (pv 0) aP rfl))),?_⟩
  refine⟨_,rfl,_,rfl,p,_,dx,[],rfl,hp,T.bQ,T.lE,(by show 0 < 1000;decide),?_⟩
  refine⟨_,rfl,p,_,dx,_,rfl,af,T.bQ,T.gq,(by show 1 < 1000;decide),?_⟩
  rw[g7]
  exact k
def UD (t:pH) (K:aq):Sp:=fun vs H Q _=>EX5 fun(rd dx a:Addr) (i:Nat) (ns:List Int)=>vs=[.ref rd]∧xH t H rd dx a i∧g6 K H a (ns.map V.int)∧Q (.bl (decide (i=ns.length))) H
def HV (T:Tx K mg t):aZ P w K mg base cH 1 t.ni t.nj kF (UD t K):=by
 refine T.xB.fn.ok Ho (fun vs H Q E h=>?_) (fun cdv A outer s H vs Q E hr h=>?_)
 ·obtain⟨rd,dx,a,i,ns,rfl,_⟩:=h
  rfl
 ·obtain⟨rd,dx,a,i,ns,rfl,hrd,hs,k⟩:=h
  refine⟨_,(ao (aU (jq nQ (aV (pv 0) rfl) (cT cX rfl T.jx bV (aa (aV (pv 0) rfl) ah)) (d6 _)))),?_⟩
  refine⟨_,rfl,rd,_,dx,_,_,rfl,hrd,T.bQ,T.gq,HU ..,_,rfl,rd,_,dx,_,_,rfl,hrd,T.bQ,T.lE,JG ..,a,_,rfl,.inl hs,rfl,?_⟩
  have e:decide (V.int ((i:Nat):Int)=V.int (((ns.map V.int).length:Nat):Int))=decide (i=ns.length):=by
   rw[ab,bH];simp;constructor <;> intro h <;> omega
  rw[← e]at k;exact k
def oR (t:pH) (K:aq):Sp:=fun vs H Q _=>EX6 fun(rd dx a:Addr) (i:Nat) (ns:List Int) (z:Int)=>vs=[.ref rd]∧xH t H rd dx a i∧g6 K H a (ns.map V.int)∧ns[i]? =some z∧Q (.int z) (upd H rd (.ins t.cE dx (HS a ((i+1:Nat):Int))))
def bt (T:Tx K mg t):aZ P w K mg base cH 1 t.ia t.ib gx (oR t K):=by
 refine T.a6.fn.ok rP (fun vs H Q E h=>?_) (fun cdv A outer s H vs Q E hr h=>?_)
 ·obtain⟨rd,dx,a,i,ns,z,rfl,_⟩:=h
  rfl
 ·obtain⟨rd,dx,a,i,ns,z,rfl,hrd,hs,hz,k⟩:=h
  refine⟨_,(ai (bP (i:=1) rP.nd rfl (bc rfl) (gv AR (aV (pv 0) rfl) (aV (pv 0) rfl) (fun _ _=>rfl)))
   (ai (EK (pv 0) aP QR)
   (ao (aU (pv 1))))),?_⟩
  refine⟨_,rfl,rd,_,dx,_,_,rfl,hrd,T.bQ,T.lE,JG ..,_,rfl,rd,_,dx,_,_,rfl,hrd,T.bQ,T.gq,HU ..,a,_,_,_,rfl,rfl,hs,dJ (v:=V.int z) (by rw[b0,hz];rfl),?_⟩
  refine⟨_,rfl,rd,_,dx,_,_,rfl,hrd,T.bQ,T.gq,HU ..,_,_,rfl,rfl,dx,_,hrd,(by show 2 < 1000;decide),_,rfl,?_⟩
  have e:(i:Int)+1=((i+1:Nat):Int):=by omega
  rw[XO,e]
  exact k
def HW (t:pH) (K:aq):Sp:=fun vs H Q _=>EX7 fun(rd dx a:Addr) (i:Nat) (ns l rest:List Int)=>vs=[.ref rd]∧xH t H rd dx a i∧g6 K H a (ns.map V.int)∧ns.drop i=(l.length:Int)::(l++rest)∧
 ∀(q:Addr) (H':Hp),H q=none→Kn H' q (l.map V.int)→xH t H' rd dx a ((i+1+l.length:Nat):Int)→(∀b o,H b=some o→b≠rd→H' b=some o)→Q (.ref q) H'
def gP (T:Tx K mg t):aZ P w K mg base cH 2 t.o8 t.o9 k5 (HW t K):=by
 have g0a:aZ P w K mg base cH 1 t.ia t.ib gx (oR t K):=bt T
 refine T.gB.fn.ok nO (fun vs H Q E h=>?_) (fun cdv A outer s H vs Q E hr h=>?_)
 ·obtain⟨rd,dx,a,i,ns,l,rest,rfl,_⟩:=h
  rfl
 ·obtain⟨rd,dx,a,i,ns,l,rest,rfl,hrd,hs,hd,k⟩:=h
  refine⟨_,Mm (ai (bP (i:=1) nO.nd rfl (bc rfl) (dG T.a6 T.bQ g0a (hr.mono (by decide)) (pv 0)))
   (ai (bP (i:=2) nO.nd rfl (bc rfl) (aV (pv 0) rfl))
   (ai (EK (pv 0) (pv 1) QR)
   (ao (aU (nS AS (aV (pv 0) rfl) (m3 (pv 2)) (m3 (e6 za (pv 2) (pv 1))))))))),?_⟩
  have hz:ns[i]? =some (l.length:Int):=by
   have:=congrArg (fun x:List Int=>x[0]?) hd
   simpa using this
  have sqm:∀o,(∀xs,o≠HO.lst xs)→(∀xs u,o≠HO.iK xs u)→g6 K (upd H rd o) a (ns.map V.int):=fun o _ _=>by
   rcases hs with(h | ⟨ob,h⟩) | h
   ·exact .inl (.inl (by rw[aD (d5 h hrd (by intro z;cases z))];exact h))
   ·exact .inl (.inr ⟨ob,by rw[aD (d5 h hrd (by intro z;cases z))];exact h⟩)
   ·exact .inr h
  refine⟨_,rfl,rd,dx,_,rfl,hrd,GB (by decide+kernel),rd,dx,a,i,ns,_,rfl,hrd,hs,hz,?_⟩
  refine⟨_,rfl,rd,_,dx,_,_,rfl,af,T.bQ,T.gq,HU ..,?_⟩
  refine⟨_,rfl,rd,_,dx,_,_,rfl,af,T.bQ,T.gq,HU ..,_,rfl,_,_,rfl,rfl,dx,_,af,(by show 2 < 1000;decide),?_⟩
  rw[XO,g7]
  have e:((i+1:Nat):Int)+(l.length:Int)=((i+1+l.length:Nat):Int):=by omega
  rw[e]
  refine⟨_,rfl,rd,_,dx,_,_,rfl,af,T.bQ,T.lE,JG ..,_,rfl,_,rfl,_,rfl,_,rfl,_,_,rfl,rfl,_,rfl,a,_,rfl,sqm _ (by intro xs z;cases z) (by intro xs u z;cases z),fun q hq=>?_⟩
  have nq:q≠rd:=fun z=>by rw[z,af]at hq;cases hq
  have hqH:H q=none:=by rw[aD nq]at hq;exact hq
  have hlen:i+1+l.length≤ns.length:=by
   have:=congrArg c8 hd
   simp only[dH,aN,ae]at this
   omega
  have ec:tJ (ns.map V.int) (some ((i+1:Nat):Int)) (some (((i+1:Nat):Int)+(l.length:Int)))=l.map V.int:=by
   rw[e,M8 (by omega) (by rw[ab];exact hlen),← i7,← i8]
   have h1:ns.drop (i+1)=l++rest:=by
    have:=congrArg (fun x:List Int=>x.drop 1) hd
    simpa[EH,SE]using this
   rw[h1,show i+1+l.length - (i+1)=l.length by omega,kP]
  refine .iK q _ af fun o=>.done ?_
  refine k q _ hqH ⟨o,?_⟩ ?_ fun b ob eb hb=>?_
  ·rw[af,ec]
  ·show upd _ q _ rd=_
   rw[aD (dv nq),aD (dv nq),af]
  ·rw[aD (a9 eb hqH),aD (a9 eb hqH),aD hb];exact eb
def aet {te:TE} {σ:L2.St} {H:Hp} {i j:Nat} {p q n:Int} {Q:VK} (hp:σ[i]? =some (some (.int p))) (hq:σ[j]? =some (some (.int q))) (he:∀Q':VK,(∀H',aM H H'→Q' (.int n) H')→te σ H Q')
  (k:∀H',aM H H'→Q (.bl (decide (0≤p)&&(decide (p < q)&&decide (q≤n)))) H'):LA rLe rLt rLe (tC (.int 0)) (kd i) (kd j) te σ H Q:=by
 refine⟨_,hp,_,_,rfl,rfl,_,rfl,?_⟩
 by_cases h:0≤p
 ·rw[if_pos (decide_eq_true h)]
  refine⟨_,hq,_,_,rfl,rfl,_,rfl,?_⟩
  by_cases h2:p < q
  ·rw[if_pos (decide_eq_true h2)]
   refine he _ fun H' s'=>⟨_,_,rfl,rfl,?_⟩
   have:=k H' s'
   rw[decide_eq_true h,hW,decide_eq_true h2,hW]at this
   exact this
  ·rw[if_neg (by simpa using h2)]
   have:=k H (aM.refl _)
   rw[decide_eq_false h2,gL,rK]at this
   exact this
 ·rw[if_neg (by simpa using h)]
  have:=k H (aM.refl _)
  rw[decide_eq_false h,gL]at this
  exact this
def E9 (t:pH):Sp:=fun vs H Q _=>EX8 fun(sh ca ra dx:Addr) (fs:List (Str×V)) (d:aC) (p q:Int)=>vs=[.ref sh,.int p,.int q]∧eX t H sh ca ra dx fs d∧d.row.length≤ag∧∀H',aM H H'→Q (.bl (dZ p q (bJ d))) H'
def Es (T:Tx K mg t):aZ P w K mg base cH 4 t.sk t.sm o5 (E9 t):=by
 have g0e:aZ P w K mg base cH 3 t.gF t.gG fW (iU t.aj):=jl T
 refine T.D6.fn.ok T2 (fun vs H Q E h=>?_) (fun cdv A outer s H vs Q E hr h=>?_)
 ·obtain⟨sh,ca,ra,dx,fs,d,p,q,rfl,_⟩:=h
  rfl
 ·obtain⟨sh,ca,ra,dx,fs,d,p,q,rfl,hd,hz,k⟩:=h
  refine⟨_,(ao (aU (YG iX LP iX aP (pv 1) (pv 2) (bB T.jM g0e (hr.mono (by decide)) (aa (aV (pv 0) rfl) ah))))),?_⟩
  exact aet (i:=1) (j:=2) (n:=((visible d.row).length:Int)) rfl rfl (fun Q' kq=>HP T rfl hd hz kq) k
def JH (C:Addr):Sp:=fun vs H Q _=>EX2 fun(a:Addr) (row:List Piece)=>vs=[.ref a]∧sy C H a row∧row.length≤ag∧∀l H',aM H H'→Kn H' l (nv (((visible row).map (·.sign)).take 40))→Q (.ref l) H'
def Kx (T:Tx K mg t):aZ P w K mg base cH 3 t.xc t.xf rX (JH t.aj):=by
 have g0q:aZ P w K mg base cH 2 t.lN t.lO jU (vQ t.aj):=xE T
 obtain⟨tk,hk_LONGEST_QUOTE⟩:=T.CA
 refine T.Hy.fn.ok T7 (fun vs H Q E h=>?_) (fun cdv A outer s H vs Q E hr h=>?_)
 ·obtain⟨a,row,rfl,_⟩:=h
  rfl
 ·obtain⟨a,m,rfl,hR,hz,k⟩:=h
  refine⟨_,Mm (ao (aU (nS AS (bB T.ua g0q (hr.mono (by decide)) (aa (pv 0) ah)) AQ (m3 (GY (v:=.int 40) rfl hk_LONGEST_QUOTE ⟨_,rfl⟩))))),?_⟩
  refine⟨_,rfl,a,m,rfl,hR,hz,fun l1 H2 s2 hl1 h2=>?_⟩
  refine⟨_,rfl,l1,_,rfl,g6.of h2,fun l hl=>?_⟩
  have s3:=bR (o:=.lst (tJ (qV (visible m)) none (some (40:Int)))) hl
  refine .iK l _ af fun o=>.done ?_
  refine k l _ (cB (s2.trans s3) (s2.free hl)) ⟨o,?_⟩
  rw[af]
  congr 3
  unfold tJ
  rw[HT.G0,show HT.mh (qV (visible m)).length (qV (visible m)).length (some (40:Int))=min 40 (qV (visible m)).length from HT.W8 _ _ 40]
  unfold qV nv
  rw[rG,SA,← i8]
  congr 1
  rw[ab]
  rw[Nat.min_def]
  split
  ·rfl
  ·rw[fI (aJ _),fI (by omega)]
def JI (t:pH):Sp:=fun vs H Q _=>EX8 fun(sh ca ra dx:Addr) (fs:List (Str×V)) (d:aC) (p q:Nat)=>vs=[.ref sh,.int p,.int q]∧eX t H sh ca ra dx fs d∧p < q∧q≤(visible d.row).length∧d.row.length < ag∧
 ∀l H',aM H H'→Kn H' l (nv (((rE p q d.row).map (·.sign)).take 40))→Q (.ref l) H'
def Ky (T:Tx K mg t):aZ P w K mg base cH 7 t.xg t.xh rY (JI t):=by
 have g0f:aZ P w K mg base cH 6 t.i4 t.i5 hE (nr t.aj):=mS T
 have g1s:aZ P w K mg base cH 3 t.xc t.xf rX (JH t.aj):=Kx T
 refine T.Hz.fn.ok T8 (fun vs H Q E h=>?_) (fun cdv A outer s H vs Q E hr h=>?_)
 ·obtain⟨sh,ca,ra,dx,fs,d,p,q,rfl,_⟩:=h
  rfl
 ·obtain⟨sh,ca,ra,dx,fs,d,p,q,rfl,hd,hpq,hq,hz,k⟩:=h
  refine⟨_,(ao (aU (bB T.Hy g1s (hr.mono (by decide)) (aa (gv fH (bB T.mQ g0f (hr.mono (by decide)) (aa (aV (pv 0) rfl) (aa (pv 1) (aa (pv 2) ah)))) aP (fun _ _=>rfl)) ah)))),?_⟩
  refine⟨_,rfl,sh,_,dx,_,_,rfl,hd.at_,T.aQ,T.bA,hd.zT,_,rfl,_,rfl,ra,d.row,p,q,rfl,hd.row.r,hpq,hq,hz,fun f g h u H1 a m b s1 ar hf hg hh hu=>?_⟩
  have el:=congrArg c8 ar.dj
  simp only[ae]at el
  refine⟨u,_,_,_,rfl,rfl,iB.of hu,dJ (j:=1) rfl,g,m,rfl,hg.r,by omega,fun l H2 s2 h2=>?_⟩
  refine k l H2 (s1.trans s2) ?_
  rw[ar.stretch];exact h2
open Vatrka (Piece visible retag)
def pL (b:List Piece) (u:Nat) (on:Bool):(b.map (retag u on)).map (·.sign)=b.map (·.sign):=by rw[bD];rfl
def x8.ae6 {b:List Piece} {ins del d4 bm:List Nat} (h:x8 b ins del d4 bm) {c:Nat} (hc:∀x∈b,¬2*c∈x.tags):x8 (b.map (retag (2*c) true)) ins del (d4++[c]) bm:=by
 obtain⟨x0,hx0⟩:=cG b h.ne
 have hcc:¬c∈d4:=fun z=>hc x0 hx0 ((h.d4 x0 hx0 c).mp z)
 refine⟨by simpa using h.ne,fun x hx=>?_,iA.mpr ⟨h.Ut,by simp,fun a ha b hb e=>hcc (by simp at hb;rw[← hb,← e];exact ha)⟩,fun x hx k=>?_,h.RY,fun x hx k=>?_⟩
 all_goals obtain⟨y,hy,rfl⟩:=aR.mp hx
 ·exact h.vP y hy
 ·rw[Mt.kZ,aX,h.d4 y hy k,xV]
  constructor
  ·rintro(e | e)
   ·exact .inr e
   ·exact .inl (by omega)
  ·rintro(e | e)
   ·exact .inr (by omega)
   ·exact .inl e
 ·rw[Mt.kZ,h.bm y hy k]
  constructor
  ·exact .inr
  ·rintro(e | e)
   ·omega
   ·exact e
def x8.ae7 {b:List Piece} {ins del d4 bm:List Nat} (h:x8 b ins del d4 bm) {c:Nat} (hc:∀x∈b,¬2*c+1∈x.tags):x8 (b.map (retag (2*c+1) true)) ins del d4 (bm++[c]):=by
 obtain⟨x0,hx0⟩:=cG b h.ne
 have hcc:¬c∈bm:=fun z=>hc x0 hx0 ((h.bm x0 hx0 c).mp z)
 refine⟨by simpa using h.ne,fun x hx=>?_,h.Ut,fun x hx k=>?_,iA.mpr ⟨h.RY,by simp,fun a ha b hb e=>hcc (by simp at hb;rw[← hb,← e];exact ha)⟩,fun x hx k=>?_⟩
 all_goals obtain⟨y,hy,rfl⟩:=aR.mp hx
 ·exact h.vP y hy
 ·rw[Mt.kZ,h.d4 y hy k]
  constructor
  ·exact .inr
  ·rintro(e | e)
   ·omega
   ·exact e
 ·rw[Mt.kZ,aX,h.bm y hy k,xV]
  constructor
  ·rintro(e | e)
   ·exact .inr e
   ·exact .inl (by omega)
  ·rintro(e | e)
   ·exact .inr (by omega)
   ·exact .inl e
def x8.aeu {b:List Piece} {ins del d4 bm:List Nat} (h:x8 b ins del d4 bm) (c:Nat):x8 (b.map (retag (2*c) false)) ins del (dm c d4) bm:=by
 refine⟨by simpa using h.ne,fun x hx=>?_,h.Ut.sublist (kb ..),fun x hx k=>?_,h.RY,fun x hx k=>?_⟩
 all_goals obtain⟨y,hy,rfl⟩:=aR.mp hx
 ·exact h.vP y hy
 ·rw[Mt.iZ,Mt.ml,h.d4 y hy k]
  constructor <;> rintro⟨e,n⟩ <;> exact⟨e,by omega⟩
 ·rw[Mt.iZ,h.bm y hy k]
  exact⟨fun e=>⟨e,by omega⟩,fun e=>e.1⟩
def x8.liftM {b:List Piece} {ins del d4 bm:List Nat} (h:x8 b ins del d4 bm) (c:Nat):x8 (b.map (retag (2*c+1) false)) ins del d4 (dm c bm):=by
 refine⟨by simpa using h.ne,fun x hx=>?_,h.Ut,fun x hx k=>?_,h.RY.sublist (kb ..),fun x hx k=>?_⟩
 all_goals obtain⟨y,hy,rfl⟩:=aR.mp hx
 ·exact h.vP y hy
 ·rw[Mt.iZ,h.d4 y hy k]
  exact⟨fun e=>⟨e,by omega⟩,fun e=>e.1⟩
 ·rw[Mt.iZ,Mt.ml,h.bm y hy k]
  constructor <;> rintro⟨e,n⟩ <;> exact⟨e,by omega⟩
theorem Et (g:Piece→Piece):∀bs:List (List Piece),(bs.map (AK g)).flatten=bs.flatten.map g
 | []=>rfl
 | b::bs=>by rw[aT,bC,Et g bs,bC,bz]
def O7 (u:Nat):List Piece→Bool
 | x::_=>aB u x
 | []=>false
def Av {b:List Piece} {ins del d4 bm:List Nat} (h:x8 b ins del d4 bm) {c:Nat}:O7 (2*c) b=du d4 c:=by
 cases b with
 | nil=>exact absurd rfl h.ne
 | cons x r=>
  show du x.tags (2*c)=_
  rw[bH,Mt.iQ,Mt.iQ];exact(h.d4 x (aE ..) c).symm
def R5 {b:List Piece} {ins del d4 bm:List Nat} (h:x8 b ins del d4 bm) {c:Nat}:O7 (2*c+1) b=du bm c:=by
 cases b with
 | nil=>exact absurd rfl h.ne
 | cons x r=>
  show du x.tags (2*c+1)=_
  rw[bH,Mt.iQ,Mt.iQ];exact(h.bm x (aE ..) c).symm
def x8.all {b:List Piece} {ins del d4 bm:List Nat} (h:x8 b ins del d4 bm) (u:Nat):∀x∈b,aB u x=O7 u b:=fun x hx=>by
 have:u=2*(u / 2)∨u=2*(u / 2)+1:=by omega
 rcases this with e | e
 ·rw[e,Av h,bH,Mt.eV,Mt.iQ];exact(h.d4 x hx _).symm
 ·rw[e,R5 h,bH,Mt.eV,Mt.iQ];exact(h.bm x hx _).symm
theorem HX {C:Addr} {H:Hp} {u:Nat}:∀{rs:List Addr} {bs:List (List Piece)},ig C H rs bs→(bs.filter (O7 u)).flatten=bs.flatten.filter (aB u)
 | _,_,.nil=>rfl
 | _,b::bs,.cons hst t=>by
  obtain⟨sg,i,d,c',m,ins,del,d4,bm,vv⟩:=hst
  rw[bK,bC,dt,← HX t]
  have h:=vv.gS.all u
  split
  ·rename_i e
   have e2:b.filter (aB u)=b:=dz.mpr fun x hx=>by rw[h x hx];exact e
   rw[bC,e2]
  ·rename_i e
   have e2:b.filter (aB u)=[]:=eM.mpr fun x hx=>by rw[h x hx];exact e
   rw[e2];rfl
def aaD (t:pH) (H:Hp) (sh ca dx:Addr) (fs:List (Str×V)) (d':aC) (v:V) (Q:VK):Prop:=
 ∀H' ra' fs',eX t H' sh ca ra' dx fs' d'→Qw fs fs'→(∀b o,H b=some o→b≠sh→H' b=some o)→Q v H'
def Qz (t:pH) (tag:Nat→Nat):Sp:=fun vs H Q _=>EX9 fun(sh ca ra dx:Addr) (fs:List (Str×V)) (d:aC) (c p q:Nat)=>vs=[.ref sh,.int c,.int p,.int q]∧eX t H sh ca ra dx fs d∧DocOk d∧p < q∧q≤(visible d.row).length∧(∀x∈d.row,¬tag c∈x.tags)∧
 aaD t H sh ca dx fs (Cp d p q (tag c) true).1 .non Q
def xI (T:Tx K mg t):aZ P w K mg base cH 7 t.lP t.lQ jV (Qz t fun c=>2*c):=by
 have g0f:aZ P w K mg base cH 6 t.i4 t.i5 hE (nr t.aj):=mS T
 have g0m:aZ P w K mg base cH 3 t.gy t.gz fj (JC t.aj):=oA T
 refine T.ub.fn.ok pW (fun vs H Q E h=>?_) (fun cdv A outer s H vs Q E hr h=>?_)
 ·obtain⟨sh,ca,ra,dx,fs,d,c,p,q,rfl,_⟩:=h
  rfl
 ·obtain⟨sh,ca,ra,dx,fs,d,c,p,q,rfl,hd,ok,hpq,hq,hno,k⟩:=h
  have zl:ag=16777216:=bS
  have hrl:=ok.len
  refine⟨_,(ai (bP (i:=4) pW.nd rfl (bc rfl) (bB T.mQ g0f (hr.mono (by decide)) (aa (aV (pv 0) rfl) (aa (pv 2) (aa (pv 3) ah)))))
   (ai (tK (i:=5) (own:=[("stretch",6)]) rfl pW.nd rfl rfl (yi rfl rfl rfl rfl) (dQ (gv fH (pv 4) aP (fun _ _=>rfl))) (eC (by rfl)) (fun _ _ _ _ _=>da (i:=6) pW.nd rfl (bc rfl)) (fun _ _ _ _ _=>j7) (fun _ _ _ _ _=>(FE T.jt T.aO g0m (hr.mono (by decide)) (pv 6) (aa (e6 (TY (K:=K) rfl) (js (K:=K) rfl (pv 6) rfl) (jS (aa (pv 1) ah))) ah))))
   (ao (eZ (pv 0) (Dn (e6 gZ (e6 gZ (gv fH (pv 4) aP (fun _ _=>rfl)) (pv 5)) (gv fH (pv 4) aP (fun _ _=>rfl)))) rfl)))),?_⟩
  refine⟨_,rfl,sh,_,dx,_,_,rfl,hd.at_,T.aQ,T.bA,hd.zT,_,rfl,_,rfl,ra,d.row,p,q,rfl,hd.row.r,hpq,hq,by omega,fun f g h u H1 a m b s1 ar hf hg hh hu=>?_⟩
  have el:=congrArg c8 ar.dj
  simp only[ae]at el
  have mm:∀x∈m,x∈d.row:=fun x hx=>by rw[ar.dj];exact aF _ (aS _ hx)
  obtain⟨rs,bs,hl,hR,ebs⟩:=id hg
  have hle:=hR.le
  rw[ebs]at hle
  refine⟨_,rfl,u,_,_,_,rfl,rfl,iB.of hu,dJ (j:=1) rfl,g,rfl,⟨_,hl.sq⟩,fun D hD=>JD (C:=t.aj) (AK (retag (2*c) true)) hl.sq hR hD (by omega) (fun i r bb H' Q' er eb s' hst q=>?_) fun H2 s2 hA=>?_⟩
  ·obtain⟨sg,i0,d0,c0,m0,ins,del,d4,bm,vv⟩:=hst
   obtain⟨dx2,ha⟩:=vv.at_
   have hbm:∀x∈bb,x∈d.row:=fun x hx=>mm x (by rw[← ebs];exact dr.mpr ⟨bb,a7 eb,hx⟩)
   have hcl:=LI vv.gS fun x hx=>ok.tags x (hbm x hx)
   refine⟨_,rfl,r,dx2,_,rfl,ha,CT (by decide+kernel),_,rfl,r,_,dx2,_,_,rfl,ha,T.aO,T.cg,k8 ..,_,rfl,(by show 1≤ag;decide),fun q1 hq1=>?_⟩
   have sq:aM H' (upd H' q1 (.tup [.int (c:Nat)])):=bR hq1
   refine HN (sq _ _ vv.c) af (by rw[fQ,bS];show d4.length+1≤16777216;omega) fun v1 H3 s3 hv1=>?_
   have s4:aM H' H3:=sq.trans s3
   refine⟨r,sg,i0,d0,c0,m0,v1,rfl,⟨dx2,s4 _ _ ha⟩,fun x H4 s5 hx=>?_⟩
   have s6:aM H' H4:=s4.trans s5
   refine q x H4 s6 ⟨sg,i0,d0,v1,m0,ins,del,d4++[c],bm,hx,?_,s6 _ _ vv.i,s6 _ _ vv.d,?_,s6 _ _ vv.m,vv.gS.ae6 fun x hx=>hno x (hbm x hx)⟩
   ·rw[pL];exact vv.sg.kp (C:=t.aj) (aM.oz s6)
   ·rw[sD];exact s5 _ _ hv1
  ·rw[Et,ebs]at hA
   have hml:(m.map (retag (2*c) true)).length=m.length:=ab ..
   refine⟨_,rfl,u,_,_,_,rfl,rfl,iB.of (s2 _ _ hu),dJ (j:=0) rfl,_,rfl,O3 (hf.r.same s2) hA.r (by omega) fun z1 H4 s4 hz1 ha4=>?_⟩
   refine⟨_,rfl,u,_,_,_,rfl,rfl,iB.of (s4 _ _ (s2 _ _ hu)),dJ (j:=2) rfl,?_⟩
   refine O3 ha4.r ((hh.r.same s2).same s4) (by rw[ae];omega) fun z2 H5 s5 hz2 ha5=>?_
   refine ha5.fz fun H6 hrow ne6 kp6=>?_
   have sA:aM H H5:=((s1.trans s2).trans s4).trans s5
   have hzH:H z2=none:=s1.free (s2.free (s4.free hz2))
   have sA6:aM H H6:=fun x o e=>by rw[ne6 x (a9 e hzH)];exact sA _ _ e
   have hd6:eX t H6 sh ca ra dx fs d:=hd.same sA6
   refine⟨_,rfl,sh,_,dx,fs,rfl,hd6.at_,T.aQ,T.bA,hd6.x9,?_⟩
   rw[bM]at hrow
   have hd7:=hd6.El T.cK hrow
   rw[ar.doTag d rfl]at k
   exact k _ z2 _ hd7 (pK fs _) fun b o e n1=>by rw[aD n1];exact sA6 _ _ e
def Nl (t:pH) (tag:Nat→Nat):Sp:=fun vs H Q _=>EX7 fun(sh ca ra dx:Addr) (fs:List (Str×V)) (d:aC) (c:Nat)=>vs=[.ref sh,.int c]∧eX t H sh ca ra dx fs d∧DocOk d∧
 aaD t H sh ca dx fs {d with row:=d.row.map (retag (tag c) false)} (.int ((d.row.filter (aB (tag c))).length:Nat)) Q
def CF (T:Tx K mg t):aZ P w K mg base cH 4 t.mJ t.mK km (Nl t fun c=>2*c):=by
 have g0b:aZ P w K mg base cH 1 t.fX t.fY fq (i6 t.aj):=iF T
 have g1i:aZ P w K mg base cH 1 t.wd t.we rV E8:=GA T
 have g0m:aZ P w K mg base cH 3 t.gy t.gz fj (JC t.aj):=oA T
 refine T.vJ.fn.ok lp (fun vs H Q E h=>?_) (fun cdv A outer s H vs Q E hr h=>?_)
 ·obtain⟨sh,ca,ra,dx,fs,d,c,rfl,_⟩:=h
  rfl
 ·obtain⟨sh,ca,ra,dx,fs,d,c,rfl,hd,ok,k⟩:=h
  have zl:ag=16777216:=bS
  have hrl:=ok.len
  refine⟨_,(ai (tK (i:=2) (own:=[("stretch",3)]) rfl lp.nd rfl rfl (yi rfl rfl rfl rfl) (dQ (aV (pv 0) rfl)) (eC (by rfl)) (fun _ _ _ _ _=>da (i:=3) lp.nd rfl (bc rfl)) (fun _ _ _ _ _=>pT (dN (Mn (K:=K) rfl) (pv 1) (js (K:=K) rfl (pv 3) rfl) (by with_unfolding_all rfl))) (fun _ _ _ _ _=>(pv 3)))
   (ai (eZ (pv 0) (Dn (pU (own:=[("stretch",3)]) rfl lp.nd (dQ (aV (pv 0) rfl)) (eC (by rfl)) (fun _ _ _ _ _=>da (i:=3) lp.nd rfl (bc rfl)) (fun _ _ _ _ _=>j7) (fun _ _ _ _ _=>(FE T.jt T.aO g0m (hr.mono (by decide)) (pv 3) (aa (bB T.without g1i (hr.mono (by decide)) (aa (js (K:=K) rfl (pv 3) rfl) (aa (pv 1) ah))) ah))))) rfl)
   (ao (aU (bB T.gJ g0b (hr.mono (by decide)) (aa (pv 2) ah)))))),?_⟩
  obtain⟨rs,bs,hl,hR,ebs⟩:=id hd.row
  have hle:=hR.le
  rw[ebs]at hle
  have hbm:∀b∈bs,∀x∈b,x∈d.row:=fun b hb x hx=>by rw[← ebs];exact dr.mpr ⟨b,hb,hx⟩
  refine⟨_,rfl,sh,_,dx,_,_,rfl,hd.at_,T.aQ,T.bA,hd.zT,ra,rfl,⟨_,hl.sq⟩,fun D1 hD1=>HF (C:=t.aj) (O7 (2*c)) hl.sq hR hD1 (by omega) (fun r b H' Q' hb s' hst q=>?_) (fun x H' Q' q=>?_) fun H1 s1 hA1=>?_⟩
  ·obtain⟨sg,i0,d0,c0,m0,ins,del,d4,bm,vv⟩:=hst
   obtain⟨dx2,ha⟩:=vv.at_
   refine⟨_,rfl,_,rfl,r,_,dx2,_,_,rfl,ha,T.aO,T.cg,k8 ..,c0,_,rfl,.inr (iB.of vv.c),rfl,oQ _,_,rfl,?_⟩
   show Q' (S7 (.int (c:Int)) (nv d4)) H'
   rw[xF,← Av vv.gS];exact q H' (aM.refl _)
  ·exact⟨_,rfl,q⟩
  ·have hd1:=hd.same s1
   rw[HX hR,ebs]at hA1
   have hR1:=ig.kp hR (aM.oz s1)
   have hl1:=hl.kp (C:=t.aj) (aM.oz s1)
   refine⟨_,rfl,sh,_,dx,_,_,rfl,hd1.at_,T.aQ,T.bA,hd1.zT,ra,rfl,⟨_,hl1.sq⟩,fun D2 hD2=>JD (C:=t.aj) (AK (retag (2*c) false)) hl1.sq hR1 hD2 (by omega) (fun i r b H' Q' er eb s' hst q=>?_) fun H3 s3 hA=>?_⟩
   ·obtain⟨sg,i0,d0,c0,m0,ins,del,d4,bm,vv⟩:=hst
    obtain⟨dx2,ha⟩:=vv.at_
    have hcl:=LI vv.gS fun x hx=>ok.tags x (hbm b (a7 eb) x hx)
    refine⟨_,rfl,r,dx2,_,rfl,ha,CT (by decide+kernel),_,rfl,r,_,dx2,_,_,rfl,ha,T.aO,T.cg,k8 ..,_,rfl,c0,d4,(c:Int),rfl,vv.c,vv.gS.Ut,by omega,by omega,fun v1 H4 s4 hv1=>?_⟩
    refine⟨r,sg,i0,d0,c0,m0,v1,rfl,⟨dx2,s4 _ _ ha⟩,fun x H5 s5 hx=>?_⟩
    have s6:aM H' H5:=s4.trans s5
    refine q x H5 s6 ⟨sg,i0,d0,v1,m0,ins,del,_,bm,hx,?_,s6 _ _ vv.i,s6 _ _ vv.d,s5 _ _ hv1,s6 _ _ vv.m,vv.gS.aeu c⟩
    rw[pL];exact vv.sg.kp (C:=t.aj) (aM.oz s6)
   ·rw[Et,ebs]at hA
    refine hA.fz fun H4 hrow ne4 kp4=>?_
    have sA:aM H H3:=s1.trans s3
    have hzH:H D2=none:=s1.free hD2
    have sA4:aM H H4:=fun x o e=>by rw[ne4 x (a9 e hzH)];exact sA _ _ e
    have s14:aM H1 H4:=fun x o e=>by rw[ne4 x (a9 e hD2)];exact s3 _ _ e
    have hd4:eX t H4 sh ca ra dx fs d:=hd.same sA4
    refine⟨_,rfl,sh,_,dx,fs,rfl,hd4.at_,T.aQ,T.bA,hd4.x9,?_⟩
    have hd5:=hd4.El T.cK hrow
    have hA4:=hA1.same s14
    have hA5:sy t.aj (upd H4 sh (.ins t.cu dx (dB "row" (.ref D2) fs))) D1 (d.row.filter (aB (2*c))):=by
     obtain⟨lr,lb,e,r,f⟩:=hA4
     exact⟨lr,lb,.inl (by rw[aD (d5 e hd4.at_ (by intro z;cases z))];exact e),r.kp fun b o e im=>by rw[aD (d5 e hd4.at_ (by rintro rfl;exact T.cK im.symm))];exact e,f⟩
    have hfl:=bX (aB (2*c)) d.row
    refine⟨_,rfl,D1,_,rfl,hA5,by omega,fun H6 s6=>?_⟩
    exact k H6 D2 _ (hd5.same s6) (pK fs _) fun b o e n1=>s6 b o (by rw[aD n1];exact sA4 _ _ e)
def Lc (T:Tx K mg t):aZ P w K mg base cH 7 t.qt t.qv my (Qz t fun c=>2*c+1):=by
 have g0f:aZ P w K mg base cH 6 t.i4 t.i5 hE (nr t.aj):=mS T
 have g0k:aZ P w K mg base cH 3 t.f9 t.gc eR (M9 t.aj):=nH T
 refine T.BH.fn.ok oG (fun vs H Q E h=>?_) (fun cdv A outer s H vs Q E hr h=>?_)
 ·obtain⟨sh,ca,ra,dx,fs,d,c,p,q,rfl,_⟩:=h
  rfl
 ·obtain⟨sh,ca,ra,dx,fs,d,c,p,q,rfl,hd,ok,hpq,hq,hno,k⟩:=h
  have zl:ag=16777216:=bS
  have hrl:=ok.len
  refine⟨_,(ai (bP (i:=4) oG.nd rfl (bc rfl) (bB T.mQ g0f (hr.mono (by decide)) (aa (aV (pv 0) rfl) (aa (pv 2) (aa (pv 3) ah)))))
   (ai (tK (i:=5) (own:=[("stretch",6)]) rfl oG.nd rfl rfl (yi rfl rfl rfl rfl) (dQ (gv fH (pv 4) aP (fun _ _=>rfl))) (eC (by rfl)) (fun _ _ _ _ _=>da (i:=6) oG.nd rfl (bc rfl)) (fun _ _ _ _ _=>j7) (fun _ _ _ _ _=>(FE T.iS T.aO g0k (hr.mono (by decide)) (pv 6) (aa (e6 (TY (K:=K) rfl) (js (K:=K) rfl (pv 6) rfl) (jS (aa (pv 1) ah))) ah))))
   (ao (eZ (pv 0) (Dn (e6 gZ (e6 gZ (gv fH (pv 4) aP (fun _ _=>rfl)) (pv 5)) (gv fH (pv 4) aP (fun _ _=>rfl)))) rfl)))),?_⟩
  refine⟨_,rfl,sh,_,dx,_,_,rfl,hd.at_,T.aQ,T.bA,hd.zT,_,rfl,_,rfl,ra,d.row,p,q,rfl,hd.row.r,hpq,hq,by omega,fun f g h u H1 a m b s1 ar hf hg hh hu=>?_⟩
  have el:=congrArg c8 ar.dj
  simp only[ae]at el
  have mm:∀x∈m,x∈d.row:=fun x hx=>by rw[ar.dj];exact aF _ (aS _ hx)
  obtain⟨rs,bs,hl,hR,ebs⟩:=id hg
  have hle:=hR.le
  rw[ebs]at hle
  refine⟨_,rfl,u,_,_,_,rfl,rfl,iB.of hu,dJ (j:=1) rfl,g,rfl,⟨_,hl.sq⟩,fun D hD=>JD (C:=t.aj) (AK (retag (2*c+1) true)) hl.sq hR hD (by omega) (fun i r bb H' Q' er eb s' hst q=>?_) fun H2 s2 hA=>?_⟩
  ·obtain⟨sg,i0,d0,c0,m0,ins,del,d4,bm,vv⟩:=hst
   obtain⟨dx2,ha⟩:=vv.at_
   have hbm:∀x∈bb,x∈d.row:=fun x hx=>mm x (by rw[← ebs];exact dr.mpr ⟨bb,a7 eb,hx⟩)
   have hcl:=LI vv.gS fun x hx=>ok.tags x (hbm x hx)
   refine⟨_,rfl,r,dx2,_,rfl,ha,CT (by decide+kernel),_,rfl,r,_,dx2,_,_,rfl,ha,T.aO,T.cj,qT ..,_,rfl,(by show 1≤ag;decide),fun q1 hq1=>?_⟩
   have sq:aM H' (upd H' q1 (.tup [.int (c:Nat)])):=bR hq1
   refine HN (sq _ _ vv.m) af (by rw[fQ,bS];show bm.length+1≤16777216;omega) fun v1 H3 s3 hv1=>?_
   have s4:aM H' H3:=sq.trans s3
   refine⟨r,sg,i0,d0,c0,m0,v1,rfl,⟨dx2,s4 _ _ ha⟩,fun x H4 s5 hx=>?_⟩
   have s6:aM H' H4:=s4.trans s5
   refine q x H4 s6 ⟨sg,i0,d0,c0,v1,ins,del,d4,bm++[c],hx,?_,s6 _ _ vv.i,s6 _ _ vv.d,s6 _ _ vv.c,?_,vv.gS.ae7 fun x hx=>hno x (hbm x hx)⟩
   ·rw[pL];exact vv.sg.kp (C:=t.aj) (aM.oz s6)
   ·rw[sD];exact s5 _ _ hv1
  ·rw[Et,ebs]at hA
   have hml:(m.map (retag (2*c+1) true)).length=m.length:=ab ..
   refine⟨_,rfl,u,_,_,_,rfl,rfl,iB.of (s2 _ _ hu),dJ (j:=0) rfl,_,rfl,O3 (hf.r.same s2) hA.r (by omega) fun z1 H4 s4 hz1 ha4=>?_⟩
   refine⟨_,rfl,u,_,_,_,rfl,rfl,iB.of (s4 _ _ (s2 _ _ hu)),dJ (j:=2) rfl,?_⟩
   refine O3 ha4.r ((hh.r.same s2).same s4) (by rw[ae];omega) fun z2 H5 s5 hz2 ha5=>?_
   refine ha5.fz fun H6 hrow ne6 kp6=>?_
   have sA:aM H H5:=((s1.trans s2).trans s4).trans s5
   have hzH:H z2=none:=s1.free (s2.free (s4.free hz2))
   have sA6:aM H H6:=fun x o e=>by rw[ne6 x (a9 e hzH)];exact sA _ _ e
   have hd6:eX t H6 sh ca ra dx fs d:=hd.same sA6
   refine⟨_,rfl,sh,_,dx,fs,rfl,hd6.at_,T.aQ,T.bA,hd6.x9,?_⟩
   rw[bM]at hrow
   have hd7:=hd6.El T.cK hrow
   rw[ar.doTag d rfl]at k
   exact k _ z2 _ hd7 (pK fs _) fun b o e n1=>by rw[aD n1];exact sA6 _ _ e
def JJ (T:Tx K mg t):aZ P w K mg base cH 4 t.oN t.oO lq (Nl t fun c=>2*c+1):=by
 have g0b:aZ P w K mg base cH 1 t.fX t.fY fq (i6 t.aj):=iF T
 have g1i:aZ P w K mg base cH 1 t.wd t.we rV E8:=GA T
 have g0k:aZ P w K mg base cH 3 t.f9 t.gc eR (M9 t.aj):=nH T
 refine T.zP.fn.ok ku (fun vs H Q E h=>?_) (fun cdv A outer s H vs Q E hr h=>?_)
 ·obtain⟨sh,ca,ra,dx,fs,d,c,rfl,_⟩:=h
  rfl
 ·obtain⟨sh,ca,ra,dx,fs,d,c,rfl,hd,ok,k⟩:=h
  have zl:ag=16777216:=bS
  have hrl:=ok.len
  refine⟨_,(ai (tK (i:=2) (own:=[("stretch",3)]) rfl ku.nd rfl rfl (yi rfl rfl rfl rfl) (dQ (aV (pv 0) rfl)) (eC (by rfl)) (fun _ _ _ _ _=>da (i:=3) ku.nd rfl (bc rfl)) (fun _ _ _ _ _=>pT (dN (Mn (K:=K) rfl) (pv 1) (js (K:=K) rfl (pv 3) rfl) (by with_unfolding_all rfl))) (fun _ _ _ _ _=>(pv 3)))
   (ai (eZ (pv 0) (Dn (pU (own:=[("stretch",3)]) rfl ku.nd (dQ (aV (pv 0) rfl)) (eC (by rfl)) (fun _ _ _ _ _=>da (i:=3) ku.nd rfl (bc rfl)) (fun _ _ _ _ _=>j7) (fun _ _ _ _ _=>(FE T.iS T.aO g0k (hr.mono (by decide)) (pv 3) (aa (bB T.without g1i (hr.mono (by decide)) (aa (js (K:=K) rfl (pv 3) rfl) (aa (pv 1) ah))) ah))))) rfl)
   (ao (aU (bB T.gJ g0b (hr.mono (by decide)) (aa (pv 2) ah)))))),?_⟩
  obtain⟨rs,bs,hl,hR,ebs⟩:=id hd.row
  have hle:=hR.le
  rw[ebs]at hle
  have hbm:∀b∈bs,∀x∈b,x∈d.row:=fun b hb x hx=>by rw[← ebs];exact dr.mpr ⟨b,hb,hx⟩
  refine⟨_,rfl,sh,_,dx,_,_,rfl,hd.at_,T.aQ,T.bA,hd.zT,ra,rfl,⟨_,hl.sq⟩,fun D1 hD1=>HF (C:=t.aj) (O7 (2*c+1)) hl.sq hR hD1 (by omega) (fun r b H' Q' hb s' hst q=>?_) (fun x H' Q' q=>?_) fun H1 s1 hA1=>?_⟩
  ·obtain⟨sg,i0,d0,c0,m0,ins,del,d4,bm,vv⟩:=hst
   obtain⟨dx2,ha⟩:=vv.at_
   refine⟨_,rfl,_,rfl,r,_,dx2,_,_,rfl,ha,T.aO,T.cj,qT ..,m0,_,rfl,.inr (iB.of vv.m),rfl,oQ _,_,rfl,?_⟩
   show Q' (S7 (.int (c:Int)) (nv bm)) H'
   rw[xF,← R5 vv.gS];exact q H' (aM.refl _)
  ·exact⟨_,rfl,q⟩
  ·have hd1:=hd.same s1
   rw[HX hR,ebs]at hA1
   have hR1:=ig.kp hR (aM.oz s1)
   have hl1:=hl.kp (C:=t.aj) (aM.oz s1)
   refine⟨_,rfl,sh,_,dx,_,_,rfl,hd1.at_,T.aQ,T.bA,hd1.zT,ra,rfl,⟨_,hl1.sq⟩,fun D2 hD2=>JD (C:=t.aj) (AK (retag (2*c+1) false)) hl1.sq hR1 hD2 (by omega) (fun i r b H' Q' er eb s' hst q=>?_) fun H3 s3 hA=>?_⟩
   ·obtain⟨sg,i0,d0,c0,m0,ins,del,d4,bm,vv⟩:=hst
    obtain⟨dx2,ha⟩:=vv.at_
    have hcl:=LI vv.gS fun x hx=>ok.tags x (hbm b (a7 eb) x hx)
    refine⟨_,rfl,r,dx2,_,rfl,ha,CT (by decide+kernel),_,rfl,r,_,dx2,_,_,rfl,ha,T.aO,T.cj,qT ..,_,rfl,m0,bm,(c:Int),rfl,vv.m,vv.gS.RY,by omega,by omega,fun v1 H4 s4 hv1=>?_⟩
    refine⟨r,sg,i0,d0,c0,m0,v1,rfl,⟨dx2,s4 _ _ ha⟩,fun x H5 s5 hx=>?_⟩
    have s6:aM H' H5:=s4.trans s5
    refine q x H5 s6 ⟨sg,i0,d0,c0,v1,ins,del,d4,_,hx,?_,s6 _ _ vv.i,s6 _ _ vv.d,s6 _ _ vv.c,s5 _ _ hv1,vv.gS.liftM c⟩
    rw[pL];exact vv.sg.kp (C:=t.aj) (aM.oz s6)
   ·rw[Et,ebs]at hA
    refine hA.fz fun H4 hrow ne4 kp4=>?_
    have sA:aM H H3:=s1.trans s3
    have hzH:H D2=none:=s1.free hD2
    have sA4:aM H H4:=fun x o e=>by rw[ne4 x (a9 e hzH)];exact sA _ _ e
    have s14:aM H1 H4:=fun x o e=>by rw[ne4 x (a9 e hD2)];exact s3 _ _ e
    have hd4:eX t H4 sh ca ra dx fs d:=hd.same sA4
    refine⟨_,rfl,sh,_,dx,fs,rfl,hd4.at_,T.aQ,T.bA,hd4.x9,?_⟩
    have hd5:=hd4.El T.cK hrow
    have hA4:=hA1.same s14
    have hA5:sy t.aj (upd H4 sh (.ins t.cu dx (dB "row" (.ref D2) fs))) D1 (d.row.filter (aB (2*c+1))):=by
     obtain⟨lr,lb,e,r,f⟩:=hA4
     exact⟨lr,lb,.inl (by rw[aD (d5 e hd4.at_ (by intro z;cases z))];exact e),r.kp fun b o e im=>by rw[aD (d5 e hd4.at_ (by rintro rfl;exact T.cK im.symm))];exact e,f⟩
    have hfl:=bX (aB (2*c+1)) d.row
    refine⟨_,rfl,D1,_,rfl,hA5,by omega,fun H6 s6=>?_⟩
    exact k H6 D2 _ (hd5.same s6) (pK fs _) fun b o e n1=>s6 b o (by rw[aD n1];exact sA4 _ _ e)
def Bf (L:List (List Nat)) (a b:Nat):Prop:=∃pre l post,L=pre++l::post∧a∈l∧(∀l'∈pre,¬b∈l')∧(b∈l→a < b)
def Bf.more {L:List (List Nat)} {a b:Nat} (h:Bf L a b) (M:List (List Nat)):Bf (L++M) a b:=by
 obtain⟨pre,l,post,e,h1,h2,h3⟩:=h
 exact⟨pre,l,post++M,by rw[e];simp,h1,h2,h3⟩
def Ld {α:Type} [DecidableEq α] (D:List α) (l:α):List α:=if l∈D then D else D++[l]
def UE {α:Type} [DecidableEq α] {D:List α} {l x:α}:x∈Ld D l↔x∈D∨x=l:=by
 unfold Ld
 split
 ·rename_i h
  exact⟨.inl,fun z=>z.elim id fun e=>e▸h⟩
 ·simp
def Nm {α:Type} [DecidableEq α] {D:List α} {l:α} (h:D.Nodup):(Ld D l).Nodup:=by
 unfold Ld
 split
 ·exact h
 ·rename_i n
  exact iA.mpr ⟨h,by simp,fun a ha b hb e=>n (by simp at hb;rw[← hb,← e];exact ha)⟩
structure Diff {α:Type} (L D:List α):Prop where
 mem:∀x,x∈D↔x∈L
 nd:D.Nodup
 ord:∀pre l post,D=pre++l::post→∃pre' post',L=pre'++l::post'∧∀x∈pre',x∈pre
def Diff.nil {α:Type}:Diff ([]:List α) []:=⟨fun _=>Iff.rfl,.nil,fun pre l post e=>by simp at e⟩
def Diff.add {α:Type} [DecidableEq α] {L D:List α} (h:Diff L D) (l:α):Diff (L++[l]) (Ld D l):=by
 refine⟨fun x=>by rw[UE,h.mem];simp,Nm h.nd,fun pre m post e=>?_⟩
 unfold Ld at e
 split at e
 ·obtain⟨p',q',e1,h1⟩:=h.ord pre m post e
  exact⟨p',q'++[l],by rw[e1];simp,h1⟩
 ·rcases rS post with rfl | ⟨post0,y,rfl⟩
  ·obtain⟨e1,e2⟩:=sO e rfl
   cases e2
   exact⟨L,[],by simp,fun x hx=>by rw[← e1];exact(h.mem x).mpr hx⟩
  ·rw[rT,← dW,← bM]at e
   obtain⟨e1,e2⟩:=sO e rfl
   obtain⟨p',q',e3,h1⟩:=h.ord pre m post0 e1
   exact⟨p',q'++[l],by rw[e3];simp,h1⟩
def Diff.bf {L D:List (List Nat)} (h:Diff L D) {a b:Nat} (q:Bf D a b):Bf L a b:=by
 obtain⟨pre,l,post,e,h1,h2,h3⟩:=q
 obtain⟨p',q',e1,h4⟩:=h.ord pre l post e
 exact⟨p',l,q',e1,h1,fun l' hl'=>h2 l' (h4 l' hl'),h3⟩
structure Fnd (L:List (List Nat)) (l m:List Nat) (ks:List Nat):Prop where
 nd:ks.Nodup
 mem:∀n,n∈ks↔(∃x∈L,n∈x)∨n∈l
 ord:ks.Pairwise (Bf (L++[m]))
def Fnd.nil (m:List Nat):Fnd [] [] m []:=⟨.nil,fun n=>by simp,.nil⟩
def Fnd.add {L:List (List Nat)} {l m ks:List Nat} {n:Nat} (h:Fnd L l m ks) (hm:∀x∈l,x∈m∧x≤n) (hn:n∈m):Fnd L (l++[n]) m (Ld ks n):=by
 refine⟨Nm h.nd,fun x=>by rw[UE,h.mem];simp[or_assoc],?_⟩
 unfold Ld
 split
 ·exact h.ord
 ·rename_i nk
  rw[cC]
  refine⟨h.ord,by simp,fun a ha b hb=>?_⟩
  simp at hb
  subst hb
  have nL:∀x∈L,¬b∈x:=fun x hx z=>nk ((h.mem b).mpr (.inl ⟨x,hx,z⟩))
  rcases(h.mem a).mp ha with⟨x,hx,hax⟩ | hal
  ·obtain⟨pre,post,e⟩:=x3 hx
   refine⟨pre,x,post++[m],by rw[e];simp,hax,fun l' hl'=>nL l' (by rw[e];exact aS _ hl'),fun z=>absurd z (nL x hx)⟩
  ·obtain⟨h1,h2⟩:=hm a hal
   refine⟨L,m,[],rfl,h1,nL,fun _=>?_⟩
   have:a≠b:=fun e=>nk (e▸ha)
   omega
def Fnd.next {L:List (List Nat)} {l m ks:List Nat} (h:Fnd L l m ks) (p:∀x,x∈l↔x∈m) (m':List Nat):Fnd (L++[m]) [] m' ks:=by
 refine⟨h.nd,fun n=>?_,h.ord.imp fun q=>q.more _⟩
 rw[h.mem,p]
 constructor
 ·rintro(⟨x,hx,hn⟩ | hn)
  ·exact .inl ⟨x,aS _ hx,hn⟩
  ·exact .inl ⟨m,by simp,hn⟩
 ·rintro(⟨x,hx,hn⟩ | hn)
  ·rcases aX.mp hx with hx | hx
   ·exact .inl ⟨x,hx,hn⟩
   ·simp at hx;subst hx;exact .inr hn
  ·cases hn
def HY {l:List Nat} {ns:List Int} (p:ns.Perm (l.map fun(n:Nat)=>(n:Int))) (q:ns.Pairwise (·≤·)):∃l':List Nat,ns=l'.map (fun(n:Nat)=>(n:Int))∧l'.Perm l∧l'.Pairwise (·≤·):=by
 refine⟨ns.map Fh,?_,?_,?_⟩
 ·rw[bD]
  conv=>lhs;rw[← pR ns]
  refine fT fun z hz=>?_
  obtain⟨n,_,rfl⟩:=aR.mp (p.mem_iff.mp hz)
  simp
 ·have:=p.map Fh
  rw[bD]at this
  have e:(Fh∘fun(n:Nat)=>(n:Int))=id:=by funext n;simp
  rw[e,pR]at this
  exact this
 ·rw[b7]
  exact q.imp fun h=>by omega
def kN (l:List Nat):List Key:=l.map fun(n:Nat)=>dR (n:Int)
def aci (l:List Nat):(kN l).map kV=nv l:=by unfold kN nv;rw[bD];rfl
theorem aaE:∀{a b:List Nat},kN a=kN b→a=b
 | [],[],_=>rfl
 | [],_::_,h=>by cases h
 | _::_,[],h=>by cases h
 | x::a,y::b,h=>by
  unfold kN at h
  rw[aT,aT]at h
  injection h with h1 h2
  injection h1 with h1
  rw[aaE (a:=a) (b:=b) h2,show x=y by omega]
def md {α κ:Type} (f:α→κ) (D:List α):List (κ×V):=D.map fun x=>(f x,.bl true)
def QA {α κ:Type} [DecidableEq α] [DecidableEq κ] {f:α→κ} (inj:∀a b,f a=f b→a=b) (D:List α) (l:α):putK (md f D) (f l) (.bl true)=md f (Ld D l):=by
 unfold putK Ld md
 by_cases h:l∈D
 ·rw[if_pos h,if_pos (cA.mpr ⟨(f l,.bl true),aR.mpr ⟨l,h,rfl⟩,by simp⟩)]
  rw[bD]
  refine fT fun x _=>?_
  show(if f x=f l then(f x,V.bl true)else(f x,V.bl true))=_
  split <;> rfl
 ·rw[if_neg h,if_neg,bz]
  ·rfl
  ·intro z
   obtain⟨kv,hkv,e⟩:=cA.mp z
   obtain⟨x,hx,rfl⟩:=aR.mp hkv
   have:=inj _ _ (show f x=f l by simpa using e)
   exact h (this▸hx)
def QB {α κ:Type} [DecidableEq κ] {f:α→κ} (inj:∀a b,f a=f b→a=b) (D:List α) (l:α):(iL (md f D) (f l)).isSome=true↔l∈D:=by
 rw[← wo,cA]
 unfold md
 constructor
 ·rintro⟨kv,hkv,e⟩
  obtain⟨x,hx,rfl⟩:=aR.mp hkv
  have:=inj _ _ (show f x=f l by simpa using e)
  exact this▸hx
 ·intro h
  exact⟨(f l,.bl true),aR.mpr ⟨l,h,rfl⟩,by simp⟩
def kI (n:Nat):Key:=dR (n:Int)
def qY (a b:Nat) (h:kI a=kI b):a=b:=by unfold kI at h;injection h with h;omega
def R6:Sp:=fun vs H Q _=>EX3 fun(a:Addr) (ps:List Addr) (ls:List (List Nat))=>vs=[.ref a]∧Rd H a (.lst (ps.map V.ref))∧Paired (fun p l=>H p=some (.tup (nv l))) ps ls∧ls.length < ag∧(∀l∈ls,∀n∈l,n < 10000)∧
 ∀q H' ks,aM H H'→H q=none→H' q=some (.dK (md kI ks))→ks.Nodup→(∀n,n∈ks↔∃l∈ls,n∈l)→ks.Pairwise (Bf ls)→Q (.ref q) H'
def Aw (T:Tx K mg t):aZ P w K mg base cH 1 t.lu t.lz jB R6:=by
 refine T.tu.fn.ok ja (fun vs H Q E h=>?_) (fun cdv A outer s H vs Q E hr h=>?_)
 ·obtain⟨a,ps,ls,rfl,_⟩:=h
  rfl
 ·obtain⟨a,ps,ls,rfl,hl,hP,hz,hb,k⟩:=h
  have zl:ag=16777216:=bS
  refine⟨_,(ai (bP (i:=1) ja.nd rfl (bc rfl) ZY)
   (ai (mi cS rfl (dQ (pv 0)) (da (i:=2) ja.nd rfl (bc rfl)) (ao (G6 (iY hr) (pv 1) (pv 2) PQ rfl)))
   (ai (bP (i:=3) ja.nd rfl (bc rfl) G7)
   (ai (Lu (mi cS rfl (G9 (pv 1)) (da (i:=2) ja.nd rfl (bc rfl)) (ao (mi cS rfl (dQ (cT A3 rfl T.Ec rfl (aa (pv 2) ah))) (da (i:=4) ja.nd rfl (bc rfl)) (ao (G6 (iY hr) (pv 3) (pv 4) PQ rfl))))))
   (ao (aU (pv 3))))))),?_⟩
  refine fun d hd=>?_
  have s1:aM H (upd H d (.dT [])):=bR hd
  refine⟨_,rfl,a,rfl,⟨_,.inl (hJ s1 hl)⟩,lj (K:=K) (a:=a) (xs:=ps.map V.ref) (fun i σ H'=>∃(v:Option V) (D:List (List Nat)),σ=[some (.ref a),some (.ref d),v,none,none]∧aM H H'∧H' d=some (.dT (md kN D))∧Diff (ls.take i) D)
   ⟨none,[],rfl,s1,af,.nil⟩ (fun i σ H' _ ⟨_,_,_,s2,_⟩=>.inl (hJ s2 hl)) ?_ ?_⟩
  ·rintro i y σ H' hi ⟨v,D,rfl,s2,hd',df⟩
   obtain⟨p,ep,rfl⟩:=gD hi
   obtain⟨l,el,hp⟩:=cQ hP ep
   have hDl:D.length≤i:=by
    have h1:=df.nd
    have:D.length≤(ls.take i).length:=J4 h1 fun x hx=>(df.mem x).mp hx
    rw[cc]at this;omega
   have hil:=(ay.mp el).1
   refine⟨_,rfl,_,rfl,d,_,rfl,L0.t (k:=kN l) hd' (by rw[aci];exact s2 _ _ hp) (by unfold md;rw[ab];omega),?_⟩
   refine⟨_,Ld D l,rfl,cB s2 hd,?_,?_⟩
   ·rw[af,QA (fun _ _=>aaE)]
   ·rw[take_snoc el];exact df.add l
  ·rintro σ H' ⟨v,D,rfl,s2,hd',df⟩
   rw[ab,b9 hP,cz]at df
   refine fun f hf=>?_
   have s3:aM H (upd H' f (.dK [])):=cB s2 (s2.free hf)
   have nfd:d≠f:=a9 hd' hf
   have hDb:∀l∈D,∀n∈l,n < 10000:=fun l hl=>hb l ((df.mem l).mp hl)
   refine⟨d,.dT (md kN D),by rw[aD nfd];exact hd',trivial,fun od=>?_⟩
   have s4:aM H (upd (upd H' f (.dK [])) d (.iK od (.dT (md kN D)))):=cB s3 hd
   refine⟨_,rfl,d,od,rfl,.inr ⟨_,af,YI (d:=d) (o:=od) (kvs:=md kN D) (fun i σ H'=>∃(v2 v4:Option V) (ks:List Nat),σ=[some (.ref a),some (.ref d),v2,some (.ref f),v4]∧aM H H'∧H' d=some (.iK od (.dT (md kN D)))∧H' f=some (.dK (md kI ks))∧∀m,Fnd (D.take i) [] m ks)
    ⟨v,none,[],rfl,s4,af,by rw[aD (dv nfd),af];rfl,fun m=>.nil m⟩ (fun i σ H' _ ⟨_,_,_,_,_,h,_⟩=>h) ?_ ?_⟩⟩
   ·rintro i kk vv p σ H2 hkv hp ⟨v2,v4,ks,rfl,s5,hd5,hf5,fn⟩
    obtain⟨l,el,e⟩:=(show∃l,D[i]? =some l∧(kk,vv)=(kN l,V.bl true)by
     unfold md at hkv
     rw[b0]at hkv
     cases e:D[i]? with
     | none=>rw[e]at hkv;cases hkv
     | some l=>rw[e]at hkv;exact⟨l,rfl,(bu hkv).symm⟩)
    cases e
    rw[aci]at hp
    have hli:=hDb l (a7 el)
    refine⟨_,rfl,p,l.map (fun(n:Nat)=>(n:Int)),rfl,iB.of (by rw[bD];exact hp),fun ns' q pm srt hq=>?_⟩
    obtain⟨l',rfl,pm,srt⟩:=HY pm srt
    have s6:aM H (upd H2 q (.lst ((l'.map fun(n:Nat)=>(n:Int)).map V.int))):=cB s5 (s5.free hq)
    have nqd:d≠q:=a9 hd5 hq
    have nqf:f≠q:=a9 hf5 hq
    refine⟨q,rfl,⟨_,g6.of af⟩,lj (K:=K) (a:=q) (xs:=(l'.map fun(n:Nat)=>(n:Int)).map V.int) (fun j σ H'=>∃(v4:Option V) (ks:List Nat),σ=[some (.ref a),some (.ref d),some (.ref p),some (.ref f),v4]∧aM H H'∧H' q=some (.lst ((l'.map fun(n:Nat)=>(n:Int)).map V.int))∧H' d=some (.iK od (.dT (md kN D)))∧H' f=some (.dK (md kI ks))∧Fnd (D.take i) (l'.take j) l ks)
     ⟨v4,ks,rfl,s6,af,by rw[aD nqd];exact hd5,by rw[aD nqf];exact hf5,fn l⟩ (fun j σ H' _ ⟨_,_,_,_,h,_⟩=>g6.of h) ?_ ?_⟩
    ·rintro j y σ H3 hj ⟨v4',ks',rfl,s7,hq7,hd7,hf7,fn7⟩
     rw[bD]at hj
     obtain⟨n,en,rfl⟩:=get_map hj
     have hnl:n∈l:=pm.mem_iff.mp (a7 en)
     have hkl:ks'.length≤10000:=Mt.kj _ _ fn7.nd fun x hx=>by
      rcases(fn7.mem x).mp hx with⟨z,hz,hxz⟩ | hx
      ·exact hDb z (eJ hz) x hxz
      ·exact hli x (pm.mem_iff.mp (eJ hx))
     refine⟨_,rfl,_,rfl,f,_,rfl,L0.k (k:=kI n) hf7 (by unfold md;rw[ab];omega),?_⟩
     refine⟨_,Ld ks' n,rfl,cB s7 (s2.free hf),by rw[aD (dv nqf)];exact hq7,by rw[aD nfd];exact hd7,?_,?_⟩
     ·rw[af,QA qY]
     ·rw[take_snoc en]
      refine fn7.add (fun x hx=>⟨pm.mem_iff.mp (eJ hx),?_⟩) hnl
      obtain⟨i',hi'⟩:=jR hx
      rw[GW]at hi'
      split at hi'
      ·rename_i lt
       have:=List.pairwise_iff_getElem.mp srt i' j (ay.mp hi').1 (ay.mp en).1 lt
       rw[(ay.mp hi').2,(ay.mp en).2]at this
       exact this
      ·cases hi'
    ·rintro σ H3 ⟨v4',ks',rfl,s7,hq7,hd7,hf7,fn7⟩
     rw[ab,ab,cz]at fn7
     refine⟨_,_,ks',rfl,s7,hd7,hf7,fun m=>?_⟩
     rw[take_snoc el]
     exact fn7.next (fun x=>pm.mem_iff) m
   ·rintro σ H2 ⟨v2,v4,ks,rfl,s5,hd5,hf5,fn⟩
    have fn:=fn []
    rw[show(md kN D).length=D.length from ab ..,cz]at fn
    refine⟨hd5,_,rfl,?_⟩
    refine k f _ ks (cB s5 hd) (s2.free hf) (by rw[aD (dv nfd)];exact hf5) fn.nd (fun n=>?_) ?_
    ·rw[fn.mem]
     constructor
     ·rintro(⟨x,hx,hn⟩ | hn)
      ·exact⟨x,(df.mem x).mp hx,hn⟩
      ·cases hn
     ·rintro⟨x,hx,hn⟩
      exact .inl ⟨x,(df.mem x).mpr hx,hn⟩
    ·refine fn.ord.imp fun q=>?_
     obtain⟨pre,l,post,e,h1,h2,h3⟩:=q
     rcases rS post with rfl | ⟨post0,z,rfl⟩
     ·exfalso
      obtain⟨e1,e2⟩:=sO e rfl
      cases e2
      cases h1
     ·rw[rT,← dW,← bM]at e
      obtain⟨e1,e2⟩:=sO e rfl
      exact df.bf ⟨pre,l,post0,e1,h1,h2,h3⟩
open Mt (GS)
structure Own where
 ca:Addr
 cd:Addr
 bd:Addr
 zs:List (Addr×Addr)
def Own.has (W:Own) (sh b:Addr):Prop:=b=sh∨b=W.ca∨b=W.cd∨b=W.bd∨∃z∈W.zs,b=z.1∨b=z.2
def abP (H:Hp) (r:Addr) (y:IL):Prop:=∃ta,H r=some (.tup [.int (y.author:Int),.int (y.time:Int),.ref ta])∧Kn H ta (nv y.text)
structure Vm (t:pH) (H:Hp) (a rp dx qa ta:Addr) (fs:List (Str×V)) (x:aw):Prop where
 at_:H a=some (.ins t.dn dx fs)
 Ek:fs.lookup ("author":Str)=some (.int (x.author:Int))
 HH:fs.lookup ("time":Str)=some (.int (x.time:Int))
 WE:fs.lookup ("quote":Str)=some (.ref qa)
 Zs:fs.lookup ("text":Str)=some (.ref ta)
 Vn:fs.lookup ("replies":Str)=some (.ref rp)
 SI:fs.lookup ("solved":Str)=some (.bl x.solved)
 x9:fs.length < 1000
 qu:Kn H qa (nv x.quote)
 tx:Kn H ta (nv x.text)
 rp:∃rs,H rp=some (.lst (rs.map V.ref))∧Paired (abP H) rs x.replies
def ud (t:pH) (H:Hp) (z:Addr×Addr) (x:aw):Prop:=∃dx qa ta fs,Vm t H z.1 z.2 dx qa ta fs x
def jd (zs:List (Addr×Addr)) (cs:List aw):List (Key×V):=(zs.zip cs).map fun z=>(kI z.2.num,.ref z.1.1)
def j1 (ns:List Addr) (ms:List bT):List (Key×V):=(ns.zip ms).map fun z=>(kI z.2.id,.ref z.1)
structure AN (t:pH) (H:Hp) (sh:Addr) (W:Own) (ra dx:Addr) (fs:List (Str×V)) (ns:List Addr) (s:GS):Prop where
 doc:eX t H sh W.ca ra dx fs s.doc
 lcm:fs.lookup ("comments":Str)=some (.ref W.cd)
 lcn:fs.lookup ("comments_made":Str)=some (.int ((s.nextComment:Int) - 1))
 QC:fs.lookup ("bookmarks":Str)=some (.ref W.bd)
 lbn:fs.lookup ("bookmarks_made":Str)=some (.int ((s.nextMark:Int) - 1))
 cd:H W.cd=some (.dK (jd W.zs s.comments))
 QD:Paired (ud t H) W.zs s.comments
 bd:H W.bd=some (.dK (j1 ns s.marks))
 SJ:Paired (fun a (b:bT)=>Kn H a (nv b.name)) ns s.marks
 XQ:(W.zs.map (·.1)).Nodup
 XR:(W.zs.map (·.2)).Nodup
 SK:∀z∈W.zs,z.2≠W.ca
 Y0:W.cd≠W.bd
def rO (t:pH) (H:Hp) (sh:Addr) (W:Own) (s:GS):Prop:=∃ra dx fs ns,AN t H sh W ra dx fs ns s
def B5 (t:pH) (H H':Hp):Prop:=∀b o,H b=some o→(∀dx fs,o≠.ins t.cE dx fs)→H' b=some o
def B5.same {t:pH} {H H':Hp} (s:aM H H'):B5 t H H':=fun b o e _=>s b o e
def Kn.kr {t:pH} {H H':Hp} {a:Addr} {xs:List V} (h:Kn H a xs) (k:B5 t H H'):Kn H' a xs:=let ⟨o,e⟩:=h;⟨o,k _ _ e (by intro _ _ z;cases z)⟩
def abP.kr {t:pH} {H H':Hp} {r:Addr} {y:IL} (h:abP H r y) (k:B5 t H H'):abP H' r y:=let ⟨ta,e,h⟩:=h;⟨ta,k _ _ e (by intro _ _ z;cases z),h.kr k⟩
def JK {C C':Addr} {dx:Addr} {fs:List (Str×V)} (h:C≠C'):∀dx' fs',(HO.ins C dx fs)≠.ins C' dx' fs':=fun _ _ z=>by cases z;exact h rfl
def Vm.kr (T:Tx K mg t) {H H':Hp} {a rp dx qa ta:Addr} {fs:List (Str×V)} {x:aw} (h:Vm t H a rp dx qa ta fs x) (k:B5 t H H'):Vm t H' a rp dx qa ta fs x:=by
 obtain⟨rs,e,p⟩:=h.rp
 exact⟨k _ _ h.at_ (JK T.qS),h.Ek,h.HH,h.WE,h.Zs,h.Vn,h.SI,h.x9,h.qu.kr k,h.tx.kr k,rs,k _ _ e (by intro _ _ z;cases z),Paired.oX p fun _ _ z=>z.kr k⟩
def kR.kr (T:Tx K mg t) {H H':Hp} {a:Addr} {row:List Piece} (h:kR t.aj H a row) (k:B5 t H H'):kR t.aj H' a row:=h.kp fun b o e im=>k b o e fun dx fs z=>by
 subst z;exact T.yO im.symm
def eX.kr (T:Tx K mg t) {H H':Hp} {sh ca ra dx:Addr} {fs:List (Str×V)} {d:aC} (h:eX t H sh ca ra dx fs d) (k:B5 t H H'):eX t H' sh ca ra dx fs d:=
 ⟨k _ _ h.at_ (JK T.uN),h.Ek,h.HH,h.WA,h.Vl,h.zT,h.x9,k _ _ h.Kt (by intro _ _ z;cases z),h.row.kr T k⟩
def AN.kr (T:Tx K mg t) {H H':Hp} {sh:Addr} {W:Own} {ra dx:Addr} {fs:List (Str×V)} {ns:List Addr} {s:GS} (h:AN t H sh W ra dx fs ns s) (k:B5 t H H'):AN t H' sh W ra dx fs ns s:=
 ⟨h.doc.kr T k,h.lcm,h.lcn,h.QC,h.lbn,k _ _ h.cd (by intro _ _ z;cases z),Paired.oX h.QD fun _ _ ⟨dx,qa,ta,fs,z⟩=>⟨dx,qa,ta,fs,z.kr T k⟩,k _ _ h.bd (by intro _ _ z;cases z),Paired.oX h.SJ fun _ _ z=>z.kr k,h.XQ,h.XR,h.SK,h.Y0⟩
def rO.kr (T:Tx K mg t) {H H':Hp} {sh:Addr} {W:Own} {s:GS} (h:rO t H sh W s) (k:B5 t H H'):rO t H' sh W s:=let ⟨ra,dx,fs,ns,v⟩:=h;⟨ra,dx,fs,ns,v.kr T k⟩
def AN.same (T:Tx K mg t) {H H':Hp} {sh:Addr} {W:Own} {ra dx:Addr} {fs:List (Str×V)} {ns:List Addr} {s:GS} (h:AN t H sh W ra dx fs ns s) (k:aM H H'):AN t H' sh W ra dx fs ns s:=h.kr T (B5.same k)
theorem sE {α β:Type} {F:α→β→Prop}:∀{a:List α} {c:List β} {x:α},Paired F a c→x∈a→∃y∈c,F x y
 | _,_,_,.nil,h=>by cases h
 | _,_,_,.cons r t,h=>by
  rcases bx.mp h with rfl | h
  ·exact⟨_,aE ..,r⟩
  ·obtain⟨x,hx,e⟩:=sE t h
   exact⟨x,aI _ hx,e⟩
def AN.there {H:Hp} {sh:Addr} {W:Own} {ra dx:Addr} {fs:List (Str×V)} {ns:List Addr} {s:GS} (h:AN t H sh W ra dx fs ns s) {b:Addr} (hb:W.has sh b):∃o,H b=some o:=by
 rcases hb with rfl | rfl | rfl | rfl | ⟨z,hz,hb⟩
 ·exact⟨_,h.doc.at_⟩
 ·exact⟨_,h.doc.Kt⟩
 ·exact⟨_,h.cd⟩
 ·exact⟨_,h.bd⟩
 ·obtain⟨x,_,dx,qa,ta,fs,v⟩:=sE h.QD hz
  rcases hb with rfl | rfl
  ·exact⟨_,v.at_⟩
  ·obtain⟨rs,e,_⟩:=v.rp
   exact⟨_,e⟩
theorem xJ {α β:Type} {F G:α→β→Prop}:∀{a:List α} {c:List β},Paired F a c→(∀x∈a,∀y∈c,F x y→G x y)→Paired G a c
 | _,_,.nil,_=>.nil
 | _,_,.cons r t,f=>.cons (f _ (aE ..) _ (aE ..) r) (xJ t fun x hx y hy=>f x (aI _ hx) y (aI _ hy))
def AN.JL (T:Tx K mg t) {H H':Hp} {sh:Addr} {W:Own} {ra ra' dx:Addr} {fs fs':List (Str×V)} {ns:List Addr} {s:GS} {d':aC} (h:AN t H sh W ra dx fs ns s) (hd:eX t H' sh W.ca ra' dx fs' d') (hf:UB fs fs') (k:∀b o,H b=some o→b≠sh→b≠W.ca→H' b=some o):
  AN t H' sh W ra' dx fs' ns {s with doc:=d'}:=by
 have kk:∀b o,H b=some o→(∀dx fs,o≠.ins t.cu dx fs)→(∀xs,o≠.lst xs)→H' b=some o:=fun b o e n1 n2=>k b o e (d5 e h.doc.at_ (n1 _ _)) (d5 e h.doc.Kt (n2 _))
 have kf:∀a xs,Kn H a xs→Kn H' a xs:=fun a xs ⟨o,e⟩=>⟨o,kk _ _ e (by intro _ _ z;cases z) (by intro _ z;cases z)⟩
 refine⟨hd,by rw[hf _ (by decide+kernel) (by decide+kernel) (by decide+kernel) (by decide+kernel)];exact h.lcm,by rw[hf _ (by decide+kernel) (by decide+kernel) (by decide+kernel) (by decide+kernel)];exact h.lcn,
  by rw[hf _ (by decide+kernel) (by decide+kernel) (by decide+kernel) (by decide+kernel)];exact h.QC,by rw[hf _ (by decide+kernel) (by decide+kernel) (by decide+kernel) (by decide+kernel)];exact h.lbn,
  kk _ _ h.cd (by intro _ _ z;cases z) (by intro _ z;cases z),xJ h.QD fun z hz x _ ⟨dx,qa,ta,fs,v⟩=>⟨dx,qa,ta,fs,?_⟩,kk _ _ h.bd (by intro _ _ z;cases z) (by intro _ z;cases z),Paired.oX h.SJ fun a b z=>kf _ _ z,h.XQ,h.XR,h.SK,h.Y0⟩
 obtain⟨rs,e,p⟩:=v.rp
 refine⟨kk _ _ v.at_ (JK T.kK) (by intro _ z;cases z),v.Ek,v.HH,v.WE,v.Zs,v.Vn,v.SI,v.x9,kf _ _ v.qu,kf _ _ v.tx,rs,?_,Paired.oX p fun r y ⟨ta,e,q⟩=>⟨ta,kk _ _ e (by intro _ _ z;cases z) (by intro _ z;cases z),kf _ _ q⟩⟩
 exact k _ _ e (d5 e h.doc.at_ (by intro z;cases z)) (h.SK z hz)
def Fin (t:pH) (H:Hp) (sh:Addr) (W:Own) (s':GS) (as:List Int) (Q:VK):Prop:=
 ∀l H' W',H l=none→H' l=some (.lst (as.map V.int))→rO t H' sh W' s'→(∀b o,H b=some o→¬W.has sh b→H' b=some o)→(∀b,W'.has sh b→W.has sh b∨H b=none)→¬W'.has sh l→Q (.ref l) H'
def Fin.same (T:Tx K mg t) {H H1:Hp} {sh:Addr} {W:Own} {ra dx:Addr} {fs:List (Str×V)} {ns:List Addr} {s:GS} {as:List Int} {Q:VK} (k:Fin t H sh W s as Q) (h:AN t H sh W ra dx fs ns s) (s1:aM H H1) {l:Addr} (hl:H l=none) (e:H1 l=some (.lst (as.map V.int))):Q (.ref l) H1:=
 k l H1 W hl e ⟨ra,dx,fs,ns,h.same T s1⟩ (fun b o e _=>s1 _ _ e) (fun b hb=>.inl hb) fun z=>by
  obtain⟨o,eo⟩:=h.there z
  rw[hl]at eo;cases eo
def Fin.refuse (T:Tx K mg t) {H H1:Hp} {sh:Addr} {W:Own} {ra dx:Addr} {fs:List (Str×V)} {ns:List Addr} {s:GS} {n:Int} {Q:VK} (k:Fin t H sh W s [n] Q) (h:AN t H sh W ra dx fs ns s) (s1:aM H H1) {l:Addr} (hl:H1 l=none):Q (.ref l) (upd H1 l (.lst [.int n])):=
 k.same T h (cB s1 (s1.free hl)) (s1.free hl) af
def Fin.doc (T:Tx K mg t) {H H':Hp} {sh:Addr} {W:Own} {ra ra' dx:Addr} {fs fs':List (Str×V)} {ns:List Addr} {s:GS} {d':aC} {as:List Int} {Q:VK} (k:Fin t H sh W {s with doc:=d'} as Q) (h:AN t H sh W ra dx fs ns s) {l:Addr} (hl:H l=none) (e:H' l=some (.lst (as.map V.int)))
  (hd:eX t H' sh W.ca ra' dx fs' d') (hf:UB fs fs') (kp:∀b o,H b=some o→b≠sh→b≠W.ca→H' b=some o):Q (.ref l) H':=
 k l H' W hl e ⟨ra',dx,fs',ns,h.JL T hd hf kp⟩ (fun b o e n=>kp b o e (fun z=>n (.inl z)) fun z=>n (.inr (.inl z))) (fun b hb=>.inl hb) fun z=>by
  obtain⟨o,eo⟩:=h.there z
  rw[hl]at eo;cases eo
structure GOk (s:GS):Prop where
 good:Mt.Good s
 doc:DocOk s.doc
 nc:s.nextComment≤1000
 nm:s.nextMark≤1000
 rep:∀c∈s.comments,c.replies.length≤1000
def UG {α β:Type} {a:List α} {b:List β} (h:a.length=b.length) (x:α) (y:β):(a++[x]).zip (b++[y])=a.zip b++[(x,y)]:=by rw[uY h];rfl
def Y1 {zs:List (Addr×Addr)} {cs:List aw} (h:zs.length=cs.length) (z:Addr×Addr) (x:aw):jd (zs++[z]) (cs++[x])=jd zs cs++[(kI x.num,.ref z.1)]:=by
 unfold jd;rw[UG h,bz];rfl
def Nn {z1 z2:List (Addr×Addr)} {c1 c2:List aw} (h:z1.length=c1.length) (z:Addr×Addr) (x:aw):jd (z1++z::z2) (c1++x::c2)=jd z1 c1++(kI x.num,.ref z.1)::jd z2 c2:=by
 unfold jd;rw[uY h,bz,dM,aT]
def aaF {z1 z2:List (Addr×Addr)} {c1 c2:List aw} (h:z1.length=c1.length):jd (z1++z2) (c1++c2)=jd z1 c1++jd z2 c2:=by
 unfold jd;rw[uY h,bz]
def HZ {zs:List (Addr×Addr)} {cs:List aw} (h:zs.length=cs.length):(jd zs cs).length=cs.length:=by
 unfold jd;rw[ab,gU,h,iV]
theorem JM:∀{zs:List (Addr×Addr)} {cs:List aw},zs.length=cs.length→(jd zs cs).map (·.1)=cs.map fun x=>kI x.num
 | [],[],_=>rfl
 | _::zs,_::cs,h=>by
  have:=JM (zs:=zs) (cs:=cs) (by simpa using h)
  unfold jd at this⊢
  rw[dM,aT,aT,this];rfl
theorem R7 {c:Int}:∀{zs:List (Addr×Addr)} {cs:List aw},zs.length=cs.length→
  (iL (jd zs cs) (dR c)=none∧cs.find? (fun x=>(x.num:Int)==c)=none)∨
  ∃z1 z z2 c1 x c2,zs=z1++z::z2∧cs=c1++x::c2∧z1.length=c1.length∧(x.num:Int)=c∧cs.find? (fun x=>(x.num:Int)==c)=some x∧iL (jd zs cs) (dR c)=some (.ref z.1)
 | [],[],_=>.inl ⟨rfl,rfl⟩
 | z::zs,x::cs,h=>by
  have hl:zs.length=cs.length:=by simpa using h
  by_cases e:(x.num:Int)=c
  ·refine .inr ⟨[],z,zs,[],x,cs,rfl,rfl,rfl,e,?_,?_⟩
   ·rw[gh,show((x.num:Int)==c)=true by simpa using e]
   ·unfold jd
    rw[dM,aT]
    exact kg (show kI x.num=dR c by unfold kI;rw[e])
  ·have ne:¬kI x.num=dR c:=fun z=>e (by unfold kI at z;injection z)
   have ev:iL (jd (z::zs) (x::cs)) (dR c)=iL (jd zs cs) (dR c):=by
    unfold jd
    rw[dM,aT]
    exact kh ne
   have ef:(x::cs).find? (fun x=>(x.num:Int)==c)=cs.find? (fun x=>(x.num:Int)==c):=by
    rw[gh,show((x.num:Int)==c)=false by simpa using e]
   rcases R7 (c:=c) hl with⟨h1,h2⟩ | ⟨z1,z',z2,c1,x',c2,rfl,rfl,hl1,en,h1,h2⟩
   ·exact .inl ⟨ev.trans h1,ef.trans h2⟩
   ·exact .inr ⟨z::z1,z',z2,x::c1,x',c2,rfl,rfl,by simp[hl1],en,ef.trans h1,ev.trans h2⟩
def Fb {c1 c2:List aw} {x:aw} (h:(c1++x::c2).Pairwise fun a b=>a.num < b.num):(∀y∈c1,y.num≠x.num)∧∀y∈c2,y.num≠x.num:=by
 rw[cC,c5]at h
 obtain⟨_,⟨h2,_⟩,h3⟩:=h
 exact⟨fun y hy=>cI (h3 y hy x (aE ..)),fun y hy=>Sr (h2 y hy)⟩
def Np {c1 c2:List aw} {x:aw} (h:(c1++x::c2).Pairwise fun a b=>a.num < b.num) (f:aw→aw):(c1++x::c2).map (fun y=>if y.num=x.num then f y else y)=c1++f x::c2:=by
 obtain⟨h1,h2⟩:=Fb h
 rw[bz,aT,if_pos rfl]
 have e1:c1.map (fun y=>if y.num=x.num then f y else y)=c1:=by
  conv=>rhs;rw[← pR c1]
  exact fT fun y hy=>by rw[if_neg (h1 y hy)];rfl
 have e2:c2.map (fun y=>if y.num=x.num then f y else y)=c2:=by
  conv=>rhs;rw[← pR c2]
  exact fT fun y hy=>by rw[if_neg (h2 y hy)];rfl
 rw[e1,e2]
def WG {c1 c2:List aw} {x:aw} (h:(c1++x::c2).Pairwise fun a b=>a.num < b.num):(c1++x::c2).filter (fun y=>y.num !=x.num)=c1++c2:=by
 obtain⟨h1,h2⟩:=Fb h
 rw[dt,bK,if_neg (by simp),dz.mpr fun y hy=>by simpa using h1 y hy,dz.mpr fun y hy=>by simpa using h2 y hy]
def QE {κ:Type} [DecidableEq κ] {a b:List (κ×V)} {k:κ} {v:V} (h1:∀p∈a,p.1≠k) (h2:∀p∈b,p.1≠k):z9 (a++(k,v)::b) k=a++b:=by
 unfold z9
 rw[dt,bK,if_neg (by simp),dz.mpr fun y hy=>by simpa using h1 y hy,dz.mpr fun y hy=>by simpa using h2 y hy]
def UH {zs:List (Addr×Addr)} {cs:List aw} {p:Key×V} (h:p∈jd zs cs):∃x∈cs,p.1=kI x.num:=by
 unfold jd at h
 obtain⟨z,hz,rfl⟩:=aR.mp h
 exact⟨z.2,(jG hz).2,rfl⟩
def Vm.other (T:Tx K mg t) {H H':Hp} {a rp dx qa ta:Addr} {fs:List (Str×V)} {x:aw} {b c:Addr} (h:Vm t H a rp dx qa ta fs x) (ha:a≠b) (hr:rp≠c) (k:∀d o,H d=some o→d≠b→d≠c→H' d=some o) (hb:∃dx' fs',H b=some (.ins t.dn dx' fs')) (hc:∃xs,H c=some (.lst xs)):Vm t H' a rp dx qa ta fs x:=by
 obtain⟨dx',fs',hb⟩:=hb
 obtain⟨xs,hc⟩:=hc
 have kk:∀d o,H d=some o→(∀dx fs,o≠.ins t.dn dx fs)→(∀xs,o≠.lst xs)→H' d=some o:=fun d o e n1 n2=>k d o e (d5 e hb (n1 _ _)) (d5 e hc (n2 _))
 have kf:∀a xs,Kn H a xs→Kn H' a xs:=fun a xs ⟨o,e⟩=>⟨o,kk _ _ e (by intro _ _ z;cases z) (by intro _ z;cases z)⟩
 obtain⟨rs,e,p⟩:=h.rp
 exact⟨k _ _ h.at_ ha (d5 h.at_ hc (by intro z;cases z)),h.Ek,h.HH,h.WE,h.Zs,h.Vn,h.SI,h.x9,kf _ _ h.qu,kf _ _ h.tx,rs,k _ _ e (d5 e hb (by intro z;cases z)) hr,Paired.oX p fun r y ⟨ta,e,q⟩=>⟨ta,kk _ _ e (by intro _ _ z;cases z) (by intro _ z;cases z),kf _ _ q⟩⟩
def AN.aaG (T:Tx K mg t) {H H':Hp} {sh:Addr} {W:Own} {ra dx:Addr} {fs:List (Str×V)} {ns:List Addr} {s:GS} {z1 z2:List (Addr×Addr)} {z:Addr×Addr} {c1 c2:List aw} {x x':aw} (h:AN t H sh W ra dx fs ns s)
  (ez:W.zs=z1++z::z2) (ec:s.comments=c1++x::c2) (hl:z1.length=c1.length) (hn:x'.num=x.num) (hx:ud t H' z x') (k:∀b o,H b=some o→b≠z.1→b≠z.2→H' b=some o):AN t H' sh W ra dx fs ns {s with comments:=c1++x'::c2}:=by
 have hc:=h.QD
 rw[ez,ec]at hc
 obtain⟨hc1,hc2⟩:=(show Paired (ud t H) z1 c1∧Paired (ud t H) (z::z2) (x::c2)by
  have g1:=pJ z1.length hc
  have g2:=kT z1.length hc
  rw[kP]at g1
  rw[gf]at g2
  rw[hl,kP]at g1
  rw[hl,gf]at g2
  exact⟨g1,g2⟩)
 cases hc2 with
 | cons hz hc2=>
 obtain⟨dx0,qa0,ta0,fs0,v0⟩:=hz
 obtain⟨rs0,er0,_⟩:=v0.rp
 have kk:∀d o,H d=some o→(∀dx fs,o≠.ins t.dn dx fs)→(∀xs,o≠.lst xs)→H' d=some o:=fun d o e n1 n2=>k d o e (d5 e v0.at_ (n1 _ _)) (d5 e er0 (n2 _))
 have XQ:=h.XQ
 have XR:=h.XR
 rw[ez,bz,aT]at XQ XR
 have oth:∀z'∈z1++z2,z'.1≠z.1∧z'.2≠z.2:=fun z' hz'=>by
  rw[iA,gT]at XQ XR
  rcases aX.mp hz' with hz' | hz'
  ·exact⟨XQ.2.2 _ (fS hz') _ (aE ..),XR.2.2 _ (fS hz') _ (aE ..)⟩
  ·exact⟨fun e=>XQ.2.1.1 (e▸fS hz'),fun e=>XR.2.1.1 (e▸fS hz')⟩
 have keep:∀z'∈z1++z2,∀y,ud t H z' y→ud t H' z' y:=fun z' hz' y ⟨dx,qa,ta,fs,v⟩=>⟨dx,qa,ta,fs,v.other T (oth z' hz').1 (oth z' hz').2 k ⟨_,_,v0.at_⟩ ⟨_,er0⟩⟩
 refine⟨⟨kk _ _ h.doc.at_ (JK (dv T.kK)) (by intro _ z;cases z),h.doc.Ek,h.doc.HH,h.doc.WA,h.doc.Vl,h.doc.zT,h.doc.x9,?_,?_⟩,h.lcm,h.lcn,h.QC,h.lbn,?_,?_,kk _ _ h.bd (by intro _ _ z;cases z) (by intro _ z;cases z),Paired.oX h.SJ fun a b ⟨o,e⟩=>⟨o,kk _ _ e (by intro _ _ z;cases z) (by intro _ z;cases z)⟩,h.XQ,h.XR,h.SK,h.Y0⟩
 ·exact k _ _ h.doc.Kt (d5 h.doc.Kt v0.at_ (by intro z;cases z)) (dv (h.SK z (by rw[ez];simp)))
 ·exact h.doc.row.kp fun b o e im=>kk b o e (fun _ _ z=>by subst z;exact T.xC im.symm) (fun _ z=>by subst z;exact im)
 ·have:=kk _ _ h.cd (by intro _ _ z;cases z) (by intro _ z;cases z)
  rw[this,ez,ec,Nn hl,Nn hl,hn]
 ·rw[ez]
  exact fF (xJ hc1 fun z' hz' y _ q=>keep z' (aS _ hz') y q) (.cons hx (xJ hc2 fun z' hz' y _ q=>keep z' (aF _ hz') y q))
def Y2 (t:pH) (H:Hp) (sh:Addr) (W:Own) (p:GS×List Int) (Q:VK):Prop:=Fin t H sh W p.1 p.2 Q
abbrev Ar:=List V→Hp→bw→Prop
def ue (t:pH) (args:Ar):Sp:=fun vs H Q _=>EX5 fun(sh:Addr) (W:Own) (s:GS) (C:bw) (as:List V)=>vs=.ref sh::as∧args as H C∧rO t H sh W s∧GOk s∧Y2 t H sh W (Mt.rs s C) Q
def a0 (C0:bw):Ar:=fun as _ C=>as=[]∧C=C0
def a1 (f:Int→bw):Ar:=fun as _ C=>∃c,as=[.int c]∧C=f c
def a2 (f:Int→Int→bw):Ar:=fun as _ C=>∃p q,as=[.int p,.int q]∧C=f p q
def a3 (f:Int→Int→Int→bw):Ar:=fun as _ C=>∃p q r,as=[.int p,.int q,.int r]∧C=f p q r
def aL (f:List Int→bw):Ar:=fun as H C=>∃a ns,as=[.ref a]∧Kn H a (ns.map V.int)∧ns.length≤20000∧C=f ns
def a1L (f:Int→List Int→bw):Ar:=fun as H C=>∃p a ns,as=[.int p,.ref a]∧Kn H a (ns.map V.int)∧ns.length≤20000∧C=f p ns
def a2L (f:Int→Int→List Int→bw):Ar:=fun as H C=>∃p q a ns,as=[.int p,.int q,.ref a]∧Kn H a (ns.map V.int)∧ns.length≤20000∧C=f p q ns
def aaH {s:GS} {c:EG} (h:∀n,(bq s.doc c).2=.refused n→(bq s.doc c).1=s.doc):Mt.vi s (x4 s c)=({s with doc:=(bq s.doc c).1},XM (bq s.doc c).2):=by
 unfold x4
 generalize bq s.doc c=x at h⊢
 obtain⟨d,a⟩:=x
 cases a with
 | told l=>rfl
 | refused n=>
  have e:d=s.doc:=h n rfl
  subst e;rfl
def WH (d:aC) (a:Int) (n:Nat) (h:(bq d (.author a)).2=.refused n):(bq d (.author a)).1=d:=by
 have ek:bq d (.author a)=if bo a 1 99=true then({d with author:=a.toNat},.told [0])else(d,.refused 2):=rfl
 rw[ek]at h⊢
 by_cases e:bo a 1 99=true
 ·rw[if_pos e]at h;cases h
 ·rw[if_neg e]
def Y3 (d:aC) (a:Int) (n:Nat) (h:(bq d (.clock a)).2=.refused n):(bq d (.clock a)).1=d:=by
 have ek:bq d (.clock a)=if a < 0 then(d,.refused 2)else if a < (d.time:Int)then(d,.refused 3)else({d with time:=a.toNat},.told [0]):=rfl
 rw[ek]at h⊢
 by_cases h1:a < 0
 ·rw[if_pos h1]
 ·rw[if_neg h1]at h⊢
  by_cases h2:a < (d.time:Int)
  ·rw[if_pos h2]
  ·rw[if_neg h2]at h;cases h
def Y4 (d:aC) (a:Int) (n:Nat) (h:(bq d (.track a)).2=.refused n):(bq d (.track a)).1=d:=by
 have ek:bq d (.track a)=if bo a 0 1=true then({d with tracking:=a==1},.told [0])else(d,.refused 2):=rfl
 rw[ek]at h⊢
 by_cases e:bo a 0 1=true
 ·rw[if_pos e]at h;cases h
 ·rw[if_neg e]
def abQ (d:aC) (p:Int) (l:List Int) (n:Nat) (h:(bq d (.put p l)).2=.refused n):(bq d (.put p l)).1=d:=by
 have ek:bq d (.put p l)=xX d p l:=rfl
 rw[ek]at h⊢
 unfold xX at h⊢
 by_cases h1:gi p (bJ d)=false
 ·rw[if_pos h1]
 ·rw[if_neg h1]at h⊢
  by_cases h2:(l.isEmpty||!l.all eU)=true
  ·rw[if_pos h2]
  ·rw[if_neg h2]at h;cases h
def abR (d:aC) (p q:Int) (n:Nat) (h:(bq d (.cut p q)).2=.refused n):(bq d (.cut p q)).1=d:=by
 have ek:bq d (.cut p q)=xY d p q:=rfl
 rw[ek]at h⊢
 unfold xY at h⊢
 by_cases h1:dZ p q (bJ d - 1)=false
 ·rw[if_pos h1]
 ·rw[if_neg h1]at h;cases h
def aaI (d:aC) (p q r:Int) (n:Nat) (h:(bq d (.move p q r)).2=.refused n):(bq d (.move p q r)).1=d:=by
 have ek:bq d (.move p q r)=u7 d p q r:=rfl
 rw[ek]at h⊢
 unfold u7 at h⊢
 by_cases h1:(dZ p q (bJ d - 1)&&gi r (bJ d))=false
 ·rw[if_pos h1]
 ·rw[if_neg h1]at h⊢
  by_cases h2:p≤r∧r≤q
  ·rw[if_pos h2]
  ·rw[if_neg h2]at h;cases h
def R8 (T:Tx K mg t) {H:Hp} {sh:Addr} {W:Own} {ra dx:Addr} {fs:List (Str×V)} {ns:List Addr} {s:GS} {c:EG} {C:bw} {Q:VK} (hC:Mt.rs s C=Mt.vi s (x4 s c)) (hr:∀n,(bq s.doc c).2=.refused n→(bq s.doc c).1=s.doc) (h:AN t H sh W ra dx fs ns s) (k:Y2 t H sh W (Mt.rs s C) Q):
  Gx t H sh W.ca dx fs (bq s.doc c) Q:=by
 rw[hC,aaH hr]at k
 exact fun l H' ra' fs' hl e hd hf kp=>Fin.doc T k h hl e hd (lV hf) kp
def R9 (T:Tx K mg t) {H:Hp} {sh:Addr} {W:Own} {ra dx:Addr} {fs:List (Str×V)} {ns:List Addr} {s:GS} {c:EG} {C:bw} {Q:VK} (hC:Mt.rs s C=Mt.vi s (x4 s c)) (hr:∀n,(bq s.doc c).2=.refused n→(bq s.doc c).1=s.doc) (h:AN t H sh W ra dx fs ns s) (k:Y2 t H sh W (Mt.rs s C) Q):
  aaC t H sh W.ca ra dx fs (bq s.doc c).1 (XM (bq s.doc c).2) Q:=by
 rw[hC,aaH hr]at k
 exact fun l H' fs' hl e hd hf kp=>Fin.doc T k h hl e hd hf fun b o e n1 _=>kp b o e n1
def UI (T:Tx K mg t) {H:Hp} {sh:Addr} {W:Own} {ra dx:Addr} {fs:List (Str×V)} {ns:List Addr} {s:GS} {v:Bool} {c:Int} {C:bw} {Q:VK} (hC:Mt.rs s C=Mt.vi s (Vatrkg.verdict s v c)) (h:AN t H sh W ra dx fs ns s) (k:Y2 t H sh W (Mt.rs s C) Q):
  HR t H sh W.ca dx fs v s.doc c Q:=by
 rw[hC,Mt.A2]at k
 unfold HR
 by_cases hw:bo c 0 s.doc.changes.length=true
 ·rw[if_pos hw]at k⊢
  exact fun l H' ra' fs' hl e hd hf kp=>Fin.doc T k h hl e hd (lV hf) kp
 ·rw[if_neg hw]at k⊢
  exact fun l H' ra' fs' hl e hd hf kp=>Fin.doc (d':=s.doc) T k h hl e hd (lV hf) kp
def O8 (T:Tx K mg t):aZ P w K mg base cH 1 t.vA t.vB p7 (ue t (a1 .author)):=(O6 T).imp fun vs H Q E h=>by
 obtain⟨sh,W,s,C,as,rfl,⟨c,rfl,rfl⟩,⟨ra,dx,fs,ns,v⟩,g,k⟩:=h
 exact⟨sh,W.ca,ra,dx,fs,s.doc,c,rfl,v.doc,R9 T rfl (WH _ _) v k⟩
def Sa (T:Tx K mg t):aZ P w K mg base cH 1 t.yB t.yC tR (ue t (a1 .clock)):=(R4 T).imp fun vs H Q E h=>by
 obtain⟨sh,W,s,C,as,rfl,⟨c,rfl,rfl⟩,⟨ra,dx,fs,ns,v⟩,g,k⟩:=h
 exact⟨sh,W.ca,ra,dx,fs,s.doc,c,rfl,v.doc,R9 T rfl (Y3 _ _) v k⟩
def Le (T:Tx K mg t):aZ P w K mg base cH 1 t.qC t.qD mD (ue t (a1 .track)):=(K9 T).imp fun vs H Q E h=>by
 obtain⟨sh,W,s,C,as,rfl,⟨c,rfl,rfl⟩,⟨ra,dx,fs,ns,v⟩,g,k⟩:=h
 exact⟨sh,W.ca,ra,dx,fs,s.doc,c,rfl,v.doc,R9 T rfl (Y4 _ _) v k⟩
def adv (T:Tx K mg t):aZ P w K mg base cH 7 t.Xu t.Xv T5 (ue t (a1L .put)):=(adq T).imp fun vs H Q E h=>by
 obtain⟨sh,W,s,C,as,rfl,⟨p,a,ms,rfl,hk,hl,rfl⟩,⟨ra,dx,fs,ns,v⟩,g,k⟩:=h
 exact⟨sh,W.ca,ra,dx,fs,s.doc,p,a,ms,rfl,v.doc,g.doc,hk,hl,R8 T rfl (abQ _ _ _) v k⟩
def adw (T:Tx K mg t):aZ P w K mg base cH 7 t.Xw t.Xx T6 (ue t (a2 .cut)):=(ads T).imp fun vs H Q E h=>by
 obtain⟨sh,W,s,C,as,rfl,⟨p,q,rfl,rfl⟩,⟨ra,dx,fs,ns,v⟩,g,k⟩:=h
 exact⟨sh,W.ca,ra,dx,fs,s.doc,p,q,rfl,v.doc,g.doc,R8 T rfl (abR _ _ _) v k⟩
def abS (T:Tx K mg t):aZ P w K mg base cH 7 t.RO t.RP MB (ue t (a3 .move)):=(abM T).imp fun vs H Q E h=>by
 obtain⟨sh,W,s,C,as,rfl,⟨p,q,r,rfl,rfl⟩,⟨ra,dx,fs,ns,v⟩,g,k⟩:=h
 exact⟨sh,W.ca,ra,dx,fs,s.doc,p,q,r,rfl,v.doc,g.doc,R8 T rfl (aaI _ _ _ _) v k⟩
def Y5 (T:Tx K mg t):aZ P w K mg base cH 4 t.Hs t.Ht DB (ue t (a1 .accept)):=(YY T).imp fun vs H Q E h=>by
 obtain⟨sh,W,s,C,as,rfl,⟨c,rfl,rfl⟩,⟨ra,dx,fs,ns,v⟩,g,k⟩:=h
 exact⟨sh,W.ca,ra,dx,fs,s.doc,c,rfl,v.doc,g.doc,UI T rfl v k⟩
def Y6 (T:Tx K mg t):aZ P w K mg base cH 4 t.Hu t.Hv DC (ue t (a1 .reject)):=(YZ T).imp fun vs H Q E h=>by
 obtain⟨sh,W,s,C,as,rfl,⟨c,rfl,rfl⟩,⟨ra,dx,fs,ns,v⟩,g,k⟩:=h
 exact⟨sh,W.ca,ra,dx,fs,s.doc,c,rfl,v.doc,g.doc,UI T rfl v k⟩
def cmF (au ti qu tx rp so:V):List (Str×V):=dB "solved" so (dB "replies" rp (dB "text" tx (dB "quote" qu (dB "time" ti (dB "author" au [])))))
def yS {s:GS} {c:Int} {f:aw→GS×List Int} (h:s.comments.find? (fun x=>(x.num:Int)==c)=none):Mt.rC s c f=(s,[-4]):=by unfold Mt.rC J5;rw[h]
def yT {s:GS} {c:Int} {f:aw→GS×List Int} {x:aw} (h:s.comments.find? (fun x=>(x.num:Int)==c)=some x):Mt.rC s c f=f x:=by unfold Mt.rC J5;rw[h]
def UJ {ns:List Int} (h:fV ns=true):ns.map V.int=nv (eF ns):=by
 unfold nv eF
 rw[bD]
 refine fT fun z hz=>?_
 unfold fV at h
 simp only[dh]at h
 have:=Mt.iC.mp (gC.mp h.2.2 z hz)
 show V.int z=V.int ((z.toNat:Nat):Int)
 congr 1
 omega
def AN.len {H:Hp} {sh:Addr} {W:Own} {ra dx:Addr} {fs:List (Str×V)} {ns:List Addr} {s:GS} (h:AN t H sh W ra dx fs ns s):W.zs.length=s.comments.length:=b9 h.QD
def uf {H:Hp} {sh:Addr} {W:Own} {ra dx:Addr} {fs:List (Str×V)} {ns:List Addr} {s:GS} (h:AN t H sh W ra dx fs ns s) (c:Int):
  (iL (jd W.zs s.comments) (dR c)=none∧s.comments.find? (fun x=>(x.num:Int)==c)=none)∨
  ∃z1 z z2 c1 x c2,W.zs=z1++z::z2∧s.comments=c1++x::c2∧z1.length=c1.length∧(x.num:Int)=c∧s.comments.find? (fun x=>(x.num:Int)==c)=some x∧iL (jd W.zs s.comments) (dR c)=some (.ref z.1)∧ud t H z x:=by
 rcases R7 (c:=c) h.len with z | ⟨z1,z,z2,c1,x,c2,ez,ec,hl,en,h1,h2⟩
 ·exact .inl z
 ·refine .inr ⟨z1,z,z2,c1,x,c2,ez,ec,hl,en,h1,h2,?_⟩
  have hc:=h.QD
  rw[ez,ec]at hc
  have g2:=kT z1.length hc
  rw[gf]at g2
  rw[hl,gf]at g2
  cases g2 with
  | cons q _=>exact q
def UK (t:pH):Sp:=fun vs H Q _=>EX6 fun(p dx:Addr) (au ti qu tx:V)=>vs=[.ref p,au,ti,qu,tx]∧H p=some (.ins t.dn dx [])∧∀rp H',H rp=none→H' p=some (.ins t.dn dx (cmF au ti qu tx (.ref rp) (.bl false)))→H' rp=some (.lst [])→(∀b o,H b=some o→b≠p→H' b=some o)→Q .non H'
def Lf (T:Tx K mg t):aZ P w K mg base cH 1 t.mP t.qO mH (UK t):=by
 refine T.BW.fn.ok K5 (fun vs H Q E h=>?_) (fun cdv A outer s H vs Q E hr h=>?_)
 ·obtain⟨p,dx,au,ti,qu,tx,rfl,_⟩:=h
  rfl
 ·obtain⟨p,dx,au,ti,qu,tx,rfl,hp,k⟩:=h
  refine⟨_,(ai (eZ (pv 0) (pv 1) rfl)
   (ai (eZ (pv 0) (pv 2) rfl)
   (ai (eZ (pv 0) (pv 3) rfl)
   (ai (eZ (pv 0) (pv 4) rfl)
   (ai (eZ (pv 0) (b5 ah) rfl)
   (ao (eZ (pv 0) PQ rfl))))))),?_⟩
  refine⟨_,rfl,_,rfl,p,_,dx,[],rfl,hp,T.cY,T.iq,(by show 0 < 1000;decide),?_⟩
  refine⟨_,rfl,_,rfl,p,_,dx,_,rfl,af,T.cY,T.uL,(by show 1 < 1000;decide),?_⟩
  rw[g7]
  refine⟨_,rfl,_,rfl,p,_,dx,_,rfl,af,T.cY,T.jc,(by show 2 < 1000;decide),?_⟩
  rw[g7]
  refine⟨_,rfl,_,rfl,p,_,dx,_,rfl,af,T.cY,T.uM,(by show 3 < 1000;decide),?_⟩
  rw[g7]
  refine⟨bZ _,fun rp hrp=>?_⟩
  have nrp:rp≠p:=fun z=>by rw[z,af]at hrp;cases hrp
  have hrH:H rp=none:=by rw[aD nrp]at hrp;exact hrp
  refine⟨_,rfl,p,_,dx,_,rfl,by rw[aD (dv nrp),af],T.cY,T.gp,(by show 4 < 1000;decide),?_⟩
  refine⟨_,rfl,p,_,dx,_,rfl,af,T.cY,T.ff,(by show 5 < 1000;decide),?_⟩
  rw[g7]
  refine k rp _ hrH af (by rw[aD nrp,af]) fun b o e hb=>?_
  rw[aD hb,aD (a9 e hrH),aD hb];exact e
def Vm.new {H:Hp} {a rp dx qa ta:Addr} {x:aw} (h1:H a=some (.ins t.dn dx (cmF (.int (x.author:Int)) (.int (x.time:Int)) (.ref qa) (.ref ta) (.ref rp) (.bl false)))) (hs:x.solved=false) (hr:x.replies=[]) (hq:Kn H qa (nv x.quote)) (ht:Kn H ta (nv x.text)) (h2:H rp=some (.lst [])):
  Vm t H a rp dx qa ta (cmF (.int (x.author:Int)) (.int (x.time:Int)) (.ref qa) (.ref ta) (.ref rp) (.bl false)) x:=by
 refine⟨h1,?_,?_,?_,?_,?_,by rw[hs];unfold cmF;rw[aK,if_pos rfl],by show 6 < 1000;decide,hq,ht,[],h2,by rw[hr];exact .nil⟩
 all_goals unfold cmF
 ·rw[aK,if_neg (by decide+kernel),aK,if_neg (by decide+kernel),aK,if_neg (by decide+kernel),aK,if_neg (by decide+kernel),aK,if_neg (by decide+kernel),aK,if_pos rfl]
 ·rw[aK,if_neg (by decide+kernel),aK,if_neg (by decide+kernel),aK,if_neg (by decide+kernel),aK,if_neg (by decide+kernel),aK,if_pos rfl]
 ·rw[aK,if_neg (by decide+kernel),aK,if_neg (by decide+kernel),aK,if_neg (by decide+kernel),aK,if_pos rfl]
 ·rw[aK,if_neg (by decide+kernel),aK,if_neg (by decide+kernel),aK,if_pos rfl]
 ·rw[aK,if_neg (by decide+kernel),aK,if_pos rfl]
def aaJ (T:Tx K mg t):aZ P w K mg base cH 3 t.RQ t.RR LC (ue t (a1L .reply)):=by
 have g1g:aZ P w K mg base cH 2 t.mL t.mM kx (BX K):=CB T
 refine T.reply.fn.ok T9 (fun vs H Q E h=>?_) (fun cdv A outer s H vs Q E hr h=>?_)
 ·obtain⟨sh,W,s,C,as,rfl,⟨p,a,ms,rfl,hk,hl,rfl⟩,_⟩:=h
  rfl
 ·obtain⟨sh,W,s,C,as,rfl,⟨c,a,ms,rfl,hk,hl,rfl⟩,⟨ra,dx,fs,ns,v⟩,g,k⟩:=h
  have zl:ag=16777216:=bS
  refine⟨_,(ai (dC (oY (ki (iY hr) (pv 1) (aV (pv 0) rfl))) (ao (aU (b5 (aa (fe dA aP) ah)))) b8)
   (ai (dC (jh (fM (bB T.vK g1g (hr.mono (by decide)) (aa (pv 2) ah)) (fun _=>rfl))) (ao (aU (b5 (aa (fe dA aP) ah)))) b8)
   (ai (bP (i:=3) T9.nd rfl (bc rfl) (l5 (iY hr) (aV (pv 0) rfl) (pv 1) (fun _ _=>rfl)))
   (ai (dC (fM (aV (pv 3) rfl) (fun _=>rfl)) (ao (aU (b5 (aa (fe dA aP) ah)))) b8)
   (ai (fo (pD bF cV cW ke (aV (pv 3) rfl) (aa (jS (aa (aV (pv 0) rfl) (aa (aV (pv 0) rfl) (aa (pv 2) ah)))) ah)))
   (ao (aU (b5 (aa (cT cX rfl T.jx bV (aa (aV (pv 3) rfl) ah)) ah))))))))),?_⟩
  rw[Mt.TQ]at k
  refine⟨_,rfl,_,rfl,sh,_,dx,_,_,rfl,v.doc.at_,T.aQ,T.bL,v.lcm,W.cd,_,rfl,jy.k (k:=dR c) v.cd,_,rfl,?_⟩
  rcases uf v c with⟨h1,h2⟩ | ⟨z1,z,z2,c1,x,c2,ez,ec,hzl,en,h1,h2,hx⟩
  ·rw[h1]
   rw[yS h2]at k
   exact Ab ⟨_,rfl,(by show 1≤ag;decide),fun l hl=>Fin.refuse T k v (aM.refl _) hl⟩
  ·rw[h2]
   rw[yT h1]at k
   refine wt ⟨_,rfl,a,ms,rfl,hk.sq,by omega,fun H1 s1=>⟨_,rfl,?_⟩⟩
   refine fi (fun h=>?_) fun h=>?_
   ·rw[if_neg (by simpa using h)]at k
    exact⟨_,rfl,(by show 1≤ag;decide),fun l hl=>Fin.refuse T k v s1 hl⟩
   ·have hnt:fV ms=true:=by simpa using h
    rw[if_pos hnt]at k
    have v1:=v.same T s1
    refine⟨_,rfl,sh,_,dx,_,_,rfl,v1.doc.at_,T.aQ,T.bL,v1.lcm,_,rfl,W.cd,_,rfl,by have:=jy.k (k:=dR c) v1.cd;rw[h2]at this;exact this,?_⟩
    obtain⟨dxc,qa,ta,fc,cv⟩:=hx
    have cv1:=cv.kr T (B5.same s1)
    refine⟨_,rfl,z.1,_,dxc,_,_,rfl,cv1.at_,T.cY,T.ff,cv1.SI,_,rfl,?_⟩
    refine fi (fun h=>?_) fun h=>?_
    ·rw[if_neg (by rw[h];decide)]at k
     exact⟨_,rfl,(by show 1≤ag;decide),fun l hl=>Fin.refuse T k v s1 hl⟩
    ·have hso:x.solved=false:=by simpa using h
     rw[if_pos hso]at k
     obtain⟨rs0,er,pr⟩:=cv1.rp
     have hrl:rs0.length≤1000:=by
      rw[b9 pr];exact g.rep x (by rw[ec];simp)
     refine⟨_,rfl,z.1,_,dxc,_,_,rfl,cv1.at_,T.cY,T.gp,cv1.Vn,.inl ⟨rfl,_,g6.of er⟩,_,rfl,sh,_,dx,_,_,rfl,v1.doc.at_,T.aQ,T.gg,v1.doc.Ek,_,rfl,sh,_,dx,_,_,rfl,v1.doc.at_,T.aQ,T.lT,v1.doc.HH,_,rfl,(by show 3≤ag;decide),fun rq hrq=>?_⟩
     have s2:aM H1 (upd H1 rq (.tup [.int (s.doc.author:Int),.int (s.doc.time:Int),.ref a])):=bR hrq
     have s12:=s1.trans s2
     refine⟨z.2,_,_,rfl,rfl,s2 _ _ er,by rw[ab];omega,?_⟩
     have cv2:=cv.kr T (B5.same s12)
     have nzz:z.1≠z.2:=d5 cv1.at_ er (by intro z;cases z)
     have hH3:∀b o,upd H1 rq (.tup [.int (s.doc.author:Int),.int (s.doc.time:Int),.ref a]) b=some o→b≠z.2→upd (upd H1 rq (.tup [.int (s.doc.author:Int),.int (s.doc.time:Int),.ref a])) z.2 (.lst (rs0.map V.ref++[.ref rq])) b=some o:=fun b o e n=>by rw[aD n];exact e
     refine⟨_,rfl,z.1,_,dxc,_,_,rfl,hH3 _ _ cv2.at_ nzz,T.cY,T.gp,cv2.Vn,z.2,_,rfl,.inl (g6.of af),(by show 1≤ag;decide),fun l hl=>?_⟩
     have hkf:∀b ys,Kn (upd H1 rq (.tup [.int (s.doc.author:Int),.int (s.doc.time:Int),.ref a])) b ys→Kn (upd (upd H1 rq (.tup [.int (s.doc.author:Int),.int (s.doc.time:Int),.ref a])) z.2 (.lst (rs0.map V.ref++[.ref rq]))) b ys:=fun b ys ⟨o,e⟩=>⟨o,hH3 _ _ e (d5 e (s2 _ _ er) (by intro z;cases z))⟩
     have htup:∀b ys,upd H1 rq (.tup [.int (s.doc.author:Int),.int (s.doc.time:Int),.ref a]) b=some (.tup ys)→upd (upd H1 rq (.tup [.int (s.doc.author:Int),.int (s.doc.time:Int),.ref a])) z.2 (.lst (rs0.map V.ref++[.ref rq])) b=some (.tup ys):=fun b ys e=>hH3 _ _ e (d5 e (s2 _ _ er) (by intro z;cases z))
     have hx3:ud t (upd (upd H1 rq (.tup [.int (s.doc.author:Int),.int (s.doc.time:Int),.ref a])) z.2 (.lst (rs0.map V.ref++[.ref rq]))) z {x with replies:=x.replies++[⟨s.doc.author,s.doc.time,eF ms⟩]}:=by
      refine⟨dxc,qa,ta,fc,hH3 _ _ cv2.at_ nzz,cv2.Ek,cv2.HH,cv2.WE,cv2.Zs,cv2.Vn,cv2.SI,cv2.x9,hkf _ _ cv2.qu,hkf _ _ cv2.tx,rs0++[rq],by rw[af,bz];rfl,?_⟩
      refine fF (Paired.oX pr fun r y ⟨tb,e,q⟩=>⟨tb,htup _ _ (s2 _ _ e),hkf _ _ (q.kr (t:=t) (B5.same s2))⟩) (.cons ⟨a,htup _ _ af,?_⟩ .nil)
      have:=hkf _ _ ((hk.kr (t:=t) (B5.same s12)))
      rw[UJ hnt]at this;exact this
     have v3:=(v.same T s12).aaG T ez ec hzl (x':={x with replies:=x.replies++[⟨s.doc.author,s.doc.time,eF ms⟩]}) rfl hx3 fun b o e n1 n2=>hH3 _ _ e n2
     have nl2:l≠z.2:=fun e=>by rw[e,af]at hl;cases hl
     have hlH:H l=none:=by rw[aD nl2]at hl;exact s12.free hl
     have ech:(x5 s x.num fun y=>{y with replies:=y.replies++[⟨s.doc.author,s.doc.time,eF ms⟩]})={s with comments:=c1++{x with replies:=x.replies++[⟨s.doc.author,s.doc.time,eF ms⟩]}::c2}:=by
      unfold x5
      have:=g.good.o3
      rw[ec]at this⊢
      rw[Np this]
     rw[ech]at k
     refine k l _ W hlH ?_ ⟨_,_,_,_,v3.same T (bR hl)⟩ (fun b o e n=>?_) (fun b hb=>.inl hb) fun hz=>?_
     ·rw[af,ae,ab,b9 pr];rfl
     ·rw[aD (a9 e hlH),aD (fun z'=>n (.inr (.inr (.inr (.inr ⟨z,by rw[ez];simp,.inr z'⟩)))))]
      exact s12 _ _ e
     ·obtain⟨o,eo⟩:=v.there hz
      rw[hlH]at eo;cases eo
def Nq {s:GS} {c1 c2:List aw} {x:aw} (g:s.comments.Pairwise fun a b=>a.num < b.num) (ec:s.comments=c1++x::c2) (f:aw→aw):x5 s x.num f={s with comments:=c1++f x::c2}:=by
 unfold x5
 rw[ec]at g⊢
 rw[Np g]
def Vm.put (T:Tx K mg t) {H:Hp} {a rp dx qa ta qa':Addr} {fs:List (Str×V)} {x x':aw} {f:Str} {y v:V} (h:Vm t H a rp dx qa ta fs x) (hy:fs.lookup f=some y) (hf:f="quote"∨f="solved")
  (h1:x'.author=x.author) (h2:x'.time=x.time) (h3:x'.text=x.text) (h4:x'.replies=x.replies) (hq:(dB f v fs).lookup ("quote":Str)=some (.ref qa')) (hs:(dB f v fs).lookup ("solved":Str)=some (.bl x'.solved)) (hk:Kn H qa' (nv x'.quote)):
  Vm t (upd H a (.ins t.dn dx (dB f v fs))) a rp dx qa' ta (dB f v fs) x':=by
 have kk:∀b o,H b=some o→(∀dx fs,o≠.ins t.dn dx fs)→upd H a (.ins t.dn dx (dB f v fs)) b=some o:=fun b o e n=>by rw[aD (d5 e h.at_ (n _ _))];exact e
 have kf:∀b ys,Kn H b ys→Kn (upd H a (.ins t.dn dx (dB f v fs))) b ys:=fun b ys ⟨o,e⟩=>⟨o,kk _ _ e (by intro _ _ z;cases z)⟩
 obtain⟨rs,er,pr⟩:=h.rp
 refine⟨af,?_,?_,hq,?_,?_,hs,by rw[Ej hy];exact h.x9,kf _ _ hk,by rw[h3];exact kf _ _ h.tx,rs,kk _ _ er (by intro _ _ z;cases z),by rw[h4];exact Paired.oX pr fun r y ⟨tb,e,q⟩=>⟨tb,kk _ _ e (by intro _ _ z;cases z),kf _ _ q⟩⟩
 ·rw[aK,if_neg (by rcases hf with rfl | rfl <;> decide+kernel),h1];exact h.Ek
 ·rw[aK,if_neg (by rcases hf with rfl | rfl <;> decide+kernel),h2];exact h.HH
 ·rw[aK,if_neg (by rcases hf with rfl | rfl <;> decide+kernel)];exact h.Zs
 ·rw[aK,if_neg (by rcases hf with rfl | rfl <;> decide+kernel)];exact h.Vn
def adx {σ:L2.St} {H:Hp} {i:Nat} {a:Int} {Q:Bool→Hp→Prop} (h:σ[i]? =some (some (.int a))) (k:Q (!bo a 0 1) H):adO (J8 (tOp rNe (kd i) (tC (.int 0)))) (J8 (tOp rNe (kd i) (tC (.int 1)))) σ H Q:=by
 refine⟨_,h,rfl,_,rfl,?_⟩
 rw[iP]
 by_cases h0:a=0
 ·have e:bo a 0 1=true:=Mt.iC.mpr (by omega)
  rw[e]at k
  rw[show(!(a==0))=false by rw[h0];rfl]
  exact wt k
 ·rw[show(!(a==0))=true by simpa using h0]
  refine Ab ⟨_,h,rfl,_,rfl,?_⟩
  rw[iP]
  by_cases h1:a=1
  ·have e:bo a 0 1=true:=Mt.iC.mpr (by omega)
   rw[e]at k
   rw[show(!(a==1))=false by rw[h1];rfl];exact k
  ·have e:bo a 0 1=false:=by
    cases q:bo a 0 1 with
    | false=>rfl
    | true=>have:=Mt.iC.mp q;omega
   rw[e]at k
   rw[show(!(a==1))=true by simpa using h1];exact k
def aaK (T:Tx K mg t):aZ P w K mg base cH 1 t.RS t.RT LD (ue t (a2 .solve)):=by
 refine T.solve.fn.ok Ua (fun vs H Q E h=>?_) (fun cdv A outer s H vs Q E hr h=>?_)
 ·obtain⟨sh,W,s,C,as,rfl,⟨p,q,rfl,rfl⟩,_⟩:=h
  rfl
 ·obtain⟨sh,W,s,C,as,rfl,⟨c,on,rfl,rfl⟩,⟨ra,dx,fs,ns,v⟩,g,k⟩:=h
  refine⟨_,(ai (dC (oY (ki (iY hr) (pv 1) (aV (pv 0) rfl))) (ao (aU (b5 (aa (fe dA aP) ah)))) b8)
   (ai (dC (QO (dN LO (pv 2) aP (d6 _)) (Lq (dN LO (pv 2) aP (d6 _)))).pt (ao (aU (b5 (aa (fe dA aP) ah)))) b8)
   (ai (bP (i:=3) Ua.nd rfl (bc rfl) (l5 (iY hr) (aV (pv 0) rfl) (pv 1) (fun _ _=>rfl)))
   (ai (dC (dN nQ (aV (pv 3) rfl) (jq nQ (pv 2) aP (d6 _)) (d6 _)) (ao (aU (b5 (aa (fe dA aP) ah)))) b8)
   (ai (eZ (pv 3) (jq nQ (pv 2) aP (d6 _)) rfl)
   (ao (aU (b5 (aa aP ah))))))))),?_⟩
  rw[Mt.TR]at k
  refine⟨_,rfl,_,rfl,sh,_,dx,_,_,rfl,v.doc.at_,T.aQ,T.bL,v.lcm,W.cd,_,rfl,jy.k (k:=dR c) v.cd,_,rfl,?_⟩
  rcases uf v c with⟨h1,h2⟩ | ⟨z1,z,z2,c1,x,c2,ez,ec,hzl,en,h1,h2,hx⟩
  ·rw[h1]
   rw[yS h2]at k
   exact Ab ⟨_,rfl,(by show 1≤ag;decide),fun l hl=>Fin.refuse T k v (aM.refl _) hl⟩
  ·rw[h2]
   rw[yT h1]at k
   refine wt (adx (i:=2) rfl ?_)
   refine fi (fun h=>?_) fun h=>?_
   ·rw[if_neg (by simpa using h)]at k
    exact⟨_,rfl,(by show 1≤ag;decide),fun l hl=>Fin.refuse T k v (aM.refl _) hl⟩
   ·have hw:bo on 0 1=true:=by simpa using h
    rw[if_pos hw]at k
    refine⟨_,rfl,sh,_,dx,_,_,rfl,v.doc.at_,T.aQ,T.bL,v.lcm,_,rfl,W.cd,_,rfl,by have:=jy.k (k:=dR c) v.cd;rw[h2]at this;exact this,?_⟩
    obtain⟨dxc,qa,ta,fc,cv⟩:=hx
    have eon:decide (V.int on=V.int 1)=(on==1):=iP ..
    refine⟨_,rfl,z.1,_,dxc,_,_,rfl,cv.at_,T.cY,T.ff,cv.SI,_,rfl,rfl,rfl,_,rfl,?_⟩
    rw[eon]
    have edc:decide (V.bl x.solved=V.bl (on==1))=!(x.solved !=(on==1)):=by
     rw[bH];simp
    rw[edc]
    refine fi (fun h=>?_) fun h=>?_
    ·rw[if_neg (by simpa using h)]at k
     exact⟨_,rfl,(by show 1≤ag;decide),fun l hl=>Fin.refuse T k v (aM.refl _) hl⟩
    ·rw[if_pos (by simpa using h)]at k
     rw[Nq g.good.o3 ec]at k
     refine⟨_,rfl,rfl,_,rfl,z.1,_,dxc,fc,rfl,cv.at_,T.cY,T.ff,cv.x9,?_⟩
     rw[eon]
     refine⟨(by show 1≤ag;decide),fun l hl=>?_⟩
     have cv2:Vm t (upd H z.1 (.ins t.dn dxc (dB "solved" (.bl (on==1)) fc))) z.1 z.2 dxc qa ta (dB "solved" (.bl (on==1)) fc) {x with solved:=on==1}:=
      cv.put T cv.SI (.inr rfl) rfl rfl rfl rfl (by rw[aK,if_neg (by decide+kernel)];exact cv.WE) (by rw[aK,if_pos rfl]) cv.qu
     have v2:=v.aaG T ez ec hzl (x':={x with solved:=on==1}) rfl ⟨_,_,_,_,cv2⟩ fun b o e n1 n2=>by rw[aD n1];exact e
     have nl:l≠z.1:=fun e=>by rw[e,af]at hl;cases hl
     have hlH:H l=none:=by rw[aD nl]at hl;exact hl
     refine k l _ W hlH af ⟨_,_,_,_,v2.same T (bR hl)⟩ (fun b o e n=>?_) (fun b hb=>.inl hb) fun hz=>?_
     ·rw[aD (a9 e hlH),aD (fun z'=>n (.inr (.inr (.inr (.inr ⟨z,by rw[ez];simp,.inl z'⟩)))))];exact e
     ·obtain⟨o,eo⟩:=v.there hz
      rw[hlH]at eo;cases eo
def AN.ady (T:Tx K mg t) {H:Hp} {sh:Addr} {W:Own} {ra dx:Addr} {fs:List (Str×V)} {ns:List Addr} {s:GS} {z1 z2:List (Addr×Addr)} {z:Addr×Addr} {c1 c2:List aw} {x:aw} (h:AN t H sh W ra dx fs ns s)
  (ez:W.zs=z1++z::z2) (ec:s.comments=c1++x::c2) (hl:z1.length=c1.length) (g:s.comments.Pairwise fun a b=>a.num < b.num):
  AN t (upd H W.cd (.dK (z9 (jd W.zs s.comments) (kI x.num)))) sh {W with zs:=z1++z2} ra dx fs ns {s with comments:=c1++c2}:=by
 have kk:∀b o,H b=some o→(∀kvs,o≠.dK kvs)→upd H W.cd (.dK (z9 (jd W.zs s.comments) (kI x.num))) b=some o:=fun b o e n=>by rw[aD (d5 e h.cd (n _))];exact e
 have kf:∀b ys,Kn H b ys→Kn (upd H W.cd (.dK (z9 (jd W.zs s.comments) (kI x.num)))) b ys:=fun b ys ⟨o,e⟩=>⟨o,kk _ _ e (by intro _ z;cases z)⟩
 have sub:(z1++z2).Sublist W.zs:=by rw[ez];exact PL (List.sublist_cons_self ..) _
 have hc:=h.QD
 rw[ez,ec]at hc
 have g1:=pJ z1.length hc
 have g2:=kT z1.length hc
 rw[kP]at g1
 rw[gf]at g2
 rw[hl,kP]at g1
 rw[hl,gf]at g2
 cases g2 with
 | cons _ g2=>
 have kc:∀z' y,ud t H z' y→ud t (upd H W.cd (.dK (z9 (jd W.zs s.comments) (kI x.num)))) z' y:=fun z' y ⟨dx,qa,ta,fs,v⟩=>by
  obtain⟨rs,e,p⟩:=v.rp
  exact⟨dx,qa,ta,fs,kk _ _ v.at_ (by intro _ z;cases z),v.Ek,v.HH,v.WE,v.Zs,v.Vn,v.SI,v.x9,kf _ _ v.qu,kf _ _ v.tx,rs,kk _ _ e (by intro _ z;cases z),Paired.oX p fun r y ⟨tb,e,q⟩=>⟨tb,kk _ _ e (by intro _ z;cases z),kf _ _ q⟩⟩
 refine⟨⟨kk _ _ h.doc.at_ (by intro _ z;cases z),h.doc.Ek,h.doc.HH,h.doc.WA,h.doc.Vl,h.doc.zT,h.doc.x9,kk _ _ h.doc.Kt (by intro _ z;cases z),h.doc.row.kp fun b o e im=>kk b o e (fun _ z=>by subst z;exact im)⟩,h.lcm,h.lcn,h.QC,h.lbn,?_,?_,?_,Paired.oX h.SJ fun a b z=>kf _ _ z,h.XQ.sublist (sub.map _),h.XR.sublist (sub.map _),fun z hz=>h.SK z (sub.subset hz),h.Y0⟩
 ·show upd H W.cd _ W.cd=_
  rw[af,ez,ec,Nn hl,aaF hl]
  rw[ec]at g
  obtain⟨o1,o2⟩:=Fb g
  rw[QE]
  ·intro p hp e
   obtain⟨y,hy,ey⟩:=UH hp
   exact o1 y hy (qY _ _ (ey.symm.trans e))
  ·intro p hp e
   obtain⟨y,hy,ey⟩:=UH hp
   exact o2 y hy (qY _ _ (ey.symm.trans e))
 ·exact fF (Paired.oX g1 fun z y q=>kc z y q) (Paired.oX g2 fun z y q=>kc z y q)
 ·show upd H W.cd _ W.bd=_
  rw[aD (dv h.Y0)];exact h.bd
def abT (T:Tx K mg t):aZ P w K mg base cH 5 t.Wv t.Ww Rr (ue t (a1 .drop)):=by
 have g1h:aZ P w K mg base cH 4 t.mJ t.mK km (Nl t fun c=>2*c):=CF T
 refine T.drop.fn.ok abI (fun vs H Q E h=>?_) (fun cdv A outer s H vs Q E hr h=>?_)
 ·obtain⟨sh,W,s,C,as,rfl,⟨c,rfl,rfl⟩,_⟩:=h
  rfl
 ·obtain⟨sh,W,s,C,as,rfl,⟨c,rfl,rfl⟩,⟨ra,dx,fs,ns,v⟩,g,k⟩:=h
  refine⟨_,(ai (dC (oY (ki (iY hr) (pv 1) (aV (pv 0) rfl))) (ao (aU (b5 (aa (fe dA aP) ah)))) b8)
   (ai (dC (dN LO (aV (l5 (iY hr) (aV (pv 0) rfl) (pv 1) (fun _ _=>rfl)) rfl) (aV (pv 0) rfl) (d6 _)) (ao (aU (b5 (aa (fe dA aP) ah)))) b8)
   (ai (fo (Ti (aV (pv 0) rfl) (pv 1) ⟨rfl,rfl,rfl,rfl⟩))
   (ao (aU (b5 (aa (bB T.vJ g1h (hr.mono (by decide)) (aa (pv 0) (aa (pv 1) ah))) ah))))))),?_⟩
  rw[Mt.Xm]at k
  refine⟨_,rfl,_,rfl,sh,_,dx,_,_,rfl,v.doc.at_,T.aQ,T.bL,v.lcm,W.cd,_,rfl,jy.k (k:=dR c) v.cd,_,rfl,?_⟩
  rcases uf v c with⟨h1,h2⟩ | ⟨z1,z,z2,c1,x,c2,ez,ec,hzl,en,h1,h2,hx⟩
  ·rw[h1]
   rw[yS h2]at k
   exact Ab ⟨_,rfl,(by show 1≤ag;decide),fun l hl=>Fin.refuse T k v (aM.refl _) hl⟩
  ·rw[h2]
   rw[yT h1]at k
   subst en
   obtain⟨dxc,qa,ta,fc,cv⟩:=hx
   have dg:jy H W.cd (kV (dR (x.num:Int))) (some (.ref z.1)):=by have:=jy.k (k:=dR (x.num:Int)) v.cd;rw[h2]at this;exact this
   refine wt ⟨_,rfl,sh,_,dx,_,_,rfl,v.doc.at_,T.aQ,T.bL,v.lcm,_,rfl,W.cd,_,rfl,dg,z.1,_,dxc,_,_,rfl,cv.at_,T.cY,T.iq,cv.Ek,_,rfl,sh,_,dx,_,_,rfl,v.doc.at_,T.aQ,T.gg,v.doc.Ek,rfl,_,rfl,?_⟩
   rw[iP]
   have ea:((x.author:Int)==(s.doc.author:Int))=(x.author==s.doc.author):=by rw[bH];simp;omega
   rw[ea]
   refine fi (fun h=>?_) fun h=>?_
   ·rw[if_neg (by simpa using h)]at k
    exact⟨_,rfl,(by show 1≤ag;decide),fun l hl=>Fin.refuse T k v (aM.refl _) hl⟩
   ·rw[if_pos (by simpa using h)]at k
    refine⟨_,rfl,sh,_,dx,_,_,rfl,v.doc.at_,T.aQ,T.bL,v.lcm,W.cd,rfl,.inl ⟨_,.inl v.cd⟩,_,rfl,_,kI x.num,_,v.cd,rfl,h2,?_⟩
    have v1:=v.ady T ez ec hzl g.good.o3
    refine⟨_,rfl,_,rfl,sh,W.ca,ra,dx,fs,s.doc,x.num,rfl,v1.doc,g.doc,fun H2 ra2 fs2 hd2 hf2 kp2=>?_⟩
    refine⟨(by show 1≤ag;decide),fun l hl=>?_⟩
    have v2:=v1.JL T hd2 (lV hf2) fun b o e n1 _=>kp2 b o e n1
    have es:({Vatrkg.lifted s (gj x.num)with comments:=s.comments.filter fun y=>y.num !=x.num}:GS)={s with doc:={s.doc with row:=s.doc.row.map (retag (2*x.num) false)},comments:=c1++c2}:=by
     have:=g.good.o3
     rw[ec]at this
     rw[ec,WG this];rfl
    rw[es]at k
    have kp:∀b o,H b=some o→b≠W.cd→b≠sh→H2 b=some o:=fun b o e n1 n2=>kp2 b o (by rw[aD n1];exact e) n2
    have hlH:H l=none:=by
     cases q:H l with
     | none=>rfl
     | some o=>
      exfalso
      by_cases n1:l=W.cd
      ·have:=v2.cd
       rw[show({W with zs:=z1++z2}:Own).cd=W.cd from rfl,← n1,hl]at this;cases this
      ·by_cases n2:l=sh
       ·rw[n2,hd2.at_]at hl;cases hl
       ·rw[kp l o q n1 n2]at hl;cases hl
    refine k l _ {W with zs:=z1++z2} hlH af ⟨_,_,_,_,v2.same T (bR hl)⟩ (fun b o e n=>?_) (fun b hb=>.inl ?_) fun hz=>?_
    ·rw[aD (a9 e hlH)]
     exact kp b o e (fun z'=>n (.inr (.inr (.inl z')))) (fun z'=>n (.inl z'))
    ·rcases hb with q | q | q | q | ⟨z',hz',q⟩
     ·exact .inl q
     ·exact .inr (.inl q)
     ·exact .inr (.inr (.inl q))
     ·exact .inr (.inr (.inr (.inl q)))
     ·refine .inr (.inr (.inr (.inr ⟨z',?_,q⟩)))
      rw[ez]
      rcases aX.mp hz' with m | m
      ·exact aS _ m
      ·exact aF _ (aI _ m)
    ·obtain⟨o,eo⟩:=v2.there hz
     rw[hl]at eo;cases eo
def Fc {H H':Hp} {l x1 x2:Addr} {o1 o2:HO} (kp:∀b o,H b=some o→b≠x1→b≠x2→H' b=some o) (h1:H' x1=some o1) (h2:H' x2=some o2) (hl:H' l=none):H l=none:=by
 cases q:H l with
 | none=>rfl
 | some o=>
  exfalso
  by_cases n1:l=x1
  ·rw[n1,h1]at hl;cases hl
  ·by_cases n2:l=x2
   ·rw[n2,h2]at hl;cases hl
   ·rw[kp l o q n1 n2]at hl;cases hl
def Y7 {zs:List (Addr×Addr)} {cs:List aw} (hl:zs.length=cs.length) {n:Nat} (h:∀x∈cs,x.num≠n):iL (jd zs cs) (kI n)=none:=by
 rcases R7 (c:=(n:Int)) hl with⟨h1,_⟩ | ⟨z1,z,z2,c1,x,c2,_,rfl,_,en,_,_⟩
 ·exact h1
 ·exact absurd (show x.num=n by omega) (h x (by simp))
def AN.aev (T:Tx K mg t) {H:Hp} {sh:Addr} {W:Own} {ra dx:Addr} {fs:List (Str×V)} {ns:List Addr} {s s':GS} {f:Str} {y v:V} (h:AN t H sh W ra dx fs ns s) (hf:f="comments_made"∨f="bookmarks_made") (hy:fs.lookup f=some y)
  (e1:s'.doc=s.doc) (e2:s'.comments=s.comments) (e3:s'.marks=s.marks) (n1:(dB f v fs).lookup ("comments_made":Str)=some (.int ((s'.nextComment:Int) - 1))) (n2:(dB f v fs).lookup ("bookmarks_made":Str)=some (.int ((s'.nextMark:Int) - 1))):
  AN t (upd H sh (.ins t.cu dx (dB f v fs))) sh W ra dx (dB f v fs) ns s':=by
 have kk:∀b o,H b=some o→(∀dx fs,o≠.ins t.cu dx fs)→upd H sh (.ins t.cu dx (dB f v fs)) b=some o:=fun b o e n=>by rw[aD (d5 e h.doc.at_ (n _ _))];exact e
 have kf:∀b ys,Kn H b ys→Kn (upd H sh (.ins t.cu dx (dB f v fs))) b ys:=fun b ys ⟨o,e⟩=>⟨o,kk _ _ e (by intro _ _ z;cases z)⟩
 have lk:∀g:Str,g≠"comments_made"→g≠"bookmarks_made"→(dB f v fs).lookup g=fs.lookup g:=fun g h1 h2=>by rw[aK,if_neg (by rcases hf with rfl | rfl <;> assumption)]
 refine⟨⟨af,?_,?_,?_,?_,?_,by rw[Ej hy];exact h.doc.x9,?_,?_⟩,?_,n1,?_,n2,?_,?_,?_,?_,h.XQ,h.XR,h.SK,h.Y0⟩
 ·rw[lk _ (by decide+kernel) (by decide+kernel),e1];exact h.doc.Ek
 ·rw[lk _ (by decide+kernel) (by decide+kernel),e1];exact h.doc.HH
 ·rw[lk _ (by decide+kernel) (by decide+kernel),e1];exact h.doc.WA
 ·rw[lk _ (by decide+kernel) (by decide+kernel)];exact h.doc.Vl
 ·rw[lk _ (by decide+kernel) (by decide+kernel)];exact h.doc.zT
 ·rw[e1];exact kk _ _ h.doc.Kt (by intro _ _ z;cases z)
 ·rw[e1];exact h.doc.row.kp fun b o e im=>kk b o e (fun _ _ z=>by subst z;exact T.cK im.symm)
 ·rw[lk _ (by decide+kernel) (by decide+kernel)];exact h.lcm
 ·rw[lk _ (by decide+kernel) (by decide+kernel)];exact h.QC
 ·rw[e2];exact kk _ _ h.cd (by intro _ _ z;cases z)
 ·rw[e2]
  exact Paired.oX h.QD fun z y ⟨dx,qa,ta,fs,v⟩=>by
   obtain⟨rs,e,p⟩:=v.rp
   exact⟨dx,qa,ta,fs,kk _ _ v.at_ (JK T.kK),v.Ek,v.HH,v.WE,v.Zs,v.Vn,v.SI,v.x9,kf _ _ v.qu,kf _ _ v.tx,rs,kk _ _ e (by intro _ _ z;cases z),Paired.oX p fun r y ⟨tb,e,q⟩=>⟨tb,kk _ _ e (by intro _ _ z;cases z),kf _ _ q⟩⟩
 ·rw[e3];exact kk _ _ h.bd (by intro _ _ z;cases z)
 ·rw[e3];exact Paired.oX h.SJ fun a b z=>kf _ _ z
def AN.aew (T:Tx K mg t) {H:Hp} {sh:Addr} {W:Own} {ra dx:Addr} {fs:List (Str×V)} {ns:List Addr} {s:GS} {x:aw} {a rp:Addr} (h:AN t H sh W ra dx fs ns s) (hx:ud t H (a,rp) x) (hn:∀y∈s.comments,y.num≠x.num) (ha:∀z∈W.zs,z.1≠a) (hr:∀z∈W.zs,z.2≠rp) (hc:rp≠W.ca):
  AN t (upd H W.cd (.dK (putK (jd W.zs s.comments) (kI x.num) (.ref a)))) sh {W with zs:=W.zs++[(a,rp)]} ra dx fs ns {s with comments:=s.comments++[x]}:=by
 rw[Tf _ (Y7 h.len hn)]
 have kk:∀b o,H b=some o→(∀kvs,o≠.dK kvs)→upd H W.cd (.dK (jd W.zs s.comments++[(kI x.num,.ref a)])) b=some o:=fun b o e n=>by rw[aD (d5 e h.cd (n _))];exact e
 have kf:∀b ys,Kn H b ys→Kn (upd H W.cd (.dK (jd W.zs s.comments++[(kI x.num,.ref a)]))) b ys:=fun b ys ⟨o,e⟩=>⟨o,kk _ _ e (by intro _ z;cases z)⟩
 have kc:∀z' y,ud t H z' y→ud t (upd H W.cd (.dK (jd W.zs s.comments++[(kI x.num,.ref a)]))) z' y:=fun z' y ⟨dx,qa,ta,fs,v⟩=>by
  obtain⟨rs,e,p⟩:=v.rp
  exact⟨dx,qa,ta,fs,kk _ _ v.at_ (by intro _ z;cases z),v.Ek,v.HH,v.WE,v.Zs,v.Vn,v.SI,v.x9,kf _ _ v.qu,kf _ _ v.tx,rs,kk _ _ e (by intro _ z;cases z),Paired.oX p fun r y ⟨tb,e,q⟩=>⟨tb,kk _ _ e (by intro _ z;cases z),kf _ _ q⟩⟩
 refine⟨⟨kk _ _ h.doc.at_ (by intro _ z;cases z),h.doc.Ek,h.doc.HH,h.doc.WA,h.doc.Vl,h.doc.zT,h.doc.x9,kk _ _ h.doc.Kt (by intro _ z;cases z),h.doc.row.kp fun b o e im=>kk b o e (fun _ z=>by subst z;exact im)⟩,h.lcm,h.lcn,h.QC,h.lbn,?_,?_,?_,Paired.oX h.SJ fun a b z=>kf _ _ z,?_,?_,?_,h.Y0⟩
 ·show upd H W.cd _ W.cd=_
  rw[af,Y1 h.len]
 ·exact fF (Paired.oX h.QD fun z y q=>kc z y q) (.cons (kc _ _ hx) .nil)
 ·show upd H W.cd _ W.bd=_
  rw[aD (dv h.Y0)];exact h.bd
 ·show((W.zs++[(a,rp)]).map (·.1)).Nodup
  rw[bz,iA]
  refine⟨h.XQ,by simp,fun u hu u' hu' e=>?_⟩
  obtain⟨z,hz,rfl⟩:=aR.mp hu
  simp at hu'
  exact ha z hz (e.trans hu')
 ·show((W.zs++[(a,rp)]).map (·.2)).Nodup
  rw[bz,iA]
  refine⟨h.XR,by simp,fun u hu u' hu' e=>?_⟩
  obtain⟨z,hz,rfl⟩:=aR.mp hu
  simp at hu'
  exact hr z hz (e.trans hu')
 ·intro z hz
  rcases aX.mp hz with hz | hz
  ·exact h.SK z hz
  ·simp at hz;subst hz;exact hc
def Lg (T:Tx K mg t):aZ P w K mg base cH 8 t.xi t.xj pZ (ue t (a2L .comment)):=by
 have g1d:aZ P w K mg base cH 4 t.sk t.sm o5 (E9 t):=Es T
 have g1g:aZ P w K mg base cH 2 t.mL t.mM kx (BX K):=CB T
 have g2i:aZ P w K mg base cH 1 t.mP t.qO mH (UK t):=Lf T
 have g2a:aZ P w K mg base cH 7 t.xg t.xh rY (JI t):=Ky T
 have g0r:aZ P w K mg base cH 7 t.lP t.lQ jV (Qz t fun c=>2*c):=xI T
 refine T.BL.fn.ok Cz (fun vs H Q E h=>?_) (fun cdv A outer s H vs Q E hr h=>?_)
 ·obtain⟨sh,W,s,C,as,rfl,⟨p,q,a,ms,rfl,hk,hl,rfl⟩,_⟩:=h
  rfl
 ·obtain⟨sh,W,s,C,as,rfl,⟨p,q,a,ms,rfl,hk,hl,rfl⟩,⟨ra,dx,fs,ns,v⟩,g,k⟩:=h
  have zl:ag=16777216:=bS
  have hrl:=g.doc.len
  refine⟨_,(ai (dC (jh (fM (bB T.D6 g1d (hr.mono (by decide)) (aa (pv 0) (aa (pv 1) (aa (pv 2) ah)))) (fun _=>rfl))) (ao (aU (b5 (aa (fe dA aP) ah)))) b8)
   (ai (dC (jh (fM (bB T.vK g1g (hr.mono (by decide)) (aa (pv 3) ah)) (fun _=>rfl))) (ao (aU (b5 (aa (fe dA aP) ah)))) b8)
   (ai (EK (pv 0) aP QR)
   (ai (bP (i:=4) Cz.nd rfl (bc rfl) (aV (pv 0) rfl))
   (ai (G6 (iY hr) (aV (pv 0) rfl) (pv 4) (sP T.M4 g2i (hr.mono (by decide)) rfl T.M3 T.BW.b .nil wq (aa (aV (pv 0) rfl) (aa (aV (pv 0) rfl) (aa (bB T.Hz g2a (hr.mono (by decide)) (aa (pv 0) (aa (pv 1) (aa (pv 2) ah)))) (aa (pv 3) ah))))) rfl)
   (ai (fo (bB T.ub g0r (hr.mono (by decide)) (aa (pv 0) (aa (pv 4) (aa (pv 1) (aa (pv 2) ah))))))
   (ao (aU (b5 (aa (pv 4) ah)))))))))),?_⟩
  rw[Mt.Mi]at k
  refine⟨_,rfl,_,rfl,_,rfl,sh,W.ca,ra,dx,fs,s.doc,p,q,rfl,v.doc,by omega,fun H1 s1=>⟨_,rfl,?_⟩⟩
  have eP:lH s p q=dZ p q (bJ s.doc):=rfl
  rw[← eP]
  refine fi (fun h=>?_) fun h=>?_
  ·rw[if_neg (by simpa using h)]at k
   exact⟨_,rfl,(by show 1≤ag;decide),fun l hl=>Fin.refuse T k v s1 hl⟩
  ·have hp:lH s p q=true:=by simpa using h
   rw[if_pos hp]at k
   obtain⟨hpq,hqc,hp0,hpq0,_⟩:=Mt.places hp
   obtain⟨pn,rfl⟩:∃n:Nat,p=(n:Int):=⟨p.toNat,by omega⟩
   obtain⟨qn,rfl⟩:∃n:Nat,q=(n:Int):=⟨q.toNat,by omega⟩
   have hpq:pn < qn:=by omega
   have hqc:qn≤(visible s.doc.row).length:=hqc
   refine⟨_,rfl,a,ms,rfl,(hk.kr (t:=t) (B5.same s1)).sq,by omega,fun H2 s2=>⟨_,rfl,?_⟩⟩
   have s12:=s1.trans s2
   refine fi (fun h=>?_) fun h=>?_
   ·rw[if_neg (by simpa using h)]at k
    exact⟨_,rfl,(by show 1≤ag;decide),fun l hl=>Fin.refuse T k v s12 hl⟩
   ·have hnt:fV ms=true:=by simpa using h
    rw[if_pos hnt]at k
    have v2:=v.same T s12
    refine⟨_,rfl,sh,_,dx,_,_,rfl,v2.doc.at_,T.aQ,T.iT,v2.lcn,_,_,rfl,rfl,dx,_,v2.doc.at_,v2.doc.x9,?_⟩
    have en:((s.nextComment:Int) - 1+1)=((s.nextComment:Nat):Int):=by omega
    rw[en]
    have lcn3:(dB "comments_made" (.int ((s.nextComment:Nat):Int)) fs).lookup ("comments_made":Str)=some (.int ((s.nextComment:Nat):Int)):=by rw[aK,if_pos rfl]
    have v3:=v2.aev T (s':={s with nextComment:=s.nextComment+1}) (f:="comments_made") (v:=.int ((s.nextComment:Nat):Int)) (.inl rfl) v2.lcn rfl rfl rfl (by rw[lcn3];congr 2;show _=((s.nextComment+1:Nat):Int) - 1;omega) (by rw[aK,if_neg (by decide+kernel)];exact v2.lbn)
    generalize hfs3:dB "comments_made" (.int ((s.nextComment:Nat):Int)) fs=fs3 at v3 lcn3
    generalize hH3:upd H2 sh (.ins t.cu dx fs3)=H3 at v3
    have kp3:∀b o,H b=some o→b≠sh→H3 b=some o:=fun b o e n=>by rw[← hH3,aD n];exact s12 _ _ e
    have hk3:Kn H3 a (ms.map V.int):=let ⟨o,e⟩:=hk;⟨o,kp3 _ _ e (d5 e v.doc.at_ (by intro z;cases z))⟩
    refine⟨_,rfl,sh,_,dx,_,_,rfl,v3.doc.at_,T.aQ,T.iT,lcn3,?_⟩
    refine⟨_,rfl,sh,_,dx,_,_,rfl,v3.doc.at_,T.aQ,T.gg,v3.doc.Ek,_,rfl,sh,_,dx,_,_,rfl,v3.doc.at_,T.aQ,T.lT,v3.doc.HH,_,rfl,_,rfl,_,rfl,sh,W.ca,ra,dx,fs3,s.doc,pn,qn,rfl,v3.doc,hpq,hqc,by omega,fun qa H4 s4 hqa=>?_⟩
    refine⟨_,rfl,?_⟩
    intro x dxc hx4 hdx4 ne4
    refine⟨x,dxc,_,_,_,_,rfl,af,fun rp H5 hrp' hx5 hrp5 kp5=>⟨rfl,?_⟩⟩
    have s44:aM H4 (upd (upd H4 dxc (.own x)) x (.ins t.dn dxc [])):=cB (bR hdx4) hx4
    have s5:aM H4 H5:=fun b o e=>kp5 b o (s44 _ _ e) (a9 e hx4)
    have hrp4:H4 rp=none:=s44.free hrp'
    have s45:aM H3 H5:=s4.trans s5
    have v5:=v3.same T s45
    have hcl:s.comments.length≤1000:=by
     have h1:(s.comments.map (·.num)).Nodup:=by
      rw[c4,b7]
      exact g.good.o3.imp fun h=>cI h
     have:=Mt.kj s.nextComment _ h1 fun n hn=>by
      obtain⟨y,hy,rfl⟩:=aR.mp hn
      exact(g.good.g8 y hy).2
     rw[ab]at this
     have:=g.nc
     omega
    refine⟨_,rfl,sh,_,dx,_,_,rfl,v5.doc.at_,T.aQ,T.bL,v5.lcm,_,rfl,W.cd,_,rfl,L0.k (k:=kI s.nextComment) v5.cd (by rw[HZ v5.len];show s.comments.length < ag;omega),?_⟩
    have hx3:H3 x=none:=s4.free hx4
    have hrp3:H3 rp=none:=s4.free hrp4
    have fr:∀b,H3 b=none→H b=none:=fun b hb=>Fc (x1:=sh) (x2:=sh) (fun b o e n _=>kp3 b o e n) v3.doc.at_ v3.doc.at_ hb
    have cv:ud t H5 (x,rp) (Mt.ji s (pn:Int) (qn:Int) ms):=⟨dxc,qa,a,_,Vm.new (x:=Mt.ji s (pn:Int) (qn:Int) ms) hx5 rfl rfl (hqa.kr (t:=t) (B5.same s5)) (by have:=hk3.kr (t:=t) (B5.same s45);rw[UJ hnt]at this;exact this) hrp5⟩
    have v6:=v5.aew T (x:=Mt.ji s (pn:Int) (qn:Int) ms) cv (fun y hy=>cI (g.good.g8 y hy).2) (fun z hz e=>by
     obtain⟨o,eo⟩:=v3.there (b:=z.1) (.inr (.inr (.inr (.inr ⟨z,hz,.inl rfl⟩))))
     rw[e,hx3]at eo;cases eo) (fun z hz e=>by
     obtain⟨o,eo⟩:=v3.there (b:=z.2) (.inr (.inr (.inr (.inr ⟨z,hz,.inr rfl⟩))))
     rw[e,hrp3]at eo;cases eo) (fun e=>by
     obtain⟨o,eo⟩:=v3.there (b:=W.ca) (.inr (.inl rfl))
     rw[← e,hrp3]at eo;cases eo)
    refine⟨_,rfl,_,rfl,_,rfl,_,rfl,sh,W.ca,ra,dx,fs3,s.doc,s.nextComment,pn,qn,rfl,v6.doc,g.doc,hpq,hqc,fun y hy hm=>?_,fun H7 ra7 fs7 hd7 hf7 kp7=>?_⟩
    ·obtain⟨y',hy',e⟩:=g.good.Af y hy _ hm
     have:=(g.good.g8 y' hy').2
     omega
    ·have v7:=v6.JL T hd7 (lV hf7) fun b o e n1 _=>kp7 b o e n1
     refine⟨_,rfl,(by show 1≤ag;decide),fun l hl=>?_⟩
     have kp:∀b o,H b=some o→b≠sh→b≠W.cd→H7 b=some o:=fun b o e n1 n2=>kp7 b o (by rw[aD n2];exact s45 _ _ (kp3 b o e n1)) n1
     have hlH:H l=none:=Fc kp hd7.at_ v7.cd hl
     refine k l _ {W with zs:=W.zs++[(x,rp)]} hlH af ⟨_,_,_,_,v7.same T (bR hl)⟩ (fun b o e n=>?_) (fun b hb=>?_) fun hz=>?_
     ·rw[aD (a9 e hlH)]
      exact kp b o e (fun z'=>n (.inl z')) (fun z'=>n (.inr (.inr (.inl z'))))
     ·rcases hb with q | q | q | q | ⟨z',hz',q⟩
      ·exact .inl (.inl q)
      ·exact .inl (.inr (.inl q))
      ·exact .inl (.inr (.inr (.inl q)))
      ·exact .inl (.inr (.inr (.inr (.inl q))))
      ·rcases aX.mp hz' with m | m
       ·exact .inl (.inr (.inr (.inr (.inr ⟨z',m,q⟩))))
       ·simp at m
        subst m
        rcases q with rfl | rfl
        ·exact .inr (fr _ hx3)
        ·exact .inr (fr _ hrp3)
     ·obtain⟨o,eo⟩:=v7.there hz
      rw[hl]at eo;cases eo
theorem Sb {K:aq} {H:Hp}:∀ns:List Int,LY K H (ns.map V.int) (ns.map pC)
 | []=>.nil
 | n::r=>.cons (.int n) (Sb r)
theorem Kz:∀ns:List Int,y6 (ns.map pC)=true
 | []=>by simp[y6]
 | n::r=>by simp only[aT,y6,N3,Kz r];rfl
theorem Nr:∀ns:List Int,CQ (ns.map pC)≤1
 | []=>by simp[CQ]
 | n::r=>by
  have:=Nr r
  simp only[aT,CQ,SF];omega
def shaped_ints (ns:List Int):Ck (.list (ns.map pC))=true:=by
 unfold Ck
 have h1:=Kz ns
 have h2:=Nr ns
 simp only[N3,SF,h1,hW]
 exact decide_eq_true (by omega)
theorem UL:∀a b:List Int,oF (a.map pC) (b.map pC)=decide (a=b)
 | [],[]=>by simp[oF]
 | [],_::_=>by simp[oF]
 | _::_,[]=>by simp[oF]
 | x::a,y::b=>by
  simp only[aT,oF,W0,UL a b]
  rw[bH];simp
def Nt {K:aq} {H:Hp} {a b:Addr} {xs ys:List Int} {Q:VK} (ha:g6 K H a (xs.map V.int)) (hb:g6 K H b (ys.map V.int)) (q:Q (.bl (decide (xs=ys))) H):acQ K (.ref a) (.ref b) H Q:=by
 refine⟨_,_,.lst ha (Sb xs),.lst hb (Sb ys),shaped_ints xs,shaped_ints ys,?_⟩
 show Q (.bl (oF (xs.map pC) (ys.map pC))) H
 rw[UL];exact q
def LJ (l:List Nat):nv l=(Vatrkg.ints l).map V.int:=by unfold nv Vatrkg.ints;rw[bD];rfl
def UM {a b:List Nat}:Vatrkg.ints a=Vatrkg.ints b↔a=b:=by
 constructor
 ·intro h
  have:=congrArg (AK Fh) h
  unfold Vatrkg.ints at this
  rw[bD,bD]at this
  have e:(Fh∘fun(n:Nat)=>(n:Int))=id:=by funext n;simp
  rw[e,pR,pR]at this
  exact this
 ·intro h;rw[h]
def UN {K:aq} {H:Hp} {a b:Addr} {xs ys:List Nat} {Q:VK} (ha:g6 K H a (nv xs)) (hb:g6 K H b (nv ys)) (q:Q (.bl (decide (xs=ys))) H):acQ K (.ref a) (.ref b) H Q:=by
 rw[LJ]at ha hb
 refine Nt ha hb ?_
 have e:decide (Vatrkg.ints xs=Vatrkg.ints ys)=decide (xs=ys):=by
  rw[bH];simp[UM]
 rw[e];exact q
theorem Nu {q:List Nat} (hq:q≠[]):∀{l:List Nat} {k i:Nat},(∀j,j < i→¬q <+:l.drop j)→q <+:l.drop i→jg q k l=some (k+i)
 | [],k,i,_,h=>by
  rw[List.drop_nil,List.prefix_nil]at h
  exact absurd h hq
 | c::l,k,0,_,h=>by
  unfold jg
  rw[if_pos (show q.isPrefixOf (c::l)=true from mZ.mpr h)];rfl
 | c::l,k,i+1,hn,h=>by
  unfold jg
  rw[if_neg (show¬q.isPrefixOf (c::l)=true from fun z=>hn 0 (II _) (mZ.mp z)),Nu hq (i:=i) (fun j hj=>by simpa using hn (j+1) (by omega)) (by simpa using h)]
  congr 1;omega
theorem Nv {q:List Nat}:∀{l:List Nat} {k:Nat},(∀j,j < l.length→¬q <+:l.drop j)→jg q k l=none
 | [],_,_=>rfl
 | c::l,k,hn=>by
  unfold jg
  rw[if_neg (show¬q.isPrefixOf (c::l)=true from fun z=>hn 0 (by simp) (mZ.mp z)),Nv fun j hj=>by simpa using hn (j+1) (by simpa using hj)]
def GC (q l:List Nat):Int:=match jg q 0 l with
 | some p=>(p:Int)
 | none=>-1
def take_prefix {q l:List Nat}:l.take q.length=q↔q <+:l:=by
 constructor
 ·intro h;rw[← h];exact List.take_prefix ..
 ·rintro⟨r,rfl⟩;simp
def adz {l:List Nat} {i k:Nat} (h:i+k≤l.length):tJ (nv l) (some (i:Int)) (some ((i:Int)+(k:Int)))=nv ((l.drop i).take k):=by
 have e:(i:Int)+(k:Int)=((i+k:Nat):Int):=by omega
 rw[e,M8 (by omega) (by rw[fQ];exact h)]
 unfold nv;rw[← i7,← i8,show i+k - i=k by omega]
def KA (K:aq):Sp:=fun vs H Q _=>EX4 fun(a b:Addr) (l q:List Nat)=>vs=[.ref a,.ref b]∧g6 K H a (nv l)∧g6 K H b (nv q)∧q≠[]∧l.length≤10000000∧q.length≤10000000∧∀H',aM H H'→Q (.int (GC q l)) H'
def O9 (T:Tx K mg t):aZ P w K mg base cH 1 t.vw t.vz p0 (KA K):=by
 refine T.Gm.fn.ok zu (fun vs H Q E h=>?_) (fun cdv A outer s H vs Q E hr h=>?_)
 ·obtain⟨a,b,l,q,rfl,_⟩:=h
  rfl
 ·obtain⟨a,b,l,q,rfl,ha,hb,hq,hl,hql,k⟩:=h
  refine⟨_,(ai (bP (i:=2) zu.nd rfl (bc rfl) (cT cX rfl T.jx bV (aa (pv 1) ah)))
   (ai (mi cS rfl (Yd rfl T.XB (aa (e6 za (e6 uq (cT cX rfl T.jx bV (aa (pv 0) ah)) (pv 2)) aP) ah)) (da (i:=3) zu.nd rfl (bc rfl)) (ao (dC (dN (QW hr.units) (nS AS (pv 0) (m3 (pv 3)) (m3 (e6 za (pv 3) (pv 2)))) (pv 1) (d6 _)) (ao (aU (pv 3))) b8)))
   (ao (aU (fe dA aP))))),?_⟩
  refine⟨_,rfl,b,_,rfl,.inl hb,?_⟩
  rw[fQ]
  refine⟨_,rfl,a,_,rfl,.inl ha,_,rfl,_,_,rfl,rfl,_,_,rfl,rfl,?_⟩
  rw[fQ]
  refine⟨_,rfl,by omega,by omega,Yf (lo:=0) (n:=((l.length:Int) - (q.length:Int)+1).toNat) (fun i σ H'=>∃v:Option V,σ=[some (.ref a),some (.ref b),some (.int (q.length:Int)),v]∧aM H H'∧∀j,j < i→¬q <+:l.drop j) ⟨none,rfl,aM.refl _,fun j hj=>absurd hj (CK _)⟩ ?_ ?_⟩
  ·rintro i σ H1 hi ⟨v,rfl,s1,hn⟩
   have hil:i+q.length≤l.length:=by omega
   have e0:(0:Int)+(i:Int)=(i:Int):=by omega
   rw[e0]
   refine⟨_,rfl,_,rfl,_,rfl,_,rfl,_,rfl,_,_,rfl,rfl,_,rfl,a,_,rfl,s1.seq ha,fun p hp=>?_⟩
   rw[adz hil]
   have s2:=bR (o:=.lst (nv ((l.drop i).take q.length))) hp
   refine⟨_,rfl,UN (g6.of af) (s2.seq (s1.seq hb)) ⟨_,rfl,?_⟩⟩
   refine fi (fun h=>?_) fun h=>?_
   ·have h:=take_prefix.mp (by simpa using h)
    refine⟨_,rfl,?_⟩
    have:=k _ (s1.trans s2)
    unfold GC at this
    rw[Nu hq hn h,Nat.zero_add]at this
    exact this
   ·have h:¬q <+:l.drop i:=fun z=>h (by simpa using take_prefix.mpr z)
    refine⟨_,rfl,s1.trans s2,fun j hj=>?_⟩
    rcases nA j i with lt | ge
    ·exact hn j lt
    ·rw[show j=i by omega];exact h
  ·rintro σ H1 ⟨v,rfl,s1,hn⟩
   have:=k _ s1
   unfold GC at this
   rw[Nv fun j hj z=>?_]at this
   ·exact⟨_,rfl,this⟩
   ·have hl2:=z.length_le
    rw[dH]at hl2
    have:0 < q.length:=gQ.mpr hq
    exact hn j (by omega) z
def UO (t:pH):Sp:=fun vs H Q _=>EX7 fun(sh ca ra dx:Addr) (fs:List (Str×V)) (d:aC) (c:Nat)=>vs=[.ref sh,.int c]∧eX t H sh ca ra dx fs d∧d.row.length≤ag∧∀H',aM H H'→Q (.bl (!d.row.any (aB (2*c)))) H'
theorem XS {C:Addr} {H:Hp} {u:Nat}:∀{rs:List Addr} {bs:List (List Piece)},ig C H rs bs→(bs.map (O7 u)).any id=bs.flatten.any (aB u)
 | _,_,.nil=>rfl
 | _,b::bs,.cons hst t=>by
  obtain⟨sg,i,d,c',m,ins,del,d4,bm,vv⟩:=hst
  rw[aT,fG,bC,uZ,XS t,E7 vv.gS.ne (vv.gS.all u)];rfl
def Sd (T:Tx K mg t):aZ P w K mg base cH 1 t.yz t.yA tQ (UO t):=by
 refine T.Jt.fn.ok Ba (fun vs H Q E h=>?_) (fun cdv A outer s H vs Q E hr h=>?_)
 ·obtain⟨sh,ca,ra,dx,fs,d,c,rfl,_⟩:=h
  rfl
 ·obtain⟨sh,ca,ra,dx,fs,d,c,rfl,hd,hz,k⟩:=h
  refine⟨_,(ao (aU (VA (cT (ZS rfl) rfl T.aau rfl (aa (pU (own:=[("stretch",2)]) rfl Ba.nd (dQ (aV (pv 0) rfl)) (eC (by rfl)) (fun _ _ _ _ _=>da (i:=2) Ba.nd rfl (bc rfl)) (fun _ _ _ _ _=>j7) (fun _ _ _ _ _=>(jq (Mn (K:=K) rfl) (pv 1) (js (K:=K) rfl (pv 2) rfl) (by with_unfolding_all rfl)))) ah))))),?_⟩
  obtain⟨rs,bs,hl,hR,ebs⟩:=id hd.row
  have hle:=hR.le
  rw[ebs]at hle
  refine⟨_,rfl,sh,_,dx,_,_,rfl,hd.at_,T.aQ,T.bA,hd.zT,ra,rfl,⟨_,hl.sq⟩,fun D' hD=>zf (xs:=rs.map V.ref) (bs.map fun b=>V.bl (O7 (2*c) b)) hl.sq hD (by rw[ab,ab,hR.len]) (by rw[ab,← hR.len];omega) (fun i x y H' Q' hx hy s' q=>?_) fun H' s' e=>?_⟩
  ·obtain⟨r,er,rfl⟩:=gD hx
   obtain⟨b,eb,rfl⟩:=get_map hy
   obtain⟨b',eb',sg,i0,d0,c0,m0,ins,del,d4,bm,v⟩:=cQ hR er
   cases eb.symm.trans eb'
   obtain⟨dx2,ha⟩:=v.at_
   refine⟨_,rfl,_,rfl,r,_,dx2,_,_,rfl,s' _ _ ha,T.aO,T.cg,k8 ..,c0,_,rfl,.inr (iB.of (s' _ _ v.c)),rfl,oQ _,?_⟩
   show Q' (.bl (S7 (.int (c:Int)) (nv d4))) H'
   rw[xF,← Av v.gS];exact q H' (aM.refl _)
  ·refine⟨D',bs.map (O7 (2*c)),rfl,by rw[bD];exact g6.of e,_,rfl,?_⟩
   rw[XS hR,ebs];exact k H' s'
def abU {f:Piece→Piece} (h:∀x,vY (f x)=vY x) (r:List Piece):visible (r.map f)=(visible r).map f:=by
 unfold N4
 rw[jJ]
 congr 1
 exact y8 fun x _=>h x
def Fd (u:Nat) (on:Bool) (r:List Piece):visible (r.map (retag u on))=(visible r).map (retag u on):=abU (f:=retag u on) (fun _=>rfl) r
def FL (s:GS) (u:Nat):(fK s u).map (·.2)=(visible s.doc.row).filter (aB u):=by
 unfold fK x6
 have e:∀l:List (Nat×Piece),(l.filter fun z=>aB u z.2).map (·.2)=(l.map (·.2)).filter (aB u):=fun l=>by rw[jJ];rfl
 rw[e,AG (by simp)]
def tF (s:GS) (u:Nat):(fK s u).length=((visible s.doc.row).filter (aB u)).length:=by rw[← FL,ab]
def WI {row a m b:List Piece} {p q u:Nat} (ar:Mt.Around row p q a m b) (hno:∀x∈row,¬u∈x.tags):((visible (a++(m.map (retag u true)++b))).filter (aB u)).length=q - p:=by
 have no:∀l:List Piece,(∀x∈l,x∈row)→(visible l).filter (aB u)=[]:=fun l hl=>eM.mpr fun x hx=>by
  rw[Mt.eV];exact hno x (hl x (aA.mp hx).1)
 rw[Mt.bU,Mt.bU,dt,dt,no a (fun x hx=>by rw[ar.dj];exact aS _ hx),no b (fun x hx=>by rw[ar.dj];exact aF _ (aF _ hx)),Fd]
 rw[dz.mpr,jI,c7,ab,ar.Ke]
 intro x hx
 obtain⟨y,_,rfl⟩:=aR.mp hx
 exact Mt.eV.mpr (Mt.kZ.mpr (.inl rfl))
def WJ {a m b:List Piece} (u:Nat):(visible (a++(m.map (retag u true)++b))).map (·.sign)=(visible (a++(m++b))).map (·.sign):=by
 simp only[Mt.bU,Fd,bz,pL]
def Pa {r r':List Piece} (h:(visible r').map (·.sign)=(visible r).map (·.sign)) (p q:Nat):(rE p q r').map (·.sign)=(rE p q r).map (·.sign):=by
 unfold rE
 rw[i8,i7,h,i8,i7]
def DocOk.lift {d:aC} (h:DocOk d) (u:Nat):DocOk {d with row:=d.row.map (retag u false)}:=by
 refine⟨fun x hx=>?_,fun x hx v hv=>?_,h.chg,by show(d.row.map _).length≤_;rw[ab];exact h.len⟩
 all_goals obtain⟨y,hy,rfl⟩:=aR.mp hx
 ·exact Mt.L9 (h.wz y hy)
 ·exact h.tags y hy v (Mt.iZ.mp hv).1
def UP (T:Tx K mg t):aZ P w K mg base cH 8 t.Gh t.Gi A9 (ue t (a3 .reanchor)):=by
 have g1d:aZ P w K mg base cH 4 t.sk t.sm o5 (E9 t):=Es T
 have g1h:aZ P w K mg base cH 4 t.mJ t.mK km (Nl t fun c=>2*c):=CF T
 have g2a:aZ P w K mg base cH 7 t.xg t.xh rY (JI t):=Ky T
 have g0r:aZ P w K mg base cH 7 t.lP t.lQ jV (Qz t fun c=>2*c):=xI T
 refine T.reanchor.fn.ok Ko (fun vs H Q E h=>?_) (fun cdv A outer s H vs Q E hr h=>?_)
 ·obtain⟨sh,W,s,C,as,rfl,⟨c,p,q,rfl,rfl⟩,_⟩:=h
  rfl
 ·obtain⟨sh,W,s,C,as,rfl,⟨c,p,q,rfl,rfl⟩,⟨ra,dx,fs,ns,v⟩,g,k⟩:=h
  have zl:ag=16777216:=bS
  have hrl:=g.doc.len
  refine⟨_,(ai (dC (oY (ki (iY hr) (pv 1) (aV (pv 0) rfl))) (ao (aU (b5 (aa (fe dA aP) ah)))) b8)
   (ai (bP (i:=4) Ko.nd rfl (bc rfl) (l5 (iY hr) (aV (pv 0) rfl) (pv 1) (fun _ _=>rfl)))
   (ai (dC (dN LO (aV (pv 4) rfl) (aV (pv 0) rfl) (d6 _)) (ao (aU (b5 (aa (fe dA aP) ah)))) b8)
   (ai (dC (jh (fM (bB T.D6 g1d (hr.mono (by decide)) (aa (pv 0) (aa (pv 2) (aa (pv 3) ah)))) (fun _=>rfl))) (ao (aU (b5 (aa (fe dA aP) ah)))) b8)
   (ai (fo (bB T.vJ g1h (hr.mono (by decide)) (aa (pv 0) (aa (pv 1) ah))))
   (ai (fo (bB T.ub g0r (hr.mono (by decide)) (aa (pv 0) (aa (pv 1) (aa (pv 2) (aa (pv 3) ah))))))
   (ai (eZ (pv 4) (bB T.Hz g2a (hr.mono (by decide)) (aa (pv 0) (aa (pv 2) (aa (pv 3) ah)))) rfl)
   (ao (aU (b5 (aa (e6 uq (pv 3) (pv 2)) ah))))))))))),?_⟩
  rw[Mt.Kk]at k
  refine⟨_,rfl,_,rfl,sh,_,dx,_,_,rfl,v.doc.at_,T.aQ,T.bL,v.lcm,W.cd,_,rfl,jy.k (k:=dR c) v.cd,_,rfl,?_⟩
  rcases uf v c with⟨h1,h2⟩ | ⟨z1,z,z2,c1,x,c2,ez,ec,hzl,en,h1,h2,hx⟩
  ·rw[h1]
   rw[yS h2]at k
   exact Ab ⟨_,rfl,(by show 1≤ag;decide),fun l hl=>Fin.refuse T k v (aM.refl _) hl⟩
  ·rw[h2]
   rw[yT h1]at k
   subst en
   obtain⟨dxc,qa,ta,fc,cv⟩:=hx
   have dg:jy H W.cd (kV (dR (x.num:Int))) (some (.ref z.1)):=by have:=jy.k (k:=dR (x.num:Int)) v.cd;rw[h2]at this;exact this
   refine wt ⟨_,rfl,sh,_,dx,_,_,rfl,v.doc.at_,T.aQ,T.bL,v.lcm,_,rfl,W.cd,_,rfl,dg,?_⟩
   refine⟨_,rfl,z.1,_,dxc,_,_,rfl,cv.at_,T.cY,T.iq,cv.Ek,_,rfl,sh,_,dx,_,_,rfl,v.doc.at_,T.aQ,T.gg,v.doc.Ek,rfl,_,rfl,?_⟩
   rw[iP]
   have ea:((x.author:Int)==(s.doc.author:Int))=(x.author==s.doc.author):=by rw[bH];simp;omega
   rw[ea]
   refine fi (fun h=>?_) fun h=>?_
   ·rw[if_neg (by simpa using h)]at k
    exact⟨_,rfl,(by show 1≤ag;decide),fun l hl=>Fin.refuse T k v (aM.refl _) hl⟩
   ·rw[if_pos (by simpa using h)]at k
    refine⟨_,rfl,_,rfl,_,rfl,sh,W.ca,ra,dx,fs,s.doc,p,q,rfl,v.doc,by omega,fun H1 s1=>⟨_,rfl,?_⟩⟩
    have eP:lH s p q=dZ p q (bJ s.doc):=rfl
    rw[← eP]
    refine fi (fun h=>?_) fun h=>?_
    ·rw[if_neg (by simpa using h)]at k
     exact⟨_,rfl,(by show 1≤ag;decide),fun l hl=>Fin.refuse T k v s1 hl⟩
    ·have hp:lH s p q=true:=by simpa using h
     rw[if_pos hp]at k
     obtain⟨hpq,hqc,hp0,hpq0,_⟩:=Mt.places hp
     obtain⟨pn,rfl⟩:∃n:Nat,p=(n:Int):=⟨p.toNat,by omega⟩
     obtain⟨qn,rfl⟩:∃n:Nat,q=(n:Int):=⟨q.toNat,by omega⟩
     have hpq:pn < qn:=by omega
     have hqc:qn≤(visible s.doc.row).length:=hqc
     have v1:=v.same T s1
     refine⟨_,rfl,_,rfl,sh,W.ca,ra,dx,fs,s.doc,x.num,rfl,v1.doc,g.doc,fun H2 ra2 fs2 hd2 hf2 kp2=>?_⟩
     have v2:=v1.JL T hd2 (lV hf2) fun b o e n1 _=>kp2 b o e n1
     have hvl:(visible (s.doc.row.map (retag (2*x.num) false))).length=(visible s.doc.row).length:=by rw[Fd,ab]
     have hno:∀y∈s.doc.row.map (retag (2*x.num) false),¬2*x.num∈y.tags:=fun y hy hm=>by
      obtain⟨y',_,rfl⟩:=aR.mp hy
      exact(Mt.iZ.mp hm).2 rfl
     refine⟨_,rfl,_,rfl,_,rfl,_,rfl,sh,W.ca,ra2,dx,fs2,{s.doc with row:=s.doc.row.map (retag (2*x.num) false)},x.num,pn,qn,rfl,v2.doc,g.doc.lift _,hpq,by rw[hvl];exact hqc,hno,fun H3 ra3 fs3 hd3 hf3 kp3=>?_⟩
     have v3:=v2.JL T hd3 (lV hf3) fun b o e n1 _=>kp3 b o e n1
     have ar:=Mt.Ad (row:=s.doc.row.map (retag (2*x.num) false)) (p:=pn) (q:=qn) hpq (by rw[hvl];exact hqc)
     have ed:=ar.doTag {s.doc with row:=s.doc.row.map (retag (2*x.num) false)} rfl (2*x.num) true
     generalize (Zp (u9 pn (s.doc.row.map (retag (2*x.num) false))) (s.doc.row.map (retag (2*x.num) false)))=fa at ar ed
     generalize (Zq (u9 pn (s.doc.row.map (retag (2*x.num) false))) (Zp (u9 (qn - 1) (s.doc.row.map (retag (2*x.num) false))+1) (s.doc.row.map (retag (2*x.num) false))))=fm at ar ed
     generalize (Zq (u9 (qn - 1) (s.doc.row.map (retag (2*x.num) false))+1) (s.doc.row.map (retag (2*x.num) false)))=fb at ar ed
     have er:(Cp {s.doc with row:=s.doc.row.map (retag (2*x.num) false)} pn qn (2*x.num) true).1.row=fa++(fm.map (retag (2*x.num) true)++fb):=by rw[ed]
     have sg:(visible (fa++(fm.map (retag (2*x.num) true)++fb))).map (·.sign)=(visible s.doc.row).map (·.sign):=by
      rw[WJ,← ar.dj,Fd,pL]
     have hlr:(fa++(fm.map (retag (2*x.num) true)++fb)).length=s.doc.row.length:=by
      have:=congrArg c8 ar.dj
      simp only[ae,ab]at this⊢
      omega
     have hvl3:(visible (fa++(fm.map (retag (2*x.num) true)++fb))).length=(visible s.doc.row).length:=by
      have:=congrArg c8 sg
      rw[ab,ab]at this;exact this
     have cvk:∀b o,H b=some o→b≠sh→H3 b=some o:=fun b o e n=>kp3 b o (kp2 b o (s1 _ _ e) n) n
     refine⟨_,rfl,_,rfl,_,rfl,sh,W.ca,ra3,dx,fs3,_,pn,qn,rfl,v3.doc,hpq,by rw[er,hvl3];exact hqc,by rw[er,hlr];omega,fun qb H4 s4 hqb=>?_⟩
     have v4:=v3.same T s4
     have cat4:H4 z.1=some (.ins t.dn dxc fc):=s4 _ _ (cvk _ _ cv.at_ (d5 cv.at_ v.doc.at_ (JK T.kK _ _)))
     refine⟨_,rfl,z.1,_,dxc,fc,rfl,cat4,T.cY,T.jc,cv.x9,?_⟩
     rw[er,Pa sg]at hqb
     have hx4:∃dx4 qa4 ta4 fs4,Vm t H4 z.1 z.2 dx4 qa4 ta4 fs4 x:=by
      have hc4:=v4.QD
      rw[ez]at hc4
      have hc4:Paired (ud t H4) (z1++z::z2) s.comments:=hc4
      rw[ec]at hc4
      have g2:=kT z1.length hc4
      rw[gf]at g2
      rw[hzl,gf]at g2
      cases g2 with
      | cons q _=>exact q
     obtain⟨dx4,qa4,ta4,fs4,cv4⟩:=hx4
     have:=cv4.at_
     rw[cat4]at this
     cases this
     have cv5:Vm t (upd H4 z.1 (.ins t.dn dxc (dB "quote" (.ref qb) fc))) z.1 z.2 dxc qb ta4 (dB "quote" (.ref qb) fc) {x with quote:=EI s pn qn}:=
      cv4.put T cv4.WE (.inl rfl) rfl rfl rfl rfl (by rw[aK,if_pos rfl]) (by rw[aK,if_neg (by decide+kernel)];exact cv4.SI) hqb
     have v5:=v4.aaG T ez ec hzl (x':={x with quote:=EI s pn qn}) rfl ⟨_,_,_,_,cv5⟩ fun b o e n1 n2=>by rw[aD n1];exact e
     refine⟨_,rfl,_,rfl,_,_,rfl,rfl,(by show 1≤ag;decide),fun l hl=>?_⟩
     have nl:l≠z.1:=fun e=>by rw[e,af]at hl;cases hl
     have hl4:H4 l=none:=by rw[aD nl]at hl;exact hl
     have hlH:H l=none:=Fc (x1:=sh) (x2:=sh) (fun b o e n _=>cvk b o e n) hd3.at_ hd3.at_ (s4.free hl4)
     have ech:=Nq (s:=Mt.nU s x (pn:Int) (qn:Int)) (x:=x) (c1:=c1) (c2:=c2) g.good.o3 ec (fun y=>{y with quote:=EI s (pn:Int).toNat (qn:Int).toNat})
     rw[ech]at k
     refine k l _ W hlH ?_ ⟨_,_,_,_,v5.same T (bR hl)⟩ (fun b o e n=>?_) (fun b hb=>.inl hb) fun hz=>?_
     ·rw[af]
      have e1:(fK (Mt.nU s x (pn:Int) (qn:Int)) (gj x.num)).length=qn - pn:=by
       rw[tF]
       have:=WI (u:=2*x.num) ar hno
       rw[← er]at this
       exact this
      show some (HO.lst [V.int ((qn:Int) - (pn:Int))])=some (HO.lst [V.int ((fK (Mt.nU s x (pn:Int) (qn:Int)) (gj x.num)).length:Int)])
      rw[e1]
      congr 4
      omega
     ·rw[aD (a9 e hlH),aD (fun z'=>n (.inr (.inr (.inr (.inr ⟨z,by rw[ez];simp,.inl z'⟩)))))]
      exact s4 _ _ (cvk b o e (fun z'=>n (.inl z')))
     ·obtain⟨o,eo⟩:=v.there hz
      rw[hlH]at eo;cases eo
def acj (s:GS) (u:Nat):(nE s u==0)=!s.doc.row.any (aB u):=by
 unfold nE x6
 by_cases h:s.doc.row.any (aB u)=true
 ·rw[h]
  split
  ·rfl
  ·first | rw[if_pos h];rfl | rfl
 ·have h0:s.doc.row.any (aB u)=false:=by simpa using h
  have e:(fK s u).isEmpty=true:=by
   rw[nB,← iz,tF,iz,eM]
   intro x hx hc
   exact h (cA.mpr ⟨x,(aA.mp hx).1,hc⟩)
  rw[if_neg (by rw[e];decide),if_neg h,h0];rfl
def Y8 (T:Tx K mg t):aZ P w K mg base cH 8 t.MY t.MZ Hl (ue t (a1 .rescue)):=by
 have g3m:aZ P w K mg base cH 1 t.yz t.yA tQ (UO t):=Sd T
 have g3c:aZ P w K mg base cH 1 t.vw t.vz p0 (KA K):=O9 T
 have g0q:aZ P w K mg base cH 2 t.lN t.lO jU (vQ t.aj):=xE T
 have g0r:aZ P w K mg base cH 7 t.lP t.lQ jV (Qz t fun c=>2*c):=xI T
 refine T.rescue.fn.ok EO (fun vs H Q E h=>?_) (fun cdv A outer s H vs Q E hr h=>?_)
 ·obtain⟨sh,W,s,C,as,rfl,⟨c,rfl,rfl⟩,_⟩:=h
  rfl
 ·obtain⟨sh,W,s,C,as,rfl,⟨c,rfl,rfl⟩,⟨ra,dx,fs,ns,v⟩,g,k⟩:=h
  have zl:ag=16777216:=bS
  have hrl:=g.doc.len
  refine⟨_,(ai (dC (oY (ki (iY hr) (pv 1) (aV (pv 0) rfl))) (ao (aU (b5 (aa (fe dA aP) ah)))) b8)
   (ai (dC (jh (fM (bB T.Jt g3m (hr.mono (by decide)) (aa (pv 0) (aa (pv 1) ah))) (fun _=>rfl))) (ao (aU (b5 (aa (fe dA aP) ah)))) b8)
   (ai (bP (i:=2) EO.nd rfl (bc rfl) (aV (l5 (iY hr) (aV (pv 0) rfl) (pv 1) (fun _ _=>rfl)) rfl))
   (ai (bP (i:=3) EO.nd rfl (bc rfl) (bB T.Gm g3c (hr.mono (by decide)) (aa (bB T.ua g0q (hr.mono (by decide)) (aa (aV (pv 0) rfl) ah)) (aa (pv 2) ah))))
   (ai (dC (dN nQ (pv 3) (fe dA aP) (d6 _)) (ao (aU (b5 (aa (fe dA aP) ah)))) b8)
   (ai (bP (i:=4) EO.nd rfl (bc rfl) (e6 za (pv 3) (cT cX rfl T.jx bV (aa (pv 2) ah))))
   (ai (fo (bB T.ub g0r (hr.mono (by decide)) (aa (pv 0) (aa (pv 1) (aa (pv 3) (aa (pv 4) ah))))))
   (ao (aU (b5 (aa (pv 3) (aa (pv 4) ah)))))))))))),?_⟩
  rw[Mt.Qc]at k
  refine⟨_,rfl,_,rfl,sh,_,dx,_,_,rfl,v.doc.at_,T.aQ,T.bL,v.lcm,W.cd,_,rfl,jy.k (k:=dR c) v.cd,_,rfl,?_⟩
  rcases uf v c with⟨h1,h2⟩ | ⟨z1,z,z2,c1,x,c2,ez,ec,hzl,en,h1,h2,hx⟩
  ·rw[h1]
   rw[yS h2]at k
   exact Ab ⟨_,rfl,(by show 1≤ag;decide),fun l hl=>Fin.refuse T k v (aM.refl _) hl⟩
  ·rw[h2]
   rw[yT h1]at k
   subst en
   refine wt ⟨_,rfl,_,rfl,sh,W.ca,ra,dx,fs,s.doc,x.num,rfl,v.doc,by omega,fun H1 s1=>⟨_,rfl,?_⟩⟩
   rw[acj]at k
   refine fi (fun h=>?_) fun h=>?_
   ·rw[if_neg (by simpa[gj]using h)]at k
    exact⟨_,rfl,(by show 1≤ag;decide),fun l hl=>Fin.refuse T k v s1 hl⟩
   ·have ho:(!s.doc.row.any (aB (2*x.num)))=true:=by simpa using h
    rw[if_pos (by exact ho)]at k
    have v1:=v.same T s1
    obtain⟨dxc,qa,ta,fc,cv⟩:=hx
    have cv1:=cv.kr T (B5.same s1)
    have dg:jy H1 W.cd (kV (dR (x.num:Int))) (some (.ref z.1)):=by have:=jy.k (k:=dR (x.num:Int)) v1.cd;rw[h2]at this;exact this
    refine⟨_,rfl,sh,_,dx,_,_,rfl,v1.doc.at_,T.aQ,T.bL,v1.lcm,_,rfl,W.cd,_,rfl,dg,z.1,_,dxc,_,_,rfl,cv1.at_,T.cY,T.jc,cv1.WE,?_⟩
    have hvl:=Mt.il s.doc.row
    have hqn:=g.good.quote x (by rw[ec];simp)
    refine⟨_,rfl,sh,_,dx,_,_,rfl,v1.doc.at_,T.aQ,T.bA,v1.doc.zT,ra,s.doc.row,rfl,v1.doc.row.r,by omega,fun l1 H2 s2 hl1 h2'=>?_⟩
    refine⟨_,rfl,l1,qa,(visible s.doc.row).map (fun(y:Piece)=>y.sign),x.quote,rfl,g6.of h2',(cv1.qu.kr (t:=t) (B5.same s2)).sq,hqn.1,by rw[ab];omega,by omega,fun H3 s3=>?_⟩
    have s13:aM H H3:=(s1.trans s2).trans s3
    have v3:=v.same T s13
    have cv3:=cv.kr T (B5.same s13)
    have ef:EJ (visible (x6 s))=(visible s.doc.row).map (·.sign):=rfl
    rw[ef]at k
    cases e:jg x.quote 0 ((visible s.doc.row).map (·.sign))with
    | none=>
     rw[e]at k
     have hfi:GC x.quote ((visible s.doc.row).map (fun(y:Piece)=>y.sign))=-1:=by unfold GC;rw[e]
     rw[hfi]
     refine⟨_,rfl,_,rfl,rfl,_,rfl,?_⟩
     refine Ab ⟨_,rfl,(by show 1≤ag;decide),fun l hl=>Fin.refuse T k v s13 hl⟩
    | some p=>
     rw[e]at k
     have hfi:GC x.quote ((visible s.doc.row).map (fun(y:Piece)=>y.sign))=(p:Int):=by unfold GC;rw[e]
     rw[hfi]
     refine⟨_,rfl,_,rfl,rfl,_,rfl,?_⟩
     have nm:decide (V.int (p:Int)=V.int (-1))=false:=by rw[iP,beq_eq_false_iff_ne];omega
     show if decide (V.int (p:Int)=V.int (-1))=true then _ else _
     rw[nm]
     refine wt ?_
     have hfl:=Mt.A0 e
     rw[ab]at hfl
     have hql:0 < x.quote.length:=gQ.mpr hqn.1
     refine⟨_,rfl,_,rfl,qa,_,rfl,.inl cv3.qu.sq,_,_,rfl,rfl,?_⟩
     have eq1:(p:Int)+(((nv x.quote).length:Nat):Int)=((p+x.quote.length:Nat):Int):=by rw[fQ];omega
     refine⟨_,rfl,_,rfl,_,rfl,_,rfl,sh,W.ca,ra,dx,fs,s.doc,x.num,p,p+x.quote.length,by show[V.ref sh,V.int (x.num:Int),V.int (p:Int),V.int ((p:Int)+(((nv x.quote).length:Nat):Int))]=_;rw[eq1],v3.doc,g.doc,by omega,by omega,fun y hy hm=>?_,fun H4 ra4 fs4 hd4 hf4 kp4=>?_⟩
     ·have:s.doc.row.any (aB (2*x.num))=true:=cA.mpr ⟨y,hy,Mt.eV.mpr hm⟩
      rw[this]at ho;cases ho
     ·refine⟨_,rfl,_,rfl,(by show 2≤ag;decide),fun l hl=>?_⟩
      have kp:∀b o,H b=some o→b≠sh→H4 b=some o:=fun b o e n=>kp4 b o (s13 _ _ e) n
      have hlH:H l=none:=Fc (x1:=sh) (x2:=sh) (fun b o e n _=>kp b o e n) hd4.at_ hd4.at_ hl
      exact Fin.doc T (d':=(Cp s.doc p (p+x.quote.length) (2*x.num) true).1) k v hlH (by rw[af];show some (HO.lst [V.int (p:Int),V.int ((p:Int)+(((nv x.quote).length:Nat):Int))])=_;rw[eq1];rfl) (hd4.same (bR hl)) (lV hf4) fun b o e n1 _=>by rw[aD (a9 e hlH)];exact kp b o e n1
def ug {H H':Hp} {d:Addr} {u:HO} {od:Obj} (h:H d=some u) (s:aM (upd H d (.iK od u)) H'):aM H (upd H' d u):=fun b o e=>by
 by_cases n:b=d
 ·subst n;rw[h]at e;rw[af];exact e
 ·rw[aD n];exact s b o (by rw[aD n];exact e)
theorem B6 {κ:Type} [DecidableEq κ]:∀{kvs:List (κ×V)} {i:Nat} {k:κ} {v:V},(kvs.map (·.1)).Nodup→kvs[i]? =some (k,v)→iL kvs k=some v
 | [],_,_,_,_,h=>by simp at h
 | p::r,0,k,v,_,h=>by
  simp at h;subst h;exact kg rfl
 | p::r,i+1,k,v,nd,h=>by
  have h:r[i]? =some (k,v):=by simpa using h
  rw[aT,gT]at nd
  have ne:¬p.1=k:=fun e=>nd.1 (e▸aR.mpr ⟨(k,v),a7 h,rfl⟩)
  rw[kh ne];exact B6 nd.2 h
theorem wj:∀{ns:List Addr} {ms:List bT},ns.length=ms.length→(j1 ns ms).map (·.1)=ms.map fun b=>kI b.id
 | [],[],_=>rfl
 | _::ns,_::ms,h=>by
  have:=wj (ns:=ns) (ms:=ms) (by simpa using h)
  unfold j1 at this⊢
  rw[dM,aT,aT,this];rfl
def xK {ns:List Addr} {ms:List bT} (h:ns.length=ms.length):(j1 ns ms).length=ms.length:=by
 unfold j1;rw[ab,gU,h,iV]
def UQ {ns:List Addr} {ms:List bT} {i:Nat} {k:Key} {v:V} (h:(j1 ns ms)[i]? =some (k,v)):∃a b,ns[i]? =some a∧ms[i]? =some b∧k=kI b.id∧v=.ref a:=by
 unfold j1 at h
 rw[b0]at h
 cases e:(ns.zip ms)[i]? with
 | none=>rw[e]at h;cases h
 | some z=>
  rw[e]at h
  obtain⟨h1,h2⟩:=g0.mp e
  cases (bu h)
  exact⟨z.1,z.2,h1,h2,rfl,rfl⟩
def JN {ms:List bT} (h:ms.Pairwise fun a b=>a.id < b.id):(ms.map fun b=>kI b.id).Nodup:=by
 rw[c4,b7]
 exact h.imp fun h e=>cI h (qY _ _ e)
def jy.iK {H:Hp} {a:Addr} {od:Obj} {kvs:List (Key×V)} {k:Key} {r:Option V} (h:H a=some (.iK od (.dK kvs))) (e:iL kvs k=r):jy H a (kV k) r:=.inl ⟨kvs,k,.inr ⟨od,h⟩,rfl,e.symm⟩
def QF:Sp:=fun vs H Q _=>∃z:Int,vs=[.int z]∧Q (.bl (bo z 97 122)) H
def GD (T:Tx K mg t):aZ P w K mg base cH 1 t.l8 t.l9 jK QF:=by
 refine T.uK.fn.ok F4 (fun vs H Q E h=>?_) (fun cdv A outer s H vs Q E hr h=>?_)
 ·obtain⟨z,rfl,_⟩:=h
  rfl
 ·obtain⟨z,rfl,k⟩:=h
  refine⟨_,ao (aU (C4 iX iX aP (pv 0) aP)),?_⟩
  refine⟨_,rfl,_,_,rfl,rfl,_,rfl,?_⟩
  refine fi (fun h=>?_) fun h=>?_
  ·refine⟨_,_,rfl,rfl,?_⟩
   have e:bo z 97 122=decide (z≤122):=by
    unfold bo
    rw[show decide (((97:Nat):Int)≤z)=true from h];rfl
   rw[e]at k;exact k
  ·have e:bo z 97 122=false:=by
    unfold bo
    rw[show decide (((97:Nat):Int)≤z)=false from by simpa using h];rfl
   rw[e]at k;exact k
def UR (K:aq):Sp:=fun vs H Q _=>EX2 fun(a:Addr) (ns:List Int)=>vs=[.ref a]∧g6 K H a (ns.map V.int)∧ns.length≤ag∧∀H',aM H H'→Q (.bl (i9 ns)) H'
def WK (T:Tx K mg t):aZ P w K mg base cH 2 t.EV t.EW Ai (UR K):=by
 have GS:aZ P w K mg base cH 1 t.l8 t.l9 jK QF:=GD T
 obtain⟨tk,hk⟩:=T.Eb
 refine T.RV.fn.ok F5 (fun vs H Q E h=>?_) (fun cdv A outer s H vs Q E hr h=>?_)
 ·obtain⟨a,ns,rfl,_⟩:=h
  rfl
 ·obtain⟨a,ns,rfl,hs,hz,k⟩:=h
  refine⟨_,ao (aU (IP (C4 iX iX aP (cT cX rfl T.jx bV (aa (pv 0) ah)) (GY (v:=.int 20) rfl hk ⟨_,rfl⟩))
   (FU (cT (VM rfl) rfl T.XA rfl (aa (pU (own:=[("number",1)]) rfl F5.nd (dQ (pv 0)) (eC (by rfl)) (fun _ _ _ _ _=>da (i:=1) F5.nd rfl (bc rfl)) (fun _ _ _ _ _=>j7)
    (fun _ _ _ _ _=>bB T.uK GS hr (aa (pv 1) ah))) ah))))),?_⟩
  refine⟨_,rfl,_,_,rfl,.inl hs,_,_,rfl,rfl,_,rfl,?_⟩
  have el:(((ns.map V.int).length:Nat):Int)=(ns.length:Int):=by rw[ab]
  have nope:i9 ns=false→∀H',aM H H'→Q (.bl false) H':=fun e H' s'=>by rw[← e];exact k H' s'
  refine fi (fun h=>?_) fun h=>?_
  ·refine⟨_,_,rfl,rfl,_,rfl,?_⟩
   refine fi (fun h2=>?_) fun h2=>?_
   ·refine⟨_,rfl,a,rfl,⟨_,hs⟩,fun D' hD=>zf (xs:=ns.map V.int) (ns.map fun z=>V.bl (bo z 97 122)) hs hD (by simp) (by simpa using hz) (fun i x y H' Q' hx hy s' q=>?_) fun H' s' e=>?_⟩
    ·obtain⟨z,ez,rfl⟩:=get_map hx
     obtain⟨z',ez',rfl⟩:=get_map hy
     cases ez.symm.trans ez'
     exact⟨_,rfl,z,rfl,q H' (aM.refl _)⟩
    ·refine⟨D',ns.map fun z=>bo z 97 122,rfl,by rw[bD];exact g6.of e,?_⟩
     have e2:i9 ns=(ns.map fun z=>bo z 97 122).all id:=by
      unfold i9
      have h1:ns.isEmpty=false:=by
       cases ns with
       | nil=>simp at h
       | cons _ _=>rfl
      have h3:decide (ns.length≤20)=true:=by simp at h2⊢;omega
      rw[h1,h3,vW];simp
     rw[← e2];exact k H' s'
   ·refine nope ?_ H (aM.refl _)
    unfold i9
    have h3:decide (ns.length≤20)=false:=by simp at h2⊢;omega
    rw[h3];simp
  ·refine⟨_,rfl,wt (nope ?_ H (aM.refl _))⟩
   have e:ns=[]:=by
    cases ns with
    | nil=>rfl
    | cons _ _=>simp at h;omega
   subst e;rfl
def sF (s:GS) (ms:List Int):V:=match s.marks.find? (fun b=>Vatrkg.ints b.name==ms)with
 | some b=>.int (b.id:Int)
 | none=>.non
def Ia (t:pH):Sp:=fun vs H Q _=>EX5 fun(sh:Addr) (W:Own) (s:GS) (a:Addr) (ms:List Int)=>vs=[.ref sh,.ref a]∧rO t H sh W s∧s.marks.Pairwise (fun a b=>a.id < b.id)∧Kn H a (ms.map V.int)∧∀H',aM H H'→Q (sF s ms) H'
theorem XT {α:Type} {p:α→Bool}:∀{l:List α} {i:Nat} {x:α},l[i]? =some x→(∀j y,j < i→l[j]? =some y→p y=false)→p x=true→l.find? p=some x
 | [],_,_,h,_,_=>by simp at h
 | a::l,0,x,h,_,hp=>by simp at h;subst h;rw[gh,hp]
 | a::l,i+1,x,h,hn,hp=>by
  rw[gh,hn 0 a (II _) rfl]
  exact XT (by simpa using h) (fun j y hj hy=>hn (j+1) y (by omega) (by simpa using hy)) hp
def sG (T:Tx K mg t):aZ P w K mg base cH 1 t.jD t.jE iD (Ia t):=by
 refine T.ox.fn.ok Aj (fun vs H Q E h=>?_) (fun cdv A outer s H vs Q E hr h=>?_)
 ·obtain⟨sh,W,s,a,ms,rfl,_⟩:=h
  rfl
 ·obtain⟨sh,W,s,a,ms,rfl,⟨ra,dx,fs,ns,v⟩,hpw,hk,k⟩:=h
  refine⟨_,(ai (Lu (mi cS rfl (G9 (aV (pv 0) rfl)) (da (i:=2) Aj.nd rfl (bc rfl)) (ao (dC (dN (QW hr.units) (l5 (iY hr) (aV (pv 0) rfl) (pv 2) (fun _ _=>rfl)) (pv 1) (d6 _)) (ao (aU (pv 2))) b8))))
   (ao (aU acy))),?_⟩
  refine⟨W.bd,.dK (j1 ns s.marks),v.bd,trivial,fun od=>?_⟩
  have hnl:ns.length=s.marks.length:=b9 v.SJ
  have kk:∀b o,H b=some o→(∀kvs,o≠.dK kvs)→upd H W.bd (.iK od (.dK (j1 ns s.marks))) b=some o:=fun b o e n=>by rw[aD (d5 e v.bd (n _))];exact e
  have hsh:=kk _ _ v.doc.at_ (by intro _ z;cases z)
  have kf:∀b ys,Kn H b ys→Kn (upd H W.bd (.iK od (.dK (j1 ns s.marks)))) b ys:=fun b ys ⟨o,e⟩=>⟨o,kk _ _ e (by intro _ z;cases z)⟩
  refine⟨_,rfl,sh,_,dx,_,_,rfl,hsh,T.aQ,T.cZ,v.QC,W.bd,od,rfl,.inl ⟨_,af,TZ (d:=W.bd) (o:=od) (kvs:=j1 ns s.marks) (fun i σ H'=>∃v:Option V,σ=[some (.ref sh),some (.ref a),v]∧aM (upd H W.bd (.iK od (.dK (j1 ns s.marks)))) H'∧∀j y,j < i→s.marks[j]? =some y→(Vatrkg.ints y.name==ms)=false)
   ⟨none,rfl,aM.refl _,fun j y hj=>absurd hj (CK _)⟩ (fun i σ H' _ ⟨_,_,s1,_⟩=>s1 _ _ af) ?_ ?_⟩⟩
  ·rintro i kk vv σ H1 hi ⟨v0,rfl,s1,hn⟩
   obtain⟨na,b,e1,e2,rfl,rfl⟩:=UQ hi
   obtain⟨b',e2',hkn⟩:=cQ v.SJ e1
   cases e2.symm.trans e2'
   have hv:=B6 (by rw[wj hnl];exact JN hpw) hi
   refine⟨_,rfl,sh,_,dx,_,_,rfl,s1 _ _ hsh,T.aQ,T.cZ,v.QC,_,rfl,W.bd,_,rfl,jy.iK (s1 _ _ af) hv,_,rfl,?_⟩
   have h1:=(kf _ _ hkn).kr (t:=t) (B5.same s1)
   rw[LJ]at h1
   refine Nt h1.sq ((kf _ _ hk).kr (t:=t) (B5.same s1)).sq ⟨_,rfl,?_⟩
   have eb:decide (Vatrkg.ints b.name=ms)=(Vatrkg.ints b.name==ms):=by rw[bH];simp
   rw[eb]
   refine fi (fun h=>?_) fun h=>?_
   ·refine⟨_,rfl,s1 _ _ af,?_⟩
    have:=k _ (ug v.bd s1)
    unfold sF at this
    rw[XT e2 hn h]at this
    exact this
   ·refine⟨_,rfl,s1,fun j y hj hy=>?_⟩
    rcases nA j i with lt | ge
    ·exact hn j y lt hy
    ·have:j=i:=by omega
     subst this
     cases hy.symm.trans e2
     simpa using h
  ·rintro σ H1 ⟨v0,rfl,s1,hn⟩
   refine⟨s1 _ _ af,?_⟩
   have:=k _ (ug v.bd s1)
   unfold sF at this
   rw[List.find?_eq_none.mpr fun y hy=>?_]at this
   ·exact this
   ·obtain⟨j,hj⟩:=jR hy
    have:=hn j y (by rw[xK hnl];exact(ay.mp hj).1) hj
    rw[this];decide
def JO {ms:List Int} (h:i9 ms=true):Vatrkg.ints (eF ms)=ms:=by
 unfold Vatrkg.ints eF
 rw[bD]
 conv=>rhs;rw[← pR ms]
 refine fT fun z hz=>?_
 unfold i9 at h
 simp only[dh]at h
 have:=Mt.iC.mp (gC.mp h.2.2 z hz)
 show((z.toNat:Nat):Int)=z
 omega
def Se {s:GS} {ms:List Int} (h:i9 ms=true):decide (sF s ms=.non)=(AL s (eF ms)).isNone:=by
 unfold sF AL
 have e:(fun b:bT=>Vatrkg.ints b.name==ms)=fun b=>b.name==eF ms:=by
  funext b
  rw[bH,beq_iff_eq,beq_iff_eq]
  constructor
  ·intro e;rw[← JO h,UM]at e;exact e
  ·intro e;rw[e,JO h]
 rw[e]
 cases s.marks.find? (fun b=>b.name==eF ms) <;> rfl
def Y9 {ns:List Addr} {ms:List bT} (h:ns.length=ms.length) (a:Addr) (x:bT):j1 (ns++[a]) (ms++[x])=j1 ns ms++[(kI x.id,.ref a)]:=by
 unfold j1;rw[UG h,bz];rfl
def Za {ns:List Addr} {ms:List bT} (hl:ns.length=ms.length) {n:Nat} (h:∀x∈ms,x.id≠n):iL (j1 ns ms) (kI n)=none:=by
 cases e:iL (j1 ns ms) (kI n)with
 | none=>rfl
 | some v=>
  exfalso
  have:(iL (j1 ns ms) (kI n)).isSome=true:=by rw[e];rfl
  rw[← wo,cA]at this
  obtain⟨kv,hkv,ek⟩:=this
  have hm:kv.1∈(j1 ns ms).map (·.1):=aR.mpr ⟨kv,hkv,rfl⟩
  rw[wj hl]at hm
  obtain⟨b,hb,eb⟩:=aR.mp hm
  exact h b hb (qY _ _ (eb.trans (by simpa using ek)))
def GOk.abV {s:GS} (g:GOk s):s.comments.length≤1000:=by
 have h1:(s.comments.map (·.num)).Nodup:=by
  rw[c4,b7]
  exact g.good.o3.imp fun h=>cI h
 have:=Mt.kj s.nextComment _ h1 fun n hn=>by
  obtain⟨y,hy,rfl⟩:=aR.mp hn
  exact(g.good.g8 y hy).2
 rw[ab]at this
 have:=g.nc
 omega
def GOk.adA {s:GS} (g:GOk s):s.marks.length≤1000:=by
 have h1:(s.marks.map (·.id)).Nodup:=by
  rw[c4,b7]
  exact g.good.vh.imp fun h=>cI h
 have:=Mt.kj s.nextMark _ h1 fun n hn=>by
  obtain⟨y,hy,rfl⟩:=aR.mp hn
  exact(g.good.ya y hy).2
 rw[ab]at this
 have:=g.nm
 omega
def XU {s:GS} {ms:List Int} {f:bT→GS×List Int}:Mt.rM s ms f=match s.marks.find? (fun b=>Vatrkg.ints b.name==ms)with
 | some b=>f b
 | none=>(s,[-4]):=rfl
def AN.ack (T:Tx K mg t) {H:Hp} {sh:Addr} {W:Own} {ra dx:Addr} {fs:List (Str×V)} {ns ns':List Addr} {s:GS} {ms':List bT} {kvs:List (Key×V)} (h:AN t H sh W ra dx fs ns s) (ek:kvs=j1 ns' ms') (hp:Paired (fun a (b:bT)=>Kn H a (nv b.name)) ns' ms'):
  AN t (upd H W.bd (.dK kvs)) sh W ra dx fs ns' {s with marks:=ms'}:=by
 have kk:∀b o,H b=some o→(∀kvs,o≠.dK kvs)→upd H W.bd (.dK kvs) b=some o:=fun b o e n=>by rw[aD (d5 e h.bd (n _))];exact e
 have kf:∀b ys,Kn H b ys→Kn (upd H W.bd (.dK kvs)) b ys:=fun b ys ⟨o,e⟩=>⟨o,kk _ _ e (by intro _ z;cases z)⟩
 have kc:∀z' y,ud t H z' y→ud t (upd H W.bd (.dK kvs)) z' y:=fun z' y ⟨dx,qa,ta,fs,v⟩=>by
  obtain⟨rs,e,p⟩:=v.rp
  exact⟨dx,qa,ta,fs,kk _ _ v.at_ (by intro _ z;cases z),v.Ek,v.HH,v.WE,v.Zs,v.Vn,v.SI,v.x9,kf _ _ v.qu,kf _ _ v.tx,rs,kk _ _ e (by intro _ z;cases z),Paired.oX p fun r y ⟨tb,e,q⟩=>⟨tb,kk _ _ e (by intro _ z;cases z),kf _ _ q⟩⟩
 refine⟨⟨kk _ _ h.doc.at_ (by intro _ z;cases z),h.doc.Ek,h.doc.HH,h.doc.WA,h.doc.Vl,h.doc.zT,h.doc.x9,kk _ _ h.doc.Kt (by intro _ z;cases z),h.doc.row.kp fun b o e im=>kk b o e (fun _ z=>by subst z;exact im)⟩,h.lcm,h.lcn,h.QC,h.lbn,?_,Paired.oX h.QD fun z y q=>kc z y q,by rw[af,ek],Paired.oX hp fun a b z=>kf _ _ z,h.XQ,h.XR,h.SK,h.Y0⟩
 rw[aD h.Y0];exact h.cd
def JP (T:Tx K mg t):aZ P w K mg base cH 8 t.uG t.uH oH (ue t (a2L .bookmark)):=by
 have g1d:aZ P w K mg base cH 4 t.sk t.sm o5 (E9 t):=Es T
 have g4b:aZ P w K mg base cH 2 t.EV t.EW Ai (UR K):=WK T
 have g0n:aZ P w K mg base cH 1 t.jD t.jE iD (Ia t):=sG T
 have g2j:aZ P w K mg base cH 7 t.qt t.qv my (Qz t fun c=>2*c+1):=Lc T
 refine T.zQ.fn.ok Je (fun vs H Q E h=>?_) (fun cdv A outer s H vs Q E hr h=>?_)
 ·obtain⟨sh,W,s,C,as,rfl,⟨p,q,a,ms,rfl,hk,hl,rfl⟩,_⟩:=h
  rfl
 ·obtain⟨sh,W,s,C,as,rfl,⟨p,q,a,ms,rfl,hk,hl,rfl⟩,⟨ra,dx,fs,ns,v⟩,g,k⟩:=h
  have zl:ag=16777216:=bS
  have hrl:=g.doc.len
  refine⟨_,(ai (dC (jh (fM (bB T.D6 g1d (hr.mono (by decide)) (aa (pv 0) (aa (pv 1) (aa (pv 2) ah)))) (fun _=>rfl))) (ao (aU (b5 (aa (fe dA aP) ah)))) b8)
   (ai (dC (jh (fM (bB T.RV g4b (hr.mono (by decide)) (aa (pv 3) ah)) (fun _=>rfl))) (ao (aU (b5 (aa (fe dA aP) ah)))) b8)
   (ai (dC (oY (aa1 (bB T.ox g0n (hr.mono (by decide)) (aa (pv 0) (aa (pv 3) ah))))) (ao (aU (b5 (aa (fe dA aP) ah)))) b8)
   (ai (EK (pv 0) aP QR)
   (ai (G6 (iY hr) (aV (pv 0) rfl) (aV (pv 0) rfl) (pv 3) rfl)
   (ai (fo (bB T.BH g2j (hr.mono (by decide)) (aa (pv 0) (aa (aV (pv 0) rfl) (aa (pv 1) (aa (pv 2) ah))))))
   (ao (aU (b5 (aa (cT Aa rfl T.jx bV (aa (aV (pv 0) rfl) ah)) ah)))))))))),?_⟩
  rw[Mt.Kl]at k
  refine⟨_,rfl,_,rfl,_,rfl,sh,W.ca,ra,dx,fs,s.doc,p,q,rfl,v.doc,by omega,fun H1 s1=>⟨_,rfl,?_⟩⟩
  have eP:lH s p q=dZ p q (bJ s.doc):=rfl
  rw[← eP]
  refine fi (fun h=>?_) fun h=>?_
  ·rw[if_neg (by simpa using h)]at k
   exact⟨_,rfl,(by show 1≤ag;decide),fun l hl=>Fin.refuse T k v s1 hl⟩
  ·have hp:lH s p q=true:=by simpa using h
   rw[if_pos hp]at k
   obtain⟨hpq,hqc,hp0,hpq0,_⟩:=Mt.places hp
   obtain⟨pn,rfl⟩:∃n:Nat,p=(n:Int):=⟨p.toNat,by omega⟩
   obtain⟨qn,rfl⟩:∃n:Nat,q=(n:Int):=⟨q.toNat,by omega⟩
   have hpq:pn < qn:=by omega
   have hqc:qn≤(visible s.doc.row).length:=hqc
   refine⟨_,rfl,a,ms,rfl,(hk.kr (t:=t) (B5.same s1)).sq,by omega,fun H2 s2=>⟨_,rfl,?_⟩⟩
   have s12:=s1.trans s2
   refine fi (fun h=>?_) fun h=>?_
   ·rw[if_neg (by simpa using h)]at k
    exact⟨_,rfl,(by show 1≤ag;decide),fun l hl=>Fin.refuse T k v s12 hl⟩
   ·have hnm:i9 ms=true:=by simpa using h
    rw[if_pos hnm]at k
    refine⟨_,rfl,_,rfl,sh,W,s,a,ms,rfl,⟨ra,dx,fs,ns,v.same T s12⟩,g.good.vh,hk.kr (t:=t) (B5.same s12),fun H2b s2b=>?_⟩
    have s12:=s12.trans s2b
    refine⟨_,rfl,?_⟩
    rw[Se hnm]
    refine fi (fun h=>?_) fun h=>?_
    ·rw[if_neg (by intro z;rw[z]at h;cases h)]at k
     exact⟨_,rfl,(by show 1≤ag;decide),fun l hl=>Fin.refuse T k v s12 hl⟩
    ·rw[if_pos (by cases z:(AL s (eF ms)).isNone with | true=>rfl | false=>rw[z]at h;exact absurd rfl h)]at k
     have v2:=v.same T s12
     refine⟨_,rfl,sh,_,dx,_,_,rfl,v2.doc.at_,T.aQ,T.gA,v2.lbn,_,_,rfl,rfl,dx,_,v2.doc.at_,v2.doc.x9,?_⟩
     have en:((s.nextMark:Int) - 1+1)=((s.nextMark:Nat):Int):=by omega
     rw[en]
     have lbn3:(dB "bookmarks_made" (.int ((s.nextMark:Nat):Int)) fs).lookup ("bookmarks_made":Str)=some (.int ((s.nextMark:Nat):Int)):=by rw[aK,if_pos rfl]
     have v3:=v2.aev T (s':={s with nextMark:=s.nextMark+1}) (f:="bookmarks_made") (v:=.int ((s.nextMark:Nat):Int)) (.inr rfl) v2.lbn rfl rfl rfl (by rw[aK,if_neg (by decide+kernel)];exact v2.lcn) (by rw[lbn3];congr 2;show _=((s.nextMark+1:Nat):Int) - 1;omega)
     generalize hfs3:dB "bookmarks_made" (.int ((s.nextMark:Nat):Int)) fs=fs3 at v3 lbn3
     generalize hH3:upd H2b sh (.ins t.cu dx fs3)=H3 at v3
     have kp3:∀b o,H b=some o→b≠sh→H3 b=some o:=fun b o e n=>by rw[← hH3,aD n];exact s12 _ _ e
     have hk3:Kn H3 a (ms.map V.int):=let ⟨o,e⟩:=hk;⟨o,kp3 _ _ e (d5 e v.doc.at_ (by intro z;cases z))⟩
     have hnl:ns.length=s.marks.length:=b9 v.SJ
     have hml:=g.adA
     refine⟨_,rfl,_,rfl,sh,_,dx,_,_,rfl,v3.doc.at_,T.aQ,T.cZ,v3.QC,_,rfl,sh,_,dx,_,_,rfl,v3.doc.at_,T.aQ,T.gA,lbn3,W.bd,_,rfl,L0.k (k:=kI s.nextMark) v3.bd (by rw[xK hnl];omega),?_⟩
     have hnn:∀x∈s.marks,x.id≠s.nextMark:=fun x hx=>cI (g.good.ya x hx).2
     have v4:=v3.ack T (ns':=ns++[a]) (ms':=s.marks++[⟨s.nextMark,eF ms⟩]) (kvs:=putK (j1 ns s.marks) (kI s.nextMark) (.ref a)) (by rw[Tf _ (Za hnl hnn),Y9 hnl]) (fF v3.SJ (.cons (by rw[LJ];show Kn H3 a ((Vatrkg.ints (eF ms)).map V.int);rw[JO hnm];exact hk3) .nil))
     refine⟨_,rfl,_,rfl,sh,_,dx,_,_,rfl,v4.doc.at_,T.aQ,T.gA,lbn3,_,rfl,_,rfl,sh,W.ca,ra,dx,fs3,s.doc,s.nextMark,pn,qn,rfl,v4.doc,g.doc,hpq,hqc,fun y hy hm=>?_,fun H7 ra7 fs7 hd7 hf7 kp7=>?_⟩
     ·obtain⟨y',hy',e⟩:=g.good.AX y hy _ hm
      have:=(g.good.ya y' hy').2
      omega
     ·have v7:=v4.JL T hd7 (lV hf7) fun b o e n1 _=>kp7 b o e n1
      refine⟨_,rfl,sh,_,dx,_,_,rfl,v7.doc.at_,T.aQ,T.cZ,v7.QC,W.bd,_,rfl,v7.bd,(by show 1≤ag;decide),fun l hl=>?_⟩
      have kp:∀b o,H b=some o→b≠sh→b≠W.bd→H7 b=some o:=fun b o e n1 n2=>kp7 b o (by rw[aD n2];exact kp3 b o e n1) n1
      have hlH:H l=none:=Fc kp hd7.at_ v7.bd hl
      refine k l _ W hlH ?_ ⟨_,_,_,_,v7.same T (bR hl)⟩ (fun b o e n=>?_) (fun b hb=>.inl hb) fun hz=>?_
      ·rw[af]
       show some (HO.lst [V.int (((j1 (ns++[a]) (s.marks++[⟨s.nextMark,eF ms⟩])).length:Nat):Int)])=some (HO.lst [V.int ((s.marks.length:Int)+1)])
       rw[xK (by simp[hnl]),ae];rfl
      ·rw[aD (a9 e hlH)]
       exact kp b o e (fun z'=>n (.inl z')) (fun z'=>n (.inr (.inr (.inr (.inl z')))))
      ·obtain⟨o,eo⟩:=v7.there hz
       rw[hl]at eo;cases eo
def Zb (T:Tx K mg t):aZ P w K mg base cH 5 t.MW t.MX Hj (ue t (aL .unmark)):=by
 have g0n:aZ P w K mg base cH 1 t.jD t.jE iD (Ia t):=sG T
 have g2e:aZ P w K mg base cH 4 t.oN t.oO lq (Nl t fun c=>2*c+1):=JJ T
 refine T.unmark.fn.ok Qm (fun vs H Q E h=>?_) (fun cdv A outer s H vs Q E hr h=>?_)
 ·obtain⟨sh,W,s,C,as,rfl,⟨a,ms,rfl,hk,hl,rfl⟩,_⟩:=h
  rfl
 ·obtain⟨sh,W,s,C,as,rfl,⟨a,ms,rfl,hk,hl,rfl⟩,⟨ra,dx,fs,ns,v⟩,g,k⟩:=h
  refine⟨_,(ai (bP (i:=2) Qm.nd rfl (bc rfl) (bB T.ox g0n (hr.mono (by decide)) (aa (pv 0) (aa (pv 1) ah))))
   (ai (dC (oY (ZC (pv 2))) (ao (aU (b5 (aa (fe dA aP) ah)))) b8)
   (ao (aU (b5 (aa (bB T.zP g2e (hr.mono (by decide)) (aa (pv 0) (aa (pv 2) ah))) ah)))))),?_⟩
  rw[Mt.Qg,XU]at k
  refine⟨_,rfl,_,rfl,sh,W,s,a,ms,rfl,⟨ra,dx,fs,ns,v⟩,g.good.vh,hk,fun H1 s1=>?_⟩
  have v1:=v.same T s1
  cases e:s.marks.find? (fun b=>Vatrkg.ints b.name==ms)with
  | none=>
   rw[e]at k
   have hf:sF s ms=.non:=by unfold sF;rw[e]
   rw[hf]
   exact⟨_,rfl,_,rfl,Ab ⟨_,rfl,(by show 1≤ag;decide),fun l hl=>Fin.refuse T k v s1 hl⟩⟩
  | some b=>
   rw[e]at k
   have hf:sF s ms=.int (b.id:Int):=by unfold sF;rw[e]
   rw[hf]
   refine⟨_,rfl,_,rfl,wt ⟨_,rfl,_,rfl,sh,W.ca,ra,dx,fs,s.doc,b.id,rfl,v1.doc,g.doc,fun H2 ra2 fs2 hd2 hf2 kp2=>?_⟩⟩
   refine⟨(by show 1≤ag;decide),fun l hl=>?_⟩
   have kp:∀b o,H b=some o→b≠sh→H2 b=some o:=fun b o e n=>kp2 b o (s1 _ _ e) n
   have hlH:H l=none:=Fc (x1:=sh) (x2:=sh) (fun b o e n _=>kp b o e n) hd2.at_ hd2.at_ hl
   exact Fin.doc T (d':={s.doc with row:=s.doc.row.map (retag (2*b.id+1) false)}) k v hlH af (hd2.same (bR hl)) (lV hf2) fun b o e n1 _=>by rw[aD (a9 e hlH)];exact kp b o e n1
theorem XW {C:Addr} {H:Hp}:∀{rs:List Addr} {bs:List (List Piece)},ig C H rs bs→∃(ps:List Addr) (ls:List (List Nat)),Paired (fun r p=>∃sg i d c dx,H r=some (.ins C dx (M7 (.ref sg) (.ref i) (.ref d) (.ref c) (.ref p)))) rs ps∧Paired (fun p l=>H p=some (.tup (nv l))) ps ls∧Paired (fun l b=>∃ins del d4,x8 b ins del d4 l) ls bs
 | _,_,.nil=>⟨[],[],.nil,.nil,.nil⟩
 | _,_,.cons hst t=>by
  obtain⟨ps,ls,h1,h2,h3⟩:=XW t
  obtain⟨sg,i,d,c,m,ins,del,d4,bm,v⟩:=hst
  obtain⟨dx,ha⟩:=v.at_
  exact⟨m::ps,bm::ls,.cons ⟨sg,i,d,c,dx,ha⟩ h1,.cons v.m h2,.cons ⟨ins,del,d4,v.gS⟩ h3⟩
theorem XX {C:Addr} {H:Hp}:∀{rs:List Addr} {bs:List (List Piece)},ig C H rs bs→∃(ps:List Addr) (ls:List (List Nat)),Paired (fun r p=>∃sg i d m dx,H r=some (.ins C dx (M7 (.ref sg) (.ref i) (.ref d) (.ref p) (.ref m)))) rs ps∧Paired (fun p l=>H p=some (.tup (nv l))) ps ls∧Paired (fun l b=>∃ins del bm,x8 b ins del l bm) ls bs
 | _,_,.nil=>⟨[],[],.nil,.nil,.nil⟩
 | _,_,.cons hst t=>by
  obtain⟨ps,ls,h1,h2,h3⟩:=XX t
  obtain⟨sg,i,d,c,m,ins,del,d4,bm,v⟩:=hst
  obtain⟨dx,ha⟩:=v.at_
  exact⟨c::ps,d4::ls,.cons ⟨sg,i,d,m,dx,ha⟩ h1,.cons v.c h2,.cons ⟨ins,del,bm,v.gS⟩ h3⟩
theorem XY {n:Nat}:∀{ls:List (List Nat)} {bs:List (List Piece)},Paired (fun l b=>∃ins del d4,x8 b ins del d4 l) ls bs→((∃l∈ls,n∈l)↔bs.flatten.any (aB (2*n+1))=true)
 | _,_,.nil=>by simp
 | l::ls,b::bs,.cons ⟨ins,del,d4,h⟩ t=>by
  have ih:=XY (n:=n) t
  have hb:n∈l↔b.any (aB (2*n+1))=true:=by
   rw[E7 h.ne (h.all _),R5 h,Mt.iQ]
  rw[bC,uZ,CI,← hb,← ih]
  simp
theorem XZ {n:Nat}:∀{ls:List (List Nat)} {bs:List (List Piece)},Paired (fun l b=>∃ins del bm,x8 b ins del l bm) ls bs→((∃l∈ls,n∈l)↔bs.flatten.any (aB (2*n))=true)
 | _,_,.nil=>by simp
 | l::ls,b::bs,.cons ⟨ins,del,bm,h⟩ t=>by
  have ih:=XZ (n:=n) t
  have hb:n∈l↔b.any (aB (2*n))=true:=by
   rw[E7 h.ne (h.all _),Av h,Mt.iQ]
  rw[bC,uZ,CI,← hb,← ih]
  simp
def bKv (z:Addr×bT):Key×V:=(kI z.2.id,.ref z.1)
def Nw (M:List (Addr×bT)):j1 (M.map (·.1)) (M.map (·.2))=M.map bKv:=by
 unfold j1
 have:(M.map (·.1)).zip (M.map (·.2))=M:=by
  induction M with
  | nil=>rfl
  | cons z r ih=>rw[aT,aT,dM,ih]
 rw[this];rfl
theorem Ny {α β:Type} {F:α→β→Prop}:∀{a:List α} {b:List β},Paired F a b→∀z∈a.zip b,F z.1 z.2
 | _,_,.nil,z,h=>by cases h
 | _,_,.cons r t,z,h=>by
  rw[dM]at h
  rcases bx.mp h with rfl | h
  ·exact r
  ·exact Ny t z h
theorem Ib {α β:Type} {F:α→β→Prop}:∀{M:List (α×β)},(∀z∈M,F z.1 z.2)→Paired F (M.map (·.1)) (M.map (·.2))
 | [],_=>.nil
 | z::r,h=>.cons (h z (aE ..)) (Ib fun y hy=>h y (aI _ hy))
def adB {d:aC} (ok:DocOk d) {ls:List (List Nat)} {bs:List (List Piece)} (h:Paired (fun l b=>∃ins del d4,x8 b ins del d4 l) ls bs) (e:bs.flatten=d.row):∀l∈ls,∀n∈l,n < 10000:=fun l hl n hn=>by
 obtain⟨b,hb,ins,del,d4,hB⟩:=sE h hl
 obtain⟨x,hx⟩:=cG b hB.ne
 have:=ok.tags x (by rw[← e];exact dr.mpr ⟨b,hb,hx⟩) _ ((hB.bm x hx n).mp hn)
 omega
def X0 {d:aC} (ok:DocOk d) {ls:List (List Nat)} {bs:List (List Piece)} (h:Paired (fun l b=>∃ins del bm,x8 b ins del l bm) ls bs) (e:bs.flatten=d.row):∀l∈ls,∀n∈l,n < 10000:=fun l hl n hn=>by
 obtain⟨b,hb,ins,del,bm,hB⟩:=sE h hl
 obtain⟨x,hx⟩:=cG b hB.ne
 have:=ok.tags x (by rw[← e];exact dr.mpr ⟨b,hb,hx⟩) _ ((hB.d4 x hx n).mp hn)
 omega
def US (t:pH):Sp:=fun vs H Q _=>EX3 fun(sh:Addr) (W:Own) (s:GS)=>vs=[.ref sh]∧rO t H sh W s∧s.marks.Pairwise (fun a b=>a.id < b.id)∧DocOk s.doc∧∀H',rO t H' sh W (rL s)→(∀b o,H b=some o→b≠W.bd→H' b=some o)→Q .non H'
def Nz (T:Tx K mg t):aZ P w K mg base cH 2 t.tf t.tj nX (US t):=by
 have g1e:aZ P w K mg base cH 1 t.lu t.lz jB R6:=Aw T
 refine T.D7.fn.ok mz (fun vs H Q E h=>?_) (fun cdv A outer s H vs Q E hr h=>?_)
 ·obtain⟨sh,W,s,rfl,_⟩:=h
  rfl
 ·obtain⟨sh,W,s,rfl,⟨ra,dx,fs,ns,v⟩,hpw,ok,k⟩:=h
  have zl:ag=16777216:=bS
  have hrl:=ok.len
  refine⟨_,(ai (dC (dN nQ (cT Aa rfl T.jx bV (aa (aV (pv 0) rfl) ah)) aP (d6 _)) (ao aa2) b8)
   (ai (bP (i:=1) mz.nd rfl (bc rfl) (bB T.tu g1e (hr.mono (by decide)) (aa (pU (own:=[("stretch",3)]) rfl mz.nd (dQ (aV (pv 0) rfl)) (eC (by rfl)) (fun _ _ _ _ _=>da (i:=3) mz.nd rfl (bc rfl)) (fun _ _ _ _ _=>j7) (fun _ _ _ _ _=>(js (K:=K) rfl (pv 3) rfl))) ah)))
   (ao (mi cS rfl (dQ (vZ (Mo rfl) rfl T.Jz rfl (aa (aV (pv 0) rfl) ah))) (da (i:=2) mz.nd rfl (bc rfl)) (ao (dC (oY (ki (iY hr) (pv 2) (pv 1))) (ao (fo (Ti (aV (pv 0) rfl) (pv 2) ⟨rfl,rfl,rfl,rfl⟩))) b8)))))),?_⟩
  have hnl:ns.length=s.marks.length:=b9 v.SJ
  refine⟨_,rfl,sh,_,dx,_,_,rfl,v.doc.at_,T.aQ,T.cZ,v.QC,W.bd,_,rfl,v.bd,rfl,_,rfl,?_⟩
  rw[iP,xK hnl]
  refine fi (fun h=>?_) fun h=>?_
  ·have e:s.marks=[]:=by
    cases e:s.marks with
    | nil=>rfl
    | cons b r=>rw[e]at h;simp at h;omega
   refine k H ⟨ra,dx,fs,ns,?_⟩ fun b o e _=>e
   have:rL s=s:=by unfold rL;rw[e];cases s;simp at e;subst e;rfl
   rw[this];exact v
  ·obtain⟨rs,bs,hl,hR,ebs⟩:=id v.doc.row
   have hle:=hR.le
   rw[ebs]at hle
   obtain⟨ps,ls,h1,h2,h3⟩:=XW hR
   have el1:rs.length=ps.length:=b9 h1
   have el2:ps.length=ls.length:=b9 h2
   refine⟨_,rfl,sh,_,dx,_,_,rfl,v.doc.at_,T.aQ,T.bA,v.doc.zT,ra,rfl,⟨_,hl.sq⟩,fun D hD=>zf (xs:=rs.map V.ref) (ps.map V.ref) hl.sq hD (by rw[ab,ab,el1]) (by rw[ab];omega) (fun i x y H' Q' hx hy s' q=>?_) fun H1 s1 e1=>?_⟩
   ·obtain⟨r,er,rfl⟩:=gD hx
    obtain⟨p,ep,rfl⟩:=gD hy
    obtain⟨p',ep',sg,i0,d0,c0,dx2,ha⟩:=cQ h1 er
    cases ep.symm.trans ep'
    exact⟨_,rfl,r,_,dx2,_,_,rfl,s' _ _ ha,T.aO,T.cj,qT ..,q H' (aM.refl _)⟩
   ·refine⟨D,ps,ls,rfl,.inl e1,Paired.oX h2 fun p l z=>s1 _ _ z,by omega,adB ok h3 ebs,fun q H2 ks s2 hq h2q hnd hmem _=>?_⟩
    have s12:=s1.trans s2
    have v2:=v.same T s12
    have hq0:H q=none:=s1.free hq
    refine⟨_,rfl,sh,_,dx,_,_,rfl,v2.doc.at_,T.aQ,T.cZ,v2.QC,W.bd,_,rfl,.inl v2.bd,fun l hl2=>?_⟩
    have s3:aM H2 (upd H2 l (.lst ((j1 ns s.marks).map fun kv=>kV kv.1))):=bR hl2
    have nlq:q≠l:=a9 h2q hl2
    have v3:=v2.same T s3
    have hM:∀z∈ns.zip s.marks,Kn H2 z.1 (nv z.2.name):=fun z hz=>Ny v2.SJ z hz
    have hm1:(ns.zip s.marks).map (·.1)=ns:=AH (by omega)
    have hm2:(ns.zip s.marks).map (·.2)=s.marks:=AG (by omega)
    have hids:(ns.zip s.marks).Pairwise fun a b=>a.2.id≠b.2.id:=by
     have:=hpw
     rw[← hm2,b7]at this
     exact this.imp fun h=>cI h
    have eB:j1 ns s.marks=(ns.zip s.marks).map bKv:=rfl
    generalize ns.zip s.marks=M at hM hm1 hm2 hids eB
    have keyB:∀b:bT,decide (b.id∈ks)=s.doc.row.any (aB (2*b.id+1)):=fun b=>by
     rw[bH,decide_eq_true_eq,hmem,XY h3,ebs]
    refine⟨l,rfl,⟨_,g6.of af⟩,lj (K:=K) (a:=l) (xs:=(j1 ns s.marks).map fun kv=>kV kv.1) (fun i σ H'=>∃(v2 v3:Option V),σ=[some (.ref sh),some (.ref q),v2,v3]∧(∀b o,H b=some o→b≠W.bd→H' b=some o)∧H' q=some (.dK (md kI ks))∧H' l=some (.lst ((j1 ns s.marks).map fun kv=>kV kv.1))∧
      (∀z∈M,Kn H' z.1 (nv z.2.name))∧AN t H' sh W ra dx fs (((M.take i).filter fun z=>decide (z.2.id∈ks))++M.drop i |>.map (·.1)) {s with marks:=((M.take i).filter fun z=>decide (z.2.id∈ks))++M.drop i |>.map (·.2)})
     ⟨_,_,rfl,fun b o e _=>s3 _ _ (s12 _ _ e),s3 _ _ h2q,af,fun z hz=>(hM z hz).kr (t:=t) (B5.same s3),?_⟩ (fun i σ H' _ ⟨_,_,_,_,_,h,_⟩=>g6.of h) ?_ ?_⟩
    ·show AN t _ sh W ra dx fs (M.map (·.1)) {s with marks:=M.map (·.2)}
     rw[hm1,hm2];exact v3
    ·rintro i y σ H4 hi ⟨w2,w3,rfl,kp4,hq4,hl4,hk4,v4⟩
     rw[eB,bD]at hi
     obtain⟨z,ez,rfl⟩:=get_map hi
     have edr:M.drop i=z::M.drop (i+1):=by
      rw[fP (ay.mp ez).1,(ay.mp ez).2]
     refine⟨_,rfl,_,rfl,q,_,rfl,jy.k (k:=kI z.2.id) hq4,_,rfl,?_⟩
     have hin:(iL (md kI ks) (kI z.2.id)).isSome=decide (z.2.id∈ks):=by
      rw[bH,QB qY,decide_eq_true_eq]
     rw[hin]
     refine fi (fun h=>?_) fun h=>?_
     ·have hz:decide (z.2.id∈ks)=false:=by simpa using h
      have bd4:=v4.bd
      rw[edr]at bd4
      have eL:j1 (((M.take i).filter fun z=>decide (z.2.id∈ks))++z::M.drop (i+1) |>.map (·.1)) (((M.take i).filter fun z=>decide (z.2.id∈ks))++z::M.drop (i+1) |>.map (·.2))=((M.take i).filter fun z=>decide (z.2.id∈ks)).map bKv++(kI z.2.id,.ref z.1)::(M.drop (i+1)).map bKv:=by
       rw[Nw,bz,aT];rfl
      have hM2:M=M.take i++z::M.drop (i+1):=by rw[← edr,cR]
      have hids2:=hids
      rw[hM2,cC,c5]at hids2
      have n1:∀p∈((M.take i).filter fun z=>decide (z.2.id∈ks)).map bKv,p.1≠kI z.2.id:=fun p hp e=>by
       obtain⟨y,hy,rfl⟩:=aR.mp hp
       exact hids2.2.2 y (aA.mp hy).1 z (aE ..) (qY _ _ e)
      have n2:∀p∈(M.drop (i+1)).map bKv,p.1≠kI z.2.id:=fun p hp e=>by
       obtain⟨y,hy,rfl⟩:=aR.mp hp
       exact hids2.2.1.1 y hy (qY _ _ e.symm)
      refine⟨_,rfl,sh,_,dx,_,_,rfl,v4.doc.at_,T.aQ,T.cZ,v4.QC,W.bd,rfl,.inl ⟨_,.inl bd4⟩,_,rfl,_,kI z.2.id,.ref z.1,bd4,rfl,?_,?_⟩
      ·show iL (j1 _ _) _=_
       rw[eL]
       refine B6 (i:=((M.take i).filter fun z=>decide (z.2.id∈ks)).length) ?_ ?_
       ·rw[← eL,wj (by simp)]
        rw[c4,b7,b7]
        have hp2:(((M.take i).filter fun z=>decide (z.2.id∈ks))++z::M.drop (i+1)).Pairwise fun a b=>a.2.id≠b.2.id:=by
         rw[← edr]
         refine hids.sublist ?_
         conv=>rhs;rw[← cR i M]
         exact Vw (kb ..) (X7 _)
        exact hp2.imp fun h e=>h (qY _ _ e)
       ·rw[xP (by simp)];simp
      ·have v5:=v4.ack T (ns':=((M.take i).filter fun z=>decide (z.2.id∈ks))++M.drop (i+1) |>.map (·.1)) (ms':=((M.take i).filter fun z=>decide (z.2.id∈ks))++M.drop (i+1) |>.map (·.2)) (kvs:=z9 (j1 (((M.take i).filter fun z=>decide (z.2.id∈ks))++z::M.drop (i+1) |>.map (·.1)) (((M.take i).filter fun z=>decide (z.2.id∈ks))++z::M.drop (i+1) |>.map (·.2))) (kI z.2.id))
        (by rw[eL,QE n1 n2,Nw,bz]) (Ib fun y hy=>hk4 y (by
         rcases aX.mp hy with hy | hy
         ·exact eJ (aA.mp hy).1
         ·exact uo hy))
       have nq:q≠W.bd:=dv (a9 v.bd hq0)
       have nl:l≠W.bd:=fun e=>by rw[e]at hl2;rw[v2.bd]at hl2;cases hl2
       refine⟨_,_,rfl,fun b o e n=>by rw[aD n];exact kp4 b o e n,by rw[aD nq];exact hq4,by rw[aD nl];exact hl4,fun y hy=>?_,?_⟩
       ·obtain⟨o,e⟩:=hk4 y hy
        exact⟨o,by rw[aD (d5 e v4.bd (by intro z;cases z))];exact e⟩
       ·rw[take_snoc ez,dt,bK,if_neg (by rw[hz];decide),va,c7]
        exact v5
     ·have hz:decide (z.2.id∈ks)=true:=by simpa using h
      refine⟨_,_,rfl,kp4,hq4,hl4,hk4,?_⟩
      rw[edr]at v4
      rw[take_snoc ez,dt,bK,if_pos hz,va,bM]
      exact v4
    ·rintro σ H4 ⟨w2,w3,rfl,kp4,hq4,hl4,hk4,v4⟩
     rw[ab,eB,ab,cz,J1,c7]at v4
     refine k H4 ⟨ra,dx,fs,(M.filter fun z=>decide (z.2.id∈ks)).map (·.1),?_⟩ kp4
     have ec:rL s={s with marks:=(M.filter fun z=>decide (z.2.id∈ks)).map (·.2)}:=by
      unfold rL
      congr 1
      rw[← hm2,jJ]
      congr 1
      exact y8 fun z _=>(keyB z.2).symm
     rw[ec];exact v4
open Mt (GS ze Rf)
def zU (H:Hp) (kvs:List (Key×V)) (F:Nat→Option (Nat×Nat)):Prop:=∀m:Nat,match F m with
 | none=>iL kvs (kI m)=none
 | some z=>∃p,iL kvs (kI m)=some (.ref p)∧H p=some (.tup [.int (z.1:Int),.int (z.2:Int)])
def zU.same {H H':Hp} {kvs:List (Key×V)} {F:Nat→Option (Nat×Nat)} (h:zU H kvs F) (k:∀b xs,H b=some (.tup xs)→H' b=some (.tup xs)):zU H' kvs F:=fun m=>by
 have:=h m
 cases e:F m with
 | none=>rw[e]at this;exact this
 | some z=>rw[e]at this;obtain⟨p,h1,h2⟩:=this;exact⟨p,h1,k _ _ h2⟩
def GG (kvs:List (Key×V)):Prop:=∃ms:List Nat,kvs.map (·.1)=ms.map kI∧ms.Nodup∧∀m∈ms,m < 10000
def GG.len {kvs:List (Key×V)} (h:GG kvs):kvs.length≤10000:=by
 obtain⟨ms,e,nd,hb⟩:=h
 have:=Mt.kj 10000 ms nd hb
 have:=congrArg c8 e
 rw[ab,ab]at this
 omega
def GG.put {kvs:List (Key×V)} (h:GG kvs) {m:Nat} (hm:m < 10000) (v:V):GG (putK kvs (kI m) v):=by
 obtain⟨ms,e,nd,hb⟩:=h
 unfold putK
 by_cases c:(kvs.any fun kv=>decide (kv.1=kI m))=true
 ·rw[if_pos c]
  refine⟨ms,?_,nd,hb⟩
  rw[bD,← e]
  refine fT fun x _=>?_
  show(if x.1=kI m then(x.1,v)else x).1=x.1
  split <;> rfl
 ·rw[if_neg c]
  refine⟨ms++[m],by rw[bz,bz,e];rfl,iA.mpr ⟨nd,by simp,fun a ha b hb e2=>?_⟩,fun x hx=>?_⟩
  ·simp at hb
   subst hb
   subst e2
   apply c
   have:kI a∈kvs.map (·.1):=by rw[e];exact fS ha
   obtain⟨kv,hkv,ek⟩:=aR.mp this
   exact cA.mpr ⟨kv,hkv,by simpa using ek⟩
  ·rcases aX.mp hx with hx | hx
   ·exact hb x hx
   ·simp at hx;omega
def zU.put {H:Hp} {kvs:List (Key×V)} {F:Nat→Option (Nat×Nat)} (h:zU H kvs F) {m p:Nat} {z:Nat×Nat} (hp:H p=some (.tup [.int (z.1:Int),.int (z.2:Int)])):zU H (putK kvs (kI m) (.ref p)) (fun j=>if j=m then some z else F j):=fun j=>by
 by_cases e:j=m
 ·subst e
  dsimp only
  rw[if_pos rfl]
  exact⟨p,by rw[Te,if_pos rfl],hp⟩
 ·dsimp only
  rw[if_neg e]
  have hv:iL (putK kvs (kI m) (.ref p)) (kI j)=iL kvs (kI j):=by rw[Te,if_neg (fun z=>e (qY _ _ z))]
  have:=h j
  rw[hv]
  exact this
def WL (C:Addr):Sp:=fun vs H Q _=>EX2 fun(a:Addr) (row:List Piece)=>vs=[.ref a]∧sy C H a row∧row.length≤8000000∧abK row∧
 ∀q H' kvs,aM H H'→H q=none→H' q=some (.dK kvs)→zU H' kvs (fun m=>Rf (ze (2*m+1) (visible row)))→Q (.ref q) H'
def Ax (T:Tx K mg t):aZ P w K mg base cH 3 t.lA t.lB jC (WL t.aj):=by
 have g0p:aZ P w K mg base cH 2 t.fB t.fC eG (Ee t.aj):=ju T
 refine T.tw.fn.ok gw (fun vs H Q E h=>?_) (fun cdv A outer s H vs Q E hr h=>?_)
 ·obtain⟨a,row,rfl,_⟩:=h
  rfl
 ·obtain⟨a,row,rfl,⟨rs,bs,hl,hR,rfl⟩,hz,htb,k⟩:=h
  have zl:ag=16777216:=bS
  refine⟨_,(ai (bP (i:=1) gw.nd rfl (bc rfl) G7)
   (ai (bP (i:=2) gw.nd rfl (bc rfl) aP)
   (ai (mi cS rfl (dQ (pv 0)) (da (i:=3) gw.nd rfl (bc rfl)) (ai (bP (i:=4) gw.nd rfl (bc rfl) (e6 za (pv 2) (dG T.gn T.aO g0p (hr.mono (by decide)) (pv 3))))
   (ai (dC (dN LQ (pv 4) (pv 2) (d6 _)) (ao (mi cS rfl (ZH (aV (pv 3) rfl)) (da (i:=5) gw.nd rfl (bc rfl)) (ai (bP (i:=6) gw.nd rfl (bc rfl) (z0 (oY (acU (iY hr) (pv 5) (pv 1))) (gv fH (l5 (iY hr) (pv 1) (pv 5) (fun _ _=>rfl)) aP (fun _ _=>rfl)) (pv 2)))
   (ao (G6 (iY hr) (pv 1) (pv 5) (jS (aa (pv 6) (aa (pv 4) ah))) rfl))))) b8)
   (ao (bP (i:=2) gw.nd rfl (bc rfl) (pv 4))))))
   (ao (aU (pv 1)))))),?_⟩
  refine fun q hq=>?_
  have s1:aM H (upd H q (.dK [])):=bR hq
  refine⟨_,rfl,a,rfl,⟨_,.inl (hJ s1 hl)⟩,lj (K:=K) (a:=a) (xs:=rs.map V.ref) (fun i σ H'=>∃(v3 v4 v5 v6:Option V) (kvs:List (Key×V)),σ=[some (.ref a),some (.ref q),some (.int ((visible (bs.take i).flatten).length:Nat)),v3,v4,v5,v6]∧aM H H'∧H' q=some (.dK kvs)∧GG kvs∧zU H' kvs (fun m=>Rf (ze (2*m+1) (visible (bs.take i).flatten))))
   ⟨none,none,none,none,[],rfl,s1,af,⟨[],rfl,.nil,fun m hm=>by cases hm⟩,fun m=>rfl⟩ (fun i σ H' _ ⟨_,_,_,_,_,_,s2,_⟩=>.inl (hJ s2 hl)) ?_ ?_⟩
  ·rintro i y σ H1 hi ⟨v3,v4,v5,v6,kvs,rfl,s2,hq1,ko,eo⟩
   obtain⟨r,er,rfl⟩:=gD hi
   obtain⟨b,eb,hst⟩:=cQ hR er
   have hst1:=hst.kp (aM.oz s2)
   obtain⟨sg,i0,d0,c0,m0,ins,del,d4,bm,vv⟩:=id hst1
   obtain⟨dx2,ha⟩:=vv.at_
   have hbm:∀x∈b,x∈bs.flatten:=fun x hx=>dr.mpr ⟨b,a7 eb,hx⟩
   have ev:=zR eb
   have hblt:∀m∈bm,m < 10000:=fun m hm=>by
    obtain⟨x,hx⟩:=cG b vv.gS.ne
    have:=htb x (hbm x hx) _ ((vv.gS.bm x hx m).mp hm)
    omega
   refine⟨_,rfl,_,rfl,r,dx2,_,rfl,ha,CT (by decide+kernel),r,b,rfl,hst1,_,_,rfl,rfl,?_⟩
   have ep:((visible (bs.take i).flatten).length:Int)+((visible b).length:Int)=(((visible (bs.take (i+1)).flatten).length:Nat):Int):=by rw[ev,ae];omega
   refine⟨_,rfl,_,rfl,_,_,rfl,rfl,_,rfl,?_⟩
   rw[ep]
   generalize hV:visible (bs.take i).flatten=U at ev eo ep⊢
   refine fi (fun h=>?_) fun h=>?_
   ·
    have h:U.length < (visible (bs.take (i+1)).flatten).length:=by simpa using h
    have hdel:del.isEmpty=true:=by
     cases e:del.isEmpty with
     | true=>rfl
     | false=>
      rw[ev,ae,vv.gS.vP.EN,e]at h
      simp at h
    have evb:visible b=b:=by rw[vv.gS.vP.vis,if_pos hdel]
    rw[evb]at ev
    have hbl:b.length=(b.length - 1)+1:=by have:=gQ.mpr vv.gS.ne;omega
    have elen:(visible (bs.take (i+1)).flatten).length=U.length+b.length:=by rw[ev,ae]
    have ebh:(U.length:Int)+((visible b).length:Int)=((U.length+b.length:Nat):Int):=by rw[evb];omega
    refine⟨_,rfl,r,_,dx2,_,_,rfl,ha,T.aO,T.cj,qT ..,m0,rfl,⟨_,iB.of vv.m⟩,aa3 (K:=K) (a:=m0) (xs:=nv bm) (fun j σ H'=>∃(v5 v6:Option V) (kvs:List (Key×V)),σ=[some (.ref a),some (.ref q),some (.int (U.length:Nat)),some (.ref r),some (.int ((U.length:Int)+((visible b).length:Int))),v5,v6]∧aM H H'∧H' m0=some (.tup (nv bm))∧H' q=some (.dK kvs)∧GG kvs∧
      zU H' kvs (fun m=>if m∈bm.take j then some ((match Rf (ze (2*m+1) U)with | some z=>z.1 | none=>U.length),U.length+b.length)else Rf (ze (2*m+1) U)))
     ⟨v5,v6,kvs,rfl,s2,vv.m,hq1,ko,by simpa using eo⟩ (fun j σ H' _ ⟨_,_,_,_,_,h,_⟩=>iB.of h) ?_ ?_⟩
    ·rintro j y σ H2 hj ⟨w5,w6,kv2,rfl,s3,hm2,hq2,ko2,eo2⟩
     obtain⟨m,em,rfl⟩:=get_map hj
     have hmn:m∉bm.take j:=fun hm=>by
      obtain⟨j',hj'⟩:=jR hm
      rw[GW]at hj'
      split at hj'
      ·rename_i lt
       have hjl:=(ay.mp em).1
       exact absurd (JR (h₀:=(ay.mp hj').1) (h₁:=hjl) vv.gS.RY |>.mp ((ay.mp hj').2.trans (ay.mp em).2.symm)) (by omega)
      ·cases hj'
     have eom:=eo2 m
     dsimp only at eom
     rw[if_neg hmn]at eom
     refine aaz (fun v H'=>v=.int (((match Rf (ze (2*m+1) U)with | some z=>z.1 | none=>U.length:Nat):Int))∧H'=H2) ?_ fun kk=>?_
     ·rintro v H3 ⟨rfl,rfl⟩
      refine⟨_,rfl,_,rfl,(by show 2≤ag;decide),fun p hp=>?_⟩
      have s4:=bR (o:=.tup [.int (((match Rf (ze (2*m+1) U)with | some z=>z.1 | none=>U.length:Nat):Int)),.int ((U.length:Int)+((visible b).length:Int))]) hp
      have nqp:q≠p:=a9 hq2 hp
      refine⟨_,rfl,_,rfl,q,_,rfl,L0.k (k:=kI m) (s4 _ _ hq2) (by have:=ko2.len;omega),?_⟩
      refine⟨_,_,_,rfl,cB (s3.trans s4) hq,by rw[aD (d5 hm2 hq2 (by intro z;cases z)),aD (a9 hm2 hp)];exact hm2,af,ko2.put (hblt m (a7 em)) _,?_⟩
      have e1:=(eo2.same (H':=upd (upd H3 p (.tup [.int (((match Rf (ze (2*m+1) U)with | some z=>z.1 | none=>U.length:Nat):Int)),.int ((U.length:Int)+((visible b).length:Int))])) q (.dK (putK kv2 (kI m) (.ref p)))) fun b xs e=>by rw[aD (d5 e hq2 (by intro z;cases z)),aD (a9 e hp)];exact e).put (m:=m) (p:=p) (z:=(match Rf (ze (2*m+1) U)with | some z=>z.1 | none=>U.length,U.length+b.length)) (by rw[aD (dv nqp),af,ebh])
      refine fun j'=>?_
      have:=e1 j'
      by_cases ej:j'=m
      ·subst ej
       dsimp only at this⊢
       rw[if_pos rfl]at this
       rw[if_pos (by rw[take_snoc em];simp)]
       exact this
      ·dsimp only at this⊢
       rw[if_neg ej]at this
       have hiff:j'∈bm.take (j+1)↔j'∈bm.take j:=by rw[take_snoc em];simp[ej]
       simp only[hiff]
       exact this
     ·refine⟨_,rfl,_,rfl,q,_,rfl,jy.k (k:=kI m) hq2,_,rfl,?_⟩
      cases e:Rf (ze (2*m+1) U)with
      | none=>
       rw[e]at eom kk
       rw[show iL kv2 (kI m)=none from eom]
       exact wt ⟨_,rfl,kk _ _ ⟨rfl,rfl⟩⟩
      | some z=>
       rw[e]at eom kk
       obtain⟨p,h1,h2⟩:=eom
       rw[h1]
       exact Ab ⟨_,rfl,_,rfl,q,_,rfl,by have:=jy.k (k:=kI m) hq2;rw[h1]at this;exact this,p,_,_,_,rfl,rfl,iB.of h2,dJ (j:=0) rfl,kk _ _ ⟨rfl,rfl⟩⟩
    ·rintro σ H2 ⟨w5,w6,kv2,rfl,s3,hm2,hq2,ko2,eo2⟩
     refine⟨_,rfl,_,_,_,_,kv2,by show[some (V.ref a),some (V.ref q),some (V.int ((U.length:Int)+((visible b).length:Int))),_,_,_,_]=_;rw[ep],s3,hq2,ko2,fun m=>?_⟩
     have:=eo2 m
     dsimp only at this⊢
     rw[fQ,cz]at this
     rw[ev]
     by_cases hm:m∈bm
     ·rw[if_pos hm]at this
      have hc:∀x∈b,aB (2*m+1) x=true:=fun x hx=>Mt.eV.mpr ((vv.gS.bm x hx m).mp hm)
      rw[Mt.Xr hc,hbl,Mt.abC,← hbl]
      exact this
     ·rw[if_neg hm]at this
      have hc:∀x∈b,aB (2*m+1) x=false:=fun x hx=>by
       cases e:aB (2*m+1) x with
       | false=>rfl
       | true=>exact absurd ((vv.gS.bm x hx m).mpr (Mt.eV.mp e)) hm
      rw[Mt.F1,Mt.TX hc,rA,c7]
      exact this
   ·have h:(visible (bs.take (i+1)).flatten).length≤U.length:=by simpa using h
    have evn:visible b=[]:=by
     have:=congrArg c8 ev
     rw[ae]at this
     exact iz.mp (by omega)
    rw[evn,c7]at ev
    exact⟨_,rfl,_,_,_,_,kvs,by show[some (V.ref a),some (V.ref q),some (V.int ((U.length:Int)+((visible b).length:Int))),_,_,_,_]=_;rw[ep],s2,hq1,ko,by rw[ev];exact eo⟩
  ·rintro σ H1 ⟨v3,v4,v5,v6,kvs,rfl,s2,hq1,ko,eo⟩
   rw[ab,hR.len,cz]at eo
   exact⟨_,rfl,k q H1 kvs s2 hq hq1 eo⟩
def adC (ns:List Int):List Int:=(ns.length:Int)::ns
def pM:Sp:=fun vs H Q _=>EX2 fun(a:Addr) (ns:List Int)=>vs=[.ref a]∧Rd H a (.lst (ns.map V.int))∧ns.length < ag∧∀q H',aM H H'→H q=none→H' q=some (.lst ((adC ns).map V.int))→Q (.ref q) H'
def pd (T:Tx K mg t):aZ P w K mg base cH 1 t.lR t.lS kD pM:=by
 refine T.counted.fn.ok Wm (fun vs H Q E h=>?_) (fun cdv A outer s H vs Q E hr h=>?_)
 ·obtain⟨a,ns,rfl,_⟩:=h
  rfl
 ·obtain⟨a,ns,rfl,ha,hz,k⟩:=h
  refine⟨_,(ao (aU (e6 gZ (b5 (aa (cT cX rfl T.jx bV (aa (pv 0) ah)) ah)) (pv 0)))),?_⟩
  refine⟨_,rfl,a,_,rfl,.inl (.inl ha),(by show 1≤ag;decide),fun p hp=>?_⟩
  rw[ab]
  have s1:=bR (o:=.lst [.int ((ns.length:Nat):Int)]) hp
  refine⟨_,rfl,p,a,_,_,rfl,rfl,.inl af,hJ s1 ha,by rw[ab];show 1+ns.length≤ag;omega,fun q hq=>?_⟩
  exact k q _ (cB s1 (s1.free hq)) (s1.free hq) af
def jO (l:List Nat):bE l=adC (Vatrkg.ints l):=by
 unfold bE adC Vatrkg.ints;rw[ab]
def abW (T:Tx K mg t):aZ P w K mg base cH 4 t.Wt t.Wu Rm (ue t (aL .goto)):=by
 have g0n:aZ P w K mg base cH 1 t.jD t.jE iD (Ia t):=sG T
 have g1f:aZ P w K mg base cH 3 t.lA t.lB jC (WL t.aj):=Ax T
 refine T.goto.fn.ok Rn (fun vs H Q E h=>?_) (fun cdv A outer s H vs Q E hr h=>?_)
 ·obtain⟨sh,W,s,C,as,rfl,⟨a,ms,rfl,hk,hl,rfl⟩,_⟩:=h
  rfl
 ·obtain⟨sh,W,s,C,as,rfl,⟨a,ms,rfl,hk,hl,rfl⟩,⟨ra,dx,fs,ns,v⟩,g,k⟩:=h
  have hrl:=g.doc.len
  refine⟨_,(ai (bP (i:=2) Rn.nd rfl (bc rfl) (bB T.ox g0n (hr.mono (by decide)) (aa (pv 0) (aa (pv 1) ah))))
   (ai (dC (oY (ZC (pv 2))) (ao (aU (b5 (aa (fe dA aP) ah)))) b8)
   (ai (bP (i:=3) Rn.nd rfl (bc rfl) (bB T.tw g1f (hr.mono (by decide)) (aa (aV (pv 0) rfl) ah)))
   (ai (dC (oY (ki (iY hr) (pv 2) (pv 3))) (ao (aU (b5 (aa (fe dA aP) ah)))) b8)
   (ao (aU (vZ AU rfl T.Jz rfl (aa (l5 (iY hr) (pv 3) (pv 2) (fun _ _=>rfl)) ah)))))))),?_⟩
  rw[Mt.Xn,XU]at k
  refine⟨_,rfl,_,rfl,sh,W,s,a,ms,rfl,⟨ra,dx,fs,ns,v⟩,g.good.vh,hk,fun H1 s1=>?_⟩
  have v1:=v.same T s1
  cases e:s.marks.find? (fun b=>Vatrkg.ints b.name==ms)with
  | none=>
   rw[e]at k
   have hf:sF s ms=.non:=by unfold sF;rw[e]
   rw[hf]
   exact⟨_,rfl,_,rfl,Ab ⟨_,rfl,(by show 1≤ag;decide),fun l hl=>Fin.refuse T k v s1 hl⟩⟩
  | some b=>
   rw[e]at k
   have hf:sF s ms=.int (b.id:Int):=by unfold sF;rw[e]
   rw[hf]
   refine⟨_,rfl,_,rfl,wt ⟨_,rfl,sh,_,dx,_,_,rfl,v1.doc.at_,T.aQ,T.bA,v1.doc.zT,ra,s.doc.row,rfl,v1.doc.row.r,hrl,g.doc.tags,fun q H2 kvs s2 hq h2 eo=>?_⟩⟩
   have s12:=s1.trans s2
   refine⟨_,rfl,_,rfl,q,_,rfl,jy.k (k:=kI b.id) h2,_,rfl,?_⟩
   dsimp only at k
   rw[Mt.Qi]at k
   have eb:=eo b.id
   dsimp only at eb
   have et:Rf (ze (jo b.id) (visible (x6 s)))=Rf (ze (2*b.id+1) (visible s.doc.row)):=rfl
   rw[et]at k
   cases er:Rf (ze (2*b.id+1) (visible s.doc.row))with
   | none=>
    rw[er]at eb k
    rw[show iL kvs (kI b.id)=none from eb]
    exact Ab ⟨_,rfl,(by show 1≤ag;decide),fun l hl=>Fin.refuse T k v s12 hl⟩
   | some z=>
    rw[er]at eb k
    obtain⟨p,h3,h4⟩:=eb
    rw[h3]
    refine wt ⟨_,rfl,_,rfl,q,_,rfl,by have:=jy.k (k:=kI b.id) h2;rw[h3]at this;exact this,p,_,rfl,.inr (iB.of h4),fun l hl=>?_⟩
    exact Fin.same T k v (cB s12 (s12.free hl)) (s12.free hl) af
def UT (a b:Nat):Int:=if 0 < a then 2 else if 0 < b then 1 else 0
def X1:Sp:=fun vs H Q _=>EX2 fun(a b:Nat)=>vs=[.int a,.int b]∧Q (.int (UT a b)) H
def Lh (T:Tx K mg t):aZ P w K mg base cH 1 t.qE t.qF mE X1:=by
 refine T.BN.fn.ok KZ (fun vs H Q E h=>?_) (fun cdv A outer s H vs Q E hr h=>?_)
 ·obtain⟨a,b,rfl,_⟩:=h
  rfl
 ·obtain⟨a,b,rfl,k⟩:=h
  refine⟨_,(ai (dC (dN LQ (pv 0) aP (d6 _)) (ao (aU aP)) b8)
   (ao (aU (z0 (dN LQ (pv 1) aP (d6 _)) aP aP)))),?_⟩
  unfold UT at k
  refine⟨_,rfl,_,_,rfl,rfl,_,rfl,?_⟩
  refine fi (fun h=>?_) fun h=>?_
  ·rw[if_pos (by simpa using h)]at k
   exact k
  ·rw[if_neg (by simpa using h)]at k
   refine⟨_,rfl,_,_,rfl,rfl,_,rfl,?_⟩
   refine fi (fun h=>?_) fun h=>?_
   ·rw[if_pos (by simpa using h)]at k
    exact k
   ·rw[if_neg (by simpa using h)]at k
    exact k
def WM (s:GS) (u:Nat):UT ((visible s.doc.row).filter (aB u)).length (s.doc.row.filter (aB u)).length=(nE s u:Int):=by
 unfold UT nE x6
 have e1:(fK s u).isEmpty=false↔0 < ((visible s.doc.row).filter (aB u)).length:=by
  rw[← tF]
  cases fK s u <;> simp
 have e2:s.doc.row.any (aB u)=true↔0 < (s.doc.row.filter (aB u)).length:=by
  rw[cA,List.length_pos_iff_exists_mem]
  constructor
  ·rintro⟨x,hx,hc⟩;exact⟨x,aA.mpr ⟨hx,hc⟩⟩
  ·rintro⟨x,hx⟩;exact⟨x,(aA.mp hx).1,(aA.mp hx).2⟩
 by_cases h1:0 < ((visible s.doc.row).filter (aB u)).length
 ·rw[if_pos h1,if_pos (e1.mpr h1)];rfl
 ·rw[if_neg h1,if_neg (fun z=>h1 (e1.mp z))]
  by_cases h2:0 < (s.doc.row.filter (aB u)).length
  ·rw[if_pos h2,if_pos (e2.mpr h2)];rfl
  ·rw[if_neg h2,if_neg (fun z=>h2 (e2.mp z))];rfl
def WN (r:List Piece) (p:Piece→Bool):visible (r.filter p)=(visible r).filter p:=by
 unfold N4;rw[GX,GX]
 exact y8 fun x _=>Bool.and_comm ..
def Pb (T:Tx K mg t):aZ P w K mg base cH 4 t.Bv t.Bw vj (ue t (a1 .state)):=by
 have g0e:aZ P w K mg base cH 3 t.gF t.gG fW (iU t.aj):=jl T
 have g0b:aZ P w K mg base cH 1 t.fX t.fY fq (i6 t.aj):=iF T
 have g1s:aZ P w K mg base cH 3 t.xc t.xf rX (JH t.aj):=Kx T
 have g2k:aZ P w K mg base cH 1 t.qE t.qF mE X1:=Lh T
 refine T.Gp.fn.ok jW (fun vs H Q E h=>?_) (fun cdv A outer s H vs Q E hr h=>?_)
 ·obtain⟨sh,W,s,C,as,rfl,⟨c,rfl,rfl⟩,_⟩:=h
  rfl
 ·obtain⟨sh,W,s,C,as,rfl,⟨c,rfl,rfl⟩,⟨ra,dx,fs,ns,v⟩,g,k⟩:=h
  have zl:ag=16777216:=bS
  have hrl:=g.doc.len
  refine⟨_,(ai (dC (oY (ki (iY hr) (pv 1) (aV (pv 0) rfl))) (ao (aU (b5 (aa (fe dA aP) ah)))) b8)
   (ai (bP (i:=2) jW.nd rfl (bc rfl) (l5 (iY hr) (aV (pv 0) rfl) (pv 1) (fun _ _=>rfl)))
   (ai (tK (i:=3) (own:=[("stretch",7)]) rfl jW.nd rfl rfl (yi rfl rfl rfl rfl) (dQ (aV (pv 0) rfl)) (eC (by rfl)) (fun _ _ _ _ _=>da (i:=7) jW.nd rfl (bc rfl)) (fun _ _ _ _ _=>pT (dN (Mn (K:=K) rfl) (pv 1) (js (K:=K) rfl (pv 7) rfl) (by with_unfolding_all rfl))) (fun _ _ _ _ _=>(pv 7)))
   (ai (bP (i:=4) jW.nd rfl (bc rfl) (bB T.jM g0e (hr.mono (by decide)) (aa (pv 3) ah)))
   (ai (bP (i:=5) jW.nd rfl (bc rfl) (bB T.gJ g0b (hr.mono (by decide)) (aa (pv 3) ah)))
   (ai (bP (i:=6) jW.nd rfl (bc rfl) (jq (QW hr.units) (bB T.Hy g1s (hr.mono (by decide)) (aa (pv 3) ah)) (aV (pv 2) rfl) (d6 _)))
   (ao (aU (b5 (aa (bB T.BN g2k (hr.mono (by decide)) (aa (pv 4) (aa (pv 5) ah))) (aa (pv 4) (aa (pv 5) (aa (z0 (fM (pv 6) (fun _=>rfl)) aP aP) (aa (z0 (fM (aV (pv 2) rfl) (fun _=>rfl)) aP aP) ah)))))))))))))),?_⟩
  rw[Mt.TU]at k
  refine⟨_,rfl,_,rfl,sh,_,dx,_,_,rfl,v.doc.at_,T.aQ,T.bL,v.lcm,W.cd,_,rfl,jy.k (k:=dR c) v.cd,_,rfl,?_⟩
  rcases uf v c with⟨h1,h2⟩ | ⟨z1,z,z2,c1,x,c2,ez,ec,hzl,en,h1,h2,hx⟩
  ·rw[h1]
   rw[yS h2]at k
   exact Ab ⟨_,rfl,(by show 1≤ag;decide),fun l hl=>Fin.refuse T k v (aM.refl _) hl⟩
  ·rw[h2]
   rw[yT h1]at k
   subst en
   obtain⟨dxc,qa,ta,fc,cv⟩:=hx
   have dg:jy H W.cd (kV (dR (x.num:Int))) (some (.ref z.1)):=by have:=jy.k (k:=dR (x.num:Int)) v.cd;rw[h2]at this;exact this
   obtain⟨rs,bs,hl,hR,ebs⟩:=id v.doc.row
   have hle:=hR.le
   rw[ebs]at hle
   refine wt ⟨_,rfl,sh,_,dx,_,_,rfl,v.doc.at_,T.aQ,T.bL,v.lcm,_,rfl,W.cd,_,rfl,dg,?_⟩
   refine⟨_,rfl,sh,_,dx,_,_,rfl,v.doc.at_,T.aQ,T.bA,v.doc.zT,ra,rfl,⟨_,hl.sq⟩,fun D hD=>HF (C:=t.aj) (O7 (2*x.num)) hl.sq hR hD (by omega) (fun r b H' Q' hb s' hst q=>?_) (fun x H' Q' q=>?_) fun H1 s1 hA1=>?_⟩
   ·obtain⟨sg,i0,d0,c0,m0,ins,del,d4,bm,vv⟩:=hst
    obtain⟨dx2,ha⟩:=vv.at_
    refine⟨_,rfl,_,rfl,r,_,dx2,_,_,rfl,ha,T.aO,T.cg,k8 ..,c0,_,rfl,.inr (iB.of vv.c),rfl,oQ _,_,rfl,?_⟩
    show Q' (S7 (.int (x.num:Int)) (nv d4)) H'
    rw[xF,← Av vv.gS];exact q H' (aM.refl _)
   ·exact⟨_,rfl,q⟩
   ·rw[HX hR,ebs]at hA1
    have hfl:=bX (aB (2*x.num)) s.doc.row
    refine⟨_,rfl,D,_,rfl,hA1.r,by omega,fun H2 s2=>?_⟩
    have hA2:=hA1.same s2
    refine⟨_,rfl,D,_,rfl,hA2.r,by omega,fun H3 s3=>?_⟩
    have hA3:=hA2.same s3
    refine⟨_,rfl,D,_,rfl,hA3.r,by omega,fun qb H4 s4 hqb=>?_⟩
    have s14:aM H H4:=((s1.trans s2).trans s3).trans s4
    have cv4:=cv.kr T (B5.same s14)
    refine⟨_,rfl,z.1,_,dxc,_,_,rfl,cv4.at_,T.cY,T.jc,cv4.WE,UN hqb.sq cv4.qu.sq ?_⟩
    rw[WN]
    refine⟨_,rfl,_,rfl,((visible s.doc.row).filter (aB (2*x.num))).length,(s.doc.row.filter (aB (2*x.num))).length,rfl,_,rfl,_,rfl,?_⟩
    have e4:(EJ ((fK s (gj x.num)).map fun z=>z.2)).take SG=(((visible s.doc.row).filter (aB (2*x.num))).map (·.sign)).take 40:=by
     rw[FL];rfl
    have fin:∀(n1 n2:Int),n1=(((if(EJ ((fK s (gj x.num)).map fun z=>z.2)).take SG=x.quote then 1 else 0:Nat)):Int)→n2=((if x.solved=true then 1 else 0:Nat):Int)→∀l,H4 l=none→Q (.ref l) (upd H4 l (.lst [.int (UT ((visible s.doc.row).filter (aB (2*x.num))).length (s.doc.row.filter (aB (2*x.num))).length),.int (((visible s.doc.row).filter (aB (2*x.num))).length:Nat),.int ((s.doc.row.filter (aB (2*x.num))).length:Nat),.int n1,.int n2])):=fun n1 n2 h1 h2 l hl=>by
     refine Fin.same T k v (cB s14 (s14.free hl)) (s14.free hl) ?_
     rw[af,h1,h2,WM]
     unfold Mt.IX
     rw[tF];rfl
    rw[e4]at fin
    refine⟨_,rfl,_,rfl,?_⟩
    refine fi (fun h=>?_) fun h=>?_
    ·refine⟨_,rfl,z.1,_,dxc,_,_,rfl,cv4.at_,T.cY,T.ff,cv4.SI,_,rfl,?_⟩
     refine fi (fun h'=>?_) fun h'=>?_
     ·exact⟨(by show 5≤ag;decide),fun l hl=>fin 1 1 (by rw[if_pos (by simpa using h)];rfl) (by rw[if_pos h'];rfl) l hl⟩
     ·exact⟨(by show 5≤ag;decide),fun l hl=>fin 1 0 (by rw[if_pos (by simpa using h)];rfl) (by rw[if_neg h'];rfl) l hl⟩
    ·refine⟨_,rfl,z.1,_,dxc,_,_,rfl,cv4.at_,T.cY,T.ff,cv4.SI,_,rfl,?_⟩
     refine fi (fun h'=>?_) fun h'=>?_
     ·exact⟨(by show 5≤ag;decide),fun l hl=>fin 0 1 (by rw[if_neg (by simpa using h)];rfl) (by rw[if_pos h'];rfl) l hl⟩
     ·exact⟨(by show 5≤ag;decide),fun l hl=>fin 0 0 (by rw[if_neg (by simpa using h)];rfl) (by rw[if_neg h'];rfl) l hl⟩
def c3 (l:List Nat):(bE l).length=l.length+1:=by unfold bE Vatrkg.ints;rw[aN,ab]
theorem KC:∀{rs:List IL},(∀r∈rs,r.text.length≤200)→(rs.flatMap nF).length≤203*rs.length
 | [],_=>bZ _
 | r::rs,h=>by
  have h1:=h r (aE ..)
  have h2:=KC (rs:=rs) fun x hx=>h x (aI _ hx)
  rw[bW,ae,aN]
  have e:(nF r).length=r.text.length+3:=by
   unfold nF
   rw[aN,aN,c3]
  omega
def oT {H:Hp} {a:Addr} {l:List Nat} (h:Rd H a (.lst (nv l))):Rd H a (.lst ((Vatrkg.ints l).map V.int)):=by rw[← LJ];exact h
def ints_lt {l:List Nat} (hz:l.length < ag):(Vatrkg.ints l).length < ag:=by unfold Vatrkg.ints;rw[ab];exact hz
def NA (T:Tx K mg t):aZ P w K mg base cH 2 t.zH t.zI sQ (ue t (a1 .thread)):=by
 have g0d:aZ P w K mg base cH 1 t.lR t.lS kD pM:=pd T
 refine T.D9.fn.ok p9 (fun vs H Q E h=>?_) (fun cdv A outer s H vs Q E hr h=>?_)
 ·obtain⟨sh,W,s,C,as,rfl,⟨c,rfl,rfl⟩,_⟩:=h
  rfl
 ·obtain⟨sh,W,s,C,as,rfl,⟨c,rfl,rfl⟩,⟨ra,dx,fs,ns,v⟩,g,k⟩:=h
  have zl:ag=16777216:=bS
  refine⟨_,(ai (dC (oY (ki (iY hr) (pv 1) (aV (pv 0) rfl))) (ao (aU (b5 (aa (fe dA aP) ah)))) b8)
   (ai (bP (i:=2) p9.nd rfl (bc rfl) (l5 (iY hr) (aV (pv 0) rfl) (pv 1) (fun _ _=>rfl)))
   (ai (bP (i:=3) p9.nd rfl (bc rfl) (e6 gZ (e6 gZ (b5 (aa (aV (pv 2) rfl) (aa (aV (pv 2) rfl) ah))) (bB T.counted g0d (hr.mono (by decide)) (aa (aV (pv 2) rfl) ah))) (bB T.counted g0d (hr.mono (by decide)) (aa (aV (pv 2) rfl) ah))))
   (ai (fo (pD bF cV cW ke (pv 3) (aa (cT cX rfl T.jx bV (aa (aV (pv 2) rfl) ah)) ah)))
   (ai (mi cS rfl (dQ (aV (pv 2) rfl)) (da (i:=4) p9.nd rfl (bc rfl)) (ao (fo (pD bF dE dF mw (pv 3) (aa (e6 gZ (b5 (aa (gv fH (pv 4) aP (fun _ _=>rfl)) (aa (gv fH (pv 4) aP (fun _ _=>rfl)) ah))) (bB T.counted g0d (hr.mono (by decide)) (aa (gv fH (pv 4) aP (fun _ _=>rfl)) ah))) ah)))))
   (ao (aU (pv 3)))))))),?_⟩
  rw[Mt.Qh]at k
  refine⟨_,rfl,_,rfl,sh,_,dx,_,_,rfl,v.doc.at_,T.aQ,T.bL,v.lcm,W.cd,_,rfl,jy.k (k:=dR c) v.cd,_,rfl,?_⟩
  rcases uf v c with⟨h1,h2⟩ | ⟨z1,z,z2,c1,x,c2,ez,ec,hzl,en,h1,h2,hx⟩
  ·rw[h1]
   rw[yS h2]at k
   exact Ab ⟨_,rfl,(by show 1≤ag;decide),fun l hl=>Fin.refuse T k v (aM.refl _) hl⟩
  ·rw[h2]
   rw[yT h1]at k
   subst en
   obtain⟨dxc,qa,ta,fc,cv⟩:=hx
   have dg:jy H W.cd (kV (dR (x.num:Int))) (some (.ref z.1)):=by have:=jy.k (k:=dR (x.num:Int)) v.cd;rw[h2]at this;exact this
   have hxm:x∈s.comments:=by rw[ec];simp
   have hq40:=(g.good.quote x hxm).2
   have ht200:=g.good.text x hxm
   have hrt:=g.good.pV x hxm
   have hrn:=g.rep x hxm
   obtain⟨rs0,er,pr⟩:=cv.rp
   have hrl0:rs0.length=x.replies.length:=b9 pr
   refine wt ⟨_,rfl,sh,_,dx,_,_,rfl,v.doc.at_,T.aQ,T.bL,v.lcm,_,rfl,W.cd,_,rfl,dg,?_⟩
   refine⟨_,rfl,z.1,_,dxc,_,_,rfl,cv.at_,T.cY,T.iq,cv.Ek,_,rfl,z.1,_,dxc,_,_,rfl,cv.at_,T.cY,T.uL,cv.HH,(by show 2≤ag;decide),fun p1 hp1=>?_⟩
   have s1:=bR (o:=.lst [.int (x.author:Int),.int (x.time:Int)]) hp1
   have cv1:=cv.kr T (B5.same s1)
   refine⟨_,rfl,z.1,_,dxc,_,_,rfl,cv1.at_,T.cY,T.jc,cv1.WE,?_⟩
   refine⟨qa,Vatrkg.ints x.quote,rfl,oT cv1.qu.rd,ints_lt (by omega),fun q2 H2 s2 hq2 h2'=>?_⟩
   rw[← jO]at h2'
   have s12:=s1.trans s2
   refine⟨p1,q2,_,_,rfl,rfl,.inl (s2 _ _ af),.inl h2',by rw[ab,c3];show 2+(x.quote.length+1)≤ag;omega,fun p3 hp3=>?_⟩
   have s3:=bR (o:=.lst ([.int (x.author:Int),.int (x.time:Int)]++(bE x.quote).map V.int)) hp3
   have s13:=s12.trans s3
   have cv3:=cv.kr T (B5.same s13)
   refine⟨_,rfl,z.1,_,dxc,_,_,rfl,cv3.at_,T.cY,T.uM,cv3.Zs,?_⟩
   refine⟨ta,Vatrkg.ints x.text,rfl,oT cv3.tx.rd,ints_lt (by omega),fun q4 H4 s4 hq4 h4=>?_⟩
   rw[← jO]at h4
   have s14:=s13.trans s4
   refine⟨p3,q4,_,_,rfl,rfl,.inl (s4 _ _ af),.inl h4,by rw[ae,ab,ab,c3,c3];show 2+(x.quote.length+1)+(x.text.length+1)≤ag;omega,fun l hl=>?_⟩
   have hlH:H l=none:=s14.free hl
   have cv4:=cv.kr T (B5.same s14)
   have hbase:∀o,aM H (upd H4 l o):=fun o=>cB s14 hlH
   have cv5:=cv.kr T (B5.same (hbase (.lst ([.int (x.author:Int),.int (x.time:Int)]++(bE x.quote).map V.int++(bE x.text).map V.int))))
   refine⟨_,rfl,.inl ⟨rfl,_,g6.of af⟩,_,rfl,z.1,_,dxc,_,_,rfl,cv5.at_,T.cY,T.gp,cv5.Vn,z.2,_,rfl,.inl (g6.of (hbase _ _ _ er)),l,_,_,rfl,rfl,af,by rw[ae,ae,ab,ab,c3,c3];show 2+(x.quote.length+1)+(x.text.length+1) < ag;omega,?_⟩
   rw[g7]
   have eT:([.int (x.author:Int),.int (x.time:Int)]++(bE x.quote).map V.int++(bE x.text).map V.int++[V.int (((rs0.map V.ref).length:Nat):Int)])=((x.author:Int)::(x.time:Int)::(bE x.quote++(bE x.text++[(x.replies.length:Int)]))).map V.int:=by
    rw[ab,hrl0];simp
   rw[eT]
   have cv6:=cv.kr T (B5.same (hbase (.lst (((x.author:Int)::(x.time:Int)::(bE x.quote++(bE x.text++[(x.replies.length:Int)]))).map V.int))))
   refine⟨_,rfl,z.1,_,dxc,_,_,rfl,cv6.at_,T.cY,T.gp,cv6.Vn,z.2,rfl,⟨_,g6.of (hbase _ _ _ er)⟩,lj (K:=K) (a:=z.2) (xs:=rs0.map V.ref) (fun i σ H'=>∃v4:Option V,σ=[some (.ref sh),some (.int (x.num:Int)),some (.ref z.1),some (.ref l),v4]∧aM H H'∧H' l=some (.lst (((x.author:Int)::(x.time:Int)::(bE x.quote++(bE x.text++((x.replies.length:Int)::(x.replies.take i).flatMap nF)))).map V.int)))
    ⟨none,rfl,hbase _,by rw[af];rfl⟩ (fun i σ H' _ ⟨_,_,s',_⟩=>g6.of (s' _ _ er)) ?_ ?_⟩
   ·rintro i y σ H5 hi ⟨v4,rfl,s5,hl5⟩
    obtain⟨r,er',rfl⟩:=gD hi
    obtain⟨rp,erp,tb,hr1,hr2⟩:=cQ pr er'
    have hrp:=hrt rp (a7 erp)
    have hi2:=(ay.mp erp).1
    refine⟨_,rfl,.inl ⟨rfl,_,g6.of hl5⟩,_,rfl,r,_,_,_,rfl,rfl,iB.of (s5 _ _ hr1),dJ (j:=0) rfl,_,rfl,r,_,_,_,rfl,rfl,iB.of (s5 _ _ hr1),dJ (j:=1) rfl,(by show 2≤ag;decide),fun p6 hp6=>?_⟩
    have s6:=bR (o:=.lst [.int (rp.author:Int),.int (rp.time:Int)]) hp6
    refine⟨_,rfl,r,_,_,_,rfl,rfl,iB.of (s6 _ _ (s5 _ _ hr1)),dJ (j:=2) rfl,?_⟩
    refine⟨tb,Vatrkg.ints rp.text,rfl,oT ((hr2.kr (t:=t) (B5.same (s5.trans s6))).rd),ints_lt (by omega),fun q7 H7 s7 hq7 h7=>?_⟩
    rw[← jO]at h7
    refine⟨p6,q7,_,_,rfl,rfl,.inl (s7 _ _ af),.inl h7,by rw[ab,c3];show 2+(rp.text.length+1)≤ag;omega,fun p8 hp8=>?_⟩
    have s8:=bR (o:=.lst ([.int (rp.author:Int),.int (rp.time:Int)]++(bE rp.text).map V.int)) hp8
    have s58:=((s6.trans s7).trans s8)
    have nlp:l≠p8:=a9 (s7 _ _ (s6 _ _ hl5)) hp8
    have hl8:=s58 _ _ hl5
    have hfl:=KC (rs:=x.replies.take i) fun r hr=>hrt r (eJ hr)
    rw[cc]at hfl
    refine⟨l,p8,_,_,rfl,rfl,hl8,.inl af,?_,?_⟩
    ·simp only[ab,aN,ae,oV,c3]
     omega
    ·refine⟨_,rfl,cB (s5.trans s58) hlH,?_⟩
     rw[af,take_snoc erp,eh]
     simp[nF]
   ·rintro σ H5 ⟨v4,rfl,s5,hl5⟩
    rw[ab,hrl0,cz]at hl5
    exact⟨_,rfl,Fin.same T k v s5 hlH hl5⟩
def X2 (C:Addr):Sp:=fun vs H Q _=>EX3 fun(a:Addr) (row:List Piece) (c:Nat)=>vs=[.ref a,.int c]∧sy C H a row∧row.length≤8000000∧
 ∀q H',aM H H'→H q=none→H' q=some (.lst (nv (Mt.Dm (c6 (ze (2*c) (visible row))))))→Q (.ref q) H'
theorem FN:∀l:List Nat,(c6 l).length≤l.length
 | []=>aJ _
 | p::l=>by
  have:=FN l
  unfold c6
  cases e:c6 l with
  | nil=>simp
  | cons z g=>
   rw[e]at this
   show(if z.1=p+1 then(p,z.2)::g else(p,p+1)::(z.1,z.2)::g).length≤_
   split <;> simp at this⊢<;> omega
def abX (u:Nat) (r:List Piece):(ze u r).length≤r.length:=by
 unfold Mt.ze
 rw[ab]
 refine bg (bX ..) ?_
 rw[gU,List.length_range,iV];exact aJ _
def QG (u:Nat) (r:List Piece):(nv (Mt.Dm (c6 (ze u r)))).length≤2*r.length:=by
 rw[fQ,Mt.Rg]
 have:=FN (ze u r)
 have:=abX u r
 omega
def abY (l:List Nat):tJ (nv l) (some (-1)) none=(match l.getLast? with | some n=>[V.int (n:Int)] | none=>[]):=by
 rw[Ux]
 rcases Em l with rfl | ⟨ini,c,rfl⟩
 ·rfl
 ·rw[mY,ae]
  show nv ((ini++[c]).drop (ini.length+1 - 1))=[V.int (c:Int)]
  rw[pA,gf];rfl
def adD (l:List Nat) (i n:Nat):(nv l).set i (.int (n:Int))=nv (l.set i n):=by unfold nv;rw[List.map_set]
def UU (T:Tx K mg t):aZ P w K mg base cH 3 t.Bx t.By wU (X2 t.aj):=by
 have g0p:aZ P w K mg base cH 2 t.fB t.fC eG (Ee t.aj):=ju T
 refine T.M0.fn.ok pG (fun vs H Q E h=>?_) (fun cdv A outer s H vs Q E hr h=>?_)
 ·obtain⟨a,row,c,rfl,_⟩:=h
  rfl
 ·obtain⟨a,row,c,rfl,⟨rs,bs,hl,hR,rfl⟩,hz,k⟩:=h
  have zl:ag=16777216:=bS
  refine⟨_,(ai (bP (i:=2) pG.nd rfl (bc rfl) (b5 ah))
   (ai (bP (i:=3) pG.nd rfl (bc rfl) aP)
   (ai (mi cS rfl (dQ (pv 0)) (da (i:=4) pG.nd rfl (bc rfl)) (ai (bP (i:=5) pG.nd rfl (bc rfl) (e6 za (pv 3) (dG T.gn T.aO g0p (hr.mono (by decide)) (pv 4))))
   (ai (dC (QO (dN LQ (pv 5) (pv 3) (d6 _)) (Lq (dN v8 (pv 1) (aV (pv 4) rfl) (by with_unfolding_all rfl)))).pt (ao (dC (dN (QW hr.units) (nS AS (pv 2) (m3 (fe dA aP)) AQ) (b5 (aa (pv 3) ah)) (d6 _)) (ao (acB (pv 5) (acA (pv 2) (fe dA aP) set_list))) (ao (fo (pD bF dE dF mw (pv 2) (aa (b5 (aa (pv 3) (aa (pv 5) ah))) ah)))))) b8)
   (ao (bP (i:=3) pG.nd rfl (bc rfl) (pv 5))))))
   (ao (aU (pv 2)))))),?_⟩
  refine⟨bZ _,fun q hq=>?_⟩
  have s1:aM H (upd H q (.lst [])):=bR hq
  refine⟨_,rfl,a,rfl,⟨_,.inl (hJ s1 hl)⟩,lj (K:=K) (a:=a) (xs:=rs.map V.ref) (fun i σ H'=>∃(v4 v5:Option V),σ=[some (.ref a),some (.int (c:Int)),some (.ref q),some (.int ((visible (bs.take i).flatten).length:Nat)),v4,v5]∧aM H H'∧H' q=some (.lst (nv (Mt.Dm (c6 (ze (2*c) (visible (bs.take i).flatten)))))))
   ⟨none,none,rfl,s1,af⟩ (fun i σ H' _ ⟨_,_,_,s2,_⟩=>.inl (hJ s2 hl)) ?_ ?_⟩
  ·rintro i y σ H1 hi ⟨v4,v5,rfl,s2,hq1⟩
   obtain⟨r,er,rfl⟩:=gD hi
   obtain⟨b,eb,hst⟩:=cQ hR er
   have hst1:=hst.kp (aM.oz s2)
   obtain⟨sg,i0,d0,c0,m0,ins,del,d4,bm,vv⟩:=id hst1
   obtain⟨dx2,ha⟩:=vv.at_
   have ev:=zR eb
   refine⟨_,rfl,_,rfl,r,dx2,_,rfl,ha,CT (by decide+kernel),r,b,rfl,hst1,_,_,rfl,rfl,?_⟩
   have ep:((visible (bs.take i).flatten).length:Int)+((visible b).length:Int)=(((visible (bs.take (i+1)).flatten).length:Nat):Int):=by rw[ev,ae];omega
   have hVl:(visible (bs.take (i+1)).flatten).length≤8000000:=bg (Uv (i+1)) (bg (Mt.il _) hz)
   refine⟨_,rfl,_,rfl,_,_,rfl,rfl,_,rfl,?_⟩
   generalize hU:visible (bs.take i).flatten=U at ev ep hq1⊢
   have hslen:=QG (2*c) U
   have hUl:U.length≤8000000:=by rw[ev,ae]at hVl;omega
   have done:∀H3,aM H H3→H3 q=some (.lst (nv (Mt.Dm (c6 (ze (2*c) (visible (bs.take (i+1)).flatten))))))→∃(v4 v5:Option V),[some (V.ref a),some (V.int (c:Int)),some (V.ref q),some (V.int ((U.length:Int)+((visible b).length:Int))),some (V.ref r),some (V.int ((U.length:Int)+((visible b).length:Int)))]=[some (V.ref a),some (V.int (c:Int)),some (V.ref q),some (V.int ((visible (bs.take (i+1)).flatten).length:Nat)),v4,v5]∧aM H H3∧H3 q=some (.lst (nv (Mt.Dm (c6 (ze (2*c) (visible (bs.take (i+1)).flatten)))))):=fun H3 s3 h3=>⟨_,_,by rw[ep],s3,h3⟩
   refine fi (fun h=>?_) fun h=>?_
   ·have h:U.length < (visible (bs.take (i+1)).flatten).length:=by
     have:(U.length:Int) < (U.length:Int)+((visible b).length:Int):=by simpa using h
     omega
    have hdel:del.isEmpty=true:=by
     cases e:del.isEmpty with
     | true=>rfl
     | false=>
      rw[ev,ae,vv.gS.vP.EN,e]at h
      simp at h
    have evb:visible b=b:=by rw[vv.gS.vP.vis,if_pos hdel]
    rw[evb]at ev
    have hbl:b.length=(b.length - 1)+1:=by have:=gQ.mpr vv.gS.ne;omega
    refine⟨_,rfl,_,rfl,r,_,dx2,_,_,rfl,ha,T.aO,T.cg,k8 ..,c0,_,rfl,.inr (iB.of vv.c),rfl,oQ _,_,rfl,?_⟩
    show if S7 (.int (c:Int)) (nv d4)=true then _ else _
    rw[xF,← Av vv.gS]
    refine fi (fun hc=>?_) fun hc=>?_
    ·have hall:∀x∈b,aB (2*c) x=true:=fun x hx=>by rw[vv.gS.all (2*c) x hx];exact hc
     have esp:Mt.Dm (c6 (ze (2*c) (visible (bs.take (i+1)).flatten)))=if(Mt.Dm (c6 (ze (2*c) U))).getLast? =some U.length then(Mt.Dm (c6 (ze (2*c) U))).set ((Mt.Dm (c6 (ze (2*c) U))).length - 1) (U.length+b.length)else Mt.Dm (c6 (ze (2*c) U))++[U.length,U.length+b.length]:=by
      rw[ev,Mt.Xr hall,hbl,Mt.Fx,Mt.Xs,← hbl]
     generalize hL:Mt.Dm (c6 (ze (2*c) U))=L at hq1 esp hslen
     have ebh:(U.length:Int)+((visible b).length:Int)=((U.length+b.length:Nat):Int):=by rw[evb];omega
     refine⟨_,rfl,_,rfl,_,rfl,q,_,rfl,g6.of hq1,fun p hp=>?_⟩
     rw[abY]
     have s3:=bR (o:=.lst (match L.getLast? with | some n=>[V.int (n:Int)] | none=>[])) hp
     refine⟨_,rfl,(by show 1≤ag;decide),fun p2 hp2=>?_⟩
     have s4:=bR (o:=.lst [.int ((U.length:Nat):Int)]) hp2
     have npp:p≠p2:=fun z=>by rw[← z,af]at hp2;cases hp2
     have s34:=s3.trans s4
     have hq4:=s34 _ _ hq1
     refine Nt (xs:=match L.getLast? with | some n=>[(n:Int)] | none=>[]) (ys:=[(U.length:Int)]) (g6.of (by rw[aD npp,af];cases L.getLast? <;> rfl)) (g6.of af) ⟨_,rfl,?_⟩
     refine fi (fun he=>?_) fun he=>?_
     ·have hg:L.getLast? =some U.length:=by
       cases e:L.getLast? with
       | none=>rw[e]at he;simp at he
       | some n=>rw[e]at he;simp at he;congr 1;omega
      rw[if_pos hg]at esp
      have hL0:0 < L.length:=by
       cases L with
       | nil=>cases hg
       | cons _ _=>simp
      have hix:ZP (nv L).length (-1)=some (L.length - 1):=by
       unfold ZP
       rw[fQ,if_neg (by decide),if_pos (by omega)]
       congr 1;omega
      refine⟨_,rfl,_,rfl,_,rfl,q,_,_,_,rfl,rfl,hq4,hix,?_⟩
      refine⟨_,rfl,done _ (cB (s2.trans s34) hq) ?_⟩
      rw[af,esp]
      show some (HO.lst ((nv L).set (L.length - 1) (.int ((U.length:Int)+((visible b).length:Int)))))=_
      rw[ebh,adD]
     ·have hg:¬L.getLast? =some U.length:=fun e=>by rw[e]at he;simp at he
      rw[if_neg hg]at esp
      refine⟨_,rfl,.inl ⟨rfl,_,g6.of hq4⟩,_,rfl,_,rfl,(by show 2≤ag;decide),fun p5 hp5=>?_⟩
      have s5:=bR (o:=.lst [.int ((U.length:Nat):Int),.int ((U.length:Int)+((visible b).length:Int))]) hp5
      refine⟨q,p5,_,_,rfl,rfl,s5 _ _ hq4,.inl af,by show(nv L).length+2≤ag;omega,?_⟩
      refine⟨_,rfl,done _ (cB ((s2.trans s34).trans s5) hq) ?_⟩
      rw[af,esp,sD]
      show some (HO.lst (nv L++[V.int (U.length:Int),V.int ((U.length:Int)+((visible b).length:Int))]))=_
      rw[ebh];rfl
    ·have hall:∀x∈b,aB (2*c) x=false:=fun x hx=>by rw[vv.gS.all (2*c) x hx];simpa using hc
     refine⟨_,rfl,done _ s2 ?_⟩
     rw[ev,Mt.F1,Mt.TX hall,rA,c7];exact hq1
   ·have evn:visible b=[]:=by
     have h:¬(U.length:Int) < (U.length:Int)+((visible b).length:Int):=by simpa using h
     exact iz.mp (by omega)
    have ev2:=ev
    rw[evn,c7]at ev2
    refine wt ⟨_,rfl,done _ s2 ?_⟩
    rw[ev2];exact hq1
  ·rintro σ H1 ⟨v4,v5,rfl,s2,hq1⟩
   rw[ab,hR.len,cz]at hq1
   exact⟨_,rfl,k q H1 s2 hq hq1⟩
def UW {d D:Addr} {o:Obj} {kvs:List (Key×V)} {tt:TT} {te:TE} {σ:L2.St} {H1:Hp} {Qd:Hp→Prop} {j:Nat} (p:Key×V→Bool) (hd:H1 d=some (.iK o (.dK kvs))) (hD:H1 D=none) (hz:kvs.length≤ag)
  (test:∀(i:Nat) (k:Key) (v:V) (H:Hp) (Q:Bool→Hp→Prop),kvs[i]? =some (k,v)→aM H1 H→(∀H',aM H H'→Q (p (k,v)) H')→tt ((wipe σ [j]).set j (some (kV k))) H Q)
  (step:∀(x:V) (H:Hp) (Q:VK),Q x H→te ((wipe σ [j]).set j (some x)) H Q)
  (hq:∀H',aM H1 H'→H' D=some (.lst ((kvs.filter p).map fun kv=>kV kv.1))→Qd H'):
  ∃W:Nat→Nat→Hp→Prop,(∃m,W 0 m (upd H1 D (.lst [])))∧∀i m H,W i m H→
   ((Z2 d o kvs).stop i H∧Qd H)∨((Z2 d o kvs).go i H∧∃Nx:Hp→Prop,(∀H',Nx H'→∃m',m' < m∧W (i+1) m' H')∧∀x H',(Z2 d o kvs).S0 i H x H'→tH j x (wipe σ [j]) H' fun σ2 H2=>wipe σ2 [j]=wipe σ [j]∧tt σ2 H2 fun b H3=>
    if b=true then te σ2 H3 fun y H4=>∃acc,H4 D=some (.lst acc)∧acc.length < ag∧Nx (upd H4 D (.lst (acc++[y])))else Nx H3):=by
 refine abF (fun i H=>aM H1 H∧H D=some (.lst (((kvs.take i).filter p).map fun kv=>kV kv.1))) ⟨bR hD,af⟩ (fun i H _ h=>h.1 _ _ hd) (fun i k v H hkv h=>?_) fun H h=>?_
 ·obtain⟨s1,e1⟩:=h
  have hi:=(ay.mp hkv).1
  refine⟨Dq,test i k v H _ hkv s1 fun H' s'=>?_⟩
  rw[take_snoc hkv,dt]
  by_cases hp:p (k,v)=true
  ·rw[if_pos hp,bK,if_pos hp,va,bz]
   refine step _ H' _ ⟨_,s' _ _ e1,?_,cB (s1.trans s') hD,af⟩
   rw[ab]
   have:=bX p (kvs.take i)
   rw[cc]at this
   omega
  ·rw[if_neg hp,bK,if_neg hp,va,c7]
   exact⟨s1.trans s',s' _ _ e1⟩
 ·rw[cz]at h
  exact hq H h.1 h.2
def Pc (T:Tx K mg t):aZ P w K mg base cH 4 t.Bz t.BA vk (ue t (a1 .spots)):=by
 have g3s:aZ P w K mg base cH 3 t.Bx t.By wU (X2 t.aj):=UU T
 refine T.Gq.fn.ok FA (fun vs H Q E h=>?_) (fun cdv A outer s H vs Q E hr h=>?_)
 ·obtain⟨sh,W,s,C,as,rfl,⟨c,rfl,rfl⟩,_⟩:=h
  rfl
 ·obtain⟨sh,W,s,C,as,rfl,⟨c,rfl,rfl⟩,⟨ra,dx,fs,ns,v⟩,g,k⟩:=h
  have zl:ag=16777216:=bS
  have hrl:=g.doc.len
  refine⟨_,(ai (dC (oY (ki (iY hr) (pv 1) (aV (pv 0) rfl))) (ao (aU (b5 (aa (fe dA aP) ah)))) b8)
   (ai (bP (i:=2) FA.nd rfl (bc rfl) (bB T.M0 g3s (hr.mono (by decide)) (aa (aV (pv 0) rfl) (aa (pv 1) ah))))
   (ao (aU (e6 gZ (b5 (aa (e6 aa5 (cT cX rfl T.jx bV (aa (pv 2) ah)) aP) ah)) (pv 2)))))),?_⟩
  rw[Mt.TV]at k
  refine⟨_,rfl,_,rfl,sh,_,dx,_,_,rfl,v.doc.at_,T.aQ,T.bL,v.lcm,W.cd,_,rfl,jy.k (k:=dR c) v.cd,_,rfl,?_⟩
  rcases uf v c with⟨h1,h2⟩ | ⟨z1,z,z2,c1,x,c2,ez,ec,hzl,en,h1,h2,hx⟩
  ·rw[h1]
   rw[yS h2]at k
   exact Ab ⟨_,rfl,(by show 1≤ag;decide),fun l hl=>Fin.refuse T k v (aM.refl _) hl⟩
  ·rw[h2]
   rw[yT h1]at k
   subst en
   refine wt ⟨_,rfl,sh,_,dx,_,_,rfl,v.doc.at_,T.aQ,T.bA,v.doc.zT,_,rfl,ra,s.doc.row,x.num,rfl,v.doc.row.r,hrl,fun q H1 s1 hq hq1=>?_⟩
   have hsl:=QG (2*x.num) (visible s.doc.row)
   have hvl:=Mt.il s.doc.row
   refine⟨_,rfl,q,_,rfl,.inl (g6.of hq1),_,_,rfl,rfl,⟨by decide,by decide⟩,(by show 1≤ag;decide),fun p hp=>?_⟩
   have s2:=bR (o:=.lst [.int (((nv (Mt.Dm (c6 (ze (2*x.num) (visible s.doc.row))))).length:Nat) / (2:Int))]) hp
   refine⟨_,rfl,p,q,_,_,rfl,rfl,.inl af,.inl (s2 _ _ hq1),?_,fun l hl=>?_⟩
   ·show 1+_≤ag
    omega
   ·have s12:=s1.trans s2
    refine Fin.same T k v (cB s12 (s12.free hl)) (s12.free hl) ?_
    rw[af]
    congr 2
    unfold Mt.IY
    have e1:N5 s (gj x.num)=c6 (ze (2*x.num) (visible s.doc.row)):=by
     unfold N5
     rw[Mt.Fw];rfl
    rw[e1,fQ,Mt.Rg]
    generalize c6 (ze (2*x.num) (visible s.doc.row))=L
    show V.int (((2*L.length:Nat):Int) / 2)::nv (Mt.Dm L)=V.int (L.length:Int)::AK V.int (L.flatMap fun z=>[(z.1:Int),(z.2:Int)])
    rw[show((2*L.length:Nat):Int) / 2=(L.length:Int)by omega]
    unfold nv Mt.Dm
    rw[J6,J6];rfl
def Sf (T:Tx K mg t):aZ P w K mg base cH 4 t.DU t.DV yo (ue t (a0 .size)):=by
 have g0e:aZ P w K mg base cH 3 t.gF t.gG fW (iU t.aj):=jl T
 have g0b:aZ P w K mg base cH 1 t.fX t.fY fq (i6 t.aj):=iF T
 refine T.Jy.fn.ok Hm (fun vs H Q E h=>?_) (fun cdv A outer s H vs Q E hr h=>?_)
 ·obtain⟨sh,W,s,C,as,rfl,⟨rfl,rfl⟩,_⟩:=h
  rfl
 ·obtain⟨sh,W,s,C,as,rfl,⟨rfl,rfl⟩,⟨ra,dx,fs,ns,v⟩,g,k⟩:=h
  have zl:ag=16777216:=bS
  have hrl:=g.doc.len
  refine⟨_,(ai (bP (i:=1) Hm.nd rfl (bc rfl) (bB T.jM g0e (hr.mono (by decide)) (aa (aV (pv 0) rfl) ah)))
   (ao (aU (b5 (aa (pv 1) (aa (bB T.gJ g0b (hr.mono (by decide)) (aa (aV (pv 0) rfl) ah)) (aa (cT cX rfl T.jx bV (aa (aV (pv 0) rfl) ah)) (aa (cT Aa rfl T.jx bV (aa (aV (pv 0) rfl) ah)) (aa (cT Aa rfl T.jx bV (aa (aV (pv 0) rfl) ah)) ah))))))))),?_⟩
  rw[Mt.Xq]at k
  refine⟨_,rfl,sh,_,dx,_,_,rfl,v.doc.at_,T.aQ,T.bA,v.doc.zT,ra,_,rfl,v.doc.row.r,by omega,fun H1 s1=>?_⟩
  have v1:=v.same T s1
  refine⟨_,rfl,_,rfl,sh,_,dx,_,_,rfl,v1.doc.at_,T.aQ,T.bA,v1.doc.zT,ra,_,rfl,v1.doc.row.r,by omega,fun H2 s2=>?_⟩
  have s12:=s1.trans s2
  have v2:=v.same T s12
  refine⟨_,rfl,sh,_,dx,_,_,rfl,v2.doc.at_,T.aQ,T.eD,v2.doc.Vl,W.ca,_,rfl,.inl (g6.of v2.doc.Kt),?_⟩
  refine⟨_,rfl,sh,_,dx,_,_,rfl,v2.doc.at_,T.aQ,T.bL,v2.lcm,W.cd,_,rfl,v2.cd,?_⟩
  refine⟨_,rfl,sh,_,dx,_,_,rfl,v2.doc.at_,T.aQ,T.cZ,v2.QC,W.bd,_,rfl,v2.bd,(by show 5≤ag;decide),fun l hl=>?_⟩
  refine Fin.same T k v (cB s12 (s12.free hl)) (s12.free hl) ?_
  rw[af,HZ (b9 v.QD),xK (b9 v.SJ)]
  rw[ab];rfl
def NB (t:pH):Sp:=fun vs H Q _=>EX3 fun(z:Addr×Addr) (x:aw) (u:Int)=>vs=[.ref z.1,.int u]∧ud t H z x∧Q (.bl (decide (u=0)||(x.solved==decide (u=2)))) H
def Sg (T:Tx K mg t):aZ P w K mg base cH 1 t.yD t.yE tS (NB t):=by
 refine T.Jv.fn.ok Ry (fun vs H Q E h=>?_) (fun cdv A outer s H vs Q E hr h=>?_)
 ·obtain⟨z,x,u,rfl,_⟩:=h
  rfl
 ·obtain⟨z,x,u,rfl,⟨dxc,qa,ta,fc,cv⟩,k⟩:=h
  refine⟨_,(ai (dC (dN nQ (pv 1) aP (d6 _)) (ao (aU PQ)) b8)
   (ao (aU (jq nQ (aV (pv 0) rfl) (jq nQ (pv 1) aP (d6 _)) (d6 _))))),?_⟩
  refine⟨_,rfl,rfl,_,rfl,?_⟩
  refine fi (fun h=>?_) fun h=>?_
  ·have h:u=0:=by simpa using h
   subst h
   exact k
  ·have h:u≠0:=by simpa using h
   refine⟨_,rfl,z.1,_,dxc,_,_,rfl,cv.at_,T.cY,T.ff,cv.SI,_,rfl,rfl,rfl,?_⟩
   have e:(decide (u=0)||(x.solved==decide (u=2)))=decide (V.bl x.solved=V.bl (decide (V.int u=V.int 2))):=by
    rw[decide_eq_false h,PD,bH]
    simp
   rw[e]at k
   exact k
def wrs (x:aw):List Nat:=x.author::x.replies.map (·.author)
def abZ (x:aw) (a:Nat):du (wrs x) a=Cr a x:=by
 unfold du wrs Cr
 rw[fG,Cj];rfl
def aaL (x:aw):Yl (nv (wrs x)) (-1)=some (.int (me x:Int)):=by
 unfold me wrs
 have e:∀(l:List Nat) (n:Nat),l.getLast? =some n→Yl (nv l) (-1)=some (.int (n:Int)):=fun l n h=>by
  rcases Em l with rfl | ⟨ini,c,rfl⟩
  ·cases h
  ·rw[mY]at h
   cases h
   rw[sD]
   exact S6 _ _
 cases h:x.replies.getLast? with
 | none=>
  have:x.replies=[]:=List.getLast?_eq_none_iff.mp h
  rw[this];rfl
 | some r=>
  refine e _ _ ?_
  rw[List.getLast?_cons,IK,h];rfl
def Zc (x:aw) (a:Nat):Bool:=!x.solved&&(Cr a x&&me x !=a)
def UX (t:pH):Sp:=fun vs H Q _=>EX3 fun(z:Addr×Addr) (x:aw) (a:Nat)=>vs=[.ref z.1,.int (a:Int)]∧ud t H z x∧x.replies.length≤1000∧∀H',aM H H'→Q (.bl (Zc x a)) H'
def Pd (T:Tx K mg t):aZ P w K mg base cH 1 t.vC t.vD qd (UX t):=by
 refine T.Gr.fn.ok sR (fun vs H Q E h=>?_) (fun cdv A outer s H vs Q E hr h=>?_)
 ·obtain⟨z,x,a,rfl,_⟩:=h
  rfl
 ·obtain⟨z,x,a,rfl,⟨dxc,qa,ta,fc,cv⟩,hrn,k⟩:=h
  have zl:ag=16777216:=bS
  obtain⟨rs0,er,pr⟩:=cv.rp
  have hrl0:rs0.length=x.replies.length:=b9 pr
  refine⟨_,(ai (bP (i:=2) sR.nd rfl (bc rfl) (e6 gZ (b5 (aa (aV (pv 0) rfl) ah)) (pU (own:=[("answer",3)]) rfl sR.nd (dQ (aV (pv 0) rfl)) (eC (by rfl)) (fun _ _ _ _ _=>da (i:=3) sR.nd rfl (bc rfl)) (fun _ _ _ _ _=>j7) (fun _ _ _ _ _=>(gv (abD (K:=K) rfl) (pv 3) aP (fun _ _=>rfl))))))
   (ao (aU (IP (VA (aV (pv 0) rfl)) (IP (jq v8 (pv 1) (pv 2) (by with_unfolding_all rfl)) (FU (jq LO (gv AR (pv 2) (fe dA aP) (fun _ _=>rfl)) (pv 1) (d6 _)))))))),?_⟩
  refine⟨_,rfl,z.1,_,dxc,_,_,rfl,cv.at_,T.cY,T.iq,cv.Ek,(by show 1≤ag;decide),fun p hp=>?_⟩
  have s1:=bR (o:=.lst [.int (x.author:Int)]) hp
  have cv1:=cv.kr T (B5.same s1)
  refine⟨_,rfl,z.1,_,dxc,_,_,rfl,cv1.at_,T.cY,T.gp,cv1.Vn,z.2,rfl,⟨_,g6.of (s1 _ _ er)⟩,fun D hD=>zf (xs:=rs0.map V.ref) (nv (x.replies.map (·.author))) (g6.of (s1 _ _ er)) hD (by rw[fQ,ab,ab,hrl0]) (by rw[fQ,ab];omega) (fun i y u H' Q' hx hy s' q=>?_) fun H2 s2 e2=>?_⟩
  ·obtain⟨r,er',rfl⟩:=gD hx
   obtain⟨rp,erp,tb,hr1,hr2⟩:=cQ pr er'
   have eu:u=.int (rp.author:Int):=by
    unfold nv at hy
    rw[bD,b0,erp]at hy
    exact(bu hy).symm
   subst eu
   exact⟨_,rfl,r,_,_,_,rfl,rfl,iB.of (s' _ _ (s1 _ _ hr1)),dJ (j:=0) rfl,q H' (aM.refl _)⟩
  ·refine⟨p,D,_,_,rfl,rfl,.inl (s2 _ _ af),.inl e2,by rw[fQ,ab];show 1+x.replies.length≤ag;omega,fun q3 hq3=>?_⟩
   have eW:[V.int (x.author:Int)]++nv (x.replies.map (·.author))=nv (wrs x):=rfl
   rw[eW]
   have s3:=bR (o:=.lst (nv (wrs x))) hq3
   have s13:aM H _:=(s1.trans s2).trans s3
   have cv3:=cv.kr T (B5.same s13)
   refine⟨_,rfl,z.1,_,dxc,_,_,rfl,cv3.at_,T.cY,T.ff,cv3.SI,_,rfl,_,rfl,?_⟩
   have kk:=k _ s13
   unfold Zc at kk
   refine fi (fun h=>?_) fun h=>?_
   ·rw[h,hW]at kk
    refine⟨_,rfl,_,rfl,q3,_,rfl,.inl (g6.of af),rfl,oQ _,_,rfl,?_⟩
    show if S7 (.int (a:Int)) (nv (wrs x))=true then _ else _
    rw[xF,abZ]
    refine fi (fun h'=>?_) fun h'=>?_
    ·rw[h',hW]at kk
     refine⟨_,rfl,_,rfl,q3,_,_,_,rfl,rfl,g6.of af,aaL x,_,rfl,rfl,?_⟩
     have e:(me x !=a)=!decide (V.int (me x:Int)=V.int (a:Int)):=by
      rw[bH];simp;omega
     rw[e]at kk;exact kk
    ·rw[show Cr a x=false by simpa using h',gL]at kk
     exact kk
   ·rw[show(!x.solved)=false by simpa using h,gL]at kk
    exact kk
def UY {zs:List (Addr×Addr)} {cs:List aw} {i:Nat} {kk:Key} {vv:V} (h:(jd zs cs)[i]? =some (kk,vv)):∃z x,zs[i]? =some z∧cs[i]? =some x∧kk=kI x.num∧vv=.ref z.1:=by
 unfold jd at h
 rw[b0]at h
 cases e:(zs.zip cs)[i]? with
 | none=>rw[e]at h;cases h
 | some z=>
  rw[e]at h
  cases h
  obtain⟨h1,h2⟩:=g0.mp e
  exact⟨z.1,z.2,h1,h2,rfl,rfl⟩
theorem Eu (p:aw→Bool) (q:Key×V→Bool):∀{zs:List (Addr×Addr)} {cs:List aw},zs.length=cs.length→(∀x∈cs,∀v,q (kI x.num,v)=p x)→((jd zs cs).filter q).map (fun kv=>kV kv.1)=nv ((cs.filter p).map (·.num))
 | [],[],_,_=>rfl
 | z::zs,x::cs,h,hp=>by
  have ih:=Eu p q (zs:=zs) (cs:=cs) (by simpa using h) fun y hy=>hp y (aI _ hy)
  unfold jd at ih⊢
  rw[dM,aT,bK,bK,hp x (aE ..)]
  by_cases c:p x=true
  ·rw[if_pos c,if_pos c,aT,ih];rfl
  ·rw[if_neg c,if_neg c,ih]
def ud.locked {H:Hp} {d:Addr} {od:Obj} {kvs:List (Key×V)} (hd:H d=some (.dK kvs)) {z:Addr×Addr} {x:aw} (h:ud t H z x):ud t (upd H d (.iK od (.dK kvs))) z x:=by
 obtain⟨dxc,qa,ta,fc,cv⟩:=h
 have kk:∀b o,H b=some o→(∀kvs,o≠.dK kvs)→upd H d (.iK od (.dK kvs)) b=some o:=fun b o e n=>by rw[aD (d5 e hd (n _))];exact e
 have kf:∀b ys,Kn H b ys→Kn (upd H d (.iK od (.dK kvs))) b ys:=fun b ys ⟨o,e⟩=>⟨o,kk _ _ e (by intro _ z;cases z)⟩
 obtain⟨rs,e,p⟩:=cv.rp
 exact⟨dxc,qa,ta,fc,kk _ _ cv.at_ (by intro _ z;cases z),cv.Ek,cv.HH,cv.WE,cv.Zs,cv.Vn,cv.SI,cv.x9,kf _ _ cv.qu,kf _ _ cv.tx,rs,kk _ _ e (by intro _ z;cases z),Paired.oX p fun r y ⟨ta,e,q⟩=>⟨ta,kk _ _ e (by intro _ z;cases z),kf _ _ q⟩⟩
def ud.same (T:Tx K mg t) {H H':Hp} {z:Addr×Addr} {x:aw} (h:ud t H z x) (s:aM H H'):ud t H' z x:=let ⟨dx,qa,ta,fs,v⟩:=h;⟨dx,qa,ta,fs,v.kr T (B5.same s)⟩
def NC {cs:List aw} (h:cs.Pairwise fun a b=>a.num < b.num):(cs.map fun x=>kI x.num).Nodup:=by
 rw[c4,b7]
 exact h.imp fun h e=>cI h (qY _ _ e)
def aaM {cs:List aw} (h:cs.Pairwise fun a b=>a.num < b.num) {x y:aw} (hx:x∈cs) (hy:y∈cs) (e:x.num=y.num):x=y:=by
 obtain⟨c1,c2,rfl⟩:=x3 hx
 obtain⟨h1,h2⟩:=Fb h
 rcases aX.mp hy with hy | hy
 ·exact absurd e.symm (h1 y hy)
 ·rcases bx.mp hy with hy | hy
  ·exact hy.symm
  ·exact absurd e.symm (h2 y hy)
def Sh {cs:List aw} (h:cs.Pairwise fun a b=>a.num < b.num) {x:aw} (hx:x∈cs) {f:aw→Bool}:(cs.any fun y=>decide (kI y.num=kI x.num)&&f y)=f x:=by
 rw[bH,cA]
 constructor
 ·rintro⟨y,hy,e⟩
  rw[dh,decide_eq_true_eq]at e
  rw[← aaM h hy hx (qY _ _ e.1)];exact e.2
 ·intro e
  exact⟨x,hx,by rw[dh,decide_eq_true_eq];exact⟨rfl,e⟩⟩
def Li (T:Tx K mg t):aZ P w K mg base cH 2 t.xn t.xo qe (ue t (a1 .waiting)):=by
 have g0d:aZ P w K mg base cH 1 t.lR t.lS kD pM:=pd T
 have g3d:aZ P w K mg base cH 1 t.vC t.vD qd (UX t):=Pd T
 refine T.BO.fn.ok uC (fun vs H Q E h=>?_) (fun cdv A outer s H vs Q E hr h=>?_)
 ·obtain⟨sh,W,s,C,as,rfl,⟨c,rfl,rfl⟩,_⟩:=h
  rfl
 ·obtain⟨sh,W,s,C,as,rfl,⟨c,rfl,rfl⟩,⟨ra,dx,fs,ns,v⟩,g,k⟩:=h
  have zl:ag=16777216:=bS
  have hnl:W.zs.length=s.comments.length:=b9 v.QD
  refine⟨_,(ai (dC (jh (tI iX iX aP (pv 1) aP)) (ao (aU (b5 (aa (fe dA aP) ah)))) b8)
   (ao (aU (bB T.counted g0d (hr.mono (by decide)) (aa (abm (pU (own:=[("c",2)]) rfl uC.nd (G9 (aV (pv 0) rfl)) (eC (by rfl)) (fun _ _ _ _ _=>da (i:=2) uC.nd rfl (bc rfl)) (fun _ _ _ _ _=>pT (Aq (K:=K) rfl (bB T.Gr g3d (hr.mono (by decide)) (aa (l5 (iY hr) (js (K:=K) rfl (pv 0) rfl) (pv 2) (fun _ _=>rfl)) (aa (pv 1) ah))) (fun _=>rfl))) (fun _ _ _ _ _=>(pv 2)))) ah))))),?_⟩
  rw[Mt.Mj]at k
  refine WC (i:=1) (n:=99) rfl (fun Q' kq=>kq H (aM.refl _)) fun H1 s1=>?_
  have eb:(decide ((1:Int)≤c)&&decide (c≤99))=bo c 1 99:=rfl
  rw[eb]
  refine fi (fun h=>?_) fun h=>?_
  ·rw[if_neg (by simpa using h)]at k
   exact⟨_,rfl,(by show 1≤ag;decide),fun l hl=>Fin.refuse T k v s1 hl⟩
  ·have h:bo c 1 99=true:=by simpa using h
   rw[if_pos h]at k
   obtain⟨ca,rfl⟩:∃n:Nat,c=(n:Int):=⟨c.toNat,by have:=(Mt.iC.mp h).1;omega⟩
   have v1:=v.same T s1
   refine⟨W.cd,.dK (jd W.zs s.comments),v1.cd,trivial,fun od=>?_⟩
   have hsh:upd H1 W.cd (.iK od (.dK (jd W.zs s.comments))) sh=_:=(aD (d5 v1.doc.at_ v1.cd (by intro z;cases z))).trans v1.doc.at_
   refine⟨_,rfl,sh,_,dx,_,_,rfl,hsh,T.aQ,T.bL,v.lcm,W.cd,od,rfl,.inl ⟨_,af,fun D hD=>UW (fun kv=>s.comments.any fun x=>decide (kI x.num=kv.1)&&Zc x ca) af hD (by rw[HZ hnl];have:=g.abV;omega) (fun i kk vv H2 Q2 hi s2 q=>?_) (fun x H2 Q2 q=>⟨_,rfl,q⟩) fun H2 s2 e2=>?_⟩⟩
   ·obtain⟨z,x,e1,e3,rfl,rfl⟩:=UY hi
    have hxm:=a7 e3
    have hv:=B6 (by rw[JM hnl];exact NC g.good.o3) hi
    obtain⟨x',e3',cm⟩:=cQ v1.QD e1
    cases e3.symm.trans e3'
    refine⟨_,rfl,sh,_,dx,_,_,rfl,s2 _ _ hsh,T.aQ,T.bL,v.lcm,_,rfl,W.cd,_,rfl,jy.iK (s2 _ _ af) hv,_,rfl,z,x,ca,rfl,(cm.locked v1.cd).same T s2,g.rep x hxm,fun H3 s3=>⟨_,rfl,?_⟩⟩
    have:=q H3 s3
    rw[Sh g.good.o3 hxm]at this
    exact this
   ·rw[Eu (fun x=>Zc x ca) _ hnl fun x hx v=>Sh g.good.o3 hx]at e2
    refine⟨s2 _ _ af,?_⟩
    have s3:=ug v1.cd s2
    have hDD:H1 D=none:=by
     by_cases e:D=W.cd
     ·subst e;rw[af]at hD;cases hD
     ·rw[aD e]at hD;exact hD
    have nD:D≠W.cd:=fun e=>by subst e;rw[v1.cd]at hDD;cases hDD
    have hc:=g.abV
    refine⟨D,Vatrkg.ints ((s.comments.filter fun x=>Zc x ca).map (·.num)),rfl,oT (.inl (by rw[aD nD];exact e2)),ints_lt ?_,fun l H4 s4 hl e4=>?_⟩
    ·rw[ab]
     have:=bX (fun x=>Zc x ca) s.comments
     omega
    ·rw[← jO]at e4
     have s14:=(s1.trans s3).trans s4
     exact Fin.same T k v s14 ((s1.trans s3).free hl) e4
def Zd {H:Hp} {l d:Addr} {o x:HO} (hl:H l=none):aM (upd H d o) (upd (upd H l x) d o):=fun b u e=>by
 by_cases n:b=d
 ·subst n;rw[af]at e⊢;exact e
 ·rw[aD n]at e⊢
  rw[aD (fun z=>by subst z;rw[hl]at e;cases e)];exact e
def Si {s:GS} {b:bT} (h:b.name.length≤20):(gW s b).length≤23:=by
 unfold gW
 rw[ae,c3]
 cases SH s (jo b.id)with
 | none=>show _+2≤23;omega
 | some z=>show _+2≤23;omega
theorem Sj {α:Type} {f:α→List Int} {n:Nat}:∀{l:List α},(∀x∈l,(f x).length≤n)→(l.flatMap f).length≤n*l.length
 | [],_=>bZ _
 | x::l,h=>by
  have:=Sj (f:=f) (n:=n) (l:=l) fun y hy=>h y (aI _ hy)
  have:=h x (aE ..)
  rw[bW,ae,aN,Nat.mul_succ]
  omega
def Ic (T:Tx K mg t):aZ P w K mg base cH 4 t.sr t.sv m8 (ue t (a0 .bookmarks)):=by
 have g0d:aZ P w K mg base cH 1 t.lR t.lS kD pM:=pd T
 have g1f:aZ P w K mg base cH 3 t.lA t.lB jC (WL t.aj):=Ax T
 refine T.xA.fn.ok l7 (fun vs H Q E h=>?_) (fun cdv A outer s H vs Q E hr h=>?_)
 ·obtain⟨sh,W,s,C,as,rfl,⟨rfl,rfl⟩,_⟩:=h
  rfl
 ·obtain⟨sh,W,s,C,as,rfl,⟨rfl,rfl⟩,⟨ra,dx,fs,ns,v⟩,g,k⟩:=h
  have zl:ag=16777216:=bS
  have hnl:ns.length=s.marks.length:=b9 v.SJ
  have hml:=g.adA
  refine⟨_,(ai (bP (i:=1) l7.nd rfl (bc rfl) (bB T.tw g1f (hr.mono (by decide)) (aa (aV (pv 0) rfl) ah)))
   (ai (bP (i:=2) l7.nd rfl (bc rfl) (b5 (aa (cT Aa rfl T.jx bV (aa (aV (pv 0) rfl) ah)) ah)))
   (ai (Lu (mi cS rfl (G9 (aV (pv 0) rfl)) (da (i:=3) l7.nd rfl (bc rfl)) (ai (fo (pD bF dE dF mw (pv 2) (aa (bB T.counted g0d (hr.mono (by decide)) (aa (l5 (iY hr) (aV (pv 0) rfl) (pv 3) (fun _ _=>rfl)) ah)) ah)))
   (ao (fo (pD bF dE dF Wa (pv 2) (aa (Z0 (iY hr) (pv 1) (pv 3) (jS (aa (fe dA aP) (aa (fe dA aP) ah))) ⟨rfl,rfl,rfl,rfl⟩) ah)))))))
   (ao (aU (pv 2)))))),?_⟩
  rw[Mt.Hh]at k
  refine⟨_,rfl,sh,_,dx,_,_,rfl,v.doc.at_,T.aQ,T.bA,v.doc.zT,ra,s.doc.row,rfl,v.doc.row.r,g.doc.len,g.doc.tags,fun q H1 kvs s1 hq h1 eo=>?_⟩
  have v1:=v.same T s1
  refine⟨_,rfl,sh,_,dx,_,_,rfl,v1.doc.at_,T.aQ,T.cZ,v1.QC,W.bd,_,rfl,v1.bd,(by show 1≤ag;decide),fun l hl=>?_⟩
  rw[xK hnl]
  have nlb:W.bd≠l:=a9 v1.bd hl
  refine⟨W.bd,.dK (j1 ns s.marks),by rw[aD nlb];exact v1.bd,trivial,fun od=>?_⟩
  have s2:aM (upd H1 W.bd (.iK od (.dK (j1 ns s.marks)))) _:=Zd (x:=.lst [.int (s.marks.length:Int)]) hl
  have hlL:upd H1 W.bd (.iK od (.dK (j1 ns s.marks))) l=none:=by rw[aD (dv nlb)];exact hl
  have kk:∀b o,H1 b=some o→(∀kvs,o≠.dK kvs)→upd H1 W.bd (.iK od (.dK (j1 ns s.marks))) b=some o:=fun b o e n=>by rw[aD (d5 e v1.bd (n _))];exact e
  have hsh:=kk _ _ v1.doc.at_ (by intro _ z;cases z)
  have hqb:q≠W.bd:=fun e=>by subst e;rw[v.bd]at hq;cases hq
  have hqL:upd H1 W.bd (.iK od (.dK (j1 ns s.marks))) q=some (.dK kvs):=by rw[aD hqb];exact h1
  have eoL:zU (upd H1 W.bd (.iK od (.dK (j1 ns s.marks)))) kvs _:=eo.same fun b xs e=>kk _ _ e (by intro _ z;cases z)
  generalize hHL:upd H1 W.bd (.iK od (.dK (j1 ns s.marks)))=HL at s2 hlL hsh hqL eoL
  have hbd:HL W.bd=some (.iK od (.dK (j1 ns s.marks))):=by rw[← hHL];exact af
  have hkn:∀a xs,Kn H1 a xs→Kn HL a xs:=fun a xs ⟨o,e⟩=>⟨o,by rw[← hHL];exact kk _ _ e (by intro _ z;cases z)⟩
  refine⟨_,rfl,sh,_,dx,_,_,rfl,s2 _ _ hsh,T.aQ,T.cZ,v.QC,W.bd,od,rfl,.inl ⟨_,af,TZ (d:=W.bd) (o:=od) (kvs:=j1 ns s.marks) (fun i σ H'=>∃v:Option V,σ=[some (.ref sh),some (.ref q),some (.ref l),v]∧aM HL H'∧H' l=some (.lst (((s.marks.length:Int)::(s.marks.take i).flatMap (gW s)).map V.int)))
   ⟨none,rfl,s2,by rw[aD (dv nlb),af];rfl⟩ (fun i σ H' _ ⟨_,_,s1,_⟩=>s1 _ _ hbd) ?_ ?_⟩⟩
  ·rintro i kk' vv σ H3 hi ⟨v0,rfl,s3,hl3⟩
   obtain⟨na,b,e1,e2,rfl,rfl⟩:=UQ hi
   obtain⟨b',e2',hkb⟩:=cQ v1.SJ e1
   cases e2.symm.trans e2'
   have hv:=B6 (by rw[wj hnl];exact JN g.good.vh) hi
   have hb20:=g.good.names b (a7 e2)
   have hil:=(ay.mp e2).1
   have hfl:=Sj (f:=gW s) (n:=23) (l:=s.marks.take i) fun y hy=>Si (g.good.names y (eJ hy))
   rw[cc]at hfl
   refine⟨_,rfl,.inl ⟨rfl,_,g6.of hl3⟩,_,rfl,sh,_,dx,_,_,rfl,s3 _ _ hsh,T.aQ,T.cZ,v.QC,_,rfl,W.bd,_,rfl,jy.iK (s3 _ _ hbd) hv,na,Vatrkg.ints b.name,rfl,oT (((hkn _ _ hkb).kr (t:=t) (B5.same s3)).rd),ints_lt (by omega),fun q4 H4 s4 hq4 h4=>?_⟩
   rw[← jO]at h4
   have hl4:=s4 _ _ hl3
   refine⟨l,q4,_,_,rfl,rfl,hl4,.inl h4,?_,?_⟩
   ·rw[ab,ab,aN,c3];omega
   ·have s5:aM HL (upd H4 l (.lst (((s.marks.length:Int)::(s.marks.take i).flatMap (gW s)).map V.int++(bE b.name).map V.int))):=cB (s3.trans s4) hlL
    generalize hH5:upd H4 l (.lst (((s.marks.length:Int)::(s.marks.take i).flatMap (gW s)).map V.int++(bE b.name).map V.int))=H5 at s5
    have hl5:H5 l=some (.lst (((s.marks.length:Int)::(s.marks.take i).flatMap (gW s)).map V.int++(bE b.name).map V.int)):=by rw[← hH5];exact af
    refine⟨_,rfl,.inl ⟨rfl,_,g6.of hl5⟩,_,rfl,q,rfl,.inl ⟨_,.inl (s5 _ _ hqL)⟩,_,rfl,_,rfl,_,rfl,(by show 2≤ag;decide),fun p hp=>?_⟩
    have s6:=bR (o:=.tup [.int (-1),.int (-1)]) hp
    have s56:=s5.trans s6
    refine⟨_,jy.k (k:=kI b.id) (s56 _ _ hqL),?_⟩
    have eb:=eoL b.id
    dsimp only at eb
    have et:SH s (jo b.id)=Rf (ze (2*b.id+1) (visible s.doc.row)):=by rw[Mt.Qi];rfl
    have hl6:=s6 _ _ hl5
    cases er:Rf (ze (2*b.id+1) (visible s.doc.row))with
    | none=>
     rw[er]at eb et
     rw[show iL kvs (kI b.id)=none from eb]
     refine⟨l,p,_,_,rfl,rfl,hl6,af,?_,?_⟩
     ·rw[ae,ab,ab,aN,c3];show _+2≤ag;omega
     ·refine⟨_,rfl,cB s56 hlL,?_⟩
      rw[af,take_snoc e2,eh,bW,AM,c7]
      unfold gW
      rw[et];simp
    | some z=>
     rw[er]at eb et
     obtain⟨p2,h3,h4'⟩:=eb
     rw[h3]
     refine⟨l,p2,_,_,rfl,rfl,hl6,s56 _ _ h4',?_,?_⟩
     ·rw[ae,ab,ab,aN,c3];show _+2≤ag;omega
     ·refine⟨_,rfl,cB s56 hlL,?_⟩
      rw[af,take_snoc e2,eh,bW,AM,c7]
      unfold gW
      rw[et];simp[Vatrkg.ints]
  ·rintro σ H3 ⟨v0,rfl,s3,hl3⟩
   refine⟨s3 _ _ hbd,_,rfl,?_⟩
   have s4:aM H1 (upd H3 W.bd (.dK (j1 ns s.marks))):=ug (od:=od) v1.bd (by rw[hHL];exact s3)
   refine Fin.same T k v (s1.trans s4) (s1.free hl) ?_
   rw[aD (dv nlb),hl3,xK hnl,cz]
def adE {H:Hp} {sh:Addr} {W:Own} {ra dx:Addr} {fs:List (Str×V)} {ns:List Addr} {s:GS} (v:AN t H sh W ra dx fs ns s) (hpw:s.marks.Pairwise fun a b=>a.id < b.id) {b:bT} (hb:b∈s.marks):∃na,iL (j1 ns s.marks) (kI b.id)=some (.ref na)∧Kn H na (nv b.name):=by
 have hnl:ns.length=s.marks.length:=b9 v.SJ
 obtain⟨i,e⟩:=jR hb
 have hi:=(ay.mp e).1
 have ea:ns[i]? =some ns[i]:=cM (by omega)
 obtain⟨b',e',hk⟩:=cQ v.SJ ea
 cases e.symm.trans e'
 refine⟨_,B6 (by rw[wj hnl];exact JN hpw) (i:=i) ?_,hk⟩
 have ez:(ns.zip s.marks)[i]? =some (ns[i],b):=g0.mpr ⟨ea,e⟩
 unfold j1
 rw[b0,ez];rfl
def Ay {l l':List Nat} (p:l'.Perm l) (q:l'.Pairwise (·≤·)) (nd:l.Nodup) {r:List Nat} (hr:r.Pairwise (· < ·)) (hm:∀n,n∈l↔n∈r):l'=r:=by
 refine Mt.Qj ?_ hr fun n=>p.mem_iff.trans (hm n)
 have nd':l'.Pairwise (·≠·):=c4.mp (p.nodup_iff.mpr nd)
 exact(q.and nd').imp fun h=>by omega
def WO (T:Tx K mg t):aZ P w K mg base cH 5 t.Jo t.Jp ER (ue t (a1 .at)):=by
 have g0d:aZ P w K mg base cH 1 t.lR t.lS kD pM:=pd T
 have g1b:aZ P w K mg base cH 4 t.qk t.qm m5 (Ef t.aj):=FF T
 have g0e:aZ P w K mg base cH 3 t.gF t.gG fW (iU t.aj):=jl T
 refine T.RW.fn.ok Bg (fun vs H Q E h=>?_) (fun cdv A outer s H vs Q E hr h=>?_)
 ·obtain⟨sh,W,s,C,as,rfl,⟨c,rfl,rfl⟩,_⟩:=h
  rfl
 ·obtain⟨sh,W,s,C,as,rfl,⟨p,rfl,rfl⟩,⟨ra,dx,fs,ns,v⟩,g,k⟩:=h
  have zl:ag=16777216:=bS
  have hrl:=g.doc.len
  refine⟨_,(ai (dC (jh (tI iX iX aP (pv 1) (e6 uq (bB T.jM g0e (hr.mono (by decide)) (aa (aV (pv 0) rfl) ah)) aP))) (ao (aU (b5 (aa (fe dA aP) ah)))) b8)
   (ai (bP (i:=2) Bg.nd rfl (bc rfl) (bB T.xx g1b (hr.mono (by decide)) (aa (aV (pv 0) rfl) (aa (pv 1) ah))))
   (ai (bP (i:=3) Bg.nd rfl (bc rfl) (e6 gZ (bB T.counted g0d (hr.mono (by decide)) (aa (cT A3 rfl T.Ec rfl (aa (aV (pv 2) rfl) ah)) ah)) (b5 (aa (cT cX rfl T.jx bV (aa (aV (pv 2) rfl) ah)) ah))))
   (ai (mi cS rfl (dQ (cT A3 rfl T.Ec rfl (aa (aV (pv 2) rfl) ah))) (da (i:=4) Bg.nd rfl (bc rfl)) (ao (fo (pD bF dE dF mw (pv 3) (aa (bB T.counted g0d (hr.mono (by decide)) (aa (l5 (iY hr) (aV (pv 0) rfl) (pv 4) (fun _ _=>rfl)) ah)) ah)))))
   (ao (aU (pv 3))))))),?_⟩
  rw[Mt.ace]at k
  refine WC (i:=1) (n:=((visible s.doc.row).length:Int) - 1) rfl (fun Q' kq=>HP T rfl v.doc (by omega) fun H' s'=>⟨_,_,rfl,rfl,kq H' s'⟩) fun H1 s1=>?_
  have eb:(decide (0≤p)&&decide (p≤((visible s.doc.row).length:Int) - 1))=gi p (bJ s.doc):=by
   unfold gi bJ
   congr 1
   rw[bH];simp;omega
  rw[eb]
  refine fi (fun h=>?_) fun h=>?_
  ·rw[if_neg (by simpa using h)]at k
   exact⟨_,rfl,(by show 1≤ag;decide),fun l hl=>Fin.refuse T k v s1 hl⟩
  ·have h:gi p (bJ s.doc)=true:=by simpa using h
   rw[if_pos h]at k
   obtain⟨hp0,hp1⟩:=Mt.Ag.mp h
   obtain⟨pn,rfl⟩:∃n:Nat,p=(n:Int):=⟨p.toNat,by omega⟩
   have v1:=v.same T s1
   have hpl:pn < (visible s.doc.row).length:=by unfold bJ at hp1;omega
   refine⟨_,rfl,sh,_,dx,_,_,rfl,v1.doc.at_,T.aQ,T.bA,v1.doc.zT,_,rfl,ra,s.doc.row,pn,rfl,v1.doc.row.r,hpl,fun r b x H2 hst hxb ex s2=>?_⟩
   rw[show((pn:Int)).toNat=pn by omega,show(visible (x6 s))[pn]? =some x from ex]at k
   have hxr:x∈s.doc.row:=(aA.mp (a7 ex)).1
   have s12:=s1.trans s2
   obtain⟨sg,i0,d0,c0,m0,ins,del,d4,bm,vv⟩:=id hst
   obtain⟨dx2,ha⟩:=vv.at_
   have hrC:(s.comments.filter fun c=>aB (gj c.num) x).Pairwise fun a b=>a.num < b.num:=g.good.o3.filter _
   have hrM:(s.marks.filter fun b=>aB (jo b.id) x).Pairwise fun a b=>a.id < b.id:=g.good.vh.filter _
   have hcl:=bX (fun c:aw=>aB (gj c.num) x) s.comments
   have hml:=bX (fun b:bT=>aB (jo b.id) x) s.marks
   have hmM:∀b∈s.marks.filter fun b=>aB (jo b.id) x,b∈s.marks:=fun b hb=>(aA.mp hb).1
   have hmC:∀n,n∈d4↔n∈(s.comments.filter fun c=>aB (gj c.num) x).map (·.num):=fun n=>by
    rw[vv.gS.d4 x hxb,aR]
    constructor
    ·intro h
     obtain⟨kc,hkc,e⟩:=g.good.Af x hxr n h
     exact⟨kc,aA.mpr ⟨hkc,Mt.eV.mpr (by rw[e];exact h)⟩,e⟩
    ·rintro⟨kc,hkc,rfl⟩
     exact Mt.eV.mp (aA.mp hkc).2
   have hmB:∀n,n∈bm↔n∈(s.marks.filter fun b=>aB (jo b.id) x).map (·.id):=fun n=>by
    rw[vv.gS.bm x hxb,aR]
    constructor
    ·intro h
     obtain⟨kc,hkc,e⟩:=g.good.AX x hxr n h
     exact⟨kc,aA.mpr ⟨hkc,Mt.eV.mpr (by rw[e];exact h)⟩,e⟩
    ·rintro⟨kc,hkc,rfl⟩
     exact Mt.eV.mp (aA.mp hkc).2
   dsimp only at k
   unfold Mt.VZ Vatrkg.toldNames at k
   generalize s.comments.filter (fun c=>aB (gj c.num) x)=CC at k hrC hmC hcl
   generalize s.marks.filter (fun b=>aB (jo b.id) x)=MM at k hrM hmB hml hmM
   have hgc:=g.abV
   have hgm:=g.adA
   have hrC':(CC.map (·.num)).Pairwise (· < ·):=b7.mpr hrC
   have hrM':(MM.map (·.id)).Pairwise (· < ·):=b7.mpr hrM
   have hbl:bm.length=MM.length:=by
    have p1:=bm.mergeSort_perm (fun a b=>decide (a≤b))
    have p2:=pS (le:=fun(a b:Nat)=>decide (a≤b)) (fun a b c=>by simp;omega) (fun a b=>by simp;omega) bm
    have:=Ay p1 (p2.imp fun h=>by simpa using h) vv.gS.RY hrM' hmB
    rw[← p1.length_eq,this,ab]
   refine⟨_,rfl,r,_,dx2,_,_,rfl,ha,T.aO,T.cg,k8 ..,c0,d4.map (fun(n:Nat)=>(n:Int)),rfl,iB.of (by rw[bD];exact vv.c),fun ns' q pm srt hq=>?_⟩
   obtain⟨l',rfl,pm,srt⟩:=HY pm srt
   have el':=Ay pm srt vv.gS.Ut hrC' hmC
   subst el'
   have s3:=bR (o:=.lst (((CC.map (·.num)).map fun(n:Nat)=>(n:Int)).map V.int)) hq
   refine⟨q,Vatrkg.ints (CC.map (·.num)),rfl,.inl af,ints_lt (by rw[ab];omega),fun q4 H4 s4 hq4 h4=>?_⟩
   rw[← jO]at h4
   have s24:=s3.trans s4
   refine⟨_,rfl,r,_,dx2,_,_,rfl,s24 _ _ ha,T.aO,T.cj,qT ..,m0,_,rfl,.inr (iB.of (s24 _ _ vv.m)),(by show 1≤ag;decide),fun p5 hp5=>?_⟩
   have s5:=bR (o:=.lst [.int ((nv bm).length:Nat)]) hp5
   refine⟨q4,p5,_,_,rfl,rfl,.inl (s5 _ _ h4),.inl af,by rw[ab,c3,ab];show _+1≤ag;omega,fun l hl=>?_⟩
   have s15:=(s12.trans s24).trans s5
   have hlH:H l=none:=s15.free hl
   have eT:(bE (CC.map (·.num))).map V.int++[V.int ((nv bm).length:Nat)]=(bE (CC.map fun c=>c.num)++[(MM.length:Int)]).map V.int:=by
    rw[fQ,hbl];simp
   rw[eT]
   have hbase:aM H _:=cB s15 hlH (o:=.lst ((bE (CC.map fun c=>c.num)++[(MM.length:Int)]).map V.int))
   have s25:aM H2 (upd _ l (.lst ((bE (CC.map fun c=>c.num)++[(MM.length:Int)]).map V.int))):=(s24.trans s5).trans (bR hl)
   refine⟨_,rfl,r,_,dx2,_,_,rfl,s25 _ _ ha,T.aO,T.cj,qT ..,m0,bm.map (fun(n:Nat)=>(n:Int)),rfl,iB.of (by rw[bD];exact s25 _ _ vv.m),fun ns' q6 pm srt hq6=>?_⟩
   obtain⟨l',rfl,pm,srt⟩:=HY pm srt
   have el':=Ay pm srt vv.gS.RY hrM' hmB
   subst el'
   have s6:=bR (o:=.lst (((MM.map (·.id)).map fun(n:Nat)=>(n:Int)).map V.int)) hq6
   have hbase6:=hbase.trans s6
   have hq6H:H q6=none:=hbase.free hq6
   have nql:q6≠l:=fun e=>by subst e;rw[af]at hq6;cases hq6
   refine⟨q6,rfl,⟨_,g6.of af⟩,lj (K:=K) (a:=q6) (xs:=((MM.map (·.id)).map fun(n:Nat)=>(n:Int)).map V.int) (fun i σ H'=>∃v4:Option V,σ=[some (.ref sh),some (.int (pn:Int)),some (.ref r),some (.ref l),v4]∧aM H H'∧H' q6=some (.lst (((MM.map (·.id)).map fun(n:Nat)=>(n:Int)).map V.int))∧H' l=some (.lst ((bE (CC.map fun c=>c.num)++((MM.length:Int)::(MM.take i).flatMap fun b=>bE b.name)).map V.int)))
    ⟨none,rfl,hbase6,af,by rw[aD (dv nql),af];rfl⟩ (fun i σ H' _ ⟨_,_,_,h,_⟩=>g6.of h) ?_ ?_⟩
   ·rintro i y σ H7 hi ⟨v4,rfl,s7,hq7,hl7⟩
    rw[bD,bD]at hi
    obtain⟨b',eb',rfl⟩:=get_map hi
    have hbm:=hmM b' (a7 eb')
    obtain⟨na,hv,hkb⟩:=adE v g.good.vh hbm
    have v7:=v.same T s7
    have hb20:=g.good.names b' hbm
    have hil:=(ay.mp eb').1
    have hfl:=Sj (f:=fun b:bT=>bE b.name) (n:=21) (l:=MM.take i) fun y hy=>by
     rw[c3];have:=g.good.names y (hmM y (eJ hy));omega
    rw[cc]at hfl
    refine⟨_,rfl,.inl ⟨rfl,_,g6.of hl7⟩,_,rfl,sh,_,dx,_,_,rfl,v7.doc.at_,T.aQ,T.cZ,v.QC,_,rfl,W.bd,_,rfl,by have:=jy.k (k:=kI b'.id) v7.bd;rw[hv]at this;exact this,na,Vatrkg.ints b'.name,rfl,oT ((hkb.kr (t:=t) (B5.same s7)).rd),ints_lt (by omega),fun q8 H8 s8 hq8 h8=>?_⟩
    rw[← jO]at h8
    have hl8:=s8 _ _ hl7
    refine⟨l,q8,_,_,rfl,rfl,hl8,.inl h8,?_,?_⟩
    ·simp only[ab,aN,ae,c3];omega
    ·refine⟨_,rfl,cB (s7.trans s8) hlH,by rw[aD nql];exact s8 _ _ hq7,?_⟩
     rw[af,take_snoc eb',eh]
     simp
   ·rintro σ H7 ⟨v4,rfl,s7,hq7,hl7⟩
    rw[ab,ab,ab,cz]at hl7
    exact⟨_,rfl,Fin.same T k v s7 hlH hl7⟩
def uP (F:Nat→Nat) (a b:Nat):Prop:=F a < F b∨(F a=F b∧a < b)
def uP.asymm {F:Nat→Nat} {a b:Nat} (h:uP F a b):¬uP F b a:=by
 unfold uP at *;omega
def uP.irr {F:Nat→Nat} {a:Nat}:¬uP F a a:=by
 unfold uP;omega
theorem aaN {F:Nat→Nat}:∀{a b:List Nat},a.Pairwise (uP F)→b.Pairwise (uP F)→(∀x,x∈a↔x∈b)→a=b
 | [],[],_,_,_=>rfl
 | [],y::b,_,_,h=>by have:=(h y).mpr (aE ..);cases this
 | x::a,[],_,_,h=>by have:=(h x).mp (aE ..);cases this
 | x::a,y::b,ha,hb,h=>by
  rw[c5]at ha hb
  have e:x=y:=by
   rcases bx.mp ((h x).mp (aE ..))with e | e
   ·exact e
   ·rcases bx.mp ((h y).mpr (aE ..))with e2 | e2
    ·exact e2.symm
    ·exact absurd (ha.1 y e2) (hb.1 x e).asymm
  subst e
  rw[aaN ha.2 hb.2 fun z=>?_]
  constructor
  ·intro hz
   rcases bx.mp ((h z).mp (aI _ hz))with e | e
   ·subst e;exact absurd (ha.1 _ hz) uP.irr
   ·exact e
  ·intro hz
   rcases bx.mp ((h z).mpr (aI _ hz))with e | e
   ·subst e;exact absurd (hb.1 _ hz) uP.irr
   ·exact e
theorem vR {key:aw→Nat} {x y:aw}:∀{r:List aw},y∈iJ key x r↔y=x∨y∈r
 | []=>by unfold iJ;simp
 | z::r=>by
  have ih:=vR (key:=key) (x:=x) (y:=y) (r:=r)
  unfold iJ
  split
  ·simp
  ·rw[bx,ih,bx]
   constructor
   ·rintro(h | h | h)
    ·exact .inr (.inl h)
    ·exact .inl h
    ·exact .inr (.inr h)
   ·rintro(h | h | h)
    ·exact .inr (.inl h)
    ·exact .inl h
    ·exact .inr (.inr h)
theorem Ie {F:Nat→Nat} {x:aw}:∀{r:List aw},r.Pairwise (fun a b=>uP F a.num b.num)→(∀y∈r,y.num < x.num)→(iJ (fun x=>F x.num) x r).Pairwise (fun a b=>uP F a.num b.num)
 | [],_,_=>by unfold iJ;simp
 | z::r,hp,hn=>by
  have hz:=hn z (aE ..)
  have hp':=c5.mp hp
  unfold iJ
  split
  ·rename_i h
   refine c5.mpr ⟨fun y hy=>?_,hp⟩
   rcases bx.mp hy with rfl | hy
   ·exact .inl h
   ·have:=hp'.1 y hy
    unfold uP at this⊢;omega
  ·rename_i h
   refine c5.mpr ⟨fun y hy=>?_,Ie hp'.2 fun y hy=>hn y (aI _ hy)⟩
   rcases vR.mp hy with rfl | hy
   ·unfold uP;omega
   ·exact hp'.1 y hy
theorem ND {F:Nat→Nat}:∀(l:List aw) (r:List aw),l.Pairwise (fun a b=>a.num < b.num)→r.Pairwise (fun a b=>uP F a.num b.num)→(∀y∈r,∀x∈l,y.num < x.num)→
  (l.foldl (fun r x=>iJ (fun x=>F x.num) x r) r).Pairwise (fun a b=>uP F a.num b.num)∧∀y,y∈l.foldl (fun r x=>iJ (fun x=>F x.num) x r) r↔y∈r∨y∈l
 | [],r,_,hr,_=>⟨hr,fun y=>by simp⟩
 | x::l,r,hl,hr,hlt=>by
  rw[c5]at hl
  rw[Ln]
  obtain⟨h1,h2⟩:=ND l _ hl.2 (Ie hr fun y hy=>hlt y hy x (aE ..)) fun y hy z hz=>by
   rcases vR.mp hy with rfl | hy
   ·exact hl.1 z hz
   ·exact hlt y hy z (aI _ hz)
  refine⟨h1,fun y=>?_⟩
  rw[h2,vR,bx]
  constructor
  ·rintro((h | h) | h)
   ·exact .inr (.inl h)
   ·exact .inl h
   ·exact .inr (.inr h)
  ·rintro(h | h | h)
   ·exact .inl (.inr h)
   ·exact .inl (.inl h)
   ·exact .inr h
theorem KD {α β:Type} {F:α→β→Prop}:∀{a:List α} {c:List β} {y:β},Paired F a c→y∈c→∃x∈a,F x y
 | _,_,_,.nil,h=>by cases h
 | _,_,_,.cons r t,h=>by
  rcases bx.mp h with rfl | h
  ·exact⟨_,aE ..,r⟩
  ·obtain⟨x,hx,e⟩:=KD t h
   exact⟨x,aI _ hx,e⟩
def Ig (s:GS) (n:Nat):Nat:=Vatrkg.firstCarrier s (gj n)
def X3 {s:GS} (hp:s.comments.Pairwise fun a b=>a.num < b.num) (w:Int) {R:List Nat} (hR:R.Pairwise (uP (Ig s))) (hm:∀n,n∈R↔∃x∈s.comments,oW s w x=true∧x.num=n):Mt.Hb s w=bE R:=by
 unfold Mt.Hb
 congr 1
 obtain⟨h1,h2⟩:=ND (F:=Ig s) (s.comments.filter (oW s w)) [] (hp.filter _) .nil (fun y hy=>by cases hy)
 refine aaN (F:=Ig s) (b7.mpr h1) hR fun n=>?_
 rw[hm,aR]
 constructor
 ·rintro⟨x,hx,e⟩
  rcases(h2 x).mp hx with h | h
  ·cases h
  ·exact⟨x,(aA.mp h).1,(aA.mp h).2,e⟩
 ·rintro⟨x,hx,hw,e⟩
  exact⟨x,(h2 x).mpr (.inr (aA.mpr ⟨hx,hw⟩)),e⟩
def adF {s:GS} {ls:List (List Nat)} {bs:List (List Piece)} (h:Paired (fun l b=>∃ins del bm,x8 b ins del l bm) ls bs) (e:bs.flatten=s.doc.row) {a b:Nat} (q:Bf ls a b):uP (Ig s) a b:=by
 obtain⟨pre,l,post,rfl,h1,h2,h3⟩:=q
 have t1:=pJ pre.length h
 have t2:=kT pre.length h
 rw[kP]at t1
 rw[gf]at t2
 generalize hb1:bs.take pre.length=b1 at t1
 generalize hb2:bs.drop pre.length=b2 at t2
 have eb:bs=b1++b2:=by rw[← hb1,← hb2,cR]
 cases t2 with
 | cons hB t2=>
 rename_i bl b3
 obtain⟨ins,del,bm,hB⟩:=hB
 have er:s.doc.row=b1.flatten++(bl++b3.flatten):=by rw[← e,eb,eY,bC]
 obtain⟨x,tl,rfl⟩:∃x tl,bl=x::tl:=by
  cases bl with
  | nil=>exact absurd rfl hB.ne
  | cons x tl=>exact⟨x,tl,rfl⟩
 have hx:=aE (a:=x) (l:=tl)
 have ha:aB (2*a) x=true:=Mt.eV.mpr ((hB.d4 x hx a).mp h1)
 have nb:∀y∈b1.flatten,aB (2*b) y=false:=fun y hy=>by
  obtain⟨bl',hbl',hy⟩:=dr.mp hy
  obtain⟨l',hl',ins',del',bm',hB'⟩:=KD t1 hbl'
  cases c:aB (2*b) y with
  | false=>rfl
  | true=>exact absurd ((hB'.d4 y hy b).mpr (Mt.eV.mp c)) (h2 l' hl')
 have eB:Ig s b=(x::(tl++b3.flatten)).findIdx (aB (2*b))+b1.flatten.length:=by
  show s.doc.row.findIdx (aB (2*b))=_
  rw[er,Ft,if_neg]
  ·rfl
  ·rw[Cs.mpr nb];omega
 have eA:Ig s a=if b1.flatten.findIdx (aB (2*a)) < b1.flatten.length then b1.flatten.findIdx (aB (2*a))else b1.flatten.length:=by
  show s.doc.row.findIdx (aB (2*a))=_
  rw[er,Ft,dW,IM,ha];simp
 rw[IM]at eB
 unfold uP
 cases c:aB (2*b) x with
 | true=>
  have:=h3 ((hB.d4 x hx b).mpr (Mt.eV.mp c))
  rw[c]at eB
  simp only[cond_true]at eB
  split at eA <;> omega
 | false=>
  rw[c]at eB
  simp only[cond_false]at eB
  split at eA <;> omega
def aaO {s:GS} {n:Nat} (h:s.doc.row.any (aB (2*n))=false):Ig s n=s.doc.row.length:=Cs.mpr fun x hx=>by
 cases c:aB (2*n) x with
 | false=>exact c
 | true=>
  have:s.doc.row.any (aB (2*n))=true:=cA.mpr ⟨x,hx,c⟩
  rw[h]at this;cases this
def aaP {s:GS} {n:Nat} (h:s.doc.row.any (aB (2*n))=true):Ig s n < s.doc.row.length:=by
 obtain⟨x,hx,c⟩:=cA.mp h
 exact List.findIdx_lt_length_of_exists ⟨x,hx,c⟩
def qZ (s:GS) (ks:List Nat):List Nat:=(s.comments.filter fun x=>!decide (x.num∈ks)).map (·.num)
def ab0 {s:GS} {ks:List Nat} (hp:s.comments.Pairwise fun a b=>a.num < b.num) (hk:ks.Pairwise (uP (Ig s))) (hm:∀n,n∈ks↔s.doc.row.any (aB (2*n))=true):(ks++qZ s ks).Pairwise (uP (Ig s))∧(qZ s ks).Pairwise (uP (Ig s)):=by
 have no:∀n∈qZ s ks,Ig s n=s.doc.row.length:=fun n hn=>by
  obtain⟨x,hx,rfl⟩:=aR.mp hn
  refine aaO ?_
  have:=(aA.mp hx).2
  cases c:s.doc.row.any (aB (2*x.num))with
  | false=>rfl
  | true=>rw[decide_eq_true ((hm _).mpr c)]at this;cases this
 have ho:(qZ s ks).Pairwise (uP (Ig s)):=by
  have h1:(qZ s ks).Pairwise (· < ·):=b7.mpr (hp.filter _)
  exact dD (fun ha hb h=>.inr ⟨(no _ ha).trans (no _ hb).symm,h⟩) h1
 exact⟨cC.mpr ⟨hk,ho,fun a ha b hb=>.inl (by rw[no b hb];exact aaP ((hm a).mp ha))⟩,ho⟩
def cm_get {H:Hp} {sh:Addr} {W:Own} {ra dx:Addr} {fs:List (Str×V)} {ns:List Addr} {s:GS} (v:AN t H sh W ra dx fs ns s) (hpw:s.comments.Pairwise fun a b=>a.num < b.num) {x:aw} (hx:x∈s.comments):∃z,iL (jd W.zs s.comments) (kI x.num)=some (.ref z.1)∧ud t H z x:=by
 have hnl:W.zs.length=s.comments.length:=b9 v.QD
 obtain⟨i,e⟩:=jR hx
 have hi:=(ay.mp e).1
 have ea:W.zs[i]? =some W.zs[i]:=cM (by omega)
 obtain⟨b',e',hk⟩:=cQ v.QD ea
 cases e.symm.trans e'
 refine⟨_,B6 (by rw[JM hnl];exact NC hpw) (i:=i) ?_,hk⟩
 have ez:(W.zs.zip s.comments)[i]? =some (W.zs[i],x):=g0.mpr ⟨ea,e⟩
 unfold jd
 rw[b0,ez];rfl
def Ze (s:GS) (u:Int) (n:Nat):Bool:=s.comments.any fun y=>decide (kI y.num=kI n)&&(decide (u=0)||(y.solved==decide (u=2)))
def NF {s:GS} {u:Int} {x:aw} (h:0≤u) (h3:u≤3) (n3:u≠3):(decide (u=0)||(x.solved==decide (u=2)))=oW s u x:=by
 unfold oW
 have:u=0∨u=1∨u=2:=by omega
 rcases this with rfl | rfl | rfl
 ·rfl
 ·cases x.solved <;> rfl
 ·cases x.solved <;> rfl
theorem X4 (p:Nat→Bool):∀l:List Nat,(l.map fun(n:Nat)=>if p n=true then some (V.int (n:Int))else none).filterMap id=nv (l.filter p)
 | []=>rfl
 | n::l=>by
  have ih:=X4 p l
  rw[aT,bK]
  by_cases h:p n=true
  ·rw[if_pos h,if_pos h]
   show V.int (n:Int)::_=_
   rw[ih];rfl
  ·rw[if_neg h,if_neg h]
   exact ih
def WQ (ks:List Nat):((md kI ks).map fun kv=>kV kv.1)=nv ks:=by
 unfold md nv;rw[bD];rfl
def Sk (T:Tx K mg t):aZ P w K mg base cH 2 t.DQ t.DR ym (ue t (a1 .list)):=by
 have g0d:aZ P w K mg base cH 1 t.lR t.lS kD pM:=pd T
 have g3n:aZ P w K mg base cH 1 t.yD t.yE tS (NB t):=Sg T
 have g1e:aZ P w K mg base cH 1 t.lu t.lz jB R6:=Aw T
 refine T.Jw.fn.ok jL (fun vs H Q E h=>?_) (fun cdv A outer s H vs Q E hr h=>?_)
 ·obtain⟨sh,W,s,C,as,rfl,⟨c,rfl,rfl⟩,_⟩:=h
  rfl
 ·obtain⟨sh,W,s,C,as,rfl,⟨u,rfl,rfl⟩,⟨ra,dx,fs,ns,v⟩,g,k⟩:=h
  have zl:ag=16777216:=bS
  have hrl:=g.doc.len
  have hcl:=g.abV
  have hnl:W.zs.length=s.comments.length:=b9 v.QD
  refine⟨_,(ai (dC (jh (tI iX iX aP (pv 1) aP)) (ao (aU (b5 (aa (fe dA aP) ah)))) b8)
   (ai (bP (i:=2) jL.nd rfl (Su rfl) (bB T.tu g1e (hr.mono (by decide)) (aa (pU (own:=[("stretch",5)]) rfl jL.nd (dQ (aV (pv 0) rfl)) (eC (by rfl)) (fun _ _ _ _ _=>da (i:=5) jL.nd rfl (bc rfl)) (fun _ _ _ _ _=>j7) (fun _ _ _ _ _=>(js (K:=K) rfl (pv 5) rfl))) ah)))
   (ai (Lu (tK (i:=3) (own:=[("c",4)]) rfl jL.nd rfl rfl (yi rfl rfl rfl rfl) (G9 (aV (pv 0) rfl)) (eC (by rfl)) (fun _ _ _ _ _=>da (i:=4) jL.nd rfl (bc rfl)) (fun _ _ _ _ _=>pT (oY (ki (iY hr) (pv 4) (pv 2)))) (fun _ _ _ _ _=>(pv 4))))
   (ai (dC (dN nQ (pv 1) aP (d6 _)) (ao (aU (bB T.counted g0d (hr.mono (by decide)) (aa (pv 3) ah)))) b8)
   (ao (aU (bB T.counted g0d (hr.mono (by decide)) (aa (pU (own:=[("c",4)]) rfl jL.nd (dQ (e6 gZ (vZ (Mo rfl) rfl T.Jz rfl (aa (pv 2) ah)) (pv 3))) (eC (by rfl)) (fun _ _ _ _ _=>da (i:=4) jL.nd rfl (bc rfl)) (fun _ _ _ _ _=>pT (Aq (K:=K) rfl (bB T.Jv g3n (hr.mono (by decide)) (aa (l5 (iY hr) (js (K:=K) rfl (pv 0) rfl) (pv 4) (fun _ _=>rfl)) (aa (pv 1) ah))) (fun _=>rfl))) (fun _ _ _ _ _=>(pv 4))) ah)))))))),?_⟩
  rw[Mt.Xo]at k
  refine WC (i:=1) (n:=3) rfl (fun Q' kq=>kq H (aM.refl _)) fun H0 s0=>?_
  have eb:(decide ((0:Int)≤u)&&decide (u≤3))=bo u 0 3:=rfl
  rw[eb]
  refine fi (fun h=>?_) fun h=>?_
  ·rw[if_neg (by simpa using h)]at k
   exact⟨_,rfl,(by show 1≤ag;decide),fun l hl=>Fin.refuse T k v s0 hl⟩
  ·have h:bo u 0 3=true:=by simpa using h
   rw[if_pos h]at k
   obtain⟨hu0,hu3⟩:=Mt.iC.mp h
   have v0:=v.same T s0
   obtain⟨rs,bs,hl,hR,ebs⟩:=id v0.doc.row
   have hle:=hR.le
   rw[ebs]at hle
   obtain⟨ps,ls,h1,h2,h3⟩:=XX hR
   have el1:rs.length=ps.length:=b9 h1
   have el2:ps.length=ls.length:=b9 h2
   refine⟨_,rfl,sh,_,dx,_,_,rfl,v0.doc.at_,T.aQ,T.bA,v0.doc.zT,ra,rfl,⟨_,hl.sq⟩,fun D hD=>zf (xs:=rs.map V.ref) (ps.map V.ref) hl.sq hD (by rw[ab,ab,el1]) (by rw[ab];omega) (fun i x y H' Q' hx hy s' q=>?_) fun H1 s1 e1=>?_⟩
   ·obtain⟨r,er,rfl⟩:=gD hx
    obtain⟨p,ep,rfl⟩:=gD hy
    obtain⟨p',ep',sg,i0,d0,m0,dx2,ha⟩:=cQ h1 er
    cases ep.symm.trans ep'
    exact⟨_,rfl,r,_,dx2,_,_,rfl,s' _ _ ha,T.aO,T.cg,k8 ..,q H' (aM.refl _)⟩
   ·refine⟨D,ps,ls,rfl,.inl e1,Paired.oX h2 fun p l z=>s1 _ _ z,by omega,X0 g.doc h3 ebs,fun q H2 ks s2 hq h2q hnd hmem hbf=>?_⟩
    have s02:=(s0.trans s1).trans s2
    have v2:=v.same T s02
    have hq0:H q=none:=(s0.trans s1).free hq
    have hmk:∀n,n∈ks↔s.doc.row.any (aB (2*n))=true:=fun n=>by rw[hmem,XZ h3,ebs]
    have hko:ks.Pairwise (uP (Ig s)):=hbf.imp fun z=>adF h3 ebs z
    obtain⟨ho1,ho2⟩:=ab0 g.good.o3 hko hmk
    have hks:ks.length≤10000:=Mt.kj 10000 ks hnd fun n hn=>by
     obtain⟨l,hl,hn⟩:=(hmem n).mp hn
     exact X0 g.doc h3 ebs l hl n hn
    have hol:(qZ s ks).length≤1000:=by
     unfold qZ
     rw[ab]
     exact bg (bX ..) hcl
    refine⟨W.cd,.dK (jd W.zs s.comments),v2.cd,trivial,fun od=>?_⟩
    have hsh:upd H2 W.cd (.iK od (.dK (jd W.zs s.comments))) sh=_:=(aD (d5 v2.doc.at_ v2.cd (by intro z;cases z))).trans v2.doc.at_
    have hqc:q≠W.cd:=fun e=>by subst e;rw[v.cd]at hq0;cases hq0
    have hqL:upd H2 W.cd (.iK od (.dK (jd W.zs s.comments))) q=_:=(aD hqc).trans h2q
    refine⟨_,rfl,sh,_,dx,_,_,rfl,hsh,T.aQ,T.bL,v.lcm,W.cd,od,rfl,.inl ⟨_,af,fun D2 hD2=>UW (fun kv=>!(iL (md kI ks) kv.1).isSome) af hD2 (by rw[HZ hnl];omega) (fun i kk vv H3 Q3 hi s3 q3=>?_) (fun x H3 Q3 q3=>⟨_,rfl,q3⟩) fun H3 s3 e3=>?_⟩⟩
    ·obtain⟨z,x,e1,e3,rfl,rfl⟩:=UY hi
     exact⟨_,rfl,_,rfl,q,_,rfl,jy.k (k:=kI x.num) (s3 _ _ hqL),_,rfl,q3 H3 (aM.refl _)⟩
    ·rw[Eu (fun x=>!decide (x.num∈ks)) _ hnl fun x hx v=>by
      show(!(iL (md kI ks) (kI x.num)).isSome)=_
      congr 1
      rw[bH,QB qY,decide_eq_true_eq]]at e3
     refine⟨s3 _ _ af,?_⟩
     have s4:=ug v2.cd s3
     have hDD:H2 D2=none:=by
      by_cases e:D2=W.cd
      ·subst e;rw[af]at hD2;cases hD2
      ·rw[aD e]at hD2;exact hD2
     have nD:D2≠W.cd:=fun e=>by subst e;rw[v2.cd]at hDD;cases hDD
     have e4:upd H3 W.cd (.dK (jd W.zs s.comments)) D2=some (.lst (nv (qZ s ks))):=(aD nD).trans e3
     generalize upd H3 W.cd (.dK (jd W.zs s.comments))=H4 at s4 e4
     have s04:=s02.trans s4
     refine⟨_,rfl,rfl,_,rfl,?_⟩
     refine fi (fun hw=>?_) fun hw=>?_
     ·have hw:u=3:=by simpa using hw
      subst hw
      refine⟨_,rfl,D2,Vatrkg.ints (qZ s ks),rfl,oT (.inl e4),ints_lt (by omega),fun l H5 s5 hl5 e5=>?_⟩
      rw[← jO,← X3 g.good.o3 3 ho2 fun n=>?_]at e5
      ·exact Fin.same T k v (s04.trans s5) (s04.free hl5) e5
      ·unfold qZ
       rw[aR]
       have ew:∀x:aw,oW s 3 x=!decide (x.num∈ks):=fun x=>by
        show(nE s (gj x.num)==0)=_
        rw[acj]
        congr 1
        rw[bH,decide_eq_true_eq,hmk];rfl
       constructor
       ·rintro⟨x,hx,e⟩
        exact⟨x,(aA.mp hx).1,by rw[ew];exact(aA.mp hx).2,e⟩
       ·rintro⟨x,hx,hw,e⟩
        exact⟨x,aA.mpr ⟨hx,by rw[← ew];exact hw⟩,e⟩
     ·have hw:u≠3:=by simpa using hw
      refine⟨_,rfl,q,_,rfl,.inl (s4 _ _ h2q),fun l1 hl1=>?_⟩
      rw[WQ]
      have s5:=bR (o:=.lst (nv ks)) hl1
      refine⟨_,rfl,l1,D2,_,_,rfl,rfl,.inl af,.inl (s5 _ _ e4),by rw[fQ,fQ];omega,fun l2 hl2=>?_⟩
      rw[← sD]
      have s6:=bR (o:=.lst (nv (ks++qZ s ks))) hl2
      have s06:=(s04.trans s5).trans s6
      have hmc:∀n∈ks++qZ s ks,∃x∈s.comments,x.num=n:=fun n hn=>by
       rcases aX.mp hn with hn | hn
       ·obtain⟨x,hx,c⟩:=cA.mp ((hmk n).mp hn)
        exact g.good.Af x hx n (Mt.eV.mp c)
       ·obtain⟨x,hx,e⟩:=aR.mp hn
        exact⟨x,(aA.mp hx).1,e⟩
      have hfl:=bX (Ze s u) (ks++qZ s ks)
      have hlen:(ks++qZ s ks).length≤11000:=by rw[ae];omega
      refine⟨l2,rfl,⟨_,g6.of af⟩,fun D3 hD3=>LB (xs:=nv (ks++qZ s ks)) ((ks++qZ s ks).map fun(n:Nat)=>if Ze s u n=true then some (V.int (n:Int))else none) (g6.of af) hD3 (by rw[fQ,ab]) (by rw[ab];omega) (fun i x y H7 Q7 hx hy s7 q7=>?_) (fun i x y H7 Q7 hx hy s7 q7=>?_) fun H7 s7 e7=>?_⟩
      ·obtain⟨n,en,rfl⟩:=get_map (show((ks++qZ s ks).map fun(n:Nat)=>V.int (n:Int))[i]? =some x from hx)
       rw[b0,en]at hy
       have ey:y=if Ze s u n=true then some (V.int (n:Int))else none:=(bu hy).symm
       obtain⟨x,hxm,rfl⟩:=hmc n (a7 en)
       have v7:=v.same T (s06.trans s7)
       obtain⟨z,hz1,hz2⟩:=cm_get v7 g.good.o3 hxm
       refine⟨_,rfl,sh,_,dx,_,_,rfl,v7.doc.at_,T.aQ,T.bL,v.lcm,_,rfl,W.cd,_,rfl,by have:=jy.k (k:=kI x.num) v7.cd;rw[hz1]at this;exact this,_,rfl,z,x,u,rfl,hz2,⟨_,rfl,?_⟩⟩
       have:=q7 H7 (aM.refl _)
       have e2:y.isSome=(decide (u=0)||(x.solved==decide (u=2))):=by
        have e3:Ze s u x.num=(decide (u=0)||(x.solved==decide (u=2))):=Sh (f:=fun y=>decide (u=0)||(y.solved==decide (u=2))) g.good.o3 hxm
        rw[ey,e3]
        generalize (decide (u=0)||(x.solved==decide (u=2)))=bb
        cases bb <;> rfl
       rw[e2]at this
       exact this
      ·obtain⟨n,en,rfl⟩:=get_map (show((ks++qZ s ks).map fun(n:Nat)=>V.int (n:Int))[i]? =some x from hx)
       rw[b0,en]at hy
       have ey:some y=if Ze s u n=true then some (V.int (n:Int))else none:=(bu hy).symm
       refine⟨_,rfl,?_⟩
       split at ey
       ·cases ey;exact q7 H7 (aM.refl _)
       ·cases ey
      ·rw[X4]at e7
       refine⟨D3,Vatrkg.ints ((ks++qZ s ks).filter (Ze s u)),rfl,oT (.inl e7),ints_lt (by omega),fun l H8 s8 hl8 e8=>?_⟩
       rw[← jO,← X3 g.good.o3 u (ho1.filter _) fun n=>?_]at e8
       ·exact Fin.same T k v ((s06.trans s7).trans s8) ((s06.trans s7).free hl8) e8
       ·rw[aA]
        constructor
        ·rintro⟨hn,hl⟩
         obtain⟨x,hx,e⟩:=cA.mp hl
         rw[dh,decide_eq_true_eq]at e
         exact⟨x,hx,by rw[← NF hu0 hu3 hw];exact e.2,qY _ _ e.1⟩
        ·rintro⟨x,hx,hw',rfl⟩
         refine⟨?_,?_⟩
         ·by_cases c:x.num∈ks
          ·exact aS _ c
          ·exact aF _ (aR.mpr ⟨x,aA.mpr ⟨hx,by rw[decide_eq_false c];rfl⟩,rfl⟩)
         ·exact cA.mpr ⟨x,hx,by rw[dh,decide_eq_true_eq];exact⟨rfl,by rw[NF hu0 hu3 hw];exact hw'⟩⟩
def Zf {x:Piece} (h:x.tags.Pairwise (· < ·)):(y9 x).Pairwise (· < ·)∧∀c,c∈y9 x↔2*c∈x.tags:=by
 unfold y9
 constructor
 ·rw[b7]
  refine dD (fun ha hb hlt=>?_) (h.filter _)
  have h1:=(aA.mp ha).2
  have h2:=(aA.mp hb).2
  simp at h1 h2
  omega
 ·intro c
  rw[aR]
  constructor
  ·rintro⟨a,ha,rfl⟩
   have h1:=(aA.mp ha).2
   simp at h1
   rw[show 2*(a / 2)=a by omega]
   exact(aA.mp ha).1
  ·intro hc
   exact⟨2*c,aA.mpr ⟨hc,by simp⟩,by omega⟩
def aaQ {x:Piece} (h:x.tags.Pairwise (· < ·)) {bm:List Nat} (nd:bm.Nodup) (hm:∀m,m∈bm↔2*m+1∈x.tags):(rN x).length=bm.length:=by
 have hr:((rN x).map (· / 2)).Pairwise (· < ·):=by
  unfold rN
  rw[b7]
  refine dD (fun ha hb hlt=>?_) (h.filter _)
  have h1:=(aA.mp ha).2
  have h2:=(aA.mp hb).2
  simp at h1 h2
  omega
 have hb:∀n,n∈bm↔n∈(rN x).map (· / 2):=fun n=>by
  unfold rN
  rw[hm,aR]
  constructor
  ·intro hc
   exact⟨2*n+1,aA.mpr ⟨hc,by simp⟩,by omega⟩
  ·rintro⟨a,ha,rfl⟩
   have h1:=(aA.mp ha).2
   simp at h1
   rw[show 2*(a / 2)+1=a by omega]
   exact(aA.mp ha).1
 have p1:=bm.mergeSort_perm (fun a b=>decide (a≤b))
 have p2:=pS (le:=fun(a b:Nat)=>decide (a≤b)) (fun a b c=>by simp;omega) (fun a b=>by simp;omega) bm
 have:=Ay p1 (p2.imp fun h=>by simpa using h) nd hr hb
 rw[← p1.length_eq,this,ab]
def Ih (ins del d4:List Nat) (n:Nat):List Int:=bE ins++(bE del++(bE d4++[(n:Int)]))
def UZ {b:List Piece} {ins del d4 bm com':List Nat} (h:x8 b ins del d4 bm) (ht:∀x∈b,x.tags.Pairwise (· < ·)) (pm:com'.Perm d4) (srt:com'.Pairwise (·≤·)):∀x∈b,dI x=(x.sign:Int)::Ih ins del com' bm.length:=fun x hx=>by
 obtain⟨e1,e2⟩:=Zf (ht x hx)
 unfold dI Ih
 rw[(h.vP x hx).1,(h.vP x hx).2,aaQ (ht x hx) h.RY (h.bm x hx),Ay pm srt h.Ut e1 fun n=>by rw[h.d4 x hx,e2]]
def adG {α:Type} {f:α→List Int} {a b:List α}:(a.flatMap f).length≤((a++b).flatMap f).length:=by
 rw[eh,ae];omega
def aaR (C:Addr):Sp:=fun vs H Q _=>EX2 fun(a:Addr) (row:List Piece)=>vs=[.ref a]∧sy C H a row∧row.length≤8000000∧(∀x∈row,x.tags.Pairwise (· < ·))∧(row.flatMap dI).length≤10000000∧
 ∀q H',aM H H'→H q=none→H' q=some (.lst (((row.length:Int)::row.flatMap dI).map V.int))→Q (.ref q) H'
def Pe (T:Tx K mg t):aZ P w K mg base cH 2 t.vE t.vF qf (aaR t.aj):=by
 have g0d:aZ P w K mg base cH 1 t.lR t.lS kD pM:=pd T
 have g0b:aZ P w K mg base cH 1 t.fX t.fY fq (i6 t.aj):=iF T
 refine T.Gs.fn.ok nZ (fun vs H Q E h=>?_) (fun cdv A outer s H vs Q E hr h=>?_)
 ·obtain⟨a,row,rfl,_⟩:=h
  rfl
 ·obtain⟨a,row,rfl,⟨rs,bs,hl,hR,rfl⟩,hz,htg,hal,k⟩:=h
  have zl:ag=16777216:=bS
  refine⟨_,(ai (bP (i:=1) nZ.nd rfl (bc rfl) (b5 (aa (bB T.gJ g0b (hr.mono (by decide)) (aa (pv 0) ah)) ah)))
   (ai (mi cS rfl (dQ (pv 0)) (da (i:=2) nZ.nd rfl (bc rfl)) (ai (bP (i:=3) nZ.nd rfl (bc rfl) (e6 gZ (bB T.counted g0d (hr.mono (by decide)) (aa (vZ AU rfl T.Jz rfl (aa (aV (pv 2) rfl) ah)) ah)) (bB T.counted g0d (hr.mono (by decide)) (aa (vZ AU rfl T.Jz rfl (aa (aV (pv 2) rfl) ah)) ah))))
   (ai (fo (pD bF dE dF mw (pv 3) (aa (bB T.counted g0d (hr.mono (by decide)) (aa (cT A3 rfl T.Ec rfl (aa (aV (pv 2) rfl) ah)) ah)) ah)))
   (ai (fo (pD bF cV cW ke (pv 3) (aa (cT cX rfl T.jx bV (aa (aV (pv 2) rfl) ah)) ah)))
   (ao (mi cS rfl (dQ (aV (pv 2) rfl)) (da (i:=4) nZ.nd rfl (bc rfl)) (ai (fo (pD bF cV cW ke (pv 1) (aa (pv 4) ah)))
   (ao (fo (pD bF dE dF mw (pv 1) (aa (pv 3) ah)))))))))))
   (ao (aU (pv 1))))),?_⟩
  refine⟨_,rfl,a,bs.flatten,rfl,⟨rs,bs,hl,hR,rfl⟩,by omega,fun H1 s1=>⟨(by show 1≤ag;decide),fun l hl1=>?_⟩⟩
  have hlH:H l=none:=s1.free hl1
  have s2:aM H (upd H1 l (.lst [.int (bs.flatten.length:Nat)])):=cB s1 hlH
  refine⟨_,rfl,a,rfl,⟨_,.inl (hJ s2 hl)⟩,lj (K:=K) (a:=a) (xs:=rs.map V.ref) (fun i σ H'=>∃(v2 v3 v4:Option V),σ=[some (.ref a),some (.ref l),v2,v3,v4]∧aM H H'∧H' l=some (.lst (((bs.flatten.length:Int)::(bs.take i).flatten.flatMap dI).map V.int)))
   ⟨none,none,none,rfl,s2,by rw[af];rfl⟩ (fun i σ H' _ ⟨_,_,_,_,s3,_⟩=>.inl (hJ s3 hl)) ?_ ?_⟩
  ·rintro i y σ H3 hi ⟨v2,v3,v4,rfl,s3,hl3⟩
   obtain⟨r,er,rfl⟩:=gD hi
   obtain⟨b,eb,hst⟩:=cQ hR er
   obtain⟨sg,i0,d0,c0,m0,ins,del,d4,bm,vv⟩:=hst.kp (aM.oz s3)
   obtain⟨dx2,ha⟩:=vv.at_
   have hbm:∀x∈b,x∈bs.flatten:=fun x hx=>dr.mpr ⟨b,a7 eb,hx⟩
   have hbt:∀x∈b,x.tags.Pairwise (· < ·):=fun x hx=>htg x (hbm x hx)
   have esp:bs.flatten=(bs.take i).flatten++(b++(bs.drop (i+1)).flatten):=by
    conv=>lhs;rw[← cR i bs,fP (ay.mp eb).1,(ay.mp eb).2]
    rw[eY,bC]
   obtain⟨x0,hx0⟩:=cG b vv.gS.ne
   have p1:=d4.mergeSort_perm (fun a b=>decide (a≤b))
   have p2:=pS (le:=fun(a b:Nat)=>decide (a≤b)) (fun a b c=>by simp;omega) (fun a b=>by simp;omega) d4
   have hlen0:(Ih ins del (d4.mergeSort fun a b=>decide (a≤b)) bm.length).length < 10000000:=by
    have e:=UZ vv.gS hbt p1 (p2.imp fun h=>by simpa using h) x0 hx0
    obtain⟨y1,y2,ey⟩:=x3 (hbm x0 hx0)
    have:(dI x0).length≤(bs.flatten.flatMap dI).length:=by
     rw[ey,eh,bW,ae,ae];omega
    rw[e,aN]at this
    omega
   have hlc:(Ih ins del (d4.mergeSort fun a b=>decide (a≤b)) bm.length).length=ins.length+del.length+d4.length+4:=by
    unfold Ih
    simp only[ae,c3,p1.length_eq,aN,oV];omega
   rw[hlc]at hlen0
   refine⟨_,rfl,r,_,dx2,_,_,rfl,ha,T.aO,T.cD,oP ..,i0,_,rfl,.inr (iB.of vv.i),fun p4 hp4=>?_⟩
   have s4:=bR (o:=.lst (nv ins)) hp4
   refine⟨p4,Vatrkg.ints ins,rfl,oT (.inl af),ints_lt (by omega),fun q5 H5 s5 hq5 h5=>?_⟩
   rw[← jO]at h5
   have s35:=s4.trans s5
   refine⟨_,rfl,r,_,dx2,_,_,rfl,s35 _ _ ha,T.aO,T.dk,vO ..,d0,_,rfl,.inr (iB.of (s35 _ _ vv.d)),fun p6 hp6=>?_⟩
   have s6:=bR (o:=.lst (nv del)) hp6
   refine⟨p6,Vatrkg.ints del,rfl,oT (.inl af),ints_lt (by omega),fun q7 H7 s7 hq7 h7=>?_⟩
   rw[← jO]at h7
   have s57:=s6.trans s7
   refine⟨q5,q7,_,_,rfl,rfl,.inl (s57 _ _ h5),.inl h7,by rw[ab,ab,c3,c3];omega,fun q hq=>?_⟩
   have s37:=s35.trans s57
   have hqH3:H3 q=none:=s37.free hq
   have nql:q≠l:=dv (a9 hl3 hqH3)
   have s38:∀o,aM H3 (upd H7 q o):=fun o=>cB s37 hqH3
   refine⟨_,rfl,.inl ⟨rfl,_,g6.of af⟩,_,rfl,r,_,dx2,_,_,rfl,s38 _ _ _ ha,T.aO,T.cg,k8 ..,c0,d4.map (fun(n:Nat)=>(n:Int)),rfl,iB.of (by rw[bD];exact s38 _ _ _ vv.c),fun ns' q9 pm srt hq9=>?_⟩
   obtain⟨com',rfl,pm,srt⟩:=HY pm srt
   have s9:=bR (o:=.lst ((com'.map fun(n:Nat)=>(n:Int)).map V.int)) hq9
   have hcl:=pm.length_eq
   refine⟨q9,Vatrkg.ints com',rfl,.inl af,ints_lt (by omega),fun q10 H10 s10 hq10 h10=>?_⟩
   rw[← jO]at h10
   have s910:=s9.trans s10
   refine⟨q,q10,_,_,rfl,rfl,s910 _ _ af,.inl h10,by rw[ae,ab,ab,ab,c3,c3,c3];omega,?_⟩
   have s311:∀o,aM H3 (upd H10 q o):=fun o=>cB ((s38 _).trans s910) hqH3
   refine⟨_,rfl,.inl ⟨rfl,_,g6.of af⟩,_,rfl,r,_,dx2,_,_,rfl,s311 _ _ _ ha,T.aO,T.cj,qT ..,m0,_,rfl,.inr (iB.of (s311 _ _ _ vv.m)),q,_,_,rfl,rfl,af,by simp only[ae,ab,c3];omega,?_⟩
   rw[g7,fQ]
   have eB:(bE ins).map V.int++(bE del).map V.int++(bE com').map V.int++[V.int (bm.length:Nat)]=(Ih ins del com' bm.length).map V.int:=by
    unfold Ih;simp
   rw[eB]
   have s12:=s311 (.lst ((Ih ins del com' bm.length).map V.int))
   have hbl:(Ih ins del com' bm.length).length=ins.length+del.length+d4.length+4:=by
    unfold Ih
    simp only[ae,c3,hcl,aN,oV];omega
   have etold:=UZ vv.gS hbt pm srt
   have kS:Kn (upd H10 q (.lst ((Ih ins del com' bm.length).map V.int))) sg (nv (b.map (·.sign))):=vv.sg.kr (t:=t) (B5.same s12)
   have hq12:upd H10 q (.lst ((Ih ins del com' bm.length).map V.int)) q=_:=af
   have hl12:=s12 _ _ hl3
   have ha12:=s12 _ _ ha
   generalize upd H10 q (.lst ((Ih ins del com' bm.length).map V.int))=H12 at s12 kS hq12 hl12 ha12
   obtain⟨oS,eS⟩:=kS
   have ns:sg≠l:=d5 eS hl12 (by intro z;cases z)
   refine⟨_,rfl,r,_,dx2,_,_,rfl,ha12,T.aO,T.dU,lU ..,sg,rfl,⟨_,Kn.sq ⟨oS,eS⟩⟩,lj (K:=K) (a:=sg) (xs:=nv (b.map (·.sign))) (fun j σ H'=>∃v4:Option V,σ=[some (.ref a),some (.ref l),some (.ref r),some (.ref q),v4]∧aM H H'∧H' sg=some (.iK oS (.lst (nv (b.map (·.sign)))))∧H' q=some (.lst ((Ih ins del com' bm.length).map V.int))∧H' l=some (.lst (((bs.flatten.length:Int)::((bs.take i).flatten++b.take j).flatMap dI).map V.int)))
    ⟨v4,rfl,s3.trans s12,eS,hq12,by rw[List.take_zero,c7];exact hl12⟩ (fun j σ H' _ ⟨_,_,_,h,_⟩=>Kn.sq ⟨oS,h⟩) ?_ ?_⟩
   ·rintro j y σ H13 hj ⟨v5,rfl,s13,eS13,hq13,hl13⟩
    unfold nv at hj
    rw[bD]at hj
    obtain⟨x,ex,rfl⟩:=get_map hj
    have hxb:=a7 ex
    have etx:=etold x hxb
    have hjb:b=b.take j++(x::b.drop (j+1)):=by
     conv=>lhs;rw[← cR j b,fP (ay.mp ex).1,(ay.mp ex).2]
    have hfl:(((bs.take i).flatten++b.take j).flatMap dI).length+(dI x).length≤10000000:=by
     refine bg ?_ hal
     have e2:bs.flatten=((bs.take i).flatten++b.take j++[x])++(b.drop (j+1)++(bs.drop (i+1)).flatten):=by
      rw[esp]
      conv=>lhs;rw[hjb]
      simp
     rw[e2]
     refine bg ?_ adG
     rw[eh (ys:=[x]),ae];simp
    rw[etx,aN]at hfl
    have hfl2:((bs.flatten.length:Int)::((bs.take i).flatten++b.take j).flatMap dI).length=(((bs.take i).flatten++b.take j).flatMap dI).length+1:=aN
    refine⟨_,rfl,.inl ⟨rfl,_,g6.of hl13⟩,_,rfl,l,_,_,rfl,rfl,hl13,by rw[ab,hfl2];omega,?_⟩
    refine⟨_,rfl,.inl ⟨rfl,_,g6.of af⟩,_,rfl,l,q,_,_,rfl,rfl,af,.inl (by rw[aD nql];exact hq13),by rw[ae,ab,ab,hfl2];show _+1+_≤ag;omega,?_⟩
    rw[g7]
    refine⟨_,rfl,cB s13 hlH,by rw[aD ns];exact eS13,by rw[aD nql];exact hq13,?_⟩
    rw[af,take_snoc ex,← bM,eh (ys:=[x]),bW,AM,c7,etx]
    simp
   ·rintro σ H13 ⟨v5,rfl,s13,eS13,hq13,hl13⟩
    rw[fQ,ab,cz]at hl13
    refine⟨_,_,_,rfl,s13,?_⟩
    rw[take_snoc eb,eY]
    simpa using hl13
  ·rintro σ H3 ⟨v2,v3,v4,rfl,s3,hl3⟩
   rw[ab,hR.len,cz]at hl3
   exact⟨_,rfl,k l H3 s3 hlH hl3⟩
def Ii (t:pH) (args:Ar):Sp:=fun vs H Q _=>EX5 fun(sh:Addr) (W:Own) (s:GS) (C:bw) (as:List V)=>vs=.ref sh::as∧args as H C∧rO t H sh W s∧GOk s∧(Mt.rs s C).2.length≤10000000∧Y2 t H sh W (Mt.rs s C) Q
def Lj {k:Nat} {f:Addr} {d:aG} {pp:List Str} {args:Ar} (h:aZ P w K mg base cH k f d pp (ue t args)):aZ P w K mg base cH k f d pp (Ii t args):=h.imp fun vs H Q E ⟨sh,W,s,C,as,e,ha,hs,g,_,q⟩=>⟨sh,W,s,C,as,e,ha,hs,g,q⟩
def NG (b:List Piece):Bool:=b.all fh
def NH {b:List Piece} {ins del d4 bm:List Nat} (h:x8 b ins del d4 bm):(∀x∈b,fh x=ins.isEmpty)∧NG b=ins.isEmpty:=by
 have h1:∀x∈b,fh x=ins.isEmpty:=fun x hx=>by unfold fh;rw[(h.vP x hx).1]
 refine⟨h1,?_⟩
 obtain⟨x,hx⟩:=cG b h.ne
 unfold NG
 cases e:ins.isEmpty with
 | true=>exact gC.mpr fun y hy=>by rw[h1 y hy,e]
 | false=>
  cases c:b.all fh with
  | false=>rfl
  | true=>have:=gC.mp c x hx;rw[h1 x hx,e]at this;cases this
theorem NI {C:Addr} {H:Hp}:∀{rs:List Addr} {bs:List (List Piece)},ig C H rs bs→(bs.filter NG).flatten=bs.flatten.filter fh
 | _,_,.nil=>rfl
 | _,b::bs,.cons hst t=>by
  obtain⟨sg,i,d,c',m,ins,del,d4,bm,vv⟩:=hst
  obtain⟨h1,h2⟩:=NH vv.gS
  rw[bK,bC,dt,← NI t,h2]
  by_cases e:ins.isEmpty=true
  ·have e2:b.filter fh=b:=dz.mpr fun x hx=>by rw[h1 x hx];exact e
   rw[if_pos e,bC,e2]
  ·have e2:b.filter fh=[]:=eM.mpr fun x hx=>by rw[h1 x hx];exact e
   rw[if_neg e,e2];rfl
def Sl (T:Tx K mg t):aZ P w K mg base cH 3 t.DS t.DT yn (Ii t (a1 .text)):=by
 have g0d:aZ P w K mg base cH 1 t.lR t.lS kD pM:=pd T
 have g3e:aZ P w K mg base cH 2 t.vE t.vF qf (aaR t.aj):=Pe T
 have g0q:aZ P w K mg base cH 2 t.lN t.lO jU (vQ t.aj):=xE T
 have g1q:aZ P w K mg base cH 1 t.xa t.xb rW (JE t.aj):=Kr T
 refine T.Jx.fn.ok Bj (fun vs H Q E h=>?_) (fun cdv A outer s H vs Q E hr h=>?_)
 ·obtain⟨sh,W,s,C,as,rfl,⟨c,rfl,rfl⟩,_⟩:=h
  rfl
 ·obtain⟨sh,W,s,C,as,rfl,⟨u,rfl,rfl⟩,⟨ra,dx,fs,ns,v⟩,g,hB,k⟩:=h
  have zl:ag=16777216:=bS
  have hrl:=g.doc.len
  refine⟨_,(ai (dC (jh (tI iX iX aP (pv 1) aP)) (ao (aU (b5 (aa (fe dA aP) ah)))) b8)
   (ai (dC (dN nQ (pv 1) aP (d6 _)) (ao (aU (bB T.Gs g3e (hr.mono (by decide)) (aa (aV (pv 0) rfl) ah)))) b8)
   (ai (dC (dN nQ (pv 1) aP (d6 _)) (ao (aU (bB T.counted g0d (hr.mono (by decide)) (aa (bB T.ua g0q (hr.mono (by decide)) (aa (aV (pv 0) rfl) ah)) ah)))) b8)
   (ao (aU (bB T.counted g0d (hr.mono (by decide)) (aa (bB T.Hx g1q (hr.mono (by decide)) (aa (pU (own:=[("stretch",2)]) rfl Bj.nd (dQ (aV (pv 0) rfl)) (eC (by rfl)) (fun _ _ _ _ _=>da (i:=2) Bj.nd rfl (bc rfl)) (fun _ _ _ _ _=>pT (dN nQ (cT (Ql (K:=K) rfl) rfl T.jx bV (aa (js (K:=K) rfl (pv 2) rfl) ah)) aP (d6 _))) (fun _ _ _ _ _=>(pv 2))) ah)) ah))))))),?_⟩
  rw[Mt.Xp]at k hB
  refine WC (i:=1) (n:=2) rfl (fun Q' kq=>kq H (aM.refl _)) fun H0 s0=>?_
  have eb:(decide ((0:Int)≤u)&&decide (u≤2))=bo u 0 2:=rfl
  rw[eb]
  refine fi (fun h=>?_) fun h=>?_
  ·rw[if_neg (by simpa using h)]at k
   exact⟨_,rfl,(by show 1≤ag;decide),fun l hl=>Fin.refuse T k v s0 hl⟩
  ·have h:bo u 0 2=true:=by simpa using h
   rw[if_pos h]at k hB
   have v0:=v.same T s0
   refine⟨_,rfl,rfl,_,rfl,?_⟩
   refine fi (fun hw=>?_) fun hw=>?_
   ·have hw:u=0:=by simpa using hw
    subst hw
    refine⟨_,rfl,sh,_,dx,_,_,rfl,v0.doc.at_,T.aQ,T.bA,v0.doc.zT,ra,s.doc.row,rfl,v0.doc.row.r,hrl,fun x hx=>(g.good.wz x hx).tags,?_,fun q H1 s1 hq h1=>Fin.same T k v (s0.trans s1) (s0.free hq) h1⟩
    have:(Mt.Dd s 0).length=(s.doc.row.flatMap dI).length+1:=aN
    have hB:(Mt.Dd s 0).length≤10000000:=hB
    omega
   ·have hw0:u≠0:=by simpa using hw
    refine⟨_,rfl,rfl,_,rfl,?_⟩
    refine fi (fun hw=>?_) fun hw=>?_
    ·have hw:u=1:=by simpa using hw
     subst hw
     refine⟨_,rfl,sh,_,dx,_,_,rfl,v0.doc.at_,T.aQ,T.bA,v0.doc.zT,ra,s.doc.row,rfl,v0.doc.row.r,by omega,fun q H1 s1 hq h1=>?_⟩
     have hvl:=Mt.il s.doc.row
     refine⟨q,Vatrkg.ints ((visible s.doc.row).map fun x=>x.sign),rfl,oT (l:=(visible s.doc.row).map fun x=>x.sign) (.inl h1),ints_lt (by rw[ab];omega),fun l H2 s2 hl2 h2=>?_⟩
     rw[← jO]at h2
     exact Fin.same T k v ((s0.trans s1).trans s2) ((s0.trans s1).free hl2) h2
    ·have hw1:u≠1:=by simpa using hw
     obtain⟨rs,bs,hl,hR,ebs⟩:=id v0.doc.row
     have hle:=hR.le
     rw[ebs]at hle
     refine⟨_,rfl,sh,_,dx,_,_,rfl,v0.doc.at_,T.aQ,T.bA,v0.doc.zT,ra,rfl,⟨_,hl.sq⟩,fun D hD=>HF (C:=t.aj) NG hl.sq hR hD (by omega) (fun r b H' Q' hb s' hst q=>?_) (fun x H' Q' q=>⟨_,rfl,q⟩) fun H1 s1 hA1=>?_⟩
     ·obtain⟨sg,i0,d0,c0,m0,ins,del,d4,bm,vv⟩:=hst
      obtain⟨dx2,ha⟩:=vv.at_
      refine⟨_,rfl,r,_,dx2,_,_,rfl,ha,T.aO,T.cD,oP ..,i0,_,rfl,.inr (iB.of vv.i),rfl,_,rfl,?_⟩
      have e:decide (V.int ((nv ins).length:Nat)=V.int 0)=NG b:=by
       rw[(NH vv.gS).2,fQ]
       cases ins with
       | nil=>rfl
       | cons a r=>simp;omega
      rw[e];exact q H' (aM.refl _)
     ·rw[NI hR,ebs]at hA1
      have hfl:=bX fh s.doc.row
      refine⟨D,_,rfl,hA1.r,by omega,fun q H2 s2 hq h2=>?_⟩
      have s02:=(s0.trans s1).trans s2
      refine⟨q,Vatrkg.ints ((s.doc.row.filter fh).map fun x=>x.sign),rfl,oT (l:=(s.doc.row.filter fh).map fun x=>x.sign) (.inl h2),ints_lt (by rw[ab];omega),fun l H3 s3 hl3 h3=>?_⟩
      rw[← jO]at h3
      refine Fin.same T k v (s02.trans s3) (s02.free hl3) ?_
      rw[h3]
      unfold Mt.Dd
      rw[if_neg hw0,if_neg hw1];rfl
def ab1 {H:Hp} {a p:Addr} {x y z:HO} (n:a≠p):upd (upd (upd H p x) a y) p z=upd (upd H a y) p z:=by
 funext b
 by_cases e:b=p
 ·subst e;rw[af,af]
 ·rw[aD e,aD e]
  by_cases e2:b=a
  ·subst e2;rw[af,af]
  ·rw[aD e2,aD e2,aD e]
def nI (p:Addr) (H H':Hp):Prop:=∀b o,H b=some o→b≠p→H' b=some o
def nI.free {p:Addr} {H H':Hp} {o:HO} (k:nI p H H') (hp:H' p=some o) {b:Addr} (hb:H' b=none):H b=none:=by
 cases e:H b with
 | none=>rfl
 | some u=>
  have n:b≠p:=fun z=>by subst z;rw[hp]at hb;cases hb
  rw[k b u e n]at hb;cases hb
def nI.trans {p:Addr} {H H' H'':Hp} (k:nI p H H') (k':nI p H' H''):nI p H H'':=fun b o e n=>k' b o (k b o e n) n
def nI.upd {p:Addr} {H:Hp} {o:HO}:nI p H (upd H p o):=fun b u e n=>by rw[aD n];exact e
def nI.same {p:Addr} {H H':Hp} (s:aM H H'):nI p H H':=fun b o e _=>s b o e
def U0 (t:pH):Sp:=fun vs H Q _=>EX2 fun(p dx:Addr)=>vs=[.ref p]∧H p=some (.ins t.cu dx [])∧∀W H',rO t H' p W dP→nI p H H'→(∀b,W.has p b→b=p∨H b=none)→Q .non H'
def Zg {C:Addr} {H:Hp} {l x dx sg i d c m:Addr} (hl:Kn H l [.ref x]) (hx:H x=some (.ins C dx (M7 (.ref sg) (.ref i) (.ref d) (.ref c) (.ref m)))) (hs:Kn H sg [.int 10]) (hi:H i=some (.tup [])) (hd:H d=some (.tup [])) (hc:H c=some (.tup [])) (hm:H m=some (.tup [])):kR C H l dP.doc.row:=by
 refine⟨[x],[dP.doc.row],hl,.cons ⟨sg,i,d,c,m,[],[],[],[],⟨dx,hx⟩,hs,hi,hd,hc,hm,?_⟩ .nil,by simp⟩
 have r:dP.doc.row=[{sign:=10,look:=[0,0,0,0]}]:=rfl
 rw[r]
 refine⟨by simp,fun y hy=>?_,.nil,fun y hy n=>?_,.nil,fun y hy n=>?_⟩
 all_goals simp at hy;subst hy
 ·exact⟨rfl,rfl⟩
 ·simp
 ·simp
def Pf (T:Tx K mg t):aZ P w K mg base cH 3 t.qP t.vI qj (U0 t):=by
 have g1a:aZ P w K mg base cH 1 t.fA t.fZ fu (qU t.aj):=iE T
 obtain⟨tk,hk_LAST_END⟩:=T.M5
 refine T.Gv.fn.ok O1 (fun vs H Q E h=>?_) (fun cdv A outer s H vs Q E hr h=>?_)
 ·obtain⟨p,dx,rfl,_⟩:=h
  rfl
 ·obtain⟨p,dx,rfl,hp,k⟩:=h
  refine⟨_,(ai (eZ (pv 0) aP rfl)
   (ai (eZ (pv 0) aP rfl)
   (ai (eZ (pv 0) PQ rfl)
   (ai (eZ (pv 0) (b5 ah) rfl)
   (ai (eZ (pv 0) (Dn (b5 (aa (sP T.k7 g1a (hr.mono (by decide)) rfl T.k6 T.hG.b .nil wq (aa (b5 (aa (GY (v:=.int 10) rfl hk_LAST_END ⟨_,rfl⟩) ah)) (aa (jS ah) (aa (jS ah) (aa (jS ah) (aa (jS ah) ah)))))) ah))) rfl)
   (ai (eZ (pv 0) G7 rfl)
   (ai (eZ (pv 0) aP rfl)
   (ai (eZ (pv 0) G7 rfl)
   (ao (eZ (pv 0) aP rfl)))))))))),?_⟩
  refine⟨_,rfl,p,_,dx,[],rfl,hp,T.aQ,T.gg,(by show 0 < 1000;decide),?_⟩
  refine⟨_,rfl,p,_,dx,_,rfl,af,T.aQ,T.lT,(by show 1 < 1000;decide),?_⟩
  rw[g7]
  refine⟨_,rfl,p,_,dx,_,rfl,af,T.aQ,T.ir,(by show 2 < 1000;decide),?_⟩
  rw[g7]
  refine⟨bZ _,fun ca hca=>?_⟩
  have SK:ca≠p:=fun z=>by rw[z,af]at hca;cases hca
  have hcaH:H ca=none:=by rw[aD SK]at hca;exact hca
  refine⟨_,rfl,p,_,dx,_,rfl,by rw[aD (dv SK),af],T.aQ,T.eD,(by show 3 < 1000;decide),?_⟩
  rw[ab1 SK]
  generalize hf4:dB "change_authors" (V.ref ca) (dB "tracking" (V.bl false) (dB "time" (V.int 0) (dB "author" (V.int 1) [])))=fs4
  have k4:nI p H (upd (upd H ca (.lst [])) p (.ins t.cu dx fs4)):=(nI.same (bR hcaH)).trans nI.upd
  have hp4:upd (upd H ca (.lst [])) p (.ins t.cu dx fs4) p=_:=af
  have hc4:upd (upd H ca (.lst [])) p (.ins t.cu dx fs4) ca=some (.lst []):=by rw[aD SK,af]
  generalize upd (upd H ca (.lst [])) p (.ins t.cu dx fs4)=H4 at k4 hp4 hc4
  refine⟨(by show 1≤ag;decide),fun sg hsg=>⟨bZ _,fun i hi=>⟨bZ _,fun d hd=>⟨bZ _,fun c hc=>⟨bZ _,fun m hm=>fun x dx2 hx hdx2 nxd=>?_⟩⟩⟩⟩⟩
  have t1:=bR (o:=.lst [.int 10]) hsg
  have t2:=bR (o:=.tup []) hi
  have t3:=bR (o:=.tup []) hd
  have t4:=bR (o:=.tup []) hc
  have t5:=bR (o:=.tup []) hm
  refine⟨x,dx2,_,_,_,_,_,rfl,af,rfl,?_⟩
  rw[g7]
  have t6:=bR (o:=.own x) hdx2
  have hx':upd (upd (upd (upd (upd (upd H4 sg (.lst [.int 10])) i (.tup [])) d (.tup [])) c (.tup [])) m (.tup [])) dx2 (.own x) x=none:=by rw[aD (dv nxd)];exact hx
  have t7:=bR (o:=.ins t.aj dx2 (M7 (.ref sg) (.ref i) (.ref d) (.ref c) (.ref m))) hx'
  refine⟨(by show 1≤ag;decide),fun l hl=>?_⟩
  have t8:=bR (o:=.lst [.ref x]) hl
  have e8:=af (H:=upd (upd (upd (upd (upd (upd (upd H4 sg (.lst [.int 10])) i (.tup [])) d (.tup [])) c (.tup [])) m (.tup [])) dx2 (.own x)) x (.ins t.aj dx2 (M7 (.ref sg) (.ref i) (.ref d) (.ref c) (.ref m)))) (a:=l) (o:=.lst [.ref x])
  have t67:=t6.trans t7
  have t58:=(t67.trans t8)
  have t48:=t5.trans t58
  have t38:=t4.trans t48
  have t28:=t3.trans t38
  have t18:=t2.trans t28
  have S:aM H4 _:=t1.trans t18
  have esg:=t18 sg _ af
  have ei:=t28 i _ af
  have ed:=t38 d _ af
  have ec:=t48 c _ af
  have em:=t58 m _ af
  have ex:=t8 x _ af
  have hl4:H4 l=none:=((t1.trans t2).trans ((t3.trans t4).trans (t5.trans t67))).free hl
  generalize upd (upd (upd (upd (upd (upd (upd (upd H4 sg (.lst [.int 10])) i (.tup [])) d (.tup [])) c (.tup [])) m (.tup [])) dx2 (.own x)) x (.ins t.aj dx2 (M7 (.ref sg) (.ref i) (.ref d) (.ref c) (.ref m)))) l (.lst [.ref x])=H8 at S esg ei ed ec em ex e8
  have nsl:sg≠l:=fun z=>by subst z;rw[esg]at e8;injection e8 with e8;injection e8 with e8;injection e8 with e8;cases e8
  refine .iK sg _ esg fun o1=>.iK l _ (by rw[aD (dv nsl)];exact e8) fun o2=>.done ?_
  have S2:aM H4 (upd (upd H8 sg (.iK o1 (.lst [.int 10]))) l (.iK o2 (.lst [.ref x]))):=cB (cB S hsg) hl4
  have hrow:kR t.aj (upd (upd H8 sg (.iK o1 (.lst [.int 10]))) l (.iK o2 (.lst [.ref x]))) l dP.doc.row:=by
   have ne:∀b o,H8 b=some o→(∀xs,o≠.lst xs)→upd (upd H8 sg (.iK o1 (.lst [.int 10]))) l (.iK o2 (.lst [.ref x])) b=some o:=fun b o e n=>by
    rw[aD (d5 e e8 (n _)),aD (d5 e esg (n _))];exact e
   exact Zg ⟨o2,af⟩ (ne _ _ ex (by intro _ z;cases z)) ⟨o1,by rw[aD nsl,af]⟩ (ne _ _ ei (by intro _ z;cases z)) (ne _ _ ed (by intro _ z;cases z)) (ne _ _ ec (by intro _ z;cases z)) (ne _ _ em (by intro _ z;cases z))
  generalize upd (upd H8 sg (.iK o1 (.lst [.int 10]))) l (.iK o2 (.lst [.ref x]))=H9 at S2 hrow
  have rowup:∀{H':Hp} {f f':List (Str×V)} {ll:Addr},kR t.aj H' ll dP.doc.row→H' p=some (.ins t.cu dx f)→kR t.aj (upd H' p (.ins t.cu dx f')) ll dP.doc.row:=fun hR hp'=>hR.kp fun b o e im=>by
   rw[aD (d5 e hp' (by rintro rfl;exact T.cK im.symm))];exact e
  have k9:=k4.trans (nI.same S2)
  have hp9:=S2 _ _ hp4
  have hc9:=S2 _ _ hc4
  refine⟨_,rfl,p,_,dx,_,rfl,hp9,T.aQ,T.bA,(by rw[← hf4];show 4 < 1000;decide),?_⟩
  have k10:nI p H (upd H9 p (.ins t.cu dx (dB "row" (.ref l) fs4))):=k9.trans nI.upd
  have hp10:upd H9 p (.ins t.cu dx (dB "row" (.ref l) fs4)) p=_:=af
  have hc10:upd H9 p (.ins t.cu dx (dB "row" (.ref l) fs4)) ca=some (.lst []):=by rw[aD SK];exact hc9
  have hr10:=rowup (f':=dB "row" (.ref l) fs4) hrow hp9
  generalize upd H9 p (.ins t.cu dx (dB "row" (.ref l) fs4))=H10 at k10 hp10 hc10 hr10
  refine fun cd hcd=>?_
  have u11:=bR (o:=.dK []) hcd
  have ncd:cd≠p:=dv (a9 hp10 hcd)
  refine⟨_,rfl,p,_,dx,_,rfl,u11 _ _ hp10,T.aQ,T.bL,(by rw[← hf4];show 5 < 1000;decide),?_⟩
  refine⟨_,rfl,p,_,dx,_,rfl,af,T.aQ,T.iT,(by rw[← hf4];show 6 < 1000;decide),?_⟩
  rw[g7]
  generalize hf6:dB "comments_made" (V.int 0) (dB "comments" (V.ref cd) (dB "row" (V.ref l) fs4))=fs6
  have k12:nI p H (upd (upd H10 cd (.dK [])) p (.ins t.cu dx fs6)):=(k10.trans (nI.same u11)).trans nI.upd
  have hp12:upd (upd H10 cd (.dK [])) p (.ins t.cu dx fs6) p=_:=af
  have hc12:upd (upd H10 cd (.dK [])) p (.ins t.cu dx fs6) ca=some (.lst []):=by rw[aD SK];exact u11 _ _ hc10
  have hr12:=rowup (f':=fs6) (hr10.kp (aM.oz u11)) (u11 _ _ hp10)
  have hd12:upd (upd H10 cd (.dK [])) p (.ins t.cu dx fs6) cd=some (.dK []):=by rw[aD ncd,af]
  generalize upd (upd H10 cd (.dK [])) p (.ins t.cu dx fs6)=H12 at k12 hp12 hc12 hr12 hd12
  refine fun bd hbd=>?_
  have u13:=bR (o:=.dK []) hbd
  have nbd:bd≠p:=dv (a9 hp12 hbd)
  have Y0:cd≠bd:=a9 hd12 hbd
  refine⟨_,rfl,p,_,dx,_,rfl,u13 _ _ hp12,T.aQ,T.cZ,(by rw[← hf6,← hf4];show 7 < 1000;decide),?_⟩
  refine⟨_,rfl,p,_,dx,_,rfl,af,T.aQ,T.gA,(by rw[← hf6,← hf4];show 8 < 1000;decide),?_⟩
  rw[g7]
  generalize hf8:dB "bookmarks_made" (V.int 0) (dB "bookmarks" (V.ref bd) fs6)=fs8
  have k14:nI p H (upd (upd H12 bd (.dK [])) p (.ins t.cu dx fs8)):=(k12.trans (nI.same u13)).trans nI.upd
  have hp14:upd (upd H12 bd (.dK [])) p (.ins t.cu dx fs8) p=_:=af
  have hc14:upd (upd H12 bd (.dK [])) p (.ins t.cu dx fs8) ca=some (.lst []):=by rw[aD SK];exact u13 _ _ hc12
  have hr14:=rowup (f':=fs8) (hr12.kp (aM.oz u13)) (u13 _ _ hp12)
  have hd14:upd (upd H12 bd (.dK [])) p (.ins t.cu dx fs8) cd=some (.dK []):=by rw[aD ncd];exact u13 _ _ hd12
  have hb14:upd (upd H12 bd (.dK [])) p (.ins t.cu dx fs8) bd=some (.dK []):=by rw[aD nbd,af]
  refine k ⟨ca,cd,bd,[]⟩ _ ⟨l,dx,fs8,[],⟨hp14,?_,?_,?_,?_,?_,?_,hc14,hr14⟩,?_,?_,?_,?_,hd14,.nil,hb14,.nil,.nil,.nil,fun z hz=>(by cases hz),Y0⟩ k14 fun b hb=>?_
  rotate_right
  ·rcases hb with rfl | rfl | rfl | rfl | ⟨z,hz,_⟩
   ·exact .inl rfl
   ·exact .inr hcaH
   ·exact .inr (k10.free hp10 hcd)
   ·exact .inr (k12.free hp12 hbd)
   ·cases hz
  all_goals (rw[← hf8,← hf6,← hf4];first | (show 9 < 1000;decide) | (simp only[aK];rfl))
open Mt (GS Reads)
def Zt (K:aq) (H:Hp) (a:Addr) (xs:List V):Prop:=Kn H a xs∨∀H',g6 K H' a xs
def Zt.sq {H:Hp} {a:Addr} {xs:List V} (h:Zt K H a xs):g6 K H a xs:=h.elim (fun h=>h.sq) fun h=>h H
def Zt.mv {H H1:Hp} {rd dx a b:Addr} {i:Int} {xs:List V} (h:Zt K H a xs) (hrd:xH t H rd dx b i) (k:nI rd H H1):Zt K H1 a xs:=h.imp (fun⟨o,e⟩=>⟨o,k _ _ e (d5 e hrd (by intro z;cases z))⟩) id
def rO.krd (T:Tx K mg t) {H H1:Hp} {sh:Addr} {W:Own} {s:GS} {rd dx a:Addr} {i:Int} (h:rO t H sh W s) (hrd:xH t H rd dx a i) (k:nI rd H H1):rO t H1 sh W s:=h.kr T fun b o e n=>k b o e (d5 e hrd (n _ _))
def rO.acm (T:Tx K mg t) {H:Hp} {sh:Addr} {W:Own} {s:GS} {rd dx a:Addr} {i:Int} (h:rO t H sh W s) (hrd:xH t H rd dx a i):¬W.has sh rd:=by
 obtain⟨ra,dx',fs,ns,v⟩:=h
 have no:∀{o:HO},H rd=some o→o=.ins t.cE dx (HS a i):=fun e=>bu (e.symm.trans hrd)
 rintro(rfl | rfl | rfl | rfl | ⟨z,hz,hb⟩)
 ·have:=no v.doc.at_;injection this with c;exact T.uN c
 ·have:=no v.doc.Kt;cases this
 ·have:=no v.cd;cases this
 ·have:=no v.bd;cases this
 ·obtain⟨x,_,dx2,qa,ta,fs2,cv⟩:=sE v.QD hz
  rcases hb with rfl | rfl
  ·have:=no cv.at_;injection this with c;exact T.qS c
  ·obtain⟨rs,e,_⟩:=cv.rp
   have:=no e;cases this
def Pg (t:pH) (H:Hp) (sh rd dx a:Addr) (W:Own) (ns tl:List Int) (p:GS×List Int) (Q:VK):Prop:=
 ∀(l:Addr) (H':Hp) (W':Own) (j:Nat),ns.drop j=tl→j≤ns.length→H l=none→H' l=some (.lst (p.2.map V.int))→rO t H' sh W' p.1→xH t H' rd dx a j→(∀b o,H b=some o→¬W.has sh b→b≠rd→H' b=some o)→(∀b,W'.has sh b→W.has sh b∨H b=none)→¬W'.has sh l→Q (.ref l) H'
def Pg.fin (T:Tx K mg t) {H H1:Hp} {sh rd dx a:Addr} {W:Own} {ns tl:List Int} {p:GS×List Int} {Q:VK} {s:GS} {i:Int} {j:Nat} (k:Pg t H sh rd dx a W ns tl p Q) (hs:rO t H sh W s) (hrd:xH t H rd dx a i) (k1:nI rd H H1) (h1:xH t H1 rd dx a j) (hd:ns.drop j=tl) (hj:j≤ns.length):Y2 t H1 sh W p Q:=by
 intro l H' W' hl e sa kp own nl
 exact k l H' W' j hd hj (k1.free h1 hl) e sa (kp _ _ h1 (hs.acm T hrd)) (fun b o e nb nrd=>kp b o (k1 b o e nrd) nb) (fun b hb=>(own b hb).imp id fun h=>k1.free h1 h) nl
def mT {ns:List Int} {i:Nat} {z:Int} {r:List Int} (h:ns.drop i=z::r):ns[i]? =some z∧ns.drop (i+1)=r:=by
 constructor
 ·have:=congrArg (fun x:List Int=>x[0]?) h
  simpa using this
 ·have:=congrArg (fun x:List Int=>x.drop 1) h
  simpa[EH,SE]using this
def JQ {ns:List Int} {i:Nat} {l r:List Int} (h:ns.drop i=(l.length:Int)::(l++r)):ns.drop (i+1+l.length)=r:=by
 have:=(mT h).2
 rw[← EH,this,gf]
def Sm {ns:List Int} {i:Nat} {l r:List Int} (h:ns.drop i=(l.length:Int)::(l++r)):i+1+l.length≤ns.length:=by
 have:=congrArg c8 h
 simp only[dH,aN,ae]at this
 omega
def mf (t:pH) (K:aq) (n:Nat):Sp:=fun vs H Q _=>EX10 fun(sh rd:Addr) (W:Own) (s:GS) (C:bw) (dx a:Addr) (i:Nat) (ns tl:List Int)=>vs=[.ref sh,.ref rd]∧rO t H sh W s∧GOk s∧xH t H rd dx a i∧Zt K H a (ns.map V.int)∧ns.length≤16000∧i≤ns.length∧Reads ((n:Int)::ns.drop i) C tl∧(Mt.rs s C).2.length≤10000000∧Pg t H sh rd dx a W ns tl (Mt.rs s C) Q
def eI {n:Nat} (vs:List V) (H:Hp) (Q:VK) (E:XK) (h:mf t K n vs H Q E):vs.length=2:=by
 obtain⟨sh,rd,W,s,C,dx,a,i,ns,tl,rfl,_⟩:=h
 rfl
def acn (T:Tx K mg t) {f:bw} {n:Nat} {N:List Str} {vs:List V} {H:Hp} {Q:VK} {E:XK} {x:L2.St→Hp→Prop} (inv:∀{m:Int} {r tl:List Int} {C:bw},Reads (m::r) C tl→m=(n:Nat)→r=tl∧C=f) (h:mf t K n vs H Q E) (hN:N.length=2:=by rfl):
  (SX (Fu (Ii t (a0 f)) [] E0 (nR (kd 0) vf))) {nx:=x,rt:=Q} (L2.start N vs) H:=by
 obtain⟨sh,rd,W,s,C,dx,a,i,ns,tl,rfl,hs,g,hrd,hin,hn,hi,hR,hB,k⟩:=h
 obtain⟨e,rfl⟩:=inv hR rfl
 obtain⟨q0,q1,rfl⟩:∃q0 q1,N=[q0,q1]:=by match N,hN with | [q0,q1],_=>exact⟨_,_,rfl⟩
 exact⟨_,rfl,sh,W,s,_,_,rfl,⟨rfl,rfl⟩,hs,g,hB,Pg.fin T k hs hrd (nI.same (aM.refl _)) hrd e hi⟩
def yU (T:Tx K mg t) {f:Int→bw} {n:Nat} {N:List Str} {vs:List V} {H:Hp} {Q:VK} {E:XK} {x:L2.St→Hp→Prop} (inv:∀{m:Int} {r tl:List Int} {C:bw},Reads (m::r) C tl→m=(n:Nat)→∃(z1:Int),r=z1::tl∧C=f z1) (h:mf t K n vs H Q E) (hN:N.length=2:=by rfl):
  (SX (Fu (Ii t (a1 f)) [] E0 (nR (kd 0) (nR (vb t.cE "take_number" (oR t K) [] E0 (kd 1) vf) vf)))) {nx:=x,rt:=Q} (L2.start N vs) H:=by
 obtain⟨sh,rd,W,s,C,dx,a,i,ns,tl,rfl,hs,g,hrd,hin,hn,hi,hR,hB,k⟩:=h
 obtain⟨z1,e,rfl⟩:=inv hR rfl
 obtain⟨q0,q1,rfl⟩:∃q0 q1,N=[q0,q1]:=by match N,hN with | [q0,q1],_=>exact⟨_,_,rfl⟩
 obtain⟨y1,e⟩:=mT e
 refine⟨_,rfl,_,rfl,rd,dx,_,rfl,hrd,GB (by decide+kernel),rd,dx,a,i,ns,z1,rfl,hrd,hin.sq,y1,?_⟩
 have kz:nI rd H _:=nI.trans (nI.same (aM.refl _)) (nI.upd (o:=.ins t.cE dx (HS a ((i+1:Nat):Int))))
 exact⟨sh,W,s,_,_,rfl,⟨_,rfl,rfl⟩,hs.krd T hrd kz,g,hB,Pg.fin T k hs hrd kz af e (ay.mp y1).1⟩
def aco (T:Tx K mg t) {f:Int→Int→bw} {n:Nat} {N:List Str} {vs:List V} {H:Hp} {Q:VK} {E:XK} {x:L2.St→Hp→Prop} (inv:∀{m:Int} {r tl:List Int} {C:bw},Reads (m::r) C tl→m=(n:Nat)→∃(z1 z2:Int),r=z1::z2::tl∧C=f z1 z2) (h:mf t K n vs H Q E) (hN:N.length=3:=by rfl):
  (SV (Oj (vb t.cE "take_number" (oR t K) [] E0 (kd 1) vf) (tH 2)) (SX (Fu (Ii t (a2 f)) [] E0 (nR (kd 0) (nR (kd 2) (nR (vb t.cE "take_number" (oR t K) [] E0 (kd 1) vf) vf)))))) {nx:=x,rt:=Q} (L2.start N vs) H:=by
 obtain⟨sh,rd,W,s,C,dx,a,i,ns,tl,rfl,hs,g,hrd,hin,hn,hi,hR,hB,k⟩:=h
 obtain⟨z1,z2,e,rfl⟩:=inv hR rfl
 obtain⟨q0,q1,q2,rfl⟩:∃q0 q1 q2,N=[q0,q1,q2]:=by match N,hN with | [q0,q1,q2],_=>exact⟨_,_,_,rfl⟩
 obtain⟨y1,e⟩:=mT e
 obtain⟨y2,e⟩:=mT e
 refine⟨_,rfl,rd,dx,_,rfl,hrd,GB (by decide+kernel),rd,dx,a,i,ns,z1,rfl,hrd,hin.sq,y1,?_⟩
 have k1:nI rd H _:=nI.trans (nI.same (aM.refl _)) (nI.upd (o:=.ins t.cE dx (HS a ((i+1:Nat):Int))))
 have hin1:=hin.mv hrd k1
 refine⟨_,rfl,_,rfl,_,rfl,rd,dx,_,rfl,af,GB (by decide+kernel),rd,dx,a,(i+1),ns,z2,rfl,af,hin1.sq,y2,?_⟩
 have kz:nI rd H _:=nI.trans k1 (nI.upd (o:=.ins t.cE dx (HS a (((i+1)+1:Nat):Int))))
 exact⟨sh,W,s,_,_,rfl,⟨_,_,rfl,rfl⟩,hs.krd T hrd kz,g,hB,Pg.fin T k hs hrd kz af e (ay.mp y2).1⟩
def acp (T:Tx K mg t) {f:Int→Int→Int→bw} {n:Nat} {N:List Str} {vs:List V} {H:Hp} {Q:VK} {E:XK} {x:L2.St→Hp→Prop} (inv:∀{m:Int} {r tl:List Int} {C:bw},Reads (m::r) C tl→m=(n:Nat)→∃(z1 z2 z3:Int),r=z1::z2::z3::tl∧C=f z1 z2 z3) (h:mf t K n vs H Q E) (hN:N.length=4:=by rfl):
  (SV (Oj (vb t.cE "take_number" (oR t K) [] E0 (kd 1) vf) (tH 2)) (SV (Oj (vb t.cE "take_number" (oR t K) [] E0 (kd 1) vf) (tH 3)) (SX (Fu (Ii t (a3 f)) [] E0 (nR (kd 0) (nR (kd 2) (nR (kd 3) (nR (vb t.cE "take_number" (oR t K) [] E0 (kd 1) vf) vf)))))))) {nx:=x,rt:=Q} (L2.start N vs) H:=by
 obtain⟨sh,rd,W,s,C,dx,a,i,ns,tl,rfl,hs,g,hrd,hin,hn,hi,hR,hB,k⟩:=h
 obtain⟨z1,z2,z3,e,rfl⟩:=inv hR rfl
 obtain⟨q0,q1,q2,q3,rfl⟩:∃q0 q1 q2 q3,N=[q0,q1,q2,q3]:=by match N,hN with | [q0,q1,q2,q3],_=>exact⟨_,_,_,_,rfl⟩
 obtain⟨y1,e⟩:=mT e
 obtain⟨y2,e⟩:=mT e
 obtain⟨y3,e⟩:=mT e
 refine⟨_,rfl,rd,dx,_,rfl,hrd,GB (by decide+kernel),rd,dx,a,i,ns,z1,rfl,hrd,hin.sq,y1,?_⟩
 have k1:nI rd H _:=nI.trans (nI.same (aM.refl _)) (nI.upd (o:=.ins t.cE dx (HS a ((i+1:Nat):Int))))
 have hin1:=hin.mv hrd k1
 refine⟨_,rfl,rd,dx,_,rfl,af,GB (by decide+kernel),rd,dx,a,(i+1),ns,z2,rfl,af,hin1.sq,y2,?_⟩
 have k2:nI rd H _:=nI.trans k1 (nI.upd (o:=.ins t.cE dx (HS a (((i+1)+1:Nat):Int))))
 have hin2:=hin.mv hrd k2
 refine⟨_,rfl,_,rfl,_,rfl,_,rfl,rd,dx,_,rfl,af,GB (by decide+kernel),rd,dx,a,((i+1)+1),ns,z3,rfl,af,hin2.sq,y3,?_⟩
 have kz:nI rd H _:=nI.trans k2 (nI.upd (o:=.ins t.cE dx (HS a ((((i+1)+1)+1:Nat):Int))))
 exact⟨sh,W,s,_,_,rfl,⟨_,_,_,rfl,rfl⟩,hs.krd T hrd kz,g,hB,Pg.fin T k hs hrd kz af e (ay.mp y3).1⟩
def acq (T:Tx K mg t) {f:List Int→bw} {n:Nat} {N:List Str} {vs:List V} {H:Hp} {Q:VK} {E:XK} {x:L2.St→Hp→Prop} (inv:∀{m:Int} {r tl:List Int} {C:bw},Reads (m::r) C tl→m=(n:Nat)→∃(l:List Int),r=(l.length:Int)::(l++tl)∧C=f l) (h:mf t K n vs H Q E) (hN:N.length=2:=by rfl):
  (SX (Fu (Ii t (aL f)) [] E0 (nR (kd 0) (nR (vb t.cE "take_list" (HW t K) [] E0 (kd 1) vf) vf)))) {nx:=x,rt:=Q} (L2.start N vs) H:=by
 obtain⟨sh,rd,W,s,C,dx,a,i,ns,tl,rfl,hs,g,hrd,hin,hn,hi,hR,hB,k⟩:=h
 obtain⟨l,e,rfl⟩:=inv hR rfl
 obtain⟨q0,q1,rfl⟩:∃q0 q1,N=[q0,q1]:=by match N,hN with | [q0,q1],_=>exact⟨_,_,rfl⟩
 have hll:l.length≤20000:=by have:=congrArg c8 e;simp only[dH,aN,ae]at this;omega
 refine⟨_,rfl,_,rfl,rd,dx,_,rfl,hrd,GB (by decide+kernel),rd,dx,a,i,ns,l,tl,rfl,hrd,hin.sq,e,fun q H1 hq hk hr1 kp=>?_⟩
 have kz:nI rd H H1:=nI.trans (nI.same (aM.refl _)) kp
 exact⟨sh,W,s,_,_,rfl,⟨q,l,rfl,hk,hll,rfl⟩,hs.krd T hrd kz,g,hB,Pg.fin T k hs hrd kz hr1 (JQ e) (Sm e)⟩
def aaS (T:Tx K mg t) {f:Int→List Int→bw} {n:Nat} {N:List Str} {vs:List V} {H:Hp} {Q:VK} {E:XK} {x:L2.St→Hp→Prop} (inv:∀{m:Int} {r tl:List Int} {C:bw},Reads (m::r) C tl→m=(n:Nat)→∃(z1:Int) (l:List Int),r=z1::(l.length:Int)::(l++tl)∧C=f z1 l) (h:mf t K n vs H Q E) (hN:N.length=3:=by rfl):
  (SV (Oj (vb t.cE "take_number" (oR t K) [] E0 (kd 1) vf) (tH 2)) (SX (Fu (Ii t (a1L f)) [] E0 (nR (kd 0) (nR (kd 2) (nR (vb t.cE "take_list" (HW t K) [] E0 (kd 1) vf) vf)))))) {nx:=x,rt:=Q} (L2.start N vs) H:=by
 obtain⟨sh,rd,W,s,C,dx,a,i,ns,tl,rfl,hs,g,hrd,hin,hn,hi,hR,hB,k⟩:=h
 obtain⟨z1,l,e,rfl⟩:=inv hR rfl
 obtain⟨q0,q1,q2,rfl⟩:∃q0 q1 q2,N=[q0,q1,q2]:=by match N,hN with | [q0,q1,q2],_=>exact⟨_,_,_,rfl⟩
 obtain⟨y1,e⟩:=mT e
 refine⟨_,rfl,rd,dx,_,rfl,hrd,GB (by decide+kernel),rd,dx,a,i,ns,z1,rfl,hrd,hin.sq,y1,?_⟩
 have k1:nI rd H _:=nI.trans (nI.same (aM.refl _)) (nI.upd (o:=.ins t.cE dx (HS a ((i+1:Nat):Int))))
 have hin1:=hin.mv hrd k1
 have hll:l.length≤20000:=by have:=congrArg c8 e;simp only[dH,aN,ae]at this;omega
 refine⟨_,rfl,_,rfl,_,rfl,rd,dx,_,rfl,af,GB (by decide+kernel),rd,dx,a,(i+1),ns,l,tl,rfl,af,hin1.sq,e,fun q H1 hq hk hr1 kp=>?_⟩
 have kz:nI rd H H1:=nI.trans k1 kp
 exact⟨sh,W,s,_,_,rfl,⟨_,q,l,rfl,hk,hll,rfl⟩,hs.krd T hrd kz,g,hB,Pg.fin T k hs hrd kz hr1 (JQ e) (Sm e)⟩
def aaT (T:Tx K mg t) {f:Int→Int→List Int→bw} {n:Nat} {N:List Str} {vs:List V} {H:Hp} {Q:VK} {E:XK} {x:L2.St→Hp→Prop} (inv:∀{m:Int} {r tl:List Int} {C:bw},Reads (m::r) C tl→m=(n:Nat)→∃(z1 z2:Int) (l:List Int),r=z1::z2::(l.length:Int)::(l++tl)∧C=f z1 z2 l) (h:mf t K n vs H Q E) (hN:N.length=4:=by rfl):
  (SV (Oj (vb t.cE "take_number" (oR t K) [] E0 (kd 1) vf) (tH 2)) (SV (Oj (vb t.cE "take_number" (oR t K) [] E0 (kd 1) vf) (tH 3)) (SX (Fu (Ii t (a2L f)) [] E0 (nR (kd 0) (nR (kd 2) (nR (kd 3) (nR (vb t.cE "take_list" (HW t K) [] E0 (kd 1) vf) vf)))))))) {nx:=x,rt:=Q} (L2.start N vs) H:=by
 obtain⟨sh,rd,W,s,C,dx,a,i,ns,tl,rfl,hs,g,hrd,hin,hn,hi,hR,hB,k⟩:=h
 obtain⟨z1,z2,l,e,rfl⟩:=inv hR rfl
 obtain⟨q0,q1,q2,q3,rfl⟩:∃q0 q1 q2 q3,N=[q0,q1,q2,q3]:=by match N,hN with | [q0,q1,q2,q3],_=>exact⟨_,_,_,_,rfl⟩
 obtain⟨y1,e⟩:=mT e
 obtain⟨y2,e⟩:=mT e
 refine⟨_,rfl,rd,dx,_,rfl,hrd,GB (by decide+kernel),rd,dx,a,i,ns,z1,rfl,hrd,hin.sq,y1,?_⟩
 have k1:nI rd H _:=nI.trans (nI.same (aM.refl _)) (nI.upd (o:=.ins t.cE dx (HS a ((i+1:Nat):Int))))
 have hin1:=hin.mv hrd k1
 refine⟨_,rfl,rd,dx,_,rfl,af,GB (by decide+kernel),rd,dx,a,(i+1),ns,z2,rfl,af,hin1.sq,y2,?_⟩
 have k2:nI rd H _:=nI.trans k1 (nI.upd (o:=.ins t.cE dx (HS a (((i+1)+1:Nat):Int))))
 have hin2:=hin.mv hrd k2
 have hll:l.length≤20000:=by have:=congrArg c8 e;simp only[dH,aN,ae]at this;omega
 refine⟨_,rfl,_,rfl,_,rfl,_,rfl,rd,dx,_,rfl,af,GB (by decide+kernel),rd,dx,a,((i+1)+1),ns,l,tl,rfl,af,hin2.sq,e,fun q H1 hq hk hr1 kp=>?_⟩
 have kz:nI rd H H1:=nI.trans k2 kp
 exact⟨sh,W,s,_,_,rfl,⟨_,_,q,l,rfl,hk,hll,rfl⟩,hs.krd T hrd kz,g,hB,Pg.fin T k hs hrd kz hr1 (JQ e) (Sm e)⟩
local macro_rules | `(tactic| trivial)=>`(tactic| (intro _ _ _ _ q e;cases q <;> first | exact⟨rfl,rfl⟩ | exact⟨_,rfl,rfl⟩ | exact⟨_,_,rfl,rfl⟩ | exact⟨_,_,_,rfl,rfl⟩ | exact absurd e (by decide)))
def Zh (T:Tx K mg t):aZ P w K mg base cH 2 t.oj t.zJ sS (mf t K 0):=by
 have g3f:=Lj (O8 (P:=P) (w:=w) (base:=base) T)
 have g0a:=bt (P:=P) (w:=w) (base:=base) T
 exact T.yI.fn.ok MJ eI fun _ _ _ _ _ _ _ _ hr h=>⟨_,(ao (aU (bB T.Gn g3f (hr.mono (by decide)) (aa (pv 0) (aa (dG T.a6 T.bQ g0a (hr.mono (by decide)) (pv 1)) ah))))),yU T (by trivial) h⟩
def aaU (T:Tx K mg t):aZ P w K mg base cH 2 t.qG t.BB vm (mf t K 1):=by
 have g3o:=Lj (Sa (P:=P) (w:=w) (base:=base) T)
 have g0a:=bt (P:=P) (w:=w) (base:=base) T
 exact T.BP.fn.ok OS eI fun _ _ _ _ _ _ _ _ hr h=>⟨_,(ao (aU (bB T.Ju g3o (hr.mono (by decide)) (aa (pv 0) (aa (dG T.a6 T.bQ g0a (hr.mono (by decide)) (pv 1)) ah))))),yU T (by trivial) h⟩
def aaV (T:Tx K mg t):aZ P w K mg base cH 2 t.qH t.BC vn (mf t K 2):=by
 have g2m:=Lj (Le (P:=P) (w:=w) (base:=base) T)
 have g0a:=bt (P:=P) (w:=w) (base:=base) T
 exact T.BQ.fn.ok OT eI fun _ _ _ _ _ _ _ _ hr h=>⟨_,(ao (aU (bB T.BM g2m (hr.mono (by decide)) (aa (pv 0) (aa (dG T.a6 T.bQ g0a (hr.mono (by decide)) (pv 1)) ah))))),yU T (by trivial) h⟩
def adH (T:Tx K mg t):aZ P w K mg base cH 8 t.xp t.Gj Bm (mf t K 3):=by
 have g4o:=Lj (adv (P:=P) (w:=w) (base:=base) T)
 have g0a:=bt (P:=P) (w:=w) (base:=base) T
 have g0c:=gP (P:=P) (w:=w) (base:=base) T
 exact T.HB.fn.ok Kp eI fun _ _ _ _ _ _ _ _ hr h=>⟨_,(ai (bP (i:=2) Kp.nd rfl (bc rfl) (dG T.a6 T.bQ g0a (hr.mono (by decide)) (pv 1)))
   (ao (aU (bB T.put g4o (hr.mono (by decide)) (aa (pv 0) (aa (pv 2) (aa (dG T.gB T.bQ g0c (hr.mono (by decide)) (pv 1)) ah))))))),aaS T (by trivial) h⟩
def adI (T:Tx K mg t):aZ P w K mg base cH 8 t.xq t.Gk Bn (mf t K 4):=by
 have g4p:=Lj (adw (P:=P) (w:=w) (base:=base) T)
 have g0a:=bt (P:=P) (w:=w) (base:=base) T
 exact T.HC.fn.ok Kq eI fun _ _ _ _ _ _ _ _ hr h=>⟨_,(ai (bP (i:=2) Kq.nd rfl (bc rfl) (dG T.a6 T.bQ g0a (hr.mono (by decide)) (pv 1)))
   (ao (aU (bB T.cut g4p (hr.mono (by decide)) (aa (pv 0) (aa (pv 2) (aa (dG T.a6 T.bQ g0a (hr.mono (by decide)) (pv 1)) ah))))))),aco T (by trivial) h⟩
def ab2 (T:Tx K mg t):aZ P w K mg base cH 8 t.tV t.DW yp (mf t K 5):=by
 have g4k:=Lj (abS (P:=P) (w:=w) (base:=base) T)
 have g0a:=bt (P:=P) (w:=w) (base:=base) T
 exact T.E2.fn.ok Bo eI fun _ _ _ _ _ _ _ _ hr h=>⟨_,(ai (bP (i:=2) Bo.nd rfl (bc rfl) (dG T.a6 T.bQ g0a (hr.mono (by decide)) (pv 1)))
   (ai (bP (i:=3) Bo.nd rfl (bc rfl) (dG T.a6 T.bQ g0a (hr.mono (by decide)) (pv 1)))
   (ao (aU (bB T.move g4k (hr.mono (by decide)) (aa (pv 0) (aa (pv 2) (aa (pv 3) (aa (dG T.a6 T.bQ g0a (hr.mono (by decide)) (pv 1)) ah))))))))),acp T (by trivial) h⟩
def Zi (T:Tx K mg t):aZ P w K mg base cH 5 t.om t.zK sT (mf t K 6):=by
 have g4e:=Lj (Y5 (P:=P) (w:=w) (base:=base) T)
 have g0a:=bt (P:=P) (w:=w) (base:=base) T
 exact T.yJ.fn.ok MK eI fun _ _ _ _ _ _ _ _ hr h=>⟨_,(ao (aU (bB T.accept g4e (hr.mono (by decide)) (aa (pv 0) (aa (dG T.a6 T.bQ g0a (hr.mono (by decide)) (pv 1)) ah))))),yU T (by trivial) h⟩
def Zj (T:Tx K mg t):aZ P w K mg base cH 5 t.oo t.zL sU (mf t K 7):=by
 have g4f:=Lj (Y6 (P:=P) (w:=w) (base:=base) T)
 have g0a:=bt (P:=P) (w:=w) (base:=base) T
 exact T.yK.fn.ok ML eI fun _ _ _ _ _ _ _ _ hr h=>⟨_,(ao (aU (bB T.reject g4f (hr.mono (by decide)) (aa (pv 0) (aa (dG T.a6 T.bQ g0a (hr.mono (by decide)) (pv 1)) ah))))),yU T (by trivial) h⟩
def WR (T:Tx K mg t):aZ P w K mg base cH 9 t.mN t.xt qg (mf t K 8):=by
 have g2n:=Lj (Lg (P:=P) (w:=w) (base:=base) T)
 have g0a:=bt (P:=P) (w:=w) (base:=base) T
 have g0c:=gP (P:=P) (w:=w) (base:=base) T
 exact T.vL.fn.ok uD eI fun _ _ _ _ _ _ _ _ hr h=>⟨_,(ai (bP (i:=2) uD.nd rfl (bc rfl) (dG T.a6 T.bQ g0a (hr.mono (by decide)) (pv 1)))
   (ai (bP (i:=3) uD.nd rfl (bc rfl) (dG T.a6 T.bQ g0a (hr.mono (by decide)) (pv 1)))
   (ao (aU (bB T.BL g2n (hr.mono (by decide)) (aa (pv 0) (aa (pv 2) (aa (pv 3) (aa (dG T.gB T.bQ g0c (hr.mono (by decide)) (pv 1)) ah))))))))),aaT T (by trivial) h⟩
def aaW (T:Tx K mg t):aZ P w K mg base cH 4 t.qI t.BD vo (mf t K 9):=by
 have g4i:=Lj (aaJ (P:=P) (w:=w) (base:=base) T)
 have g0a:=bt (P:=P) (w:=w) (base:=base) T
 have g0c:=gP (P:=P) (w:=w) (base:=base) T
 exact T.BR.fn.ok FC eI fun _ _ _ _ _ _ _ _ hr h=>⟨_,(ai (bP (i:=2) FC.nd rfl (bc rfl) (dG T.a6 T.bQ g0a (hr.mono (by decide)) (pv 1)))
   (ao (aU (bB T.reply g4i (hr.mono (by decide)) (aa (pv 0) (aa (pv 2) (aa (dG T.gB T.bQ g0c (hr.mono (by decide)) (pv 1)) ah))))))),aaS T (by trivial) h⟩
def aaX (T:Tx K mg t):aZ P w K mg base cH 2 t.qJ t.BE vp (mf t K 10):=by
 have g4j:=Lj (aaK (P:=P) (w:=w) (base:=base) T)
 have g0a:=bt (P:=P) (w:=w) (base:=base) T
 exact T.BS.fn.ok FD eI fun _ _ _ _ _ _ _ _ hr h=>⟨_,(ai (bP (i:=2) FD.nd rfl (bc rfl) (dG T.a6 T.bQ g0a (hr.mono (by decide)) (pv 1)))
   (ao (aU (bB T.solve g4j (hr.mono (by decide)) (aa (pv 0) (aa (pv 2) (aa (dG T.a6 T.bQ g0a (hr.mono (by decide)) (pv 1)) ah))))))),aco T (by trivial) h⟩
def ab3 (T:Tx K mg t):aZ P w K mg base cH 6 t.tW t.DX yq (mf t K 11):=by
 have g4m:=Lj (abT (P:=P) (w:=w) (base:=base) T)
 have g0a:=bt (P:=P) (w:=w) (base:=base) T
 exact T.E3.fn.ok RF eI fun _ _ _ _ _ _ _ _ hr h=>⟨_,(ao (aU (bB T.drop g4m (hr.mono (by decide)) (aa (pv 0) (aa (dG T.a6 T.bQ g0a (hr.mono (by decide)) (pv 1)) ah))))),yU T (by trivial) h⟩
def U1 (T:Tx K mg t):aZ P w K mg base cH 9 t.lC t.uI oK (mf t K 12):=by
 have g4a:=Lj (UP (P:=P) (w:=w) (base:=base) T)
 have g0a:=bt (P:=P) (w:=w) (base:=base) T
 exact T.tD.fn.ok r8 eI fun _ _ _ _ _ _ _ _ hr h=>⟨_,(ai (bP (i:=2) r8.nd rfl (bc rfl) (dG T.a6 T.bQ g0a (hr.mono (by decide)) (pv 1)))
   (ai (bP (i:=3) r8.nd rfl (bc rfl) (dG T.a6 T.bQ g0a (hr.mono (by decide)) (pv 1)))
   (ao (aU (bB T.reanchor g4a (hr.mono (by decide)) (aa (pv 0) (aa (pv 2) (aa (pv 3) (aa (dG T.a6 T.bQ g0a (hr.mono (by decide)) (pv 1)) ah))))))))),acp T (by trivial) h⟩
def Zk (T:Tx K mg t):aZ P w K mg base cH 9 t.oq t.zM sV (mf t K 13):=by
 have g4g:=Lj (Y8 (P:=P) (w:=w) (base:=base) T)
 have g0a:=bt (P:=P) (w:=w) (base:=base) T
 exact T.yL.fn.ok MO eI fun _ _ _ _ _ _ _ _ hr h=>⟨_,(ao (aU (bB T.rescue g4g (hr.mono (by decide)) (aa (pv 0) (aa (dG T.a6 T.bQ g0a (hr.mono (by decide)) (pv 1)) ah))))),yU T (by trivial) h⟩
def U2 (T:Tx K mg t):aZ P w K mg base cH 9 t.lD t.uJ oM (mf t K 14):=by
 have g2f:=Lj (JP (P:=P) (w:=w) (base:=base) T)
 have g0a:=bt (P:=P) (w:=w) (base:=base) T
 have g0c:=gP (P:=P) (w:=w) (base:=base) T
 exact T.tE.fn.ok r9 eI fun _ _ _ _ _ _ _ _ hr h=>⟨_,(ai (bP (i:=2) r9.nd rfl (bc rfl) (dG T.a6 T.bQ g0a (hr.mono (by decide)) (pv 1)))
   (ai (bP (i:=3) r9.nd rfl (bc rfl) (dG T.a6 T.bQ g0a (hr.mono (by decide)) (pv 1)))
   (ao (aU (bB T.zQ g2f (hr.mono (by decide)) (aa (pv 0) (aa (pv 2) (aa (pv 3) (aa (dG T.gB T.bQ g0c (hr.mono (by decide)) (pv 1)) ah))))))))),aaT T (by trivial) h⟩
def Zl (T:Tx K mg t):aZ P w K mg base cH 6 t.ot t.zN sW (mf t K 15):=by
 have g4h:=Lj (Zb (P:=P) (w:=w) (base:=base) T)
 have g0c:=gP (P:=P) (w:=w) (base:=base) T
 exact T.yM.fn.ok MP eI fun _ _ _ _ _ _ _ _ hr h=>⟨_,(ao (aU (bB T.unmark g4h (hr.mono (by decide)) (aa (pv 0) (aa (dG T.gB T.bQ g0c (hr.mono (by decide)) (pv 1)) ah))))),acq T (by trivial) h⟩
def ab4 (T:Tx K mg t):aZ P w K mg base cH 5 t.tX t.DY yr (mf t K 16):=by
 have g4n:=Lj (abW (P:=P) (w:=w) (base:=base) T)
 have g0c:=gP (P:=P) (w:=w) (base:=base) T
 exact T.E4.fn.ok RG eI fun _ _ _ _ _ _ _ _ hr h=>⟨_,(ao (aU (bB T.goto g4n (hr.mono (by decide)) (aa (pv 0) (aa (dG T.gB T.bQ g0c (hr.mono (by decide)) (pv 1)) ah))))),acq T (by trivial) h⟩
def aaY (T:Tx K mg t):aZ P w K mg base cH 5 t.qK t.BF vq (mf t K 17):=by
 have g3g:=Lj (Pb (P:=P) (w:=w) (base:=base) T)
 have g0a:=bt (P:=P) (w:=w) (base:=base) T
 exact T.BU.fn.ok OY eI fun _ _ _ _ _ _ _ _ hr h=>⟨_,(ao (aU (bB T.Gp g3g (hr.mono (by decide)) (aa (pv 0) (aa (dG T.a6 T.bQ g0a (hr.mono (by decide)) (pv 1)) ah))))),yU T (by trivial) h⟩
def Zm (T:Tx K mg t):aZ P w K mg base cH 3 t.ou t.zO sX (mf t K 18):=by
 have g2s:=Lj (NA (P:=P) (w:=w) (base:=base) T)
 have g0a:=bt (P:=P) (w:=w) (base:=base) T
 exact T.yN.fn.ok MQ eI fun _ _ _ _ _ _ _ _ hr h=>⟨_,(ao (aU (bB T.D9 g2s (hr.mono (by decide)) (aa (pv 0) (aa (dG T.a6 T.bQ g0a (hr.mono (by decide)) (pv 1)) ah))))),yU T (by trivial) h⟩
def aaZ (T:Tx K mg t):aZ P w K mg base cH 5 t.qL t.BG vt (mf t K 19):=by
 have g3h:=Lj (Pc (P:=P) (w:=w) (base:=base) T)
 have g0a:=bt (P:=P) (w:=w) (base:=base) T
 exact T.BV.fn.ok O0 eI fun _ _ _ _ _ _ _ _ hr h=>⟨_,(ao (aU (bB T.Gq g3h (hr.mono (by decide)) (aa (pv 0) (aa (dG T.a6 T.bQ g0a (hr.mono (by decide)) (pv 1)) ah))))),yU T (by trivial) h⟩
def ab5 (T:Tx K mg t):aZ P w K mg base cH 3 t.tY t.DZ yt (mf t K 20):=by
 have g3p:=Lj (Sk (P:=P) (w:=w) (base:=base) T)
 have g0a:=bt (P:=P) (w:=w) (base:=base) T
 exact T.E5.fn.ok RJ eI fun _ _ _ _ _ _ _ _ hr h=>⟨_,(ao (aU (bB T.Jw g3p (hr.mono (by decide)) (aa (pv 0) (aa (dG T.a6 T.bQ g0a (hr.mono (by decide)) (pv 1)) ah))))),yU T (by trivial) h⟩
def aex (T:Tx K mg t):aZ P w K mg base cH 6 t.Ao t.Jq ES (mf t K 21):=by
 have g4c:=Lj (WO (P:=P) (w:=w) (base:=base) T)
 have g0a:=bt (P:=P) (w:=w) (base:=base) T
 exact T.LH.fn.ok Wr eI fun _ _ _ _ _ _ _ _ hr h=>⟨_,(ao (aU (bB T.RW g4c (hr.mono (by decide)) (aa (pv 0) (aa (dG T.a6 T.bQ g0a (hr.mono (by decide)) (pv 1)) ah))))),yU T (by trivial) h⟩
def WS (T:Tx K mg t):aZ P w K mg base cH 3 t.mO t.xu qh (mf t K 22):=by
 have g2o:=Lj (Li (P:=P) (w:=w) (base:=base) T)
 have g0a:=bt (P:=P) (w:=w) (base:=base) T
 exact T.vM.fn.ok K2 eI fun _ _ _ _ _ _ _ _ hr h=>⟨_,(ao (aU (bB T.BO g2o (hr.mono (by decide)) (aa (pv 0) (aa (dG T.a6 T.bQ g0a (hr.mono (by decide)) (pv 1)) ah))))),yU T (by trivial) h⟩
def Sn (T:Tx K mg t):aZ P w K mg base cH 5 t.kJ t.sx m9 (mf t K 23):=by
 have g2c:=Lj (Ic (P:=P) (w:=w) (base:=base) T)
 exact T.qR.fn.ok Hn eI fun _ _ _ _ _ _ _ _ hr h=>⟨_,(ao (aU (bB T.xA g2c (hr.mono (by decide)) (aa (pv 0) ah)))),acn T (by trivial) h⟩
def ab6 (T:Tx K mg t):aZ P w K mg base cH 4 t.tZ t.D0 yu (mf t K 24):=by
 have g3q:=Sl (P:=P) (w:=w) (base:=base) T
 have g0a:=bt (P:=P) (w:=w) (base:=base) T
 exact T.call_text.fn.ok RK eI fun _ _ _ _ _ _ _ _ hr h=>⟨_,(ao (aU (bB T.Jx g3q (hr.mono (by decide)) (aa (pv 0) (aa (dG T.a6 T.bQ g0a (hr.mono (by decide)) (pv 1)) ah))))),yU T (by trivial) h⟩
def ab7 (T:Tx K mg t):aZ P w K mg base cH 5 t.t9 t.D4 yw (mf t K 25):=by
 have g3r:=Lj (Sf (P:=P) (w:=w) (base:=base) T)
 exact T.E6.fn.ok RL eI fun _ _ _ _ _ _ _ _ hr h=>⟨_,(ao (aU (bB T.Jy g3r (hr.mono (by decide)) (aa (pv 0) ah)))),acn T (by trivial) h⟩
def aey (t:pH):List V:=[.ref t.oj,.ref t.qG,.ref t.qH,.ref t.xp,.ref t.xq,.ref t.tV,.ref t.om,.ref t.oo,.ref t.mN,.ref t.qI,.ref t.qJ,.ref t.tW,.ref t.lC,.ref t.oq,.ref t.lD,.ref t.ot,.ref t.tX,.ref t.qK,.ref t.ou,.ref t.qL,.ref t.tY,.ref t.Ao,.ref t.mO,.ref t.kJ,.ref t.tZ,.ref t.t9]
def adJ (T:Tx K mg t) {l:List Int} {C:bw} {tl:List Int} (h:Reads l C tl):∃(m:Nat) (r:List Int) (f:Addr) (fd:aG) (ps:List Str) (k:Nat),l=(m:Int)::r∧(aey t)[m]? =some (.ref f)∧aZ P w K mg base cH k f fd ps (mf t K m)∧k≤9∧Binds K fd ps []∧gM K (.ref f)=true:=by
 cases h with
 | author=>exact⟨0,_,_,_,_,_,rfl,rfl,Zh T,by decide,T.yI.b,T.yI.fn.kp⟩
 | clock=>exact⟨1,_,_,_,_,_,rfl,rfl,aaU T,by decide,T.BP.b,T.BP.fn.kp⟩
 | track=>exact⟨2,_,_,_,_,_,rfl,rfl,aaV T,by decide,T.BQ.b,T.BQ.fn.kp⟩
 | put=>exact⟨3,_,_,_,_,_,rfl,rfl,adH T,by decide,T.HB.b,T.HB.fn.kp⟩
 | cut=>exact⟨4,_,_,_,_,_,rfl,rfl,adI T,by decide,T.HC.b,T.HC.fn.kp⟩
 | move=>exact⟨5,_,_,_,_,_,rfl,rfl,ab2 T,by decide,T.E2.b,T.E2.fn.kp⟩
 | accept=>exact⟨6,_,_,_,_,_,rfl,rfl,Zi T,by decide,T.yJ.b,T.yJ.fn.kp⟩
 | reject=>exact⟨7,_,_,_,_,_,rfl,rfl,Zj T,by decide,T.yK.b,T.yK.fn.kp⟩
 | comment=>exact⟨8,_,_,_,_,_,rfl,rfl,WR T,by decide,T.vL.b,T.vL.fn.kp⟩
 | reply=>exact⟨9,_,_,_,_,_,rfl,rfl,aaW T,by decide,T.BR.b,T.BR.fn.kp⟩
 | solve=>exact⟨10,_,_,_,_,_,rfl,rfl,aaX T,by decide,T.BS.b,T.BS.fn.kp⟩
 | drop=>exact⟨11,_,_,_,_,_,rfl,rfl,ab3 T,by decide,T.E3.b,T.E3.fn.kp⟩
 | reanchor=>exact⟨12,_,_,_,_,_,rfl,rfl,U1 T,by decide,T.tD.b,T.tD.fn.kp⟩
 | rescue=>exact⟨13,_,_,_,_,_,rfl,rfl,Zk T,by decide,T.yL.b,T.yL.fn.kp⟩
 | bookmark=>exact⟨14,_,_,_,_,_,rfl,rfl,U2 T,by decide,T.tE.b,T.tE.fn.kp⟩
 | unmark=>exact⟨15,_,_,_,_,_,rfl,rfl,Zl T,by decide,T.yM.b,T.yM.fn.kp⟩
 | goto=>exact⟨16,_,_,_,_,_,rfl,rfl,ab4 T,by decide,T.E4.b,T.E4.fn.kp⟩
 | state=>exact⟨17,_,_,_,_,_,rfl,rfl,aaY T,by decide,T.BU.b,T.BU.fn.kp⟩
 | thread=>exact⟨18,_,_,_,_,_,rfl,rfl,Zm T,by decide,T.yN.b,T.yN.fn.kp⟩
 | spots=>exact⟨19,_,_,_,_,_,rfl,rfl,aaZ T,by decide,T.BV.b,T.BV.fn.kp⟩
 | list=>exact⟨20,_,_,_,_,_,rfl,rfl,ab5 T,by decide,T.E5.b,T.E5.fn.kp⟩
 | at_=>exact⟨21,_,_,_,_,_,rfl,rfl,aex T,by decide,T.LH.b,T.LH.fn.kp⟩
 | waiting=>exact⟨22,_,_,_,_,_,rfl,rfl,WS T,by decide,T.vM.b,T.vM.fn.kp⟩
 | bookmarks=>exact⟨23,_,_,_,_,_,rfl,rfl,Sn T,by decide,T.qR.b,T.qR.fn.kp⟩
 | text=>exact⟨24,_,_,_,_,_,rfl,rfl,ab6 T,by decide,T.call_text.b,T.call_text.fn.kp⟩
 | size=>exact⟨25,_,_,_,_,_,rfl,rfl,ab7 T,by decide,T.E6.b,T.E6.fn.kp⟩
def KpO (W:Own) (sh:Addr) (H H':Hp):Prop:=∀b o,H b=some o→(W.has sh b∨∀xs,o≠.lst xs)→H' b=some o
def rO.ko {H H':Hp} {sh:Addr} {W:Own} {s:GS} (h:rO t H sh W s) (k:KpO W sh H H'):rO t H' sh W s:=by
 obtain⟨ra,dx,fs,ns,v⟩:=h
 have kn:∀a xs,Kn H a xs→Kn H' a xs:=fun a xs ⟨o,e⟩=>⟨o,k _ _ e (.inr (by intro _ z;cases z))⟩
 refine⟨ra,dx,fs,ns,⟨k _ _ v.doc.at_ (.inl (.inl rfl)),v.doc.Ek,v.doc.HH,v.doc.WA,v.doc.Vl,v.doc.zT,v.doc.x9,k _ _ v.doc.Kt (.inl (.inr (.inl rfl))),v.doc.row.kp fun b o e im=>k b o e (.inr fun xs z=>by subst z;exact im)⟩,v.lcm,v.lcn,v.QC,v.lbn,k _ _ v.cd (.inl (.inr (.inr (.inl rfl)))),?_,k _ _ v.bd (.inl (.inr (.inr (.inr (.inl rfl))))),Paired.oX v.SJ fun a b z=>kn _ _ z,v.XQ,v.XR,v.SK,v.Y0⟩
 refine xJ v.QD fun z hz x _ ⟨dx,qa,ta,fs,cv⟩=>⟨dx,qa,ta,fs,?_⟩
 obtain⟨rs,e,p⟩:=cv.rp
 exact⟨k _ _ cv.at_ (.inr (by intro _ z;cases z)),cv.Ek,cv.HH,cv.WE,cv.Zs,cv.Vn,cv.SI,cv.x9,kn _ _ cv.qu,kn _ _ cv.tx,rs,k _ _ e (.inl (.inr (.inr (.inr (.inr ⟨z,hz,.inr rfl⟩))))),Paired.oX p fun r y ⟨ta,e,q⟩=>⟨ta,k _ _ e (.inr (by intro _ z;cases z)),kn _ _ q⟩⟩
def rO.acr {H:Hp} {sh:Addr} {W:Own} {s:GS} {b:Addr} {ob:Obj} {u:HO} (h:rO t H sh W s) (e:H b=some (.iK ob u)):¬W.has sh b:=by
 obtain⟨ra,dx',fs,ns,v⟩:=h
 have no:∀{o:HO},H b=some o→o=.iK ob u:=fun e'=>bu (e'.symm.trans e)
 rintro(rfl | rfl | rfl | rfl | ⟨z,hz,hb⟩)
 ·have:=no v.doc.at_;cases this
 ·have:=no v.doc.Kt;cases this
 ·have:=no v.cd;cases this
 ·have:=no v.bd;cases this
 ·obtain⟨x,_,dx2,qa,ta,fs2,cv⟩:=sE v.QD hz
  rcases hb with rfl | rfl
  ·have:=no cv.at_;cases this
  ·obtain⟨rs,e,_⟩:=cv.rp
   have:=no e;cases this
def rO.there {H:Hp} {sh:Addr} {W:Own} {s:GS} (h:rO t H sh W s) {b:Addr} (hb:W.has sh b):∃o,H b=some o:=let ⟨_,_,_,_,v⟩:=h;v.there hb
structure Grw (s:GS) (Ks:List bw) (N j n:Nat):Prop where
 good:Mt.Good s
 sz:Mt.Sz N j n s
 bN:N+Mt.TN Ks≤16001
 bn:n+Ks.length≤400
 bj:j≤1+n*16001
def Grw.ok {s:GS} {Ks:List bw} {N j n:Nat} (h:Grw s Ks N j n):GOk s:=by
 have h1:=h.bn
 have h2:=h.bj
 have h3:=h.sz.len
 have h4:=h.sz.chg
 have h5:=h.sz.nc
 have h6:=h.sz.nm
 have hj:n*16001≤400*16001:=Nat.mul_le_mul_right _ (by omega)
 refine⟨h.good,⟨h.good.wz,fun x hx u hu=>?_,by omega,by omega⟩,by omega,by omega,fun c hc=>by have:=h.sz.rep c hc;omega⟩
 rcases Nat.mod_two_eq_zero_or_one u with e | e
 ·obtain⟨k,hk,ek⟩:=h.good.Af x hx (u / 2) (by rw[show 2*(u / 2)=u by omega];exact hu)
  have:=(h.good.g8 k hk).2
  omega
 ·obtain⟨k,hk,ek⟩:=h.good.AX x hx (u / 2) (by rw[show 2*(u / 2)+1=u by omega];exact hu)
  have:=(h.good.ya k hk).2
  omega
def Grw.step {s:GS} {C:bw} {Ks:List bw} {N j n:Nat} (h:Grw s (C::Ks) N j n):Grw (bY s C).1 Ks (N+Mt.putN C) (j+N+Mt.putN C) (n+1):=by
 obtain⟨g,z⟩:=Mt.YA h.good C
 have h1:=h.bN
 have h2:=h.bn
 have h3:=h.bj
 unfold Mt.TN at h1
 rw[aT,FR]at h1
 rw[aN]at h2
 refine⟨g,z N j n h.sz,by unfold Mt.TN;omega,by omega,?_⟩
 rw[Nat.succ_mul];omega
def So (t:pH) (K:aq):Sp:=fun vs H Q _=>EX5 fun(sh a:Addr) (W:Own) (ns:List Int) (Ks:List bw)=>vs=[.ref sh,.ref a]∧rO t H sh W dP∧Zt K H a (ns.map V.int)∧ns.length≤16000∧Mt.Dk ns Ks∧Ks.length≤400∧(Mt.outs dP Ks).length≤10000000∧
 ∀(H':Hp) (p:Addr),Rd H' p (.lst ((Mt.outs dP Ks).map V.int))→Q (.ref p) H'
def LpI (t:pH) (K:aq) (sh a rd dx l:Addr) (ns:List Int) (Ks0:List bw) (m:Nat) (σ:L2.St) (H':Hp):Prop:=∃(v4 v5:Option V) (i:Nat) (s:GS) (W:Own) (Ks:List bw) (N j n:Nat) (done:List Int),m=Ks.length∧σ=[some (.ref sh),some (.ref a),some (.ref rd),some (.ref l),v4,v5]∧rO t H' sh W s∧Grw s Ks N j n∧xH t H' rd dx a (i:Nat)∧Zt K H' a (ns.map V.int)∧i≤ns.length∧Mt.Dk (ns.drop i) Ks∧H' l=some (.lst (done.map V.int))∧¬W.has sh l∧done++Mt.outs s Ks=Mt.outs dP Ks0
def Ph (T:Tx K mg t):aZ P w K mg base cH 10 t.vG t.vH qi (So t K):=by
 have g3a:aZ P w K mg base cH 1 t.ow t.tq n6 (UC t):=Nk T
 have g2d:aZ P w K mg base cH 1 t.ni t.nj kF (UD t K):=HV T
 have g0a:aZ P w K mg base cH 1 t.ia t.ib gx (oR t K):=bt T
 have g3b:aZ P w K mg base cH 2 t.tf t.tj nX (US t):=Nz T
 refine T.Gu.fn.ok n0 (fun vs H Q E h=>?_) (fun cdv A outer s H vs Q E hr h=>?_)
 ·obtain⟨sh,a,W,ns,Ks,rfl,_⟩:=h
  rfl
 ·obtain⟨sh,a,W,ns,Ks0,rfl,hs,hin,hn,hS,hK,hO,k⟩:=h
  have zl:ag=16777216:=bS
  refine⟨_,(ai (bP (i:=2) n0.nd rfl (bc rfl) (sP T.Qo g3a (hr.mono (by decide)) rfl T.Qn T.Ea.b .nil wq (aa (pv 1) ah)))
   (ai (bP (i:=3) n0.nd rfl (bc rfl) (b5 ah))
   (ai (SY cS (jh (fM (dG T.xB T.bQ g2d (hr.mono (by decide)) (pv 2)) (fun _=>rfl))) (ai (bP (i:=4) n0.nd rfl (bc rfl) (gv fH (GY (v:=.ref t.Hw) rfl T.Xy rfl) (dG T.a6 T.bQ g0a (hr.mono (by decide)) (pv 2)) (fun _ _=>rfl)))
   (ai (bP (i:=5) n0.nd rfl (bc rfl) (aah (pv 4) (aa (pv 0) (aa (pv 2) ah))))
   (ai (fo (bB T.D7 g3b (hr.mono (by decide)) (aa (pv 0) ah)))
   (ai (fo (pD bF cV cW ke (pv 3) (aa (cT cX rfl T.jx bV (aa (pv 5) ah)) ah)))
   (ao (fo (pD bF dE dF mw (pv 3) (aa (pv 5) ah)))))))))
   (ao (aU (pv 3)))))),?_⟩
  refine⟨_,rfl,fun rd dx hrd hdx ne=>⟨rd,dx,a,rfl,af,rfl,?_⟩⟩
  rw[g7]
  have hrd':upd H dx (.own rd) rd=none:=by rw[aD (dv ne)];exact hrd
  have s1:aM H (upd (upd H dx (.own rd)) rd (.ins t.cE dx (HS a 0))):=(bR hdx).trans (bR hrd')
  have r1:xH t (upd (upd H dx (.own rd)) rd (.ins t.cE dx (HS a 0))) rd dx a ((0:Nat):Int):=af
  generalize upd (upd H dx (.own rd)) rd (.ins t.cE dx (HS a 0))=H1 at s1 r1
  refine⟨bZ _,fun l hl=>?_⟩
  have s2:aM H1 (upd H1 l (.lst [])):=bR hl
  have s12:=s1.trans s2
  have hs2:=hs.kr T (B5.same s12)
  have hin2:Zt K (upd H1 l (.lst [])) a (ns.map V.int):=hin.imp (fun⟨o,e⟩=>⟨o,s12 _ _ e⟩) id
  have hnl:¬W.has sh l:=fun z=>by
   obtain⟨o,e⟩:=hs.there z
   rw[s1.free hl]at e;cases e
  refine⟨LpI t K sh a rd dx l ns Ks0,⟨_,none,none,0,dP,W,Ks0,1,1,0,[],rfl,rfl,hs2,⟨Mt.V7,Mt.aac,by have:=Mt.Ki hS;omega,by omega,by omega⟩,s2 _ _ r1,hin2,bZ _,hS,af,hnl,rfl⟩,?_⟩
  rintro m σ H3 ⟨v4,v5,i,s,W,Ks,N,j,n,done,rfl,rfl,hs3,gr,r3,hin3,hi,hS3,hl3,hnl3,ho⟩
  refine⟨_,rfl,rd,dx,_,rfl,r3,GB (by decide+kernel),rd,dx,a,i,ns,rfl,r3,hin3.sq,_,rfl,?_⟩
  generalize er:ns.drop i=r at hS3
  cases hS3 with
  | nil=>
   have:ns.length≤i:=List.drop_eq_nil_iff.mp er
   have:i=ns.length:=by omega
   rw[decide_eq_true this]
   refine wt ⟨_,rfl,k H3 l (.inl ?_)⟩
   rw[hl3,← ho]
   show _=some (HO.lst ((done++[]).map V.int))
   rw[c7]
  | cons hR hS4=>
   rename_i tl C Ks
   obtain⟨m,r',f,fd,ps,k9,el,hact,hF,hk9,hb,hkp⟩:=adJ (P:=P) (w:=w) (base:=base) T hR
   subst el
   have hil:i < ns.length:=by
    rcases nA i ns.length with h | h
    ·exact h
    ·rw[rD h]at er;cases er
   obtain⟨hz,er2⟩:=mT er
   rw[decide_eq_false (by omega)]
   refine Ab ⟨LpI t K sh a rd dx l ns Ks0 Ks.length,fun σ' H' q=>⟨Ks.length,kM _,q⟩,?_⟩
   obtain⟨es1,es2⟩:=Mt.abz gr.good C
   have eo:Mt.outs s (C::Ks)=((Mt.rs s C).2.length:Int)::((Mt.rs s C).2++Mt.outs (bY s C).1 Ks):=by
    rw[← es2];rfl
   rw[eo]at ho
   have hlen:=congrArg c8 ho
   simp only[ae,aN]at hlen
   refine⟨_,rfl,rd,dx,_,rfl,r3,GB (by decide+kernel),rd,dx,a,i,ns,_,rfl,r3,hin3.sq,hz,t.Hw,aey t,_,_,rfl,rfl,T.Xz _,dJ hact,?_⟩
   have k4:nI rd H3 (upd H3 rd (.ins t.cE dx (HS a ((i+1:Nat):Int)))):=nI.upd
   have hs4:=hs3.krd T r3 k4
   have hin4:=hin3.mv r3 k4
   have r4:xH t (upd H3 rd (.ins t.cE dx (HS a ((i+1:Nat):Int)))) rd dx a ((i+1:Nat):Int):=af
   have nlr:l≠rd:=d5 hl3 r3 (by intro z;cases z)
   have hl4:=k4 _ _ hl3 nlr
   generalize upd H3 rd (.ins t.cE dx (HS a ((i+1:Nat):Int)))=H4 at k4 hs4 hin4 r4 hl4
   refine⟨_,rfl,f,fd,ps,mf t K m,k9,hF,hr.mono hk9,hb,hkp,rfl,_,rfl,_,rfl,sh,rd,W,s,C,dx,a,i+1,ns,tl,rfl,hs4,gr.ok,r4,hin4,hn,hil,by rw[er2];exact hR,by omega,fun q H5 W5 j5 hd5 hj5 hq e5 sa5 r5 kp5 own5 nq5=>?_⟩
   have hdoc:DocOk (Mt.rs s C).1.doc:=by
    have:=gr.step.ok.doc
    rw[es1]at this
    exact this
   have hl5:=kp5 _ _ hl4 hnl3 nlr
   have hin5:Zt K H5 a (ns.map V.int):=hin4.imp (fun⟨o,e⟩=>⟨o,kp5 _ _ e (hs4.acr e) (d5 e r4 (by intro z;cases z))⟩) id
   have hnl5:¬W5.has sh l:=fun z=>(own5 l z).elim hnl3 fun e=>by rw[hl4]at e;cases e
   refine⟨_,rfl,sh,W5,_,rfl,sa5,Mt.aag gr.good.toWF C,hdoc,fun H6 sa6 kp6=>?_⟩
   have bdh:W5.has sh W5.bd:=.inr (.inr (.inr (.inl rfl)))
   have hl6:=kp6 _ _ hl5 fun e=>hnl5 (e▸bdh)
   have hq6:=kp6 _ _ e5 fun e=>nq5 (e▸bdh)
   have r6:xH t H6 rd dx a j5:=kp6 _ _ r5 fun e=>sa5.acm T r5 (e▸bdh)
   have hin6:Zt K H6 a (ns.map V.int):=hin5.imp (fun⟨o,e⟩=>⟨o,kp6 _ _ e fun e2=>sa5.acr e (e2▸bdh)⟩) id
   have nql:q≠l:=dv (a9 hl4 hq)
   rw[← es1]at sa6
   refine⟨_,rfl,.inl ⟨rfl,_,g6.of hl6⟩,_,rfl,q,_,rfl,.inl (g6.of hq6),l,_,_,rfl,rfl,hl6,by rw[ab];omega,?_⟩
   refine⟨_,rfl,.inl ⟨rfl,_,g6.of af⟩,_,rfl,l,q,_,_,rfl,rfl,af,.inl (by rw[aD nql];exact hq6),by rw[ae,ab,ab];show _+1+_≤ag;omega,?_⟩
   rw[g7]
   have ko:∀o,KpO W5 sh H6 (upd H6 l o):=fun o b u e hb=>by
    rw[aD (fun z=>by
     subst z
     rcases hb with hb | hb
     ·exact hnl5 hb
     ·exact hb _ (bu (e.symm.trans hl6)))]
    exact e
   refine⟨_,_,j5,_,W5,Ks,_,_,_,done++((Mt.rs s C).2.length:Int)::(Mt.rs s C).2,rfl,rfl,sa6.ko (ko _),gr.step,by show upd _ _ _ _=_;rw[aD (dv nlr)];exact r6,hin6.imp (fun⟨o,e⟩=>⟨o,by rw[aD (d5 e hl6 (by intro z;cases z))];exact e⟩) id,hj5,by rw[hd5];exact hS4,?_,hnl5,?_⟩
   ·rw[af,ab];simp
   ·rw[← ho];simp
def WT (K:aq):Sp:=fun vs H Q _=>EX2 fun(a:Addr) (ns:List Int)=>vs=[.ref a]∧g6 K H a (ns.map V.int)∧ns.length≤16000∧rJ ns=true∧∀(H':Hp) (p:Addr),Rd H' p (.lst ((sM ns).map V.int))→Q (.ref p) H'
def U3 (T:Tx K mg t):aZ P w K mg base cH 12 t.Jr t.EZ si (WT K):=by
 have g3i:aZ P w K mg base cH 10 t.vG t.vH qi (So t K):=Ph T
 have g3j:aZ P w K mg base cH 3 t.qP t.vI qj (U0 t):=Pf T
 refine T.answers.fn.ok Ws (fun vs H Q E h=>?_) (fun cdv A outer s H vs Q E hr h=>?_)
 ·obtain⟨a,ns,rfl,_⟩:=h
  rfl
 ·obtain⟨a,ns,rfl,hsq,hn,hA,k⟩:=h
  obtain⟨Ks,hS,hK,ea,hO⟩:=Mt.Rc hA
  rw[ea]at k
  refine⟨_,ao (aU (bB T.Gu g3i (hr.mono (by decide)) (aa (Dn (ZN T.Ur g3j (hr.mono (by decide)) rfl T.Uq T.Gv.b .nil wq)) (aa (pv 0) ah)))),?_⟩
  refine fun sh dx hsh hdx ne=>⟨sh,dx,rfl,af,fun W H1 sa kp own=>⟨rfl,?_⟩⟩
  have s0:aM H (upd H dx (.own sh)):=bR hdx
  have kp0:∀b o,H b=some o→H1 b=some o:=fun b o e=>kp b o (by rw[aD (a9 e hsh)];exact s0 _ _ e) (a9 e hsh)
  have fin:∀H2,rO t H2 sh W dP→Zt K H2 a (ns.map V.int)→So t K [.ref sh,.ref a] H2 Q E0:=fun H2 h1 h2=>⟨sh,a,W,ns,Ks,rfl,h1,h2,hn,hS,hK,hO,k⟩
  rcases hsq with(h | ⟨ob,h⟩) | h
  ·refine .iK a _ (kp0 _ _ h) fun o=>.done ⟨_,rfl,fin _ (sa.ko fun b u e hb=>?_) (.inl ⟨o,af⟩)⟩
   rw[aD (fun z=>?_)]
   ·exact e
   ·subst z
    rcases hb with hb | hb
    ·rcases own _ hb with z | z
     ·rw[z]at h;rw[hsh]at h;cases h
     ·rw[aD (a9 h hsh)]at z;rw[s0 _ _ h]at z;cases z
    ·exact hb _ (bu (e.symm.trans (kp0 _ _ h)))
  ·exact .done ⟨_,rfl,fin _ sa (.inl ⟨ob,kp0 _ _ h⟩)⟩
  ·exact .done ⟨_,rfl,fin _ sa (.inr fun H'=>.inr h)⟩
section
variable {K:aq} {h:Heap} {mg:Str→Option ak}
def U4 (x q:Str) (st:Stmt) (ps:List Str):Prop:=∀(kV doc pm:ak) (an:Option Addr) (cdv ct:ak) (us:List ak),us.length=ps.length→uj (fg x q (m4 st) (l6 st) (aH st) .none kV doc pm an cdv ct) ⟨us,[]⟩=pure (ps.zip us)
def lcn {n:Nat} {us:List ak} (h:us.length=n+1):∃u v,us=u::v∧v.length=n:=by
 cases us with
 | nil=>cases h
 | cons u v=>exact⟨u,v,rfl,Nat.succ.inj h⟩
def bi1 {x q:Str} {st:Stmt} {a0:Str} (h:∀(kV doc pm:ak) (an:Option Addr) (cdv ct:ak) (u0:ak),uj (fg x q (m4 st) (l6 st) (aH st) .none kV doc pm an cdv ct) ⟨[u0],[]⟩=pure [(a0,u0)]):U4 x q st [a0]:=fun kV doc pm an cdv ct us hl=>by
 obtain⟨u0,v0,rfl,k0⟩:=lcn hl
 cases v0 with
 | nil=>exact h kV doc pm an cdv ct u0
 | cons=>cases k0
def bi2 {x q:Str} {st:Stmt} {a0 a1:Str} (h:∀(kV doc pm:ak) (an:Option Addr) (cdv ct:ak) (u0 u1:ak),uj (fg x q (m4 st) (l6 st) (aH st) .none kV doc pm an cdv ct) ⟨[u0,u1],[]⟩=pure [(a0,u0),(a1,u1)]):U4 x q st [a0,a1]:=fun kV doc pm an cdv ct us hl=>by
 obtain⟨u0,v0,rfl,k0⟩:=lcn hl;obtain⟨u1,v1,rfl,k1⟩:=lcn k0
 cases v1 with
 | nil=>exact h kV doc pm an cdv ct u0 u1
 | cons=>cases k1
def bi3 {x q:Str} {st:Stmt} {a0 a1 a2:Str} (h:∀(kV doc pm:ak) (an:Option Addr) (cdv ct:ak) (u0 u1 u2:ak),uj (fg x q (m4 st) (l6 st) (aH st) .none kV doc pm an cdv ct) ⟨[u0,u1,u2],[]⟩=pure [(a0,u0),(a1,u1),(a2,u2)]):U4 x q st [a0,a1,a2]:=fun kV doc pm an cdv ct us hl=>by
 obtain⟨u0,v0,rfl,k0⟩:=lcn hl;obtain⟨u1,v1,rfl,k1⟩:=lcn k0;obtain⟨u2,v2,rfl,k2⟩:=lcn k1
 cases v2 with
 | nil=>exact h kV doc pm an cdv ct u0 u1 u2
 | cons=>cases k2
def bi4 {x q:Str} {st:Stmt} {a0 a1 a2 a3:Str} (h:∀(kV doc pm:ak) (an:Option Addr) (cdv ct:ak) (u0 u1 u2 u3:ak),uj (fg x q (m4 st) (l6 st) (aH st) .none kV doc pm an cdv ct) ⟨[u0,u1,u2,u3],[]⟩=pure [(a0,u0),(a1,u1),(a2,u2),(a3,u3)]):U4 x q st [a0,a1,a2,a3]:=fun kV doc pm an cdv ct us hl=>by
 obtain⟨u0,v0,rfl,k0⟩:=lcn hl;obtain⟨u1,v1,rfl,k1⟩:=lcn k0;obtain⟨u2,v2,rfl,k2⟩:=lcn k1;obtain⟨u3,v3,rfl,k3⟩:=lcn k2
 cases v3 with
 | nil=>exact h kV doc pm an cdv ct u0 u1 u2 u3
 | cons=>cases k3
def bi5 {x q:Str} {st:Stmt} {a0 a1 a2 a3 a4:Str} (h:∀(kV doc pm:ak) (an:Option Addr) (cdv ct:ak) (u0 u1 u2 u3 u4:ak),uj (fg x q (m4 st) (l6 st) (aH st) .none kV doc pm an cdv ct) ⟨[u0,u1,u2,u3,u4],[]⟩=pure [(a0,u0),(a1,u1),(a2,u2),(a3,u3),(a4,u4)]):U4 x q st [a0,a1,a2,a3,a4]:=fun kV doc pm an cdv ct us hl=>by
 obtain⟨u0,v0,rfl,k0⟩:=lcn hl;obtain⟨u1,v1,rfl,k1⟩:=lcn k0;obtain⟨u2,v2,rfl,k2⟩:=lcn k1;obtain⟨u3,v3,rfl,k3⟩:=lcn k2;obtain⟨u4,v4,rfl,k4⟩:=lcn k3
 cases v4 with
 | nil=>exact h kV doc pm an cdv ct u0 u1 u2 u3 u4
 | cons=>cases k4
def bi6 {x q:Str} {st:Stmt} {a0 a1 a2 a3 a4 a5:Str} (h:∀(kV doc pm:ak) (an:Option Addr) (cdv ct:ak) (u0 u1 u2 u3 u4 u5:ak),uj (fg x q (m4 st) (l6 st) (aH st) .none kV doc pm an cdv ct) ⟨[u0,u1,u2,u3,u4,u5],[]⟩=pure [(a0,u0),(a1,u1),(a2,u2),(a3,u3),(a4,u4),(a5,u5)]):U4 x q st [a0,a1,a2,a3,a4,a5]:=fun kV doc pm an cdv ct us hl=>by
 obtain⟨u0,v0,rfl,k0⟩:=lcn hl;obtain⟨u1,v1,rfl,k1⟩:=lcn k0;obtain⟨u2,v2,rfl,k2⟩:=lcn k1;obtain⟨u3,v3,rfl,k3⟩:=lcn k2;obtain⟨u4,v4,rfl,k4⟩:=lcn k3;obtain⟨u5,v5,rfl,k5⟩:=lcn k4
 cases v5 with
 | nil=>exact h kV doc pm an cdv ct u0 u1 u2 u3 u4 u5
 | cons=>cases k5
def Sq {x:Str} {st:Stmt} {ps:List Str} {f:Addr} {oc:ak} {od an:Option Addr} {osl:Array (Option ak)} {kV doc pm cdv ct:ak} (X:K.In h) (G:h.Ns cF mg) (hb:U4 x x st ps)
  (a:d7 K cF x=some (some (.ref f))) (l:K.lookup f=some ⟨oc,od,.func (fg x x (m4 st) (l6 st) (aH st) .none kV doc pm an cdv ct),osl⟩) (c:rk K cdv x=true) (k:gM K (.ref f)=true):
  ∃fd,Def K mg x st ps f fd:=⟨_,QZ l c k,(QZ l c k).binds hb,hX X G a⟩
def Ij {C:Addr} {m qual:Str} {st:Stmt} {ps:List Str} {f:Addr} {oc:ak} {od an:Option Addr} {osl:Array (Option ak)} {kV doc pm cdv ct:ak} (hb:U4 m qual st ps)
  (a:bI K (.ref C) m=some (some (.ref f))) (i:B8 K (.ref f)=true) (l:K.lookup f=some ⟨oc,od,.func (fg m qual (m4 st) (l6 st) (aH st) .none kV doc pm an cdv ct),osl⟩) (c:rk K cdv qual=true) (k:gM K (.ref f)=true):
  ∃fd,o4 K C m qual st ps f fd:=⟨_,QZ l c k,(QZ l c k).binds hb,⟨a,i,k⟩⟩
def adK {a:Addr} {od:Option Addr} {its:Array ak} {n:Nat} {sl:Array (Option ak)} {xs:List V} (hk:K.lookup a=some ⟨.type "tuple",od,.seq its n,sl⟩) (hz:its.size≤ag) (r:Vals xs its.toList):∀H,iB K H a xs:=fun _=>.inr ⟨_,its,n,hk,rfl,rfl,hz,r⟩
def ab8 (K:aq) (C:Addr):Prop:=(nu K C Zn=true∧rh K C=true∧yW K C=true∧bI K (.ref C) "__setattr__"=some (some (.builtin "object.__setattr__")))∧CH K C=true∧gM K (.ref C)=true
def aez {q0 q1 q2 q3 q4 q5 q6 q7 q8 q9 q10 q11 q12 q13 q14 q15 q16 q17 q18 q19 q20 q21 q22 q23 q24 q25 q26 q27 q28 q29 q30 q31 q32 q33 q34 q35 q36 q37 q38 q39 q40 q41 q42 q43 q44 q45 q46 q47 q48 q49 q50 q51 q52 q53 q54 q55 q56 q57 q58 q59 q60 q61 q62 q63 q64 q65 q66 q67 q68 q69 q70 q71 q72 q73 q74 q75 q76 q77 q78 q79 q80 q81 q82 q83 q84 q85 q86 q87 q88 q89 q90 q91 q92 q93 q94 q95 q96 q97 q98 q99 q100 q101 q102 q103 q104 q105 q106 q107 q108 q109 q110 q111 q112 q113 q114 q115 q116 q117 q118 q119 q120 q121:Addr} {q122 q123 q124 q125:Tok} (X:K.In h) (G:h.Ns cF mg)
  (q126:∃fd,Def K mg "without" Jb rV q0 fd)
  (q127:∃fd,Def K mg "count_pieces" wD fq q1 fd)
  (q128:∃fd,Def K mg "count_shown" zg fW q2 fd)
  (q129:∃fd,Def K mg "signs_of" F2 rW q3 fd)
  (q130:∃fd,Def K mg "shown_signs" zh jU q4 fd)
  (q131:∃fd,Def K mg "find_place" A4 k0 q5 fd)
  (q132:∃fd,Def K mg "stretch_at" A5 m5 q6 fd)
  (q133:∃fd,Def K mg "part_within" zi lK q7 fd)
  (q134:∃fd,Def K mg "part_before" zj lL q8 fd)
  (q135:∃fd,Def K mg "part_behind" zk nW q9 fd)
  (q136:∃fd,Def K mg "part_around" zm hE q10 fd)
  (q137:∃fd,Def K mg "set_before" A6 m6 q11 fd)
  (q138:∃fd,Def K mg "is_range" F3 o5 q12 fd)
  (q139:∃fd,Def K mg "lay_comment" zo jV q13 fd)
  (q140:∃fd,Def K mg "lay_bookmark" wI my q14 fd)
  (q141:∃fd,Def K mg "lift_comment" wJ km q15 fd)
  (q142:∃fd,Def K mg "lift_bookmark" uv lq q16 fd)
  (q143:∃fd,Def K mg "first_carried" uw jB q17 fd)
  (q144:∃fd,Def K mg "is_letter" Du pF q18 fd)
  (q145:∃fd,Def K mg "is_sign" Jc Ah q19 fd)
  (q146:∃fd,Def K mg "are_signs" Dv tP q20 fd)
  (q147:∃fd,Def K mg "is_note_text" wK kx q21 fd)
  (q148:∃fd,Def K mg "is_small_letter" pX jK q22 fd)
  (q149:∃fd,Def K mg "is_name" Jd Ai q23 fd)
  (q150:∃fd,Def K mg "find_bookmark" uz iD q24 fd)
  (q151:∃fd,Def K mg "make_bookmark" uA oH q25 fd)
  (q152:∃fd,Def K mg "unmark" Mv Hj q26 fd)
  (q153:∃fd,Def K mg "bookmark_ends" uB jC q27 fd)
  (q154:∃fd,Def K mg "goto" We Rm q28 fd)
  (q155:∃fd,Def K mg "forget_gone" zp nX q29 fd)
  (q156:∃fd,Def K mg "next_change" zq i3 q30 fd)
  (q157:∃fd,Def K mg "bears_newest" wL mB q31 fd)
  (q158:∃fd,Def K mg "enter_change" wM jk q32 fd)
  (q159:∃fd,Def K mg "is_own" Mz Dy q33 fd)
  (q160:∃fd,Def K mg "is_tracked" A8 m7 q34 fd)
  (q161:∃fd,Def K mg "in_both" Jf Ak q35 fd)
  (q162:∃fd,Def K mg "new_stretch" zr nY q36 fd)
  (q163:∃fd,Def K mg "put" aao T5 q37 fd)
  (q164:∃fd,Def K mg "left_behind" zt lM q38 fd)
  (q165:∃fd,Def K mg "brought_over" wN mC q39 fd)
  (q166:∃fd,Def K mg "cut" aap T6 q40 fd)
  (q167:∃fd,Def K mg "move" Wf MB q41 fd)
  (q168:∃fd,Def K mg "quote_of" F7 rX q42 fd)
  (q169:∃fd,Def K mg "quote_at" F8 rY q43 fd)
  (q170:∃fd,Def K mg "make_comment" wO pZ q44 fd)
  (q171:∃fd,Def K mg "reply" Rp LC q45 fd)
  (q172:∃fd,Def K mg "solve" Rq LD q46 fd)
  (q173:∃fd,Def K mg "drop" Wi Rr q47 fd)
  (q174:∃fd,Def K mg "reanchor" F9 A9 q48 fd)
  (q175:∃fd,Def K mg "is_orphan" Dz tQ q49 fd)
  (q176:∃fd,Def K mg "find_signs" Bb p0 q50 fd)
  (q177:∃fd,Def K mg "rescue" MD Hl q51 fd)
  (q178:∃fd,Def K mg "is_entered_or_all" nN gO q52 fd)
  (q179:∃fd,Def K mg "is_among" Ga rZ q53 fd)
  (q180:∃fd,Def K mg "left_of" Jg wa q54 fd)
  (q181:∃fd,Def K mg "accept" ME DB q55 fd)
  (q182:∃fd,Def K mg "reject" MF DC q56 fd)
  (q183:∃fd,Def K mg "set_author" Bc p7 q57 fd)
  (q184:∃fd,Def K mg "set_clock" DD tR q58 fd)
  (q185:∃fd,Def K mg "set_tracking" wQ mD q59 fd)
  (q186:∃fd,Def K mg "counted" Jh kD q60 fd)
  (q187:∃fd,Def K mg "state_number" wR mE q61 fd)
  (q188:∃fd,Def K mg "tell_state" Bd vj q62 fd)
  (q189:∃fd,Def K mg "tell_thread" zw sQ q63 fd)
  (q190:∃fd,Def K mg "spots_of" Gb wU q64 fd)
  (q191:∃fd,Def K mg "tell_spots" Be vk q65 fd)
  (q192:∃fd,Def K mg "is_listed" DE tS q66 fd)
  (q193:∃fd,Def K mg "tell_list" DF ym q67 fd)
  (q194:∃fd,Def K mg "tell_at" Ji ER q68 fd)
  (q195:∃fd,Def K mg "is_waiting" Bh qd q69 fd)
  (q196:∃fd,Def K mg "tell_waiting" wV qe q70 fd)
  (q197:∃fd,Def K mg "tell_bookmarks" r0 m8 q71 fd)
  (q198:∃fd,Def K mg "all_pieces" Bi qf q72 fd)
  (q199:∃fd,Def K mg "tell_text" DG yn q73 fd)
  (q200:∃fd,Def K mg "tell_size" DH yo q74 fd)
  (q201:∃fd,Def K mg "call_author" zx sS q75 fd)
  (q202:∃fd,Def K mg "call_clock" Bk vm q76 fd)
  (q203:∃fd,Def K mg "call_track" Bl vn q77 fd)
  (q204:∃fd,Def K mg "call_put" Gd Bm q78 fd)
  (q205:∃fd,Def K mg "call_cut" Ge Bn q79 fd)
  (q206:∃fd,Def K mg "call_move" DI yp q80 fd)
  (q207:∃fd,Def K mg "call_accept" zy sT q81 fd)
  (q208:∃fd,Def K mg "call_reject" zz sU q82 fd)
  (q209:∃fd,Def K mg "call_comment" wW qg q83 fd)
  (q210:∃fd,Def K mg "call_reply" Bp vo q84 fd)
  (q211:∃fd,Def K mg "call_solve" Bq vp q85 fd)
  (q212:∃fd,Def K mg "call_drop" DJ yq q86 fd)
  (q213:∃fd,Def K mg "call_reanchor" uE oK q87 fd)
  (q214:∃fd,Def K mg "call_rescue" zA sV q88 fd)
  (q215:∃fd,Def K mg "call_bookmark" uF oM q89 fd)
  (q216:∃fd,Def K mg "call_unmark" zB sW q90 fd)
  (q217:∃fd,Def K mg "call_goto" DK yr q91 fd)
  (q218:∃fd,Def K mg "call_state" Br vq q92 fd)
  (q219:∃fd,Def K mg "call_thread" zC sX q93 fd)
  (q220:∃fd,Def K mg "call_spots" Bs vt q94 fd)
  (q221:∃fd,Def K mg "call_list" DL yt q95 fd)
  (q222:∃fd,Def K mg "call_at" Jk ES q96 fd)
  (q223:∃fd,Def K mg "call_waiting" wX qh q97 fd)
  (q224:∃fd,Def K mg "call_bookmarks" sf m9 q98 fd)
  (q225:∃fd,Def K mg "call_text" DM yu q99 fd)
  (q226:∃fd,Def K mg "call_size" DN yw q100 fd)
  (q227:∃fd,Def K mg "answers_on" Bt qi q101 fd)
  (q228:∃fd,Def K mg "answers" Jm si q102 fd)
  (q229:d7 K cF "Stretch"=some (some (.ref q103)))
  (q230:∃fd,o4 K q103 "__init__" "Stretch.__init__" wY fu q107 fd)
  (q231:∃fd,o4 K q103 "is_shown" "Stretch.is_shown" o6 fw q108 fd)
  (q232:∃fd,o4 K q103 "shown_size" "Stretch.shown_size" mF eG q109 fd)
  (q233:∃fd,o4 K q103 "part" "Stretch.part" wZ mG q110 fd)
  (q234:∃fd,o4 K q103 "with_insertions" "Stretch.with_insertions" jz eK q111 fd)
  (q235:∃fd,o4 K q103 "with_deletions" "Stretch.with_deletions" jX eQ q112 fd)
  (q236:∃fd,o4 K q103 "with_comments" "Stretch.with_comments" kE fj q113 fd)
  (q237:∃fd,o4 K q103 "with_bookmarks" "Stretch.with_bookmarks" jY eR q114 fd)
  (q238:ab8 K q103)
  (q239:bI K (.ref q103) "signs"=some none)
  (q240:bI K (.ref q103) "insertions"=some none)
  (q241:bI K (.ref q103) "deletions"=some none)
  (q242:bI K (.ref q103) "comments"=some none)
  (q243:bI K (.ref q103) "bookmarks"=some none)
  (q244:d7 K cF "Comment"=some (some (.ref q104)))
  (q245:∃fd,o4 K q104 "__init__" "Comment.__init__" w9 mH q115 fd)
  (q246:ab8 K q104)
  (q247:bI K (.ref q104) "author"=some none)
  (q248:bI K (.ref q104) "time"=some none)
  (q249:bI K (.ref q104) "quote"=some none)
  (q250:bI K (.ref q104) "text"=some none)
  (q251:bI K (.ref q104) "replies"=some none)
  (q252:bI K (.ref q104) "solved"=some none)
  (q253:d7 K cF "Sheet"=some (some (.ref q105)))
  (q254:∃fd,o4 K q105 "__init__" "Sheet.__init__" Bu qj q116 fd)
  (q255:ab8 K q105)
  (q256:bI K (.ref q105) "author"=some none)
  (q257:bI K (.ref q105) "time"=some none)
  (q258:bI K (.ref q105) "tracking"=some none)
  (q259:bI K (.ref q105) "change_authors"=some none)
  (q260:bI K (.ref q105) "row"=some none)
  (q261:bI K (.ref q105) "comments"=some none)
  (q262:bI K (.ref q105) "comments_made"=some none)
  (q263:bI K (.ref q105) "bookmarks"=some none)
  (q264:bI K (.ref q105) "bookmarks_made"=some none)
  (q265:d7 K cF "Reader"=some (some (.ref q106)))
  (q266:∃fd,o4 K q106 "__init__" "Reader.__init__" zG n6 q117 fd)
  (q267:∃fd,o4 K q106 "is_done" "Reader.is_done" sj kF q118 fd)
  (q268:∃fd,o4 K q106 "take_number" "Reader.take_number" mI gx q119 fd)
  (q269:∃fd,o4 K q106 "take_list" "Reader.take_list" o7 k5 q120 fd)
  (q270:ab8 K q106)
  (q271:bI K (.ref q106) "calls"=some none)
  (q272:bI K (.ref q106) "position"=some none)
  (q273:d7 K cF "LONGEST_NOTE_TEXT"=some (some (.int 200 q122)))
  (q274:d7 K cF "LONGEST_NAME"=some (some (.int 20 q123)))
  (q275:d7 K cF "LAST_END"=some (some (.int 10 q124)))
  (q276:d7 K cF "LONGEST_QUOTE"=some (some (.int 40 q125)))
  (q277:d7 K cF "CALLS"=some (some (.ref q121)))
  (q278:∀H,iB K H q121 [.ref q75,.ref q76,.ref q77,.ref q78,.ref q79,.ref q80,.ref q81,.ref q82,.ref q83,.ref q84,.ref q85,.ref q86,.ref q87,.ref q88,.ref q89,.ref q90,.ref q91,.ref q92,.ref q93,.ref q94,.ref q95,.ref q96,.ref q97,.ref q98,.ref q99,.ref q100])
  (q279:d7 K cF "all"=some none)
  (q280:d7 K cF "any"=some none)
  (q281:d7 K cF "len"=some none)
  (q282:d7 K cF "list"=some none)
  (q283:d7 K cF "range"=some none)
  (q284:d7 K cF "sorted"=some none)
  (q285:d7 K cF "sum"=some none)
  (q286:d7 K cF "tuple"=some none)
  (q287:q103≠q104)
  (q288:q103≠q105)
  (q289:q103≠q106)
  (q290:q104≠q105)
  (q291:q104≠q106)
  (q292:q105≠q106)
  :∃t:pH,Tx K mg t:=by
 obtain⟨q293,q126⟩:=q126
 obtain⟨q294,q127⟩:=q127
 obtain⟨q295,q128⟩:=q128
 obtain⟨q296,q129⟩:=q129
 obtain⟨q297,q130⟩:=q130
 obtain⟨q298,q131⟩:=q131
 obtain⟨q299,q132⟩:=q132
 obtain⟨q300,q133⟩:=q133
 obtain⟨q301,q134⟩:=q134
 obtain⟨q302,q135⟩:=q135
 obtain⟨q303,q136⟩:=q136
 obtain⟨q304,q137⟩:=q137
 obtain⟨q305,q138⟩:=q138
 obtain⟨q306,q139⟩:=q139
 obtain⟨q307,q140⟩:=q140
 obtain⟨q308,q141⟩:=q141
 obtain⟨q309,q142⟩:=q142
 obtain⟨q310,q143⟩:=q143
 obtain⟨q311,q144⟩:=q144
 obtain⟨q312,q145⟩:=q145
 obtain⟨q313,q146⟩:=q146
 obtain⟨q314,q147⟩:=q147
 obtain⟨q315,q148⟩:=q148
 obtain⟨q316,q149⟩:=q149
 obtain⟨q317,q150⟩:=q150
 obtain⟨q318,q151⟩:=q151
 obtain⟨q319,q152⟩:=q152
 obtain⟨q320,q153⟩:=q153
 obtain⟨q321,q154⟩:=q154
 obtain⟨q322,q155⟩:=q155
 obtain⟨q323,q156⟩:=q156
 obtain⟨q324,q157⟩:=q157
 obtain⟨q325,q158⟩:=q158
 obtain⟨q326,q159⟩:=q159
 obtain⟨q327,q160⟩:=q160
 obtain⟨q328,q161⟩:=q161
 obtain⟨q329,q162⟩:=q162
 obtain⟨q330,q163⟩:=q163
 obtain⟨q331,q164⟩:=q164
 obtain⟨q332,q165⟩:=q165
 obtain⟨q333,q166⟩:=q166
 obtain⟨q334,q167⟩:=q167
 obtain⟨q335,q168⟩:=q168
 obtain⟨q336,q169⟩:=q169
 obtain⟨q337,q170⟩:=q170
 obtain⟨q338,q171⟩:=q171
 obtain⟨q339,q172⟩:=q172
 obtain⟨q340,q173⟩:=q173
 obtain⟨q341,q174⟩:=q174
 obtain⟨q342,q175⟩:=q175
 obtain⟨q343,q176⟩:=q176
 obtain⟨q344,q177⟩:=q177
 obtain⟨q345,q178⟩:=q178
 obtain⟨q346,q179⟩:=q179
 obtain⟨q347,q180⟩:=q180
 obtain⟨q348,q181⟩:=q181
 obtain⟨q349,q182⟩:=q182
 obtain⟨q350,q183⟩:=q183
 obtain⟨q351,q184⟩:=q184
 obtain⟨q352,q185⟩:=q185
 obtain⟨q353,q186⟩:=q186
 obtain⟨q354,q187⟩:=q187
 obtain⟨q355,q188⟩:=q188
 obtain⟨q356,q189⟩:=q189
 obtain⟨q357,q190⟩:=q190
 obtain⟨q358,q191⟩:=q191
 obtain⟨q359,q192⟩:=q192
 obtain⟨q360,q193⟩:=q193
 obtain⟨q361,q194⟩:=q194
 obtain⟨q362,q195⟩:=q195
 obtain⟨q363,q196⟩:=q196
 obtain⟨q364,q197⟩:=q197
 obtain⟨q365,q198⟩:=q198
 obtain⟨q366,q199⟩:=q199
 obtain⟨q367,q200⟩:=q200
 obtain⟨q368,q201⟩:=q201
 obtain⟨q369,q202⟩:=q202
 obtain⟨q370,q203⟩:=q203
 obtain⟨q371,q204⟩:=q204
 obtain⟨q372,q205⟩:=q205
 obtain⟨q373,q206⟩:=q206
 obtain⟨q374,q207⟩:=q207
 obtain⟨q375,q208⟩:=q208
 obtain⟨q376,q209⟩:=q209
 obtain⟨q377,q210⟩:=q210
 obtain⟨q378,q211⟩:=q211
 obtain⟨q379,q212⟩:=q212
 obtain⟨q380,q213⟩:=q213
 obtain⟨q381,q214⟩:=q214
 obtain⟨q382,q215⟩:=q215
 obtain⟨q383,q216⟩:=q216
 obtain⟨q384,q217⟩:=q217
 obtain⟨q385,q218⟩:=q218
 obtain⟨q386,q219⟩:=q219
 obtain⟨q387,q220⟩:=q220
 obtain⟨q388,q221⟩:=q221
 obtain⟨q389,q222⟩:=q222
 obtain⟨q390,q223⟩:=q223
 obtain⟨q391,q224⟩:=q224
 obtain⟨q392,q225⟩:=q225
 obtain⟨q393,q226⟩:=q226
 obtain⟨q394,q227⟩:=q227
 obtain⟨q395,q228⟩:=q228
 obtain⟨q396,q230⟩:=q230
 obtain⟨q397,q231⟩:=q231
 obtain⟨q398,q232⟩:=q232
 obtain⟨q399,q233⟩:=q233
 obtain⟨q400,q234⟩:=q234
 obtain⟨q401,q235⟩:=q235
 obtain⟨q402,q236⟩:=q236
 obtain⟨q403,q237⟩:=q237
 obtain⟨q404,q245⟩:=q245
 obtain⟨q405,q254⟩:=q254
 obtain⟨q406,q266⟩:=q266
 obtain⟨q407,q267⟩:=q267
 obtain⟨q408,q268⟩:=q268
 obtain⟨q409,q269⟩:=q269
 refine⟨{wd:=q0,we:=q293,fX:=q1,fY:=q294,gF:=q2,gG:=q295,xa:=q3,xb:=q296,lN:=q4,lO:=q297,ng:=q5,nh:=q298,qk:=q6,qm:=q299,n8:=q7,n9:=q300,oa:=q8,oe:=q301,sY:=q9,sZ:=q302,i4:=q10,i5:=q303,qp:=q11,qr:=q304,sk:=q12,sm:=q305,lP:=q13,lQ:=q306,qt:=q14,qv:=q307,mJ:=q15,mK:=q308,oN:=q16,oO:=q309,lu:=q17,lz:=q310,tT:=q18,tU:=q311,ET:=q19,EU:=q312,yx:=q20,yy:=q313,mL:=q21,mM:=q314,l8:=q22,l9:=q315,EV:=q23,EW:=q316,jD:=q24,jE:=q317,uG:=q25,uH:=q318,MW:=q26,MX:=q319,lA:=q27,lB:=q320,Wt:=q28,Wu:=q321,tf:=q29,tj:=q322,jZ:=q30,j0:=q323,qw:=q31,qx:=q324,kG:=q32,kH:=q325,Hq:=q33,Hr:=q326,qy:=q34,qz:=q327,EX:=q35,EY:=q328,tm:=q36,tp:=q329,Xu:=q37,Xv:=q330,og:=q38,oh:=q331,qA:=q39,qB:=q332,Xw:=q40,Xx:=q333,RO:=q41,RP:=q334,xc:=q42,xf:=q335,xg:=q43,xh:=q336,xi:=q44,xj:=q337,RQ:=q45,RR:=q338,RS:=q46,RT:=q339,Wv:=q47,Ww:=q340,Gh:=q48,Gi:=q341,yz:=q49,yA:=q342,vw:=q50,vz:=q343,MY:=q51,MZ:=q344,iN:=q52,iO:=q345,xk:=q53,xm:=q346,Am:=q54,An:=q347,Hs:=q55,Ht:=q348,Hu:=q56,Hv:=q349,vA:=q57,vB:=q350,yB:=q58,yC:=q351,qC:=q59,qD:=q352,lR:=q60,lS:=q353,qE:=q61,qF:=q354,Bv:=q62,Bw:=q355,zH:=q63,zI:=q356,Bx:=q64,By:=q357,Bz:=q65,BA:=q358,yD:=q66,yE:=q359,DQ:=q67,DR:=q360,Jo:=q68,Jp:=q361,vC:=q69,vD:=q362,xn:=q70,xo:=q363,sr:=q71,sv:=q364,vE:=q72,vF:=q365,DS:=q73,DT:=q366,DU:=q74,DV:=q367,oj:=q75,zJ:=q368,qG:=q76,BB:=q369,qH:=q77,BC:=q370,xp:=q78,Gj:=q371,xq:=q79,Gk:=q372,tV:=q80,DW:=q373,om:=q81,zK:=q374,oo:=q82,zL:=q375,mN:=q83,xt:=q376,qI:=q84,BD:=q377,qJ:=q85,BE:=q378,tW:=q86,DX:=q379,lC:=q87,uI:=q380,oq:=q88,zM:=q381,lD:=q89,uJ:=q382,ot:=q90,zN:=q383,tX:=q91,DY:=q384,qK:=q92,BF:=q385,ou:=q93,zO:=q386,qL:=q94,BG:=q387,tY:=q95,DZ:=q388,Ao:=q96,Jq:=q389,mO:=q97,xu:=q390,kJ:=q98,sx:=q391,tZ:=q99,D0:=q392,t9:=q100,D4:=q393,vG:=q101,vH:=q394,Jr:=q102,EZ:=q395,aj:=q103,dn:=q104,cu:=q105,cE:=q106,fA:=q107,fZ:=q396,gk:=q108,gm:=q397,fB:=q109,fC:=q398,qM:=q110,qN:=q399,fN:=q111,fO:=q400,f6:=q112,f7:=q401,gy:=q113,gz:=q402,f9:=q114,gc:=q403,mP:=q115,qO:=q404,qP:=q116,vI:=q405,ow:=q117,tq:=q406,ni:=q118,nj:=q407,ia:=q119,ib:=q408,o8:=q120,o9:=q409,Hw:=q121},?_⟩
 exact {without:=q126,gJ:=q127,jM:=q128,Hx:=q129,ua:=q130,xw:=q131,xx:=q132,yF:=q133,yG:=q134,D5:=q135,mQ:=q136,xy:=q137,D6:=q138,ub:=q139,BH:=q140,vJ:=q141,zP:=q142,tu:=q143,E1:=q144,RU:=q145,Js:=q146,vK:=q147,uK:=q148,RV:=q149,ox:=q150,zQ:=q151,unmark:=q152,tw:=q153,goto:=q154,D7:=q155,pI:=q156,BI:=q157,qQ:=q158,Wx:=q159,BJ:=q160,LF:=q161,D8:=q162,put:=q163,yH:=q164,BK:=q165,cut:=q166,move:=q167,Hy:=q168,Hz:=q169,BL:=q170,reply:=q171,solve:=q172,drop:=q173,reanchor:=q174,Jt:=q175,Gm:=q176,rescue:=q177,ma:=q178,HA:=q179,LG:=q180,accept:=q181,reject:=q182,Gn:=q183,Ju:=q184,BM:=q185,counted:=q186,BN:=q187,Gp:=q188,D9:=q189,M0:=q190,Gq:=q191,Jv:=q192,Jw:=q193,RW:=q194,Gr:=q195,BO:=q196,xA:=q197,Gs:=q198,Jx:=q199,Jy:=q200,yI:=q201,BP:=q202,BQ:=q203,HB:=q204,HC:=q205,E2:=q206,yJ:=q207,yK:=q208,vL:=q209,BR:=q210,BS:=q211,E3:=q212,tD:=q213,yL:=q214,tE:=q215,yM:=q216,E4:=q217,BU:=q218,yN:=q219,BV:=q220,E5:=q221,LH:=q222,vM:=q223,qR:=q224,call_text:=q225,E6:=q226,Gu:=q227,answers:=q228,k6:=hX X G q229,aO:=⟨q238.1.1,q238.1.2.1,q238.1.2.2.1,q238.1.2.2.2⟩,k7:=⟨q238.2.1,q230.m.at_,q230.m.fn,q238.2.2⟩,dU:=q239,cD:=q240,dk:=q241,cg:=q242,cj:=q243,hG:=q230,jb:=q231,gn:=q232,vN:=q233,ip:=q234,iR:=q235,jt:=q236,iS:=q237,M3:=hX X G q244,cY:=⟨q246.1.1,q246.1.2.1,q246.1.2.2.1,q246.1.2.2.2⟩,M4:=⟨q246.2.1,q245.m.at_,q245.m.fn,q246.2.2⟩,iq:=q247,uL:=q248,jc:=q249,uM:=q250,gp:=q251,ff:=q252,BW:=q245,Uq:=hX X G q253,aQ:=⟨q255.1.1,q255.1.2.1,q255.1.2.2.1,q255.1.2.2.2⟩,Ur:=⟨q255.2.1,q254.m.at_,q254.m.fn,q255.2.2⟩,gg:=q256,lT:=q257,ir:=q258,eD:=q259,bA:=q260,bL:=q261,iT:=q262,cZ:=q263,gA:=q264,Gv:=q254,Qn:=hX X G q265,bQ:=⟨q270.1.1,q270.1.2.1,q270.1.2.2.1,q270.1.2.2.2⟩,Qo:=⟨q270.2.1,q266.m.at_,q266.m.fn,q270.2.2⟩,lE:=q271,gq:=q272,Ea:=q266,xB:=q267,a6:=q268,gB:=q269,vc:=⟨_,hX X G q273⟩,Eb:=⟨_,hX X G q274⟩,M5:=⟨_,hX X G q275⟩,CA:=⟨_,hX X G q276⟩,Xy:=hX X G q277,Xz:=q278,XA:=gu X G q279,aau:=gu X G q280,jx:=gu X G q281,Jz:=gu X G q282,XB:=gu X G q283,Ec:=gu X G q284,aav:=gu X G q285,XC:=gu X G q286,xC:=q287,cK:=q288,yO:=q289,kK:=q290,qS:=q291,uN:=q292}
end
def goal_of {P:cN} {w:dS} {K:aq} {h:Heap} {mg:Str→Option ak} {fa:Addr} (X:K.In h) (G:h.Ns cF mg) (hmg:mg "answers"=some (.ref fa)) (TT:∃t:pH,Tx K mg t):
  ∃fd:aG,(∀(s:az) (us:List ak),us.length=si.length→Iy s fd ⟨us,[]⟩ (si.zip us))∧∀base:Heap,K.In base→base.Ns cF mg→aZ P w K mg base cH 12 fa fd si (WT K):=by
 obtain⟨t,T⟩:=TT
 have e:=hmg.symm.trans T.answers.mg
 cases e
 obtain⟨oc,od,kV,doc,pm,an,cdv,ct,osl,ef,lk,hcd⟩:=T.answers.fn.ex
 refine⟨t.EZ,fun s us hu=>?_,fun base _ _=>U3 T⟩
 rw[ef]
 exact .of_eq (bi1 (fun _ _ _ _ _ _ _=>rfl) kV doc pm an cdv ct us hu)
end Mx
local macro_rules|`(#where)=>return Lean.mkNullNode (←((List.range 876).map (fun i=>s!"o_{i}")++"view_1 heap_1 heap_8 heap_875 sts_11 sts_13 sts_85 sts_165 sts_244 sts_324 sts_361 sts_384 sts_435 sts_515 sts_600 sts_628 sts_686 sts_772 sts_858 tree_9 tree_11 tree_84 tree_164 tree_243 tree_323 tree_360 tree_383 tree_434 tree_514 tree_599 tree_627 tree_685 tree_771 tree_857 tree_874".splitOn " ").toArray.mapM fun k=>let c:Lean.Name:=.str `PySem.Challenge.cw_margintext_s01_answers_holds k;`(command|theorem $(Lean.mkIdent (.str `PySem.W.Fast s!"tw{c.hash}")):ident:True:=⟨⟩))
#where
theorem PySem.W.Fast.tw9372495252258987447:True:=⟨⟩
open PySem PySem.W PyProof.Rows
set_option maxHeartbeats 0 in
theorem PySem.Challenge.cw_margintext_s01_answers_holds : PySem.Challenge.rw_margintext_s01_answers.Holds := by
 w_on;k_headS;(case hw=>exact⟨[.list [.int 25]],by decide+kernel,by decide+kernel⟩)
 k_fillS
 refine L2.VQ (r:=lI) (k:=12) (CX:=L2.cH) (ps:=["calls"]) (sp:=Mx.WT) (by decide+kernel) rfl rfl ⟨rfl,by decide,by decide⟩ (fun w h Y=>PySem.W.kIn_of Y) ?F ?S (fun _ _ _ _ z=>z)
 case F=>
  intro w mg fa h Y KX G hmg
  refine' Mx.goal_of KX G hmg (Mx.aez KX G ?q126 ?q127 ?q128 ?q129 ?q130 ?q131 ?q132 ?q133 ?q134 ?q135 ?q136 ?q137 ?q138 ?q139 ?q140 ?q141 ?q142 ?q143 ?q144 ?q145 ?q146 ?q147 ?q148 ?q149 ?q150 ?q151 ?q152 ?q153 ?q154 ?q155 ?q156 ?q157 ?q158 ?q159 ?q160 ?q161 ?q162 ?q163 ?q164 ?q165 ?q166 ?q167 ?q168 ?q169 ?q170 ?q171 ?q172 ?q173 ?q174 ?q175 ?q176 ?q177 ?q178 ?q179 ?q180 ?q181 ?q182 ?q183 ?q184 ?q185 ?q186 ?q187 ?q188 ?q189 ?q190 ?q191 ?q192 ?q193 ?q194 ?q195 ?q196 ?q197 ?q198 ?q199 ?q200 ?q201 ?q202 ?q203 ?q204 ?q205 ?q206 ?q207 ?q208 ?q209 ?q210 ?q211 ?q212 ?q213 ?q214 ?q215 ?q216 ?q217 ?q218 ?q219 ?q220 ?q221 ?q222 ?q223 ?q224 ?q225 ?q226 ?q227 ?q228 ?q229 ?q230 ?q231 ?q232 ?q233 ?q234 ?q235 ?q236 ?q237 ?q238 ?q239 ?q240 ?q241 ?q242 ?q243 ?q244 ?q245 ?q246 ?q247 ?q248 ?q249 ?q250 ?q251 ?q252 ?q253 ?q254 ?q255 ?q256 ?q257 ?q258 ?q259 ?q260 ?q261 ?q262 ?q263 ?q264 ?q265 ?q266 ?q267 ?q268 ?q269 ?q270 ?q271 ?q272 ?q273 ?q274 ?q275 ?q276 ?q277 ?q278 ?q279 ?q280 ?q281 ?q282 ?q283 ?q284 ?q285 ?q286 ?q287 ?q288 ?q289 ?q290 ?q291 ?q292)
  case q127 | q128 | q129 | q130 | q143 | q144 | q145 | q146 | q147 | q148 | q149 | q153 | q155 | q156 | q158 | q168 | q186 | q197 | q198 | q200 | q228=>(refine' Mx.Sq KX G (Mx.bi1 fun _ _ _ _ _ _ _=>rfl) ?a ?l ?c ?k;case a | l | c | k=>k_is)
  case q126 | q131 | q132 | q134 | q135 | q141 | q142 | q150 | q152 | q154 | q157 | q159 | q160 | q161 | q164 | q165 | q173 | q175 | q176 | q177 | q178 | q179 | q180 | q181 | q182 | q183 | q184 | q185 | q187 | q188 | q189 | q190 | q191 | q192 | q193 | q194 | q195 | q196 | q199 | q201 | q202 | q203 | q204 | q205 | q206 | q207 | q208 | q209 | q210 | q211 | q212 | q213 | q214 | q215 | q216 | q217 | q218 | q219 | q220 | q221 | q222 | q223 | q224 | q225 | q226 | q227=>(refine' Mx.Sq KX G (Mx.bi2 fun _ _ _ _ _ _ _ _=>rfl) ?a ?l ?c ?k;case a | l | c | k=>k_is)
  case q133 | q136 | q137 | q138 | q162 | q163 | q166 | q169 | q171 | q172=>(refine' Mx.Sq KX G (Mx.bi3 fun _ _ _ _ _ _ _ _ _=>rfl) ?a ?l ?c ?k;case a | l | c | k=>k_is)
  case q139 | q140 | q151 | q167 | q170 | q174=>(refine' Mx.Sq KX G (Mx.bi4 fun _ _ _ _ _ _ _ _ _ _=>rfl) ?a ?l ?c ?k;case a | l | c | k=>k_is)
  case q229=>k_is
  case q244=>k_is
  case q253=>k_is
  case q265=>k_is
  case q231 | q232 | q254 | q267 | q268 | q269=>(refine' Mx.Ij (Mx.bi1 fun _ _ _ _ _ _ _=>rfl) ?a ?i ?l ?c ?k;case a | i | l | c | k=>k_is)
  case q234 | q235 | q236 | q237 | q266=>(refine' Mx.Ij (Mx.bi2 fun _ _ _ _ _ _ _ _=>rfl) ?a ?i ?l ?c ?k;case a | i | l | c | k=>k_is)
  case q233=>(refine' Mx.Ij (Mx.bi3 fun _ _ _ _ _ _ _ _ _=>rfl) ?a ?i ?l ?c ?k;case a | i | l | c | k=>k_is)
  case q245=>(refine' Mx.Ij (Mx.bi5 fun _ _ _ _ _ _ _ _ _ _ _=>rfl) ?a ?i ?l ?c ?k;case a | i | l | c | k=>k_is)
  case q230=>(refine' Mx.Ij (Mx.bi6 fun _ _ _ _ _ _ _ _ _ _ _ _=>rfl) ?a ?i ?l ?c ?k;case a | i | l | c | k=>k_is)
  case q238 | q246 | q255 | q270=>(refine'⟨⟨?a,?b,?c,?d⟩,?e,?f⟩;case a | b | c | d | e | f=>k_is)
  case q239 | q240 | q241 | q242 | q243 | q247 | q248 | q249 | q250 | q251 | q252 | q256 | q257 | q258 | q259 | q260 | q261 | q262 | q263 | q264 | q271 | q272 | q273 | q274 | q275 | q276 | q277 | q279 | q280 | q281 | q282 | q283 | q284 | q285 | q286=>k_is
  case q278=>(refine' Mx.adK ?hk ?hz ?r;(case hk=>k_is);(case hz=>decide);(case r=>exact .cons rfl (.cons rfl (.cons rfl (.cons rfl (.cons rfl (.cons rfl (.cons rfl (.cons rfl (.cons rfl (.cons rfl (.cons rfl (.cons rfl (.cons rfl (.cons rfl (.cons rfl (.cons rfl (.cons rfl (.cons rfl (.cons rfl (.cons rfl (.cons rfl (.cons rfl (.cons rfl (.cons rfl (.cons rfl (.cons rfl (.nil))))))))))))))))))))))))))))
  case q287 | q288 | q289 | q290 | q291 | q292=>decide
 case S=>
  intro K H xs a hO hwi hask hx
  cases hx with
  | cons h1 h2=>
   cases h2
   cases h1 with
   | lst hs ha=>
    have e:=L2.Xf a.1 _ ha
    subst e
    have q:((Codec.inLen 0 16000 a.1&&a.1.all (Codec.inInt (-1000000000000000000) 1000000000000000000))&&true)=true:=hwi
    rw[dh,dh]at q
    exact⟨_,a.1,rfl,hs,(Codec.inNat_iff.mp q.1.1).2,hask,fun H' p hp=>.lst (.inl hp) (L2.Xe _)⟩
