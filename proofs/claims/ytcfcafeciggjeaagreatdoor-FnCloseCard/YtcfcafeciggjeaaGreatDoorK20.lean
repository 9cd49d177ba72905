import Derived.Test.YtcfcafeciggjeaaGreatDoorK11
import Derived.Lib.LastIndexByte
import Derived.Laws.IdiomRangeMap
namespace Go.Proofs.YtcfcafeciggjeaaGreatDoor
set_option maxHeartbeats 3200000
set_option linter.unusedVariables false
set_option linter.unusedSimpArgs false
set_option maxRecDepth 100000
open Go.ChangeShapes Go.WideShapes Go.ChangeAt Go.RowKit Go.Maps Go.Proofs.Tryz
variable {D:DataW Unit} {E:Prop} {K:Act->World->Prop} {P:Program} {SB:List Nat} {a:Act} {b bn bs i j:Nat} {cs:Array Value} {e g t x:Int} {k:TypeId} {l m:List Int} {nd:aA} {ns:List aA} {o:Oper} {ops:Array Oper} {ss:List aL} {w w' w0 w1 w2:World}
theorem gD:Keyed prog 23:=int_keyed underlying23
theorem lD:Keyed prog 9:=string_keyed underlying9
theorem kU {i:Int} (h:0<=i/\i<18446744073709551616):(Lit.int .u64 i).wf=true:=by
 simp only [Lit.wf,IntKind.min,IntKind.max,IntKind.signed,IntKind.bits,Bool.and_eq_true,decide_eq_true_eq];simp;omega
theorem aw (h:Below w.heap.size w w') (row:Option Nat):w.grownBy w' row:=⟨h.os,h.tape,h.output,h.size,fun i hi _=>h.block i hi⟩
theorem bG {B:Nat} {row:Option Nat} (h:Below B w0 w) (hg:w.grownBy w' row) (hB:B<=w.heap.size) (hr:∀ j,row=some j->B<=j):Below B w0 w':=
 ⟨hg.os.trans h.os,hg.tape.trans h.tape,hg.output.trans h.output,Nat.le_trans h.size hg.size,fun k hk=>(hg.block k (Nat.lt_of_lt_of_le hk hB) (fun e=>by have:=hr k e.symm;omega)).trans (h.block k hk)⟩
theorem uO (p:Option Addr) (c n:Nat) (ids:List Int) (en:Hid (ids.length=n)) (w:World) (h:kL w (.slice p n c) ids) (hn:n<=1048576) (hU:Hid (∀ i∈ids,0<=i/\i<18446744073709551616)) :
  Calls prog 92 #[.slice p n c] w fun r w'=>∃ D,r=.returned (.map (some w.heap.size))/\w'.ownsMap prog 23 unitElem w.heap.size n D/\cI D ids/\Below w.heap.size w w'/\w.heap.size<w'.heap.size:=by
 have HR:=ae fun (w':World) (hb:Below w.heap.size w w')=>h.below hb;have Fi:=@run_makeMap prog;go_enter func92,ntmps92;go_wp2
 go_loopw [9] (fun iv wr=>∃ (k:Nat) (D:DataW Unit),k<=n/\iv=.int .i64 k/\wr.ownsMap prog 23 unitElem w.heap.size k D/\Hid (cI D (ids.take k))/\Below w.heap.size w wr) (fun iv _=>n-(intOf iv).toNat)
 case atStart=>exact ⟨0,_,Nat.zero_le _,rfl,World.ownsMap_made _ _ _ _,cI.nil,ay.alloc ax _⟩
 case round =>(
 obtain ⟨k,D,hk,rfl,bj,kH,aT⟩:=hrel;by_cases br:k<n;{
 have bt:(k:Int)<(n:Int):=by omega
 have dT:k<ids.length:=by rw [aa en];exact br
 obtain ⟨b,o,rfl,bE⟩:∃ b o,p=some ⟨b,o,none⟩/\wr.cell? ⟨b,o+k,none⟩=some (.int .u64 (ids.getD k 0)):=by obtain ⟨p',c',ev,hd⟩:=aa HR _ aT;simp only [Value.slice.injEq] at ev;obtain ⟨rfl,-,-⟩:=ev;rcases hd with h0 | ⟨b,o,h1,h2⟩;{rw [h0] at dT;simp at dT};{exact ⟨b,o,h1,h2 k dT⟩}
 have e1:ids.take (k+1)=ids.take k++[ids.getD k 0]:=by rw [List.take_add_one,List.getD_eq_getElem?_getD,aE dT];rfl
 have hy:=aa hU (ids.getD k 0) (by rw [List.getD_eq_getElem?_getD,aE dT];exact List.getElem_mem dT);have CG:=kH.put bj.isMap (ids.getD k 0) (.agg []);rw [<-e1] at CG;have rN:=ae CG;obtain ⟨y,ey⟩:=aN (ids.getD k 0);rw [ey] at bE hy rN;have dC:keyOf prog 23 (.int .u64 y)=some (.int .u64 y):=keyOf_int_mk underlying23 (kU hy);go_wp2_with (first
  | (at_mapUpdate;refine wpList_mapUpdate_own _ rfl _ _ _ 84 rfl 23 _ gD underlying84 unitElem w.heap.size k _ rfl bj (by unfold maxLen;omega) _ _ _ rfl rfl dC (.agg []) [] unitElem_mk ?_;intro w1 kF Pm)
  | go_in)
 go_roundw
 case rel=>exact ⟨k+1,_,by omega,by go_num,kF,rN,bG aT Pm (Nat.le_of_lt (Nat.lt_of_le_of_lt ax bj.lt)) (fun j hj=>by cases hj;exact Nat.le_refl _)⟩
 case measure=>simp [intOf];omega}
 {
 have bt:¬ (k:Int)<(n:Int):=by omega
 have:k=n:=by omega
 subst this;have HS:=aa kH;rw [List.take_of_length_le (by rw [aa en];exact Nat.le_refl _)] at HS;go_wp2;go_ret;exact ⟨rfl,D,bj,HS,aT,bj.lt⟩})
theorem me (bd bs nd ns:Nat) (Dd Ds:DataW Unit) (sd ss:List Int) (w:World) (hd:w.ownsMap prog 23 unitElem bd nd Dd) (hs:w.ownsMap prog 23 unitElem bs ns Ds) (Zz:Hid (cI Dd sd)) (hss:Hid (cI Ds ss)) (bq:bd≠bs) (hn:nd<=4611686018427387904) (hm:ns<=1048576) :
  Calls prog 123 #[.map (some bd),.map (some bs)] w fun r w'=>∃ D s,r=.returned (.tuple #[])/\w'.ownsMap prog 23 unitElem bd (nd+ns) D/\cI D s/\(∀ i,i∈s↔i∈sd\/i∈ss)/\w.grownBy w' (some bd):=by
 have HS:=hs;go_enter func123,ntmps123;go_wp2_with (first
  | (at_range;refine wpList_range_own _ rfl _ 84 rfl 23 _ gD underlying84 _ bs ns _ rfl hs ?_;intro w0 my ri GP)
  | go_in)
 go_frame
 go_loopw [4] (fun _ wr=>∃ (left:Lit->Bool) (kc k:Nat) (D:DataW Unit) (s:List Int),wr.ranges prog 23 unitElem bs w.heap.size ns Ds left kc/\k+kc<=nd+ns/\wr.ownsMap prog 23 unitElem bd k D/\Hid (cI D s)/\Hid (∀ i,i∈s↔i∈sd\/(i∈ss/\left (.int .u64 i)=false))/\w.grownBy wr (some bd)) (fun _ wr=>wr.rangeLeft bs w.heap.size)
 case atStart =>(
 refine ⟨_,_,nd,Dd,sd,my,?_,hd.kept ri (by simp),Zz,?_,ri.but _⟩;{have:=hs.size_le;omega};{intro i;constructor;{exact fun h=>.inl h};{rintro (h | ⟨h1,h2⟩);{exact h};{rw [(aa hss (.int .u64 i)).2 ⟨i,h1,rfl⟩] at h2;cases h2}}})
 case round =>(
 obtain ⟨left,kc,k,D,s,kK,Z8,bj,kH,gN,Rj⟩:=hrel;go_wp2_with (first
  | (at_next;refine qS _ rfl _ rfl 23 gD underlying23 bs w.heap.size ns _ ss hss _ _ rfl kK ?_ ?_)
  | go_in)
 {
 intro _ rh;go_wp2
 go_end0
 refine ⟨D,s,rfl,bj.mono (by omega),kH,fun i=>?_,Rj⟩;rw [aa gN i,rh];simp};{
 intro x w1 rz To hx hlx re br fN iQ wF;have aa9:=Rj.andThen fN (fun j hj=>by cases hj;exact Or.inl ax);have hr:=kK.lt;have kF:=bj.kept fN (fun e=>by cases e;exact absurd hd.lt (by omega));have dC:keyOf prog 23 (.int .u64 x)=some (.int .u64 x):=keyOf_int_mk underlying23 To;have CG:=ae (kH.put bj.isMap x (.agg []));have Ud:Hid (∀ i,i∈s++[x]↔i∈sd\/(i∈ss/\(fun z=>left z&&!z.sameKey (.int .u64 x)) (.int .u64 i)=false)):=by
  intro i;rw [List.mem_append,aa gN i];simp only [List.mem_singleton];have hk:((Lit.int .u64 i).sameKey (.int .u64 x)=true)↔i=x:=by rw [WideAt.sameKey_iff (by trivial)];simp
  by_cases e:i=x;{subst e;rw [hk.2 rfl];simp [hx]};{rw [show (Lit.int .u64 i).sameKey (.int .u64 x)=false by (rw [Bool.eq_false_iff];exact fun h=>e (hk.1 h))];simp [e]}
 go_wp2_with (first
  | (at_mapUpdate;refine wpList_mapUpdate_own _ rfl _ _ _ 84 rfl 23 _ gD underlying84 unitElem bd k _ rfl (kF.alloc _) (by unfold maxLen;omega) _ _ _ rfl rfl dC (.agg []) [] unitElem_mk ?_;intro w2 sL Hf)
  | go_in)
 have sJ:=(re.alloc _).kept Hf (by simp;exact fun e=>bq e.symm) (by simp;intro e;exact absurd hd.lt (by omega));go_roundw
 case rel=>exact ⟨_,rz,sJ,k+1,by omega,_,sL,_,CG,Ud,(aa9.andThen (World.grownBy_alloc _ _ none) (fun j hj=>by cases hj)).andThen Hf (fun j hj=>by cases hj;exact Or.inr rfl)⟩
 case measure=>rw [sJ.left_eq,kK.left_eq];omega})
theorem fe (l:List Int):(aY l).data.toList=l.map (fun n=>UInt8.ofNat n.toNat):=by rw [aY,vw];rfl
theorem cW (l:List Int):(aY l).size=l.length:=by
 show (aY l).data.size=_;rw [<-Array.length_toList,fe,List.length_map]
theorem za (hB:bQ l) (j:Nat) (hj:j<(aY l).size):(((aY l)[j]'hj).toNat:Int)=l.getD j 0:=by
 have hl:j<l.length:=by rw [<-cW];exact hj
 have e1:(aY l)[j]'hj=(aY l).data.toList[j]'(by rw [fe,List.length_map];exact hl):=by rw [Array.getElem_toList];rfl
 rw [e1];simp only [fe,List.getElem_map];rw [List.getD_eq_getElem?_getD,aE hl,Option.getD_some];have:=hB l[j] (List.getElem_mem hl);rw [UInt8.toNat_ofNat'];omega
theorem vU (l:List Int) (n:Nat) (s:ByteArray) (es:Hid (s=aY l)) (en:s.size=n) (hB:Hid (bQ l)) (hn:n<=2097152) (w:World) :
  Calls prog 177 #[.string s,.int .u8 47] w fun e w'=>((∃ k:Nat,e=.returned (.int .i64 k)/\k<n/\xn l n=k)\/(e=.returned (.int .i64 (-1))/\xn l n=0/\∀ j,j<n->l.getD j 0≠47))/\w'=w:=by
 have Pn:Hid (∀ (j:Nat) (hj:j<s.size),((s[j]'hj).toNat:Int)=l.getD j 0):=by have e:=aa es;subst e;exact fun j hj=>za hB j hj
 subst en;go_enter func177,ntmps177;go_wp2
 go_loop [5] (fun vi=>∃ k:Nat,k<=s.size/\vi=.int .i64 ((k:Int)-1)/\Hid (xn l s.size=xn l k)/\Hid (∀ j,k<=j->j<s.size->l.getD j 0≠47)) (fun vi=>((RowKit.intOf vi)+1).toNat)
 case atStart=>exact ⟨s.size,Nat.le_refl _,by first | rfl | go_num | (congr 1;omega),(by show _=_;rfl),fun j h1 h2=>by omega⟩
 case round =>(
 obtain ⟨k,hk,rfl,hh,hq⟩:=hrel;go_wp2;{
 have hc:(((s[k-1]).toNat:Int)==47)=true:=by assumption
 have k1:1<=k:=by omega
 have e1:xn l k=k-1:=by have:=lx l (k-1);rw [show k-1+1=k by omega] at this;rw [this,if_pos];rw [<-aa Pn (k-1) (by omega)];simpa using hc
 have e2:((k-1:Nat):Int)=(k:Int)-1:=by omega
 go_ret;refine ⟨.inl ⟨k-1,by rw [e2];rfl,by omega,by rw [aa hh,e1]⟩,rfl⟩};{
 have hc:(((s[k-1]).toNat:Int)==47)=false:=by assumption
 have k1:1<=k:=by omega
 have e1:xn l k=xn l (k-1):=by have:=lx l (k-1);rw [show k-1+1=k by omega] at this;rw [this,if_neg];rw [<-aa Pn (k-1) (by omega)];simpa using hc
 have e3:l.getD (k-1) 0≠47:=by rw [<-aa Pn (k-1) (by omega)];simpa using hc
 refine ⟨⟨k-1,by omega,by congr 1;omega,hh.trans e1,fun j h1 h2=>?_⟩,?_⟩;{by_cases ej:j=k-1;{rw [ej];exact e3};{exact hq j (by omega) h2}};simp [RowKit.intOf];omega};{
 have k0:k=0:=by omega
 subst k0;go_ret;exact ⟨.inr ⟨rfl,hh,fun j hj=>aa hq j (Nat.zero_le _) hj⟩,rfl⟩})
theorem ya (l:List Int) (n:Nat) (s:ByteArray) (es:Hid (s=aY l)) (en:s.size=n) (hB:Hid (bQ l)) (hn:n<=2097152) (w:World) :
  Calls prog 162 #[.string s,.int .u8 47] w fun e w'=>((∃ k:Nat,e=.returned (.int .i64 k)/\k<n/\xn l n=k)\/(e=.returned (.int .i64 (-1))/\xn l n=0/\∀ j,j<n->l.getD j 0≠47))/\w'=w:=by
 go_enter func162,ntmps162;go_wp2_with fail;refine (vU l n s es en hB hn w).mono ?_;rintro e w' ⟨hr,rfl⟩;rcases hr with ⟨k,rfl,hk,hl⟩ | ⟨rfl,hl⟩;{have HL:=ae hl;go_wp2;go_ret;exact ⟨.inl ⟨k,rfl,hk,HL⟩,rfl⟩};{have HL:=ae hl;go_wp2;go_ret;exact ⟨.inr ⟨rfl,HL⟩,rfl⟩}
theorem vR (l:List Int) (n:Nat) (en:Hid (l.length=n)) (hB:Hid (bQ l)) (hn:n<=1048576) (w:World) :
  Calls prog 122 #[.string (aY l)] w fun e w'=>e=.returned (.string (aY (dF l)))/\w'=w:=by
 obtain ⟨s,es⟩:=ar (aY l);have hs:s.size=n:=by rw [es,cW];exact aa en
 rw [<-es];have ES:=ae es;clear es;go_enter func122,ntmps122;go_wp2_with fail;refine (ya l n s ES hs hB (by omega) w).mono ?_;rintro e w' ⟨hr,rfl⟩;rcases hr with ⟨k,rfl,hk,hl⟩ | ⟨rfl,hl,-⟩;{
 by_cases k0:k=0;{
 subst k0;have e1:dF l=[47]:=by rw [dF,aa en,hl,if_pos rfl]
 have E1:=ae e1;clear hl e1;go_wp2;go_ret;exact ⟨by rw [aa E1];rfl,rfl⟩};{
 have e1:dF l=l.take k:=by rw [dF,aa en,hl,if_neg k0]
 have E1:=ae e1;clear e1;have g1:¬ (k:Int)<1:=by omega
 have g2:(k:Int)<=(n:Int):=by omega
 have g3:k<=s.size:=by omega
 have ex:Hid (s.extract 0 k=aY (l.take k)):=by show _=_;rw [aa ES];apply ByteArray.ext;apply Array.toList_inj.1;rw [fe,List.map_take,<-fe];simp [ByteArray.data_extract]
 clear hl;go_wp2;go_ret;exact ⟨by rw [aa E1,<-aa ex];rfl,rfl⟩}};{
 have e1:dF l=[47]:=by rw [dF,aa en,hl,if_pos rfl]
 have E1:=ae e1;clear hl e1;go_wp2;go_ret;exact ⟨by rw [aa E1];rfl,rfl⟩}
structure mJ (w0 w:World) (bs:Nat) (ss:List aL) (SB:List Nat):Prop where
 len:SB.length=ss.length
 own:∃ D,w.ownsMap prog 23 aQ bs ss.length D/\eh D (List.zipWith (fun (s:aL) g=>(Lit.int .u64 s.1,g)) ss SB)
 aB:∀ (i:Nat) (s:aL) (g:Nat),ss[i]?=some s->SB[i]?=some g->w0.heap.size<=g/\∃ u,w.heap[g]?=some (.cells #[.int .u64 s.1,.int .i64 s.2.1,u] 35)/\iC w0 u s.2.2
 jR:SB.Nodup
structure kI (w0 w:World) (bn:Nat) (ns:List aA) (NB HB UB:List Nat):Prop where
 len:NB.length=ns.length
 AJ:HB.length=ns.length
 AI:UB.length=ns.length
 own:∃ D,w.ownsMap prog 9 aQ bn ns.length D/\eh D (List.zipWith (fun (nd:aA) g=>(bL nd.path,g)) ns NB)
 aB:∀ (i:Nat) (nd:aA) (g h u:Nat),ns[i]?=some nd->NB[i]?=some g->HB[i]?=some h->UB[i]?=some u->w0.heap.size<=g/\w0.heap.size<=h/\w0.heap.size<=u ∧
  (∃ V,w.heap[g]?=some (.cells #[V,.int .u64 nd.owner,.int .i64 nd.mode,.map (some h),.int .u64 nd.aD,.int .u64 nd.gen,.map (some u)] 137)/\Rd w0 V nd.value) ∧
  (∃ D,w.ownsMap prog 23 unitElem h nd.holders.length D/\cI D nd.holders)/\(∃ D,w.ownsMap prog 23 unitElem u nd.watchers.length D/\cI D nd.watchers)
 jR:NB.Nodup
 Ad:(bn::(HB++UB)).Nodup
theorem gQ {R:Value->Option (DataW Unit × List MemPlace)} {b n g:Nat} {t:TypeId} (h:w.ownsMap P k R b n D) (hg:w.heap[g]?=some (.cells cs t)):g≠b:=by
 rintro rfl;obtain ⟨es,cl,hb,_⟩:=h;rw [hb] at hg;cases hg
theorem aI {g:Nat} {o:Obj} (h:w.heap[g]?=some o):g<w.heap.size:=(Array.getElem?_eq_some_iff.1 h).1
theorem mJ.kept {row:Option Nat} (h:mJ w0 w bs ss SB) (hg:w.grownBy w' row) (h1:some bs≠row) (h2:∀ g∈SB,some g≠row):mJ w0 w' bs ss SB:=by
 refine ⟨h.len,?_,fun i s g hi ux=>?_,h.jR⟩;{obtain ⟨D,hD,hM⟩:=h.own;exact ⟨D,hD.kept hg h1,hM⟩};{obtain ⟨a1,u,a2,a3⟩:=h.aB i s g hi ux;exact ⟨a1,u,(hg.block g (aI a2) (h2 g (aF ux))).trans a2,a3⟩}
theorem kI.kept {NB HB UB:List Nat} {row:Option Nat} (h:kI w0 w bn ns NB HB UB) (hg:w.grownBy w' row) (h1:some bn≠row) (h2:∀ g∈NB,some g≠row) (h3:∀ g∈HB++UB,some g≠row):kI w0 w' bn ns NB HB UB:=by
 refine ⟨h.len,h.AJ,h.AI,?_,fun i nd g hh u hi ux KJ Ku=>?_,h.jR,h.Ad⟩;{obtain ⟨D,hD,hM⟩:=h.own;exact ⟨D,hD.kept hg h1,hM⟩};{obtain ⟨a1,a2,a3,⟨V,a4,a5⟩,⟨D1,a6,a7⟩,⟨D2,a8,a9⟩⟩:=h.aB i nd g hh u hi ux KJ Ku;exact ⟨a1,a2,a3,⟨V,(hg.block g (aI a4) (h2 g (aF ux))).trans a4,a5⟩,⟨D1,a6.kept hg (h3 _ (List.mem_append.2 (.inl (aF KJ)))),a7⟩,⟨D2,a8.kept hg (h3 _ (List.mem_append.2 (.inr (aF Ku)))),a9⟩⟩}
theorem ng {α:Type} {l:List α} {x y:α} (h:(l++[x])[i]?=some y):l[i]?=some y\/(i=l.length/\x=y):=by
 by_cases hi:i<l.length;{rw [List.getElem?_append_left hi] at h;exact .inl h};{
 rw [List.getElem?_append_right (by omega)] at h
 right
 obtain ⟨br,e⟩:=aJ.1 h;simp at br;refine ⟨by omega,?_⟩;simpa [show i-l.length=0 by omega] using h}
theorem xx {α β γ:Type} (f:α->β->γ) {l:List α} {m:List β} (h:m.length=l.length) (x:α) (y:β):List.zipWith f (l++[x]) (m++[y])=List.zipWith f l m++[f x y]:=by
 rw [List.zipWith_append (by omega)]
 rfl
theorem gm {α β γ:Type} {f:α->β->γ} {l:List α} {m:List β} {z:γ} (h:z∈List.zipWith f l m):∃ (i:Nat) (x:α) (y:β),l[i]?=some x/\m[i]?=some y/\z=f x y:=by
 obtain ⟨i,hi,rfl⟩:=List.getElem_of_mem h;rw [List.length_zipWith] at hi;refine ⟨i,l[i]'(by omega),m[i]'(by omega),aE _,aE _,?_⟩;simp
theorem mJ.empty (h:w.ownsMap prog 23 aQ bs 0 (.map [])):mJ w0 w bs [] []:=
 ⟨rfl,⟨_,h,eh.nil⟩,fun i s g hi=>by simp at hi,List.nodup_nil⟩
theorem kI.empty (h:w.ownsMap prog 9 aQ bn 0 (.map [])):kI w0 w bn [] [] [] []:=
 ⟨rfl,rfl,rfl,⟨_,h,eh.nil⟩,fun i s g _ _ hi=>by simp at hi,List.nodup_nil,by simp⟩
theorem mJ.lt (h:mJ w0 w bs ss SB):∀ g∈SB,g<w.heap.size:=by
 intro g hg;obtain ⟨i,hi⟩:=List.getElem?_of_mem hg;have hl:=(aJ.1 hi).1;obtain ⟨s,hs⟩:∃ s,ss[i]?=some s:=⟨_,aE (by rw [<-h.len];exact hl)⟩;obtain ⟨_,u,a2,_⟩:=h.aB i s g hs hi;exact aI a2
theorem kI.at {NB HB UB:List Nat} (h:kI w0 w bn ns NB HB UB) (hi:ns[i]?=some nd):∃ g hh u,NB[i]?=some g/\HB[i]?=some hh/\UB[i]?=some u:=by
 have hl:=(aJ.1 hi).1;exact ⟨_,_,_,aE (by rw [h.len];exact hl),aE (by rw [h.AJ];exact hl),aE (by rw [h.AI];exact hl)⟩
theorem kI.lt {NB HB UB:List Nat} (h:kI w0 w bn ns NB HB UB):(∀ g∈NB,g<w.heap.size)/\∀ g∈HB++UB,g<w.heap.size:=by
 have key:∀ i,i<ns.length->∃ g hh u,NB[i]?=some g/\HB[i]?=some hh/\UB[i]?=some u/\g<w.heap.size/\hh<w.heap.size/\u<w.heap.size:=fun i hi=>by obtain ⟨nd,aK⟩:∃ s,ns[i]?=some s:=⟨_,aE hi⟩;obtain ⟨g,hh,u,e1,e2,e3⟩:=h.at aK;obtain ⟨_,_,_,⟨V,a4,_⟩,⟨D1,a6,_⟩,⟨D2,a8,_⟩⟩:=h.aB i nd g hh u aK e1 e2 e3;exact ⟨g,hh,u,e1,e2,e3,aI a4,a6.lt,a8.lt⟩
 refine ⟨fun g hg=>?_,fun g hg=>?_⟩;{obtain ⟨i,hi⟩:=List.getElem?_of_mem hg;have hl:=(aJ.1 hi).1;obtain ⟨g',_,_,e1,_,_,a,_,_⟩:=key i (by rw [<-h.len];exact hl);rw [hi] at e1;cases e1;exact a};{rcases List.mem_append.1 hg with hg | hg;{obtain ⟨i,hi⟩:=List.getElem?_of_mem hg;have hl:=(aJ.1 hi).1;obtain ⟨_,g',_,_,e1,_,_,a,_⟩:=key i (by rw [<-h.AJ];exact hl);rw [hi] at e1;cases e1;exact a};{obtain ⟨i,hi⟩:=List.getElem?_of_mem hg;have hl:=(aJ.1 hi).1;obtain ⟨_,_,g',_,_,e1,_,_,a⟩:=key i (by rw [<-h.AI];exact hl);rw [hi] at e1;cases e1;exact a}}
theorem sj {l:List Nat} {x:Nat} (h:l.Nodup) (hx:∀ y∈l,y≠x):(l++[x]).Nodup:=by
 rw [List.nodup_append];exact ⟨h,by simp,fun a ha b hb=>by simp at hb;subst hb;exact hx a ha⟩
theorem mJ.step (h:mJ w0 w bs ss SB) (s:aL) (g:Nat) (hg:w.grownBy w1 none) (pM:w.heap.size<=g) (hw:w0.heap.size<=w.heap.size) (u:Value) (hu:iC w0 u s.2.2) (hb:w1.heap[g]?=some (.cells #[.int .u64 s.1,.int .i64 s.2.1,u] 35))
  (hid:∀ z∈ss,z.1≠s.1) (hM:eh D (List.zipWith (fun (s:aL) g=>(Lit.int .u64 s.1,g)) ss SB)) (hD:IsMap D)
  (bj:w2.ownsMap prog 23 aQ bs (ss.length+1) (D.put (.int .u64 s.1) (.lit (.int .i64 g)))) (dV:w1.grownBy w2 (some bs)):mJ w0 w2 bs (ss++[s]) (SB++[g]):=by
 have yG:bs<w.heap.size:=by obtain ⟨D,hD,_⟩:=h.own;exact hD.lt
 refine ⟨by simp [h.len],⟨_,by rw [List.length_append];exact bj,?_⟩,fun i z g' hi ux=>?_,sj h.jR (fun y hy=>by have:=h.lt y hy;omega)⟩;{rw [xx _ h.len];refine hM.put hD (by trivial) (fun p hp=>?_) g;obtain ⟨i,x,y,hx,hy,rfl⟩:=gm hp;intro e;simp only [Lit.int.injEq,true_and] at e;exact hid x (aF hx) e};{rcases ng hi with Je | ⟨e1,rfl⟩;{have hl:=(aJ.1 Je).1;rw [List.getElem?_append_left (by rw [h.len];exact hl)] at ux;obtain ⟨a1,v,a2,a3⟩:=h.aB i z g' Je ux;refine ⟨a1,v,?_,a3⟩;have b1:=(hg.block g' (aI a2) (by simp)).trans a2;refine (dV.block g' (aI b1) ?_).trans b1;obtain ⟨D',hD',_⟩:=h.own;have:=gQ hD' a2;simpa using this};{rw [e1,<-h.len,List.getElem?_append_right ax] at ux;simp at ux;subst ux;refine ⟨by omega,u,?_,hu⟩;exact (dV.block _ (aI hb) (by simp;omega)).trans hb}}
structure iB (w0 w:World) (b bs bn:Nat) (e g x t:Int) (ss:List aL) (ns:List aA) (SB NB HB UB:List Nat):Prop where
 hd:w.heap[b]?=some (.cells #[.int .u64 e,.int .u64 g,.int .u64 x,.int .i64 t,.map (some bs),.map (some bn)] 132)
 Cl:mJ w0 w bs ss SB
 jR:kI w0 w bn ns NB HB UB
 lo:w0.heap.size<=b/\w0.heap.size<=bs/\w0.heap.size<=bn
 Ad:(bs::bn::(HB++UB)).Nodup
theorem iB.below {SB NB HB UB:List Nat} (h:iB w0 w b bs bn e g x t ss ns SB NB HB UB) (hb:Below w.heap.size w w'):iB w0 w' b bs bn e g x t ss ns SB NB HB UB:=
 ⟨(hb.block b (aI h.hd)).trans h.hd,h.Cl.kept (aw hb none) (by simp) (by simp),h.jR.kept (aw hb none) (by simp) (by simp) (by simp),h.lo,h.Ad⟩
theorem aC {g:Nat} {t:TypeId} (h:w.heap[g]?=some (.cells cs t)) (i:Nat):w.cell? ⟨g,i,none⟩=cs[i]?:=by
 unfold World.cell?;rw [h]
 rfl
theorem kI.step {NB HB UB:List Nat} (h:kI w0 w bn ns NB HB UB) (nd:aA) (g hb ub:Nat) (hg:w.grownBy w1 none) (pM:w.heap.size<=g) (Fj:w.heap.size<=hb) (Kt:w.heap.size<=ub) (bq:hb≠ub) (hw:w0.heap.size<=w.heap.size) (V:Value) (hV:Rd w0 V nd.value)
  (hbk:w1.heap[g]?=some (.cells #[V,.int .u64 nd.owner,.int .i64 nd.mode,.map (some hb),.int .u64 nd.aD,.int .u64 nd.gen,.map (some ub)] 137))
  {D1 D2:DataW Unit} (hH:w1.ownsMap prog 23 unitElem hb nd.holders.length D1) (hHs:cI D1 nd.holders) (hU:w1.ownsMap prog 23 unitElem ub nd.watchers.length D2) (hUs:cI D2 nd.watchers)
  (hid:∀ z∈ns,bL z.path≠bL nd.path) (hM:eh D (List.zipWith (fun (nd:aA) g=>(bL nd.path,g)) ns NB)) (hD:IsMap D)
  (bj:w2.ownsMap prog 9 aQ bn (ns.length+1) (D.put (bL nd.path) (.lit (.int .i64 g)))) (dV:w1.grownBy w2 (some bn)):kI w0 w2 bn (ns++[nd]) (NB++[g]) (HB++[hb]) (UB++[ub]):=by
 have uA:bn<w.heap.size:=by obtain ⟨D,hD,_⟩:=h.own;exact hD.lt
 have br:=h.lt;refine ⟨by simp [h.len],by simp [h.AJ],by simp [h.AI],⟨_,by rw [List.length_append];exact bj,?_⟩,fun i z g' h' u' hi ux KJ Ku=>?_,sj h.jR (fun y hy=>by have:=br.1 y hy;omega),?_⟩;{rw [xx _ h.len];refine hM.put hD (by trivial) (fun p hp=>?_) g;obtain ⟨i,x,y,hx,hy,rfl⟩:=gm hp;exact fun e=>hid x (aF hx) e};{
 rcases ng hi with Je | ⟨e1,rfl⟩;{
 have hl:=(aJ.1 Je).1;rw [List.getElem?_append_left (by rw [h.len];exact hl)] at ux;rw [List.getElem?_append_left (by rw [h.AJ];exact hl)] at KJ;rw [List.getElem?_append_left (by rw [h.AI];exact hl)] at Ku;obtain ⟨a1,a2,a3,⟨V',a4,a5⟩,⟨E1,a6,a7⟩,⟨E2,a8,a9⟩⟩:=h.aB i z g' h' u' Je ux KJ Ku;have Pr:=h.Ad;rw [List.nodup_cons] at Pr;have n1:some h'≠some bn:=by intro e;cases e;exact Pr.1 (List.mem_append.2 (.inl (aF KJ)))
 have n2:some u'≠some bn:=by intro e;cases e;exact Pr.1 (List.mem_append.2 (.inr (aF Ku)))
 have b1:=(hg.block g' (aI a4) (by simp)).trans a4;refine ⟨a1,a2,a3,⟨V',(dV.block g' (aI b1) ?_).trans b1,a5⟩,⟨E1,(a6.kept hg (by simp)).kept dV n1,a7⟩,⟨E2,(a8.kept hg (by simp)).kept dV n2,a9⟩⟩;obtain ⟨D',hD',_⟩:=h.own;have:=gQ hD' a4;simpa using this};{rw [e1,<-h.len,List.getElem?_append_right ax] at ux;rw [e1,<-h.AJ,List.getElem?_append_right ax] at KJ;rw [e1,<-h.AI,List.getElem?_append_right ax] at Ku;simp at ux KJ Ku;subst ux KJ Ku;exact ⟨by omega,by omega,by omega,⟨V,(dV.block _ (aI hbk) (by simp;omega)).trans hbk,hV⟩,⟨D1,hH.kept dV (by simp;omega),hHs⟩,⟨D2,hU.kept dV (by simp;omega),hUs⟩⟩}};{
 have hp:((HB++[hb])++(UB++[ub])).Perm ((HB++UB)++[hb,ub]):=by rw [List.append_assoc,List.append_assoc];exact List.Perm.append_left HB (show (hb::(UB++[ub])).Perm (UB++hb::[ub]) from List.perm_middle.symm)
 have hq:(bn::((HB++[hb])++(UB++[ub]))).Perm ((bn::(HB++UB))++[hb,ub]):=hp.cons bn;rw [hq.nodup_iff,List.nodup_append];refine ⟨h.Ad,by simp [bq],fun a ha c hc=>?_⟩;have hal:a<w.heap.size:=by rcases List.mem_cons.1 ha with rfl | ha;{exact uA};{exact br.2 a ha}
 simp at hc;rcases hc with rfl | rfl<;>omega}
theorem kW {Q:Exit->Act->World->Prop} (jw:o.guard=none) (m x v:Operand) (t:TypeId) (yx:o.op=Op.mapUpdate t m x v)
  (k e:TypeId) (KK:Keyed P k) (ht:P.underlying t=some (.map k e)) (R:Value->Option (DataW Unit × List MemPlace)) (b n:Nat) (D:DataW Unit)
  (hm:a.eval m=.map (some b)) (bj:w.ownsMap P k R b n D) (hn:n<maxLen) (key val:Value) (kl:Lit) (hx:a.eval x=key) (hv:a.eval v=val) (dC:keyOf P k key=some kl)
  (d:DataW Unit) (ps:List MemPlace) (qZ:R val=some (d,ps)) (hK:∀ w',w'.ownsMap P k R b (n+1) (D.put kl d)->w.grownBy w' (some b)->K (a.put o.dst undef) w') :
  if Region.wanted o (yielded ops a.tmps)=true then Oper.wp P o a w K Q else E:=by
 have hw:Region.wanted o (yielded ops a.tmps)=true:=by simp [Region.wanted,jw]
 rw [if_pos hw];obtain ⟨w',du,r1,r2⟩:=bj.update KK ht hn dC qZ;unfold Oper.wp;simp [execOp,yx,hm,hx,hv,du,Result.andThen];exact hK w' r1 r2
theorem FN {Q:Exit->Act->World->Prop} (jw:o.guard=none) (t:TypeId) (x:Operand) (yx:o.op=Op.box t x) (v:Value) (hx:a.eval x=v) (r:Value) (w':World) (du:(Instr.box t v).run P w=.ok r w')
  (hK:K (a.put o.dst r) w'):if Region.wanted o (yielded ops a.tmps)=true then Oper.wp P o a w K Q else E:=by
 have hw:Region.wanted o (yielded ops a.tmps)=true:=by simp [Region.wanted,jw]
 rw [if_pos hw];unfold Oper.wp;simp [execOp,yx,hx,du,Result.andThen];exact hK
theorem xI (w:World) (V:Value) (ow mo ep ge:Int) (h u:Nat):(Instr.box 137 (.agg #[V,.int .u64 ow,.int .i64 mo,.map (some h),.int .u64 ep,.int .u64 ge,.map (some u)])).run prog w=.ok (.pointer (some ⟨w.heap.size,0,none⟩)) (w.alloc (.cells #[V,.int .u64 ow,.int .i64 mo,.map (some h),.int .u64 ep,.int .u64 ge,.map (some u)] 137)):=by
 go_simp
theorem jD {α:Type} {l:List α} {k:Nat} {y:α} (h:l[k]?=some y):l.take (k+1)=l.take k++[y]:=by rw [List.take_add_one,h];rfl
theorem oO {α:Type} {l:List α} {k:Nat} {z:α} (h:z∈l.take k):∃ i,i<k/\l[i]?=some z:=by
 obtain ⟨i,hi⟩:=List.getElem?_of_mem h;rw [List.getElem?_take] at hi;split at hi;{exact ⟨i,by assumption,hi⟩};{cases hi}
theorem bu (h:w'.heap[b]?=w.heap[b]?) (o:Nat):w'.cell? ⟨b,o,none⟩=w.cell? ⟨b,o,none⟩:=by
 unfold World.cell?;rw [h]
theorem mh.heap {S N:Value} (h:mh w b e g x t S N) (hb:w'.heap[b]?=w.heap[b]?):mh w' b e g x t S N:=
 ⟨(bu hb _).trans h.1,(bu hb _).trans h.2.1,(bu hb _).trans h.2.2.1,(bu hb _).trans h.2.2.2.1,(bu hb _).trans h.2.2.2.2.1,(bu hb _).trans h.2.2.2.2.2⟩
theorem ao {X:World} {row:Option Nat} (h:X.drew.grownBy w2 row):X.grownBy w2 row:=⟨h.os,h.tape,h.output,h.size,h.block⟩
theorem qF (e g x t:Int) (p q:Option Addr) (c n d m:Nat) (ss:List aL) (ns:List aA) (en:Hid (ss.length=n)) (em:Hid (ns.length=m)) (w:World) (h:gh w (.slice p n c) ss) (hN:mi w (.slice q m d) ns) (hn:n<=1048576) (hm:m<=1048576)
  (hsu:Hid (∀ s∈ss,0<=s.1/\s.1<18446744073709551616)) (Zz:Hid (∀ (i j:Nat) (s s':aL),ss[i]?=some s->ss[j]?=some s'->i<j->s.1≠s'.1))
  (fK:Hid (∀ nd∈ns,bQ nd.path/\nd.path.length<=1048576/\nd.value.length<=1048576/\nd.holders.length<=1048576/\nd.watchers.length<=1048576))
  (ME:Hid (∀ nd∈ns,(∀ i∈nd.holders,0<=i/\i<18446744073709551616)/\∀ i∈nd.watchers,0<=i/\i<18446744073709551616))
  (aK:Hid (∀ (i j:Nat) (z z':aA),ns[i]?=some z->ns[j]?=some z'->i<j->z.path≠z'.path)) :
  Calls prog 35 #[cK e g x t (.slice p n c) (.slice q m d)] w fun r w'=>∃ b bs bn SB NB HB UB,r=.returned (.pointer (some ⟨b,0,none⟩))/\iB w w' b bs bn e g x t ss ns SB NB HB UB/\Below w.heap.size w w':=by
 have HR:=ae fun (w':World) (hb:Below w.heap.size w w')=>ag (h.below hb) (hN.below hb);have Yg:=ae h;have HN0:=ae hN;clear h hN;have Fi:=@run_makeMap prog;go_enter func35,ntmps35;go_wp2_with fail;obtain ⟨b,eb⟩:=ar (w.heap.size+1+1+1);obtain ⟨bn,No⟩:=ar (w.heap.size+1+1);obtain ⟨bs,Nn⟩:=ar (w.heap.size+1);rw [<-eb,<-No,<-Nn];obtain ⟨W,hW⟩:=ar ((((w.alloc (.cells #[.int .u64 e,.int .u64 g,.int .u64 x,.int .i64 t,.slice p n c,.slice q m d] 27)).alloc (.map #[] 0)).alloc (.map #[] 0)).alloc (.cells #[.int .u64 e,.int .u64 g,.int .u64 x,.int .i64 t,.map (some bs),.map (some bn)] 132));have bW:Below w.heap.size w W:=by rw [hW];exact (((ay.alloc ax _).alloc (by simp) _).alloc (by simp;omega) _).alloc (by simp;omega) _
 have zW:W.heap.size=w.heap.size+4:=by rw [hW];simp
 have hdW:W.heap[b]?=some (.cells #[.int .u64 e,.int .u64 g,.int .u64 x,.int .i64 t,.map (some bs),.map (some bn)] 132):=by rw [hW,eb];have:=(MapKept.heap_alloc (((w.alloc (.cells #[.int .u64 e,.int .u64 g,.int .u64 x,.int .i64 t,.slice p n c,.slice q m d] 27)).alloc (.map #[] 0)).alloc (.map #[] 0)) (.cells #[.int .u64 e,.int .u64 g,.int .u64 x,.int .i64 t,.map (some bs),.map (some bn)] 132)).1;simpa using this
 have oS:W.ownsMap prog 23 aQ bs 0 (.map []):=by rw [hW,Nn];have:=((World.ownsMap_made (w.alloc (.cells #[.int .u64 e,.int .u64 g,.int .u64 x,.int .i64 t,.slice p n c,.slice q m d] 27)) prog 23 aQ).alloc (.map #[] 0)).alloc (.cells #[.int .u64 e,.int .u64 g,.int .u64 x,.int .i64 t,.map (some (w.heap.size+1)),.map (some bn)] 132);simpa using this
 have oN:W.ownsMap prog 9 aQ bn 0 (.map []):=by rw [hW,No];have:=(World.ownsMap_made ((w.alloc (.cells #[.int .u64 e,.int .u64 g,.int .u64 x,.int .i64 t,.slice p n c,.slice q m d] 27)).alloc (.map #[] 0)) prog 9 aQ).alloc (.cells #[.int .u64 e,.int .u64 g,.int .u64 x,.int .i64 t,.map (some bs),.map (some (w.heap.size+1+1))] 132);simpa using this
 have c6:mh W w.heap.size e g x t (.slice p n c) (.slice q m d):=by
  have c0:mh (w.alloc (.cells #[.int .u64 e,.int .u64 g,.int .u64 x,.int .i64 t,.slice p n c,.slice q m d] 27)) w.heap.size e g x t (.slice p n c) (.slice q m d):=by simp [mh]
  rw [hW];exact c0.below (((ay.alloc ax _).alloc (by simp) _).alloc (by simp) _)
 rw [<-hW];have Wt:=ae (ag eb (ag No (ag Nn zW)));have BW:=ae bW;have Jy:=ae c6;have Dy:=ae (ag hdW (ag oS oN));clear hW eb No Nn zW bW hdW oS oN c6 Fi
 go_loopw [23] (fun iv wr=>∃ (k:Nat) (SB:List Nat),k<=n/\iv=.int .i64 k/\Hid (mJ w wr bs (ss.take k) SB/\wr.heap[b]?=some (.cells #[.int .u64 e,.int .u64 g,.int .u64 x,.int .i64 t,.map (some bs),.map (some bn)] 132)/\wr.ownsMap prog 9 aQ bn 0 (.map [])/\mh wr w.heap.size e g x t (.slice p n c) (.slice q m d))/\Below w.heap.size w wr/\W.heap.size<=wr.heap.size) (fun iv _=>n-(intOf iv).toNat)
 case atStart=>exact ⟨0,[],Nat.zero_le _,rfl,⟨mJ.empty Dy.2.1,Dy.1,Dy.2.2,Jy⟩,BW,Nat.le_refl _⟩
 case round =>(
 obtain ⟨k,SB,hk,rfl,jL,aT,Kr⟩:=hrel;by_cases br:k<n;{
 have bt:(k:Int)<(n:Int):=by omega
 have dT:k<ss.length:=by rw [aa en];exact br
 obtain ⟨⟨I,D,Q⟩,hy⟩:∃ y,ss[k]?=some y:=⟨_,aE dT⟩;obtain ⟨b0,o,rfl,Xv,Xw,u,Rm,MB⟩:∃ b o,p=some ⟨b,o,none⟩/\w.cell? ⟨b,o+k*3,none⟩=some (.int .u64 I)/\w.cell? ⟨b,o+k*3+1,none⟩=some (.int .i64 D)/\∃ u,w.cell? ⟨b,o+k*3+2,none⟩=some u/\iC w u Q:=by obtain ⟨p',c',ev,hd⟩:=aa Yg;simp only [Value.slice.injEq] at ev;obtain ⟨rfl,-,-⟩:=ev;rcases hd with h0 | ⟨b,o,h1,h2⟩;{rw [h0] at dT;simp at dT};{exact ⟨b,o,h1,h2 k _ hy⟩}
 obtain ⟨pq,cq,rfl,-⟩:=id MB;obtain ⟨mq,emq⟩:=aN Q.length;rw [emq] at MB Rm;clear emq;replace Xv:=af Xv aT;replace Xw:=af Xw aT;replace Rm:=af Rm aT;have RI:=ae MB;have HY:=ae hy;have hI:=aa hsu _ (aF hy);have dC:keyOf prog 23 (.int .u64 I)=some (.int .u64 I):=keyOf_int_mk underlying23 (kU hI);have uJ:=ae dC;clear dT hy MB hI dC;go_wp2_with fail;obtain ⟨X,hX⟩:=ar (wr.alloc (.cells #[.int .u64 I,.int .i64 D,.slice pq mq cq] 35));have bX:Below wr.heap.size wr X:=by rw [hX];exact ay.alloc ax _
 have Rp:X.heap[wr.heap.size]?=some (.cells #[.int .u64 I,.int .i64 D,.slice pq mq cq] 35):=by rw [hX];exact (MapKept.heap_alloc wr _).1
 have hcX:X.cell? ⟨wr.heap.size,0,none⟩=some (.int .u64 I):=by rw [hX];simp
 obtain ⟨i1,i2,i3,i4⟩:=aa jL;have iW:X.heap[b]?=some (.cells #[.int .u64 e,.int .u64 g,.int .u64 x,.int .i64 t,.map (some bs),.map (some bn)] 132):=(bX.block b (aI i2)).trans i2;have yF:X.cell? ⟨b,4,none⟩=some (.map (some bs)):=aC iW 4;rw [<-hX];have zX:X.heap.size=wr.heap.size+1:=by rw [hX];simp
 clear hX Xv Xw Rm;obtain ⟨D0,oD,mD⟩:=i1.own;have hlen:(ss.take k).length=k:=by rw [List.length_take,aa en];omega
 rw [hlen] at oD;have oX:X.ownsMap prog 23 aQ bs k D0:=oD.kept (aw bX none) (by simp);have yG:bs<wr.heap.size:=oD.lt;have Uy:bs≠b:=fun e=>gQ oD i2 e.symm;have KX:=ae (ag yF hcX);have OX:=ae oX;clear yF hcX oX;refine wp_region_noPanic ?_;refine wp_region_held_drew (S:=fun w'=>w'.cell? ⟨b,4,none⟩=some (.map (some bs))/\w'.cell? ⟨wr.heap.size,0,none⟩=some (.int .u64 I)) (by kernel_rfl) (by exact KX) (fun hS=>?_);refine gp 0 1 2 3 hS ?_;refine dQ 4 5 hS ?_;refine aH 6 fun KK hK=>?_;refine kW (by rfl) _ _ _ 129 (by rfl) 23 _ gD underlying129 aQ bs k D0 (by rfl) (by exact OX.drew) (by unfold maxLen;omega) (.int .u64 I) (.pointer (some ⟨wr.heap.size,0,none⟩)) (.int .u64 I) (by rfl) (by rfl) uJ (.lit (.int .i64 wr.heap.size)) [] rfl ?_;intro w2 sL dV;have wD:X.grownBy w2 (some bs):=ao dV;refine bm hK (by exact ⟨(bu (wD.block b (aI iW) (by simpa using Uy.symm)) _).trans KX.1,(bu (wD.block wr.heap.size (aI Rp) (by simp;omega)) _).trans KX.2⟩) fun hS=>?_;clear hK KK;refine wpAnyH_done (by kernel_rfl) ?_ _;refine aX ?_;have cF:mJ w w2 bs (ss.take (k+1)) (SB++[wr.heap.size]):=by rw [jD (aa HY)];refine i1.step (I,D,Q) wr.heap.size (aw bX none) ax aT.size (.slice pq mq cq) (aa RI) Rp (fun z hz=>?_) mD oD.isMap (by rw [hlen];exact sL) wD;obtain ⟨i,hi,Fb⟩:=oO hz;exact Zz i k z (I,D,Q) Fb (aa HY) hi
 have zR:w2.ownsMap prog 9 aQ bn 0 (.map []):=(i3.kept (aw bX none) (by simp)).kept wD (by have:=(aa Wt);simp;omega)
 have aS:w2.heap[b]?=some (.cells #[.int .u64 e,.int .u64 g,.int .u64 x,.int .i64 t,.map (some bs),.map (some bn)] 132):=(wD.block b (aI iW) (by simpa using Uy.symm)).trans iW;have h62:mh w2 w.heap.size e g x t (.slice (some ⟨b0,o,none⟩) n c) (.slice q m d):=(i4.below bX).heap (wD.block w.heap.size (by have:=aT.size;omega) (by have:=aa Wt;simp;omega));have js:Below w.heap.size w w2:=bG (ai aT bX) wD (by have:=aT.size;omega) (fun j hj=>by cases hj;have:=aa Wt;omega);have jv:W.heap.size<=w2.heap.size:=by have:=wD.size;omega
 have Yl:=ae (ag cF (ag aS (ag zR h62)));clear cF aS zR h62 hS sL dV wD i1 i2 i3 i4 iW oD mD Rp bX;go_wp2;go_roundw
 case rel=>exact ⟨k+1,_,by omega,by go_num,Yl,js,jv⟩
 case measure=>simp [intOf];omega}
 {
 have bt:¬ (k:Int)<(n:Int):=by omega
 have xr:k=n:=by omega
 subst xr;obtain ⟨i1,i2,i3,i4⟩:=aa jL;rw [List.take_of_length_le (by rw [aa en];exact Nat.le_refl _)] at i1;obtain ⟨j0,j1,j2,j3,j4,j5⟩:=id i4;have I1:=ae i1;have I2:=ae i2;have I3:=ae i3;have I4:=ae i4;clear i1 i2 i3 i4 jL;go_wp2_with fail;clear j0 j1 j2 j3 j4 j5;obtain ⟨Y,eY⟩:=ar wr;subst eY;have BY:=ae aT;have ZY:=ae Kr;clear aT Kr br bt hk
 go_loopw [37] (fun iv wr=>∃ (k:Nat) (NB HB UB:List Nat),k<=m/\iv=.int .i64 k/\Hid (kI w wr bn (ns.take k) NB HB UB/\mJ w wr bs ss SB/\wr.heap[b]?=some (.cells #[.int .u64 e,.int .u64 g,.int .u64 x,.int .i64 t,.map (some bs),.map (some bn)] 132)/\∀ y∈HB++UB,y≠bs)/\Below w.heap.size w wr/\W.heap.size<=wr.heap.size) (fun iv _=>m-(intOf iv).toNat)
 case atStart=>exact ⟨0,[],[],[],Nat.zero_le _,rfl,⟨kI.empty (aa I3),aa I1,aa I2,by simp⟩,aa BY,aa ZY⟩
 case round =>(
 obtain ⟨j,NB,HB,UB,hk,rfl,jL,aT,Kr⟩:=hrel;by_cases br:j<m;{
 have bt:(j:Int)<(m:Int):=by omega
 have dT:j<ns.length:=by rw [aa em];exact br
 obtain ⟨nd,hy⟩:∃ y,ns[j]?=some y:=⟨_,aE dT⟩;obtain ⟨b0,o,rfl,hA⟩:=HN0.at (by omega);obtain ⟨P,V,H,U,A7⟩:=hA j nd hy;obtain ⟨vm,js,Lj,Li,PV⟩:=aa fK _ (aF hy);obtain ⟨hU1,hU2⟩:=aa ME _ (aF hy);obtain ⟨pp,pc,pn,rfl,wX⟩:=A7.r0.ew;obtain ⟨vq,vc,vn,rfl,Np⟩:=A7.r1.ew;obtain ⟨hp,hc,hh,rfl,BF⟩:=A7.r4.ew;obtain ⟨up,uc,un,rfl,Ej⟩:=A7.r7.ew;have GQ:pn<=1048576:=by rw [<-aa wX];exact js
 have Fj:hh<=1048576:=by rw [<-aa BF];exact Li
 have Kt:un<=1048576:=by rw [<-aa Ej];exact PV
 have IV:=ae A7;have HY:=ae hy;have HU1:Hid (∀ i∈nd.holders,0<=i/\i<18446744073709551616):=hU1;have HU2:Hid (∀ i∈nd.watchers,0<=i/\i<18446744073709551616):=hU2;have hnr:=A7.below aT;obtain ⟨c0,c1,c2,c3,c4,c5,c6,c7,-,-,-,-,-⟩:=hnr;obtain ⟨ow,mo,ep,ge,e1,e2,e3,e4⟩:∃ a b c d,nd.owner=a/\nd.mode=b/\nd.aD=c/\nd.gen=d:=⟨_,_,_,_,rfl,rfl,rfl,rfl⟩
 rw [e1] at c2;rw [e2] at c3;rw [e3] at c5;rw [e4] at c6;have HE:=ae (ag e1 (ag e2 (ag e3 e4)));clear dT hy hA A7 vm js Lj Li PV hU1 hU2 e1 e2 e3 e4;go_wp2_with fail;obtain ⟨X,hX⟩:=ar (wr.alloc (.cells #[.slice pp pn pc,.slice vq vn vc,.int .u64 ow,.int .i64 mo,.slice hp hh hc,.int .u64 ep,.int .u64 ge,.slice up un uc] 38));obtain ⟨C,eC⟩:=ar wr.heap.size;have bX:Below wr.heap.size wr X:=by rw [hX];exact ay.alloc ax _
 have zX:X.heap.size=wr.heap.size+1:=by rw [hX];simp
 obtain ⟨i1,i2,i3,i4⟩:=aa jL;have iW:X.heap[b]?=some (.cells #[.int .u64 e,.int .u64 g,.int .u64 x,.int .i64 t,.map (some bs),.map (some bn)] 132):=(bX.block b (aI i3)).trans i3;have rX:Rd X (.slice pp pn pc) nd.path:=IV.r0.below (ai aT bX);have KX:Hid (X.cell? ⟨b,5,none⟩=some (.map (some bn))/\X.cell? ⟨C,0,none⟩=some (.slice pp pn pc)/\X.cell? ⟨C,1,none⟩=some (.slice vq vn vc)/\X.cell? ⟨C,2,none⟩=some (.int .u64 ow)/\X.cell? ⟨C,3,none⟩=some (.int .i64 mo)/\X.cell? ⟨C,4,none⟩=some (.slice hp hh hc)/\X.cell? ⟨C,5,none⟩=some (.int .u64 ep)/\X.cell? ⟨C,6,none⟩=some (.int .u64 ge)/\X.cell? ⟨C,7,none⟩=some (.slice up un uc)/\Rd X (.slice pp pn pc) nd.path):=by refine ⟨aC iW 5,?_,?_,?_,?_,?_,?_,?_,?_,rX⟩<;>(rw [hX,eC];simp)
 have uH:kL X (.slice hp hh hc) nd.holders:=IV.r4.below (ai aT bX);have uU:kL X (.slice up un uc) nd.watchers:=IV.r7.below (ai aT bX);rw [<-hX,<-eC];have UH:=ae uH;have UU:=ae uU;have HX:=ae (ag bX (ag zX iW));have Yl:=jL;clear hX c0 c1 c2 c3 c4 c5 c6 c7 uH uU rX bX zX iW i1 i2 i3 i4 jL;have HCE:=ae eC;clear eC;have dC:keyOf prog 9 (.string (aY nd.path))=some (bL nd.path):=by rw [WideMaps.keyOf_string_mk underlying9 (by rw [cW,aa wX];unfold maxLen;omega),iJ]
 have uJ:=ae dC;clear dC;refine wp_region_noPanic ?_;refine wp_region_held_drew (S:=fun w'=>w'.cell? ⟨b,5,none⟩=some (.map (some bn))/\w'.cell? ⟨C,0,none⟩=some (.slice pp pn pc)/\w'.cell? ⟨C,1,none⟩=some (.slice vq vn vc)/\w'.cell? ⟨C,2,none⟩=some (.int .u64 ow)/\w'.cell? ⟨C,3,none⟩=some (.int .i64 mo)/\w'.cell? ⟨C,4,none⟩=some (.slice hp hh hc)/\w'.cell? ⟨C,5,none⟩=some (.int .u64 ep)/\w'.cell? ⟨C,6,none⟩=some (.int .u64 ge)/\w'.cell? ⟨C,7,none⟩=some (.slice up un uc)/\Rd w' (.slice pp pn pc) nd.path) (by kernel_rfl) (by exact KX) (fun hS=>?_);refine gp 0 1 2 3 hS ?_;refine dQ 4 5 hS ?_;refine wpAnyH_take (i:=6) (oi:=_) (v:=?_) (by simp only [List.getElem?_toArray,List.getElem?_cons_succ,List.getElem?_cons_zero];rfl) (by kernel_rfl) (by kernel_rfl) (by kernel_rfl) (fun _ _ _ h=>h) (Or.inl ⟨by rfl,?_⟩) hS ?_;rotate_left;{(intro w' pO;(try dsimp only at pO);(have hcv:=eG (aa wX) pO.2.2.2.2.2.2.2.2.2);go_simp;try with_reducible rfl)}
 simp only [Act.put,xa,xb,xc];refine gj 7 8 9 10 11 12 13 14 hS ?_;refine gp 15 16 17 18 hS ?_;refine dQ 20 21 hS ?_;refine aH 19 fun KK hK=>?_;refine fw (uO hp hc hh nd.holders BF _ (UH.below ay.drew) Fj HU1) ?_;rintro r w2 ⟨D1,rfl,o1,s1,aS,yA⟩;refine ⟨_,rfl,?_⟩;have rr:Below X.heap.size X w2:=ai (Below.refl X.heap.size X).drew aS;have KX2:Hid (w2.cell? ⟨b,5,none⟩=some (.map (some bn))/\w2.cell? ⟨C,0,none⟩=some (.slice pp pn pc)/\w2.cell? ⟨C,1,none⟩=some (.slice vq vn vc)/\w2.cell? ⟨C,2,none⟩=some (.int .u64 ow)/\w2.cell? ⟨C,3,none⟩=some (.int .i64 mo)/\w2.cell? ⟨C,4,none⟩=some (.slice hp hh hc)/\w2.cell? ⟨C,5,none⟩=some (.int .u64 ep)/\w2.cell? ⟨C,6,none⟩=some (.int .u64 ge)/\w2.cell? ⟨C,7,none⟩=some (.slice up un uc)/\Rd w2 (.slice pp pn pc) nd.path):=by obtain ⟨k0,k1,k2,k3,k4,k5,k6,k7,k8,k9⟩:=aa KX;exact ⟨af k0 rr,af k1 rr,af k2 rr,af k3 rr,af k4 rr,af k5 rr,af k6 rr,af k7 rr,af k8 rr,k9.below rr⟩
 refine bm hK (by exact KX2) fun hS=>?_;clear hK KK;have zd:X.drew.heap.size=X.heap.size:=rfl;rw [zd] at o1 yA ⊢;obtain ⟨h1,Nk⟩:=ar X.heap.size;rw [<-Nk] at o1 yA ⊢;have RJ:=ae (ag o1 (ag s1 (ag yA Nk)));have km:=ae rr;clear o1 s1 aS yA rr zd Nk;refine aH 22 fun KK hK=>?_;refine fw (uO up uc un nd.watchers Ej _ (UU.below km) Kt HU2) ?_;rintro r w3 ⟨D2,rfl,o2,s2,dA,Jc⟩;refine ⟨_,rfl,?_⟩;have KX3:Hid (w3.cell? ⟨b,5,none⟩=some (.map (some bn))/\w3.cell? ⟨C,0,none⟩=some (.slice pp pn pc)/\w3.cell? ⟨C,1,none⟩=some (.slice vq vn vc)/\w3.cell? ⟨C,2,none⟩=some (.int .u64 ow)/\w3.cell? ⟨C,3,none⟩=some (.int .i64 mo)/\w3.cell? ⟨C,4,none⟩=some (.slice hp hh hc)/\w3.cell? ⟨C,5,none⟩=some (.int .u64 ep)/\w3.cell? ⟨C,6,none⟩=some (.int .u64 ge)/\w3.cell? ⟨C,7,none⟩=some (.slice up un uc)/\Rd w3 (.slice pp pn pc) nd.path):=by obtain ⟨k0,k1,k2,k3,k4,k5,k6,k7,k8,k9⟩:=aa KX2;exact ⟨af k0 dA,af k1 dA,af k2 dA,af k3 dA,af k4 dA,af k5 dA,af k6 dA,af k7 dA,af k8 dA,k9.below dA⟩
 refine bm hK (by exact KX3) fun hS=>?_;clear hK KK;obtain ⟨u1,Ng⟩:=ar w2.heap.size;rw [<-Ng] at o2 Jc ⊢;have HO2:=ae (ag o2 (ag s2 (ag Jc Ng)));have jy:=ae dA;clear o2 s2 dA Jc Ng;refine tn 23 hS ?_;refine aH 24 fun KK hK=>?_;refine FN (by rfl) 137 _ (by rfl) (.agg #[.slice vq vn vc,.int .u64 ow,.int .i64 mo,.map (some h1),.int .u64 ep,.int .u64 ge,.map (some u1)]) (by rfl) _ _ (xI _ _ _ _ _ _ _ _) ?_;obtain ⟨Z,eZ⟩:=ar (w3.alloc (.cells #[.slice vq vn vc,.int .u64 ow,.int .i64 mo,.map (some h1),.int .u64 ep,.int .u64 ge,.map (some u1)] 137));have bZ:Below w3.heap.size w3 Z:=by rw [eZ];exact ay.alloc ax _
 have hZ:Z.heap[w3.heap.size]?=some (.cells #[.slice vq vn vc,.int .u64 ow,.int .i64 mo,.map (some h1),.int .u64 ep,.int .u64 ge,.map (some u1)] 137):=by rw [eZ];exact (MapKept.heap_alloc w3 _).1
 rw [<-eZ];clear eZ;have KX4:Hid (Z.cell? ⟨b,5,none⟩=some (.map (some bn))/\Z.cell? ⟨C,0,none⟩=some (.slice pp pn pc)/\Z.cell? ⟨C,1,none⟩=some (.slice vq vn vc)/\Z.cell? ⟨C,2,none⟩=some (.int .u64 ow)/\Z.cell? ⟨C,3,none⟩=some (.int .i64 mo)/\Z.cell? ⟨C,4,none⟩=some (.slice hp hh hc)/\Z.cell? ⟨C,5,none⟩=some (.int .u64 ep)/\Z.cell? ⟨C,6,none⟩=some (.int .u64 ge)/\Z.cell? ⟨C,7,none⟩=some (.slice up un uc)/\Rd Z (.slice pp pn pc) nd.path):=by obtain ⟨k0,k1,k2,k3,k4,k5,k6,k7,k8,k9⟩:=aa KX3;exact ⟨af k0 bZ,af k1 bZ,af k2 bZ,af k3 bZ,af k4 bZ,af k5 bZ,af k6 bZ,af k7 bZ,af k8 bZ,k9.below bZ⟩
 refine bm hK (by exact KX4) fun hS=>?_;clear hK KK;obtain ⟨g1,Vw⟩:=ar w3.heap.size;rw [<-Vw] at hZ ⊢;have Q7:Below X.heap.size X Z:=ai (ai km jy) bZ;obtain ⟨i1,i2,i3,i4⟩:=aa Yl;obtain ⟨bX,zX,iW⟩:=aa HX;obtain ⟨o1,s1,yA,Nk⟩:=aa RJ;obtain ⟨o2,s2,Jc,Ng⟩:=aa HO2;have IJ:Below wr.heap.size wr Z:=ai bX Q7;obtain ⟨D0,oD,mD⟩:=i1.own;have hlen:(ns.take j).length=j:=by rw [List.length_take,aa em];omega
 rw [hlen] at oD;have oZ:Z.ownsMap prog 9 aQ bn j D0:=oD.kept (aw IJ none) (by simp);have q1:Z.ownsMap prog 23 unitElem h1 hh D1:=(o1.kept (aw (aa jy) none) (by simp)).kept (aw bZ none) (by simp);have q2:Z.ownsMap prog 23 unitElem u1 un D2:=o2.kept (aw bZ none) (by simp);have WT:=jy.size;have WU:=km.size;have uA:=oD.lt;have HQ:=ae (ag q1 (ag q2 (ag s1 s2)));have an3:=ae (ag yA (ag Nk (ag Jc (ag Ng (ag Vw (ag zX (ag WU (ag WT uA))))))));have HOZ:=ae oZ;have Wh:=ae (ag hZ (ag IJ (ag oD mD)));clear q1 q2 s1 s2 yA Nk Jc Ng Vw zX WU WT uA oZ hZ IJ oD mD i1 i2 i3 i4 bX iW o1 o2 Q7 bZ;refine aH 25 fun KK hK=>?_;refine kW (by rfl) _ _ _ 130 (by rfl) 9 _ lD underlying130 aQ bn j D0 (by rfl) (by exact HOZ) (by unfold maxLen;omega) (.string (aY nd.path)) (.pointer (some ⟨g1,0,none⟩)) (bL nd.path) (by rfl) (by rfl) uJ (.lit (.int .i64 g1)) [] rfl ?_;intro w4 qK pf;obtain ⟨hZ,IJ,oD,mD⟩:=aa Wh;obtain ⟨i1,i2,i3,i4⟩:=aa Yl;obtain ⟨q1,q2,s1,s2⟩:=aa HQ;obtain ⟨yA,Nk,Jc,Ng,Vw,zX,WU,WT,uA⟩:=aa an3;have Zw:=pf.size;have zZ:=aI hZ;have zRZ:=IJ.size;have ac9:=aT.size;obtain ⟨eb,No,Nn,zW⟩:=aa Wt;have hCe:=aa HCE;have KW:Z.heap[b]?=some (.cells #[.int .u64 e,.int .u64 g,.int .u64 x,.int .i64 t,.map (some bs),.map (some bn)] 132):=(IJ.block b (aI i3)).trans i3;have nb:b≠bn:=by omega
 have nC:C≠bn:=by omega
 have KX5:Hid (w4.cell? ⟨b,5,none⟩=some (.map (some bn))/\w4.cell? ⟨C,0,none⟩=some (.slice pp pn pc)/\w4.cell? ⟨C,1,none⟩=some (.slice vq vn vc)/\w4.cell? ⟨C,2,none⟩=some (.int .u64 ow)/\w4.cell? ⟨C,3,none⟩=some (.int .i64 mo)/\w4.cell? ⟨C,4,none⟩=some (.slice hp hh hc)/\w4.cell? ⟨C,5,none⟩=some (.int .u64 ep)/\w4.cell? ⟨C,6,none⟩=some (.int .u64 ge)/\w4.cell? ⟨C,7,none⟩=some (.slice up un uc)/\Rd w4 (.slice pp pn pc) nd.path):=by
  obtain ⟨k0,k1,k2,k3,k4,k5,k6,k7,k8,k9⟩:=aa KX4;have hC:=pf.block C (by omega) (by simpa using nC);exact ⟨(bu (pf.block b (aI KW) (by simpa using nb)) _).trans k0,(bu hC _).trans k1,(bu hC _).trans k2,(bu hC _).trans k3,(bu hC _).trans k4,(bu hC _).trans k5,(bu hC _).trans k6,(bu hC _).trans k7,(bu hC _).trans k8,
   IV.r0.below (bG (ai aT IJ) pf (by omega) (fun j hj=>by cases hj;omega))⟩
 refine bm hK (by exact KX5) fun hS=>?_;clear hK KK;refine wpAnyH_done (by kernel_rfl) ?_ _;refine aX ?_;obtain ⟨e1,e2,e3,e4⟩:=aa HE;have cF:kI w w4 bn (ns.take (j+1)) (NB++[g1]) (HB++[h1]) (UB++[u1]):=by rw [jD (aa HY)];refine i1.step nd g1 h1 u1 (aw IJ none) (by omega) (by omega) (by omega) (by omega) aT.size (.slice vq vn vc) IV.r1 (by rw [e1,e2,e3,e4];exact hZ) (by rw [aa BF];exact q1) s1 (by rw [aa Ej];exact q2) s2 (fun z hz=>?_) mD oD.isMap (by rw [hlen];exact qK) pf;obtain ⟨i,hi,Fb⟩:=oO hz;intro ee;exact aK i j z nd Fb (aa HY) hi (iM (aa fK z (aF Fb)).1 (aa fK nd (aF (aa HY))).1 ee)
 have hse:mJ w w4 bs ss SB:=(i2.kept (aw IJ none) (by simp) (by simp)).kept pf (by simp;omega) (fun y hy=>by obtain ⟨i,hi⟩:=List.getElem?_of_mem hy;obtain ⟨s,hs⟩:∃ s,ss[i]?=some s:=⟨_,aE (by rw [<-i2.len];exact (aJ.1 hi).1)⟩;obtain ⟨_,u,a2,_⟩:=i2.aB i s y hs hi;have:=gQ oD a2;simpa using this)
 have fO:w4.heap[b]?=some (.cells #[.int .u64 e,.int .u64 g,.int .u64 x,.int .i64 t,.map (some bs),.map (some bn)] 132):=(pf.block b (aI KW) (by simpa using nb)).trans KW;have Li:Below w.heap.size w w4:=bG (ai aT IJ) pf (by omega) (fun j hj=>by cases hj;omega);have hz4:W.heap.size<=w4.heap.size:=by omega
 have hd4:∀ y∈(HB++[h1])++(UB++[u1]),y≠bs:=by intro y hy;simp only [List.mem_append,List.mem_singleton] at hy;rcases hy with (hy | rfl) | (hy | rfl);{exact i4 y (List.mem_append.2 (.inl hy))};{omega};{exact i4 y (List.mem_append.2 (.inr hy))};{omega}
 have an9:=ae (ag cF (ag hse (ag fO hd4)));clear cF hse fO hd4 hS qK pf i1 i2 i3 i4 q1 q2 s1 s2 yA Nk Jc Ng Vw zX WU WT uA eb No Nn zW hCe hZ IJ oD mD KW e1 e2 e3 e4 Zw ac9 nb nC zZ zRZ KX KX2 KX3 KX4 KX5;go_wp2;go_roundw
 case rel=>exact ⟨j+1,_,_,_,by omega,by go_num,an9,Li,hz4⟩
 case measure=>simp [intOf];omega}
 {
 have bt:¬ (j:Int)<(m:Int):=by omega
 have XU:j=m:=by omega
 subst XU;obtain ⟨i1,i2,i3,i4⟩:=aa jL;rw [List.take_of_length_le (by rw [aa em];exact Nat.le_refl _)] at i1;obtain ⟨eb,No,Nn,zW⟩:=aa Wt;have Hj:iB w wr b bs bn e g x t ss ns SB NB HB UB:=⟨i3,i2,i1,by omega,by rw [List.nodup_cons];refine ⟨fun gN=>?_,i1.Ad⟩;rcases List.mem_cons.1 gN with hh | hh;{omega};{exact i4 _ hh rfl}⟩
 have ao4:=ae Hj;clear i1 i2 i3 i4 eb No Nn zW Hj;go_wp2;go_ret;exact ⟨b,rfl,⟨bs,bn,SB,NB,HB,UB,ao4⟩,aT⟩})})
section
variable {P:Program} (w:World) {ops:Array Oper} {rest:List Oper} {o:Oper} {a:Act} {Q:Exit->Act->World->Prop}
theorem jb (hg:o.guard=none) (m x:Operand) (t:TypeId) (yx:o.op=Op.lookup t m x true) (k e:TypeId) (K:Keyed P k) (ht:P.underlying t=some (.map k e)) (hz:(zeroValue e).run P w=.ok (.pointer none) w) (b n:Nat) (D:DataW Unit) (l:List (Lit × Nat)) (hM:eh D l)
  (hm:a.eval m=.map (some b)) (bj:w.ownsMap P k aQ b n D) (key:Value) (p:Lit × Nat) (hp:p∈l) (hx:a.eval x=key) (dC:keyOf P k key=some p.1)
  (hK:wpList P ops Q rest (a.put o.dst (.tuple #[.pointer (some ⟨p.2,0,none⟩),.bool true])) w):wpList P ops Q (o::rest) a w:=
 wpList_lookup_own_ok w hg m x t yx k e K ht aQ hz .nil [] rfl b n D hm bj key p.1 hx dC (fun v ps hv=>by rw [hM.at' p hp] at hv;obtain rfl:=fS hv;rw [(hM.hs p.1).2 ⟨p,hp,rfl⟩];exact hK)
theorem nA (hg:o.guard=none) (m x:Operand) (t:TypeId) (yx:o.op=Op.lookup t m x true) (k e:TypeId) (K:Keyed P k) (ht:P.underlying t=some (.map k e)) (hz:(zeroValue e).run P w=.ok (.pointer none) w) (b n:Nat) (D:DataW Unit) (l:List (Lit × Nat)) (hM:eh D l)
  (hm:a.eval m=.map (some b)) (bj:w.ownsMap P k aQ b n D) (key:Value) (kl:Lit) (lG:∀ p∈l,p.1≠kl) (hx:a.eval x=key) (dC:keyOf P k key=some kl)
  (hK:wpList P ops Q rest (a.put o.dst (.tuple #[.pointer none,.bool false])) w):wpList P ops Q (o::rest) a w:=
 wpList_lookup_own_ok w hg m x t yx k e K ht aQ hz .nil [] rfl b n D hm bj key kl hx dC (fun v ps hv=>by
  have hh:Maps.has D kl=false:=by rw [Bool.eq_false_iff];intro h;obtain ⟨p,hp,e⟩:=(hM.hs kl).1 h;exact lG p hp e
  rw [Maps.atKey_of_not_has hh] at hv;obtain rfl:=ll hv;rw [hh];exact hK)
end
theorem iD (w:World):(zeroValue 134).run prog w=.ok (.pointer none) w:=by kernel_rfl
theorem uX (h:ga ns l=some nd):nd.path=l/\∃ i:Nat,ns[i]?=some nd:=by
 have h1:=List.find?_some h;have h2:=List.mem_of_find?_eq_some h;exact ⟨by simpa using h1,List.getElem?_of_mem h2⟩
theorem uY (h:ga ns l=none):∀ nd∈ns,nd.path≠l:=by
 intro nd aK e;have:=List.find?_eq_none.1 h nd aK;simp [e] at this
theorem y9 {SB NB HB UB:List Nat} (l:List Int) (w:World) (cF:Hid (iB w0 w b bs bn e g x t ss ns SB NB HB UB)) (hB:Hid (bQ l)) (uA:Hid (∀ nd∈ns,bQ nd.path)) (hl:l.length<=1048577) (B:Bool) (eB:Hid (dG ns l=B)) :
  Calls prog 121 #[.pointer (some ⟨b,0,none⟩),.string (aY l)] w fun r w'=>r=.returned (.bool B)/\Below w.heap.size w w':=by
 have KT:w.cell? ⟨b,5,none⟩=some (.map (some bn)):=aC cF.hd 5;obtain ⟨D,oD,mD⟩:=cF.jR.own;have dC:keyOf prog 9 (.string (aY l))=some (bL l):=by rw [WideMaps.keyOf_string_mk underlying9 (by rw [cW];unfold maxLen;omega),iJ]
 have OD:=ae oD;have MD:=ae mD;have uJ:=ae dC;have jJ:((aY l).toList==(aY [47]).toList)=decide (l=[47]):=xg (aa hB) (by intro y hy;simp at hy;omega);rw [show (aY [47]).toList=[47] from dE [47]] at jJ;clear oD mD dC;obtain ⟨s,es⟩:=ar (aY l);rw [<-es] at jJ uJ ⊢;clear es;by_cases j9:l=[47];{
 have eT:B=true:=by rw [<-aa eB,dG,if_pos j9]
 subst eT;have hr:(s.toList==[47])=true:=by rw [jJ];simp [j9]
 clear jJ j9;go_enter func121,ntmps121;go_wp2;go_ret;exact ⟨rfl,Below.refl _ _⟩};{
 have hr:(s.toList==[47])=false:=by rw [jJ];simp [j9]
 have js:(match ga ns l with | some nd=>nd.owner==0 | none=>false)=B:=by rw [<-aa eB,dG,if_neg j9];rfl
 clear jJ j9;cases hF:ga ns l with
 | none=>
  rw [hF] at js;have eF:B=false:=js.symm;subst eF;have lG:Hid (∀ p∈List.zipWith (fun (nd:aA) g=>(bL nd.path,g)) ns NB,p.1≠bL l):=by intro p hp;obtain ⟨i,nd,y,hx,hy,rfl⟩:=gm hp;intro ee;have hm:=aF hx;exact uY hF nd hm (iM (aa uA nd hm) hB ee)
  clear hF js;go_enter func121,ntmps121;go_wp2_with (first
   | (at_lookup;refine nA _ rfl _ _ 130 rfl 9 _ lD underlying130 (iD _) bn _ D _ MD rfl OD _ (bL l) lG rfl uJ ?_)
   | go_in)
  go_ret;exact ⟨rfl,Below.refl _ _⟩
 | some nd=>
  rw [hF] at js;replace js:(nd.owner==0)=B:=js;obtain ⟨hp,i,hi⟩:=uX hF;obtain ⟨g1,h1,u1,q1,q2,q3⟩:=cF.jR.at hi;obtain ⟨_,_,_,⟨V,a4,_⟩,_,_⟩:=cF.jR.aB i nd g1 h1 u1 hi q1 q2 q3;have hcO:w.cell? ⟨g1,1,none⟩=some (.int .u64 nd.owner):=aC a4 1;have gN:Hid ((bL l,g1)∈List.zipWith (fun (nd:aA) g=>(bL nd.path,g)) ns NB):=by show _∈_;rw [List.mem_iff_getElem?];refine ⟨i,?_⟩;rw [List.getElem?_zipWith,hi,q1];show some (bL nd.path,g1)=some (bL l,g1);rw [hp]
  obtain ⟨ow,eow⟩:=aN nd.owner;rw [eow] at hcO js;clear hF hp hi q1 q2 q3 a4 eow;cases B with
  | true=>
   have ho:ow=0:=by simpa using js
   subst ho;clear js;go_enter func121,ntmps121;go_wp2_with (first
    | (at_lookup;refine jb _ rfl _ _ 130 rfl 9 _ lD underlying130 (iD _) bn _ D _ MD rfl OD _ (bL l,g1) gN rfl uJ ?_)
    | go_in)
   go_ret;exact ⟨rfl,Below.refl _ _⟩
  | false=>
   have ho:(ow==0)=false:=js;clear js;go_enter func121,ntmps121;go_wp2_with (first
    | (at_lookup;refine jb _ rfl _ _ 130 rfl 9 _ lD underlying130 (iD _) bn _ D _ MD rfl OD _ (bL l,g1) gN rfl uJ ?_)
    | go_in)
   go_ret;exact ⟨rfl,Below.refl _ _⟩}
def sA (e g x t:Int) (n m:Nat):Bool:=decide (e<=4611686018427387904/\g<=4611686018427387904/\x<=4611686018427387904/\0<=t/\t<=1000000/\n<=50/\m<=200)
theorem AH (e g x t:Int) (p q:Option Addr) (c n d m:Nat) (w:World) (hn:n<=1048576) (hm:m<=1048576) (B:Bool) (eB:Hid (sA e g x t n m=B)) :
  Calls prog 42 #[cK e g x t (.slice p n c) (.slice q m d)] w fun r w'=>r=.returned (.bool B)/\Below w.heap.size w w':=by
 go_enter func42,ntmps42;go_wp2_with fail
 all_goals (
  go_ret;refine ⟨?_,ay.alloc ax _⟩;rw [<-aa eB];simp only [sA,Ending.returned.injEq,Value.bool.injEq])
 all_goals first | (simp_all;done) | (simp_all;omega) | (show Value.bool (decide ((m:Int)<=200))=Value.bool _;congr 1;rw [Bool.eq_iff_iff,decide_eq_true_iff,decide_eq_true_iff];omega) | skip
theorem tZ (e g ow mo ep ge:Int) (P V U:Value) (p:Option Addr) (c n:Nat) (w:World) (hn:n<=1048576) (B:Bool) (eB:Hid (dh e g mo n ep ge=B)) :
  Calls prog 159 #[Jb P V ow mo (.slice p n c) ep ge U,.int .u64 e,.int .u64 g] w fun r w'=>r=.returned (.bool B)/\Below w.heap.size w w':=by
 go_enter func159,ntmps159;go_wp2_with fail
 all_goals (
  go_ret;refine ⟨?_,ay.alloc ax _⟩;rw [<-aa eB];simp only [dh,Ending.returned.injEq,Value.bool.injEq])
 all_goals first | (simp_all;done) | (simp_all;omega) | skip
def zk (l:List Int):Bool:=fU l.length (fun i j=>decide (l.getD i 0<l.getD j 0))
def qg (e g:Int) (nd:aA):Bool:=vp nd.path&&(decide (nd.value.length<=40)&&(dh e g nd.mode nd.holders.length nd.aD nd.gen&&(zk nd.holders&&zk nd.watchers)))
theorem xA (e g x t:Int) (S N:Value) (nd:aA) (pp vq hp up:Option Addr) (pc pn vc vn hc hh uc un:Nat) (wX:Hid (nd.path.length=pn)) (Np:Hid (nd.value.length=vn)) (BF:Hid (nd.holders.length=hh)) (Ej:Hid (nd.watchers.length=un)) (w:World)
  (h0:Rd w (.slice pp pn pc) nd.path) (h4:kL w (.slice hp hh hc) nd.holders) (h7:kL w (.slice up un uc) nd.watchers) (Nb:Hid (bQ nd.path)) (GQ:pn<=1048576) (OO:vn<=1048576) (Fj:hh<=1048576) (Kt:un<=1048576) (nS:fV (.slice pp pn pc)) (xq:ML w) (B:Bool) (eB:Hid (qg e g nd=B)) :
  Calls prog 117 #[Jb (.slice pp pn pc) (.slice vq vn vc) nd.owner nd.mode (.slice hp hh hc) nd.aD nd.gen (.slice up un uc),cK e g x t S N] w fun r w'=>r=.returned (.bool B)/\Below w.heap.size w w':=by
 obtain ⟨mG,jN⟩:=nS.of;obtain ⟨ow,mo,ep,ge,e1,e2,e3,e4⟩:∃ a b c d,nd.owner=a/\nd.mode=b/\nd.aD=c/\nd.gen=d:=⟨_,_,_,_,rfl,rfl,rfl,rfl⟩
 rw [e1,e2,e3,e4];have HR:=ae fun (w':World) (hb:Below w.heap.size w w')=>ag (h0.below hb) (ag (h4.below hb) (ag (h7.below hb) (xq.below hb)));obtain ⟨T1,E1⟩:∃ T,Hid (vp nd.path=T):=⟨_,(by show _=_;rfl)⟩;obtain ⟨T3,E3⟩:∃ T,Hid (dh e g mo hh ep ge=T):=⟨_,(by show _=_;rfl)⟩;obtain ⟨T4,E4⟩:∃ T,Hid (fU hh (fun i j=>decide (nd.holders.getD i 0<nd.holders.getD j 0))=T):=⟨_,(by show _=_;rfl)⟩;obtain ⟨T5,E5⟩:∃ T,Hid (fU un (fun i j=>decide (nd.watchers.getD i 0<nd.watchers.getD j 0))=T):=⟨_,(by show _=_;rfl)⟩;have hB:B=(T1&&(decide (vn<=40)&&(T3&&(T4&&T5)))):=by rw [<-aa eB,qg,zk,zk,e2,e3,e4,aa Np,aa BF,aa Ej,aa E1,aa E3,aa E4,aa E5]
 have HB:=ae hB;clear h0 h4 h7 xq hB eB e1 e2 e3 e4 nS;obtain ⟨W,hW⟩:=ar ((w.alloc (.cells #[.slice pp pn pc,.slice vq vn vc,.int .u64 ow,.int .i64 mo,.slice hp hh hc,.int .u64 ep,.int .u64 ge,.slice up un uc] 38)).alloc (.cells #[.int .u64 e,.int .u64 g,.int .u64 x,.int .i64 t,S,N] 27));have bW:Below w.heap.size w W:=by rw [hW];exact (ay.alloc ax _).alloc (by simp) _
 have k0:W.cell? ⟨w.heap.size,0,none⟩=some (.slice pp pn pc):=by rw [hW];simp
 have k1:W.cell? ⟨w.heap.size,1,none⟩=some (.slice vq vn vc):=by rw [hW];simp
 have k2:W.cell? ⟨w.heap.size,2,none⟩=some (.int .u64 ow):=by rw [hW];simp
 have k3:W.cell? ⟨w.heap.size,3,none⟩=some (.int .i64 mo):=by rw [hW];simp
 have k4:W.cell? ⟨w.heap.size,4,none⟩=some (.slice hp hh hc):=by rw [hW];simp
 have k5:W.cell? ⟨w.heap.size,5,none⟩=some (.int .u64 ep):=by rw [hW];simp
 have k6:W.cell? ⟨w.heap.size,6,none⟩=some (.int .u64 ge):=by rw [hW];simp
 have k7:W.cell? ⟨w.heap.size,7,none⟩=some (.slice up un uc):=by rw [hW];simp
 have k8:W.cell? ⟨w.heap.size+1,0,none⟩=some (.int .u64 e):=by rw [hW];simp
 have k9:W.cell? ⟨w.heap.size+1,1,none⟩=some (.int .u64 g):=by rw [hW];simp
 go_enter func117,ntmps117;go_wp2_with fail;rw [<-hW];clear hW;refine (AX pp pc pn nd.path wX _ (aa HR _ bW).1 Nb GQ mG jN (aa HR _ bW).2.2.2 T1 E1).mono ?_;rintro r w1 ⟨rfl,bf⟩;have b1:=ai bW bf;cases T1 with
 | false=>
  have eF:B=false:=by rw [aa HB];rfl
  subst eF;clear k0 k1 k2 k3 k4 k5 k6 k7 k8 k9;go_wp2;go_ret;exact ⟨rfl,b1⟩
 | true=>
  replace k0:=af k0 bf;replace k1:=af k1 bf;replace k2:=af k2 bf;replace k3:=af k3 bf;replace k4:=af k4 bf;replace k5:=af k5 bf;replace k6:=af k6 bf;replace k7:=af k7 bf;replace k8:=af k8 bf;replace k9:=af k9 bf;clear bf bW;by_cases hv:(vn:Int)<=40;{
 have km:Hid (B=(T3&&(T4&&T5))):=by
  show _=_;rw [aa HB,show decide (vn<=40)=true by (rw [decide_eq_true_iff];omega)]
  rfl
 clear HB;go_wp2_with fail;refine (tZ e g ow mo ep ge _ _ _ hp hc hh _ Fj T3 E3).mono ?_;rintro r w2 ⟨rfl,aS⟩;have b2:=ai b1 aS;cases T3 with
 | false=>
  have eF:B=false:=by rw [aa km];rfl
  subst eF;clear k0 k1 k2 k3 k4 k5 k6 k7 k8 k9;go_wp2;go_ret;exact ⟨rfl,b2⟩
 | true=>
  replace k4:=af k4 aS;replace k7:=af k7 aS;clear k0 k1 k2 k3 k5 k6 k8 k9 aS;go_wp2_with fail;refine (zh hp hc hh nd.holders BF _ (aa HR _ b2).2.1 Fj T4 E4).mono ?_;rintro r w3 ⟨rfl,dA⟩;have b3:=ai b2 dA;cases T4 with
  | false=>
   have eF:B=false:=by rw [aa km];rfl
   subst eF;clear k4 k7;go_wp2;go_ret;exact ⟨rfl,b3⟩
  | true=>
   have eT:B=T5:=by rw [aa km];rfl
   subst eT;replace k7:=af k7 dA;clear k4 dA;go_wp2_with fail;refine (zh up uc un nd.watchers Ej _ (aa HR _ b3).2.2.1 Kt B E5).mono ?_;rintro r w4 ⟨rfl,fO⟩;have b4:=ai b3 fO;clear k7;go_wp2;go_ret;exact ⟨rfl,b4⟩};{
 have eF:B=false:=by rw [aa HB,show decide (vn<=40)=false by (rw [decide_eq_false_iff_not];omega)];rfl
 subst eF;clear k2 k3 k4 k5 k6 k7 k8 k9;go_wp2;go_ret;exact ⟨rfl,b1⟩}
def gJ (x:Int) (ss:List aL):Bool:=(List.range ss.length).all (fun i=>sa x (ss.getD i (0,0,[])))&&fU ss.length (fun i j=>decide ((ss.getD i (0,0,[])).1<(ss.getD j (0,0,[])).1))
def gL (e g:Int) (ns:List aA):Bool:=(List.range ns.length).all (fun i=>qg e g (ns.getD i dH))&&fU ns.length (fun i j=>!leB (ns.getD j dH).path (ns.getD i dH).path)
theorem oo (e g x t:Int) (p:Option Addr) (c n:Nat) (N:Value) (ss:List aL) (en:Hid (ss.length=n)) (w:World) (h:gh w (.slice p n c) ss) (hn:n<=1048576)
  (yG:Hid (∀ s∈ss,s.2.2.length<=1048576/\∀ e∈s.2.2,bQ e.2/\e.2.length<=1048576)) (xq:ML w) (B:Bool) (eB:Hid (gJ x ss=B)) :
  Calls prog 43 #[cK e g x t (.slice p n c) N] w fun r w'=>r=.returned (.bool B)/\Below w.heap.size w w':=by
 have HR:=ae fun (w':World) (hb:Below w.heap.size w w')=>ag (h.below hb) (xq.below hb);obtain ⟨T2,E2⟩:∃ T,Hid (fU n (fun i j=>decide ((ss.getD i (0,0,[])).1<(ss.getD j (0,0,[])).1))=T):=⟨_,(by show _=_;rfl)⟩;have HB:Hid (B=((List.range n).all (fun i=>sa x (ss.getD i (0,0,[])))&&T2)):=by show _=_;rw [<-aa eB,gJ,aa en,aa E2]
 go_enter func43,ntmps43;go_wp2_with fail;obtain ⟨W,hW⟩:=ar (w.alloc (.cells #[.int .u64 e,.int .u64 g,.int .u64 x,.int .i64 t,.slice p n c,N] 27));have bW:Below w.heap.size w W:=by rw [hW];exact ay.alloc ax _
 have jN:W.cell? ⟨w.heap.size,2,none⟩=some (.int .u64 x):=by rw [hW];simp
 have yF:W.cell? ⟨w.heap.size,4,none⟩=some (.slice p n c):=by rw [hW];simp
 rw [<-hW];have BW:=ae bW;have IZ:=ae (ag jN yF)
 go_loopw [8] (fun iv wr=>∃ k:Nat,k<=n/\iv=.int .i64 k/\Hid ((List.range k).all (fun i=>sa x (ss.getD i (0,0,[])))=true)/\Below W.heap.size W wr) (fun iv _=>n-(intOf iv).toNat)
 case atStart=>exact ⟨0,Nat.zero_le _,rfl,(by show _=_;rfl),Below.refl _ _⟩
 case round =>(
 obtain ⟨k,hk,rfl,gC,aT⟩:=hrel;have BB:=ai BW aT;have i2:=af IZ.1 aT;have i4:=af IZ.2 aT;by_cases br:k<n;{
 have bt:(k:Int)<(n:Int):=by omega
 have dT:k<ss.length:=by rw [aa en];exact br
 obtain ⟨⟨I,D,Q⟩,hy⟩:∃ y,ss[k]?=some y:=⟨_,aE dT⟩;have xo:ss.getD k (0,0,[])=(I,D,Q):=by rw [List.getD_eq_getElem?_getD,hy];rfl
 obtain ⟨b,o,rfl,Xv,Xw,u,Rm,MB⟩:∃ b o,p=some ⟨b,o,none⟩/\wr.cell? ⟨b,o+k*3,none⟩=some (.int .u64 I)/\wr.cell? ⟨b,o+k*3+1,none⟩=some (.int .i64 D)/\∃ u,wr.cell? ⟨b,o+k*3+2,none⟩=some u/\iC wr u Q:=by obtain ⟨p',c',ev,hd⟩:=(aa HR _ BB).1;simp only [Value.slice.injEq] at ev;obtain ⟨rfl,-,-⟩:=ev;rcases hd with h0 | ⟨b,o,h1,h2⟩;{rw [h0] at dT;simp at dT};{exact ⟨b,o,h1,h2 k _ hy⟩}
 obtain ⟨XB,XC⟩:=aa yG _ (aF hy);obtain ⟨pq,cq,rfl,-⟩:=id MB;obtain ⟨m,em⟩:=aN Q.length;rw [em] at MB Rm;have hm:m<=1048576:=by rw [<-em];exact XB
 have EM:=ae em;have Ys:Hid (∀ e∈Q,bQ e.2/\e.2.length<=1048576):=XC;obtain ⟨V,eV⟩:=aN (sa x (I,D,Q));have EV:=ae eV;have HF:Hid (V=false->B=false):=fun h=>by rw [aa HB,db br (by rw [xo,eV];exact h)];rfl
 have HT:Hid (V=true->Hid ((List.range (k+1)).all (fun i=>sa x (ss.getD i (0,0,[])))=true)):=fun h=>bU (aa gC) (by rw [xo,eV];exact h);have b2:Below wr.heap.size wr ((wr.alloc (.cells #[.int .u64 I,.int .i64 D,.slice pq m cq] 35))):=ay.alloc ax _;have RI:=ae (MB.below b2);have Wn:=ae ((aa HR _ BB).2.below b2);have j2:=af i2 b2;go_wp2_with fail;refine (vK I D x pq cq m Q EM _ (by exact RI) hm Ys (by exact Wn) V EV).mono ?_;rintro r w2 ⟨rfl,aS⟩;have b3:=ai aT (ai b2 aS);have B3:=ai BW b3;cases V with
 | false=>
  have eF:=aa HF rfl;subst eF;go_wp2;go_ret;exact ⟨rfl,B3⟩
 | true=>
  have pL:=aa HT rfl;go_wp2;go_roundw
  case rel=>exact ⟨k+1,by omega,by go_num,pL,b3⟩
  case measure=>simp [intOf];omega}
 {
 have bt:¬ (k:Int)<(n:Int):=by omega
 have xr:k=n:=by omega
 have eT:B=T2:=by rw [aa HB,show (List.range n).all (fun i=>sa x (ss.getD i (0,0,[])))=true from xr▸aa gC,Bool.true_and]
 subst eT;go_wp2_with fail;refine (IK p c n ss en _ (aa HR _ BB).1.rd hn B E2).mono ?_;rintro r w2 ⟨rfl,aS⟩;have b3:=ai BB aS;go_wp2;go_ret;exact ⟨rfl,b3⟩})
theorem rQ (e g x t:Int) (S:Value) (q:Option Addr) (d m:Nat) (ns:List aA) (em:Hid (ns.length=m)) (w:World) (h:mi w (.slice q m d) ns) (hm:m<=1048576)
  (fK:Hid (∀ nd∈ns,bQ nd.path/\nd.path.length<=1048576/\nd.value.length<=1048576/\nd.holders.length<=1048576/\nd.watchers.length<=1048576)) (xq:ML w) (B:Bool) (eB:Hid (gL e g ns=B)) :
  Calls prog 44 #[cK e g x t S (.slice q m d)] w fun r w'=>r=.returned (.bool B)/\Below w.heap.size w w':=by
 have HR:=ae fun (w':World) (hb:Below w.heap.size w w')=>ag (h.below hb) (xq.below hb);obtain ⟨T2,E2⟩:∃ T,Hid (fU m (fun i j=>!leB (ns.getD j dH).path (ns.getD i dH).path)=T):=⟨_,(by show _=_;rfl)⟩;have HB:Hid (B=((List.range m).all (fun i=>qg e g (ns.getD i dH))&&T2)):=by show _=_;rw [<-aa eB,gL,aa em,aa E2]
 go_enter func44,ntmps44;go_wp2_with fail;obtain ⟨W,hW⟩:=ar (w.alloc (.cells #[.int .u64 e,.int .u64 g,.int .u64 x,.int .i64 t,S,.slice q m d] 27));have bW:Below w.heap.size w W:=by rw [hW];exact ay.alloc ax _
 have Jg:mh W w.heap.size e g x t S (.slice q m d):=by rw [hW];simp [mh]
 rw [<-hW];have BW:=ae bW;have Jy:=ae Jg
 go_loopw [8] (fun iv wr=>∃ k:Nat,k<=m/\iv=.int .i64 k/\Hid ((List.range k).all (fun i=>qg e g (ns.getD i dH))=true)/\Below W.heap.size W wr) (fun iv _=>m-(intOf iv).toNat)
 case atStart=>exact ⟨0,Nat.zero_le _,rfl,(by show _=_;rfl),Below.refl _ _⟩
 case round =>(
 obtain ⟨k,hk,rfl,gC,aT⟩:=hrel;have BB:=ai BW aT;obtain ⟨i0,i1,i2,i3,i4,i5⟩:=Jy.below aT;by_cases br:k<m;{
 have bt:(k:Int)<(m:Int):=by omega
 have dT:k<ns.length:=by rw [aa em];exact br
 obtain ⟨nd,hy⟩:∃ y,ns[k]?=some y:=⟨_,aE dT⟩;have xo:ns.getD k dH=nd:=by rw [List.getD_eq_getElem?_getD,hy];rfl
 obtain ⟨b,o,rfl,hA⟩:=(aa HR _ BB).1.at (by omega);obtain ⟨P,V,H,U,aK⟩:=hA k nd hy;obtain ⟨vm,js,Lj,Li,PV⟩:=aa fK _ (aF hy);obtain ⟨pp,pc,pn,rfl,wX⟩:=aK.r0.ew;obtain ⟨Ja,vc,vn,rfl,Np⟩:=aK.r1.ew;obtain ⟨hp,hc,hh,rfl,BF⟩:=aK.r4.ew;obtain ⟨up,uc,un,rfl,Ej⟩:=aK.r7.ew;have GQ:pn<=1048576:=by rw [<-aa wX];exact js
 have OO:vn<=1048576:=by rw [<-aa Np];exact Lj
 have Fj:hh<=1048576:=by rw [<-aa BF];exact Li
 have Kt:un<=1048576:=by rw [<-aa Ej];exact PV
 have Fp:Hid (bQ nd.path):=vm;obtain ⟨T,eV⟩:=aN (qg e g nd);have EV:=ae eV;have HF:Hid (T=false->B=false):=fun h=>by rw [aa HB,db br (by rw [xo,eV];exact h)];rfl
 have HT:Hid (T=true->Hid ((List.range (k+1)).all (fun i=>qg e g (ns.getD i dH))=true)):=fun h=>bU (aa gC) (by rw [xo,eV];exact h);have b2:Below wr.heap.size wr (wr.alloc (.cells #[.slice pp pn pc,.slice Ja vn vc,.int .u64 nd.owner,.int .i64 nd.mode,.slice hp hh hc,.int .u64 nd.aD,.int .u64 nd.gen,.slice up un uc] 38)):=ay.alloc ax _;have kM:=ae (aK.below b2);have Wn:=ae ((aa HR _ BB).2.below b2);obtain ⟨c0,c1,c2,c3,c4,c5,c6,c7,-,-,-,-,-⟩:=aK;have j0:=af i0 b2;have j1:=af i1 b2;have j2:=af i2 b2;have j3:=af i3 b2;have j4:=af i4 b2;have j5:=af i5 b2;go_wp2_with fail;refine (xA e g x t _ _ nd pp Ja hp up pc pn vc vn hc hh uc un wX Np BF Ej _ (by exact kM.r0) (by exact kM.r4) (by exact kM.r7) Fp GQ OO Fj Kt kM.k0 (by exact Wn) T EV).mono ?_;rintro r w2 ⟨rfl,aS⟩;have b3:=ai aT (ai b2 aS);have B3:=ai BW b3;cases T with
 | false=>
  have eF:=aa HF rfl;subst eF;go_wp2;go_ret;exact ⟨rfl,B3⟩
 | true=>
  have pL:=aa HT rfl;go_wp2;go_roundw
  case rel=>exact ⟨k+1,by omega,by go_num,pL,b3⟩
  case measure=>simp [intOf];omega}
 {
 have bt:¬ (k:Int)<(m:Int):=by omega
 have xr:k=m:=by omega
 have eT:B=T2:=by rw [aa HB,show (List.range m).all (fun i=>qg e g (ns.getD i dH))=true from xr▸aa gC,Bool.true_and]
 subst eT;go_wp2_with fail;refine (IL q d m ns em _ (aa HR _ BB).1 hm B E2).mono ?_;rintro r w2 ⟨rfl,aS⟩;have b3:=ai BB aS;go_wp2;go_ret;exact ⟨rfl,b3⟩})
theorem OJ:∀ (key:Value) (kl:Lit),keyOf prog 9 key=some kl->∃ s:ByteArray,key=.string s:=by
 intro key kl hk;cases key<;>simp [keyOf,underlying9,mapKey] at hk
 exact ⟨_,rfl⟩
theorem yj {s:ByteArray} (h:keyOf prog 9 (.string s)=some (bL l)):s=aY l:=by
 simp [keyOf,underlying9,mapKey] at h;exact Gz h.2
theorem jI (hl:bQ l) (hm:bQ m):(bL l).sameKey (bL m)=decide (l=m):=by
 rw [Bool.eq_iff_iff,WideAt.sameKey_iff (by trivial),decide_eq_true_iff];exact ⟨fun h=>iM hl hm h,fun h=>by rw [h]⟩
theorem Bl {SB NB HB UB:List Nat} (w:World) (cF:Hid (iB w0 w b bs bn e g x t ss ns SB NB HB UB)) (uA:Hid (∀ nd∈ns,bQ nd.path/\nd.path.length<=1048576)) (B:Bool) (eB:Hid (ns.all (fun nd=>dG ns (dF nd.path))=B)) :
  Calls prog 45 #[.pointer (some ⟨b,0,none⟩)] w fun r w'=>r=.returned (.bool B)/\Below w.heap.size w w':=by
 have KT:w.cell? ⟨b,5,none⟩=some (.map (some bn)):=aC cF.hd 5;obtain ⟨D,oD,mD⟩:=cF.jR.own;obtain ⟨m,em⟩:=aN ns.length;rw [em] at oD;have ad0:Hid (∀ nd∈ns,bQ nd.path):=fun nd h=>(aa uA nd h).1;have MD:=ae mD;go_enter func45,ntmps45;go_wp2_with (first
  | (at_range;refine wpList_range_own _ rfl _ 130 rfl 9 _ lD underlying130 _ bn m _ rfl oD ?_;intro w1 my ri GP)
  | go_in)
 go_frame
 go_loopw [3] (fun _ wr=>∃ (left:Lit->Bool) (kc:Nat),wr.ranges prog 9 aQ bn w.heap.size m D left kc/\Hid (∀ nd∈ns,left (bL nd.path)=false->dG ns (dF nd.path)=true)/\Below w.heap.size w wr) (fun _ wr=>wr.rangeLeft bn w.heap.size)
 case atStart =>(
 refine ⟨_,_,my,fun nd aK hl=>?_,lQ ri⟩;exfalso;obtain ⟨i,hi⟩:=List.getElem?_of_mem aK;obtain ⟨g1,h1,u1,q1,q2,q3⟩:=cF.jR.at hi;have:Maps.has D (bL nd.path)=true:=(MD.hs _).2 ⟨(bL nd.path,g1),by rw [List.mem_iff_getElem?];refine ⟨i,?_⟩;rw [List.getElem?_zipWith,hi,q1],rfl⟩
 rw [this] at hl;cases hl)
 case round =>(
 obtain ⟨left,kc,kK,gC,aT⟩:=hrel;have jQ:=ae (cF.below aT);go_wp2_with (first
  | (at_next;refine fG _ rfl _ rfl 9 lD (fun s:ByteArray=>.string s) OJ bn w.heap.size m _ _ MD _ _ rfl kK ?_ ?_)
  | go_in)
 {
 intro _ rh;have eT:B=true:=by rw [<-aa eB,List.all_eq_true];exact fun nd aK=>aa gC nd aK (rh _)
 subst eT;go_wp2;go_ret;exact ⟨rfl,aT⟩};{
 intro s pl g1 w2 rz dC hp Xj re br fN iQ wF;obtain ⟨i,nd,XN,hi,ux,ee⟩:=gm hp;simp only [Prod.mk.injEq] at ee;obtain ⟨rfl,rfl⟩:=ee;have aS:Below w.heap.size w w2:=bG aT fN aT.size (fun j hj=>by cases hj;exact Nat.le_refl _);obtain rfl:=yj dC;have aK:=aF hi;obtain ⟨vm,js⟩:=aa uA nd aK;obtain ⟨T,eT⟩:=aN (dG ns (dF nd.path));have ET:=ae eT;have HF:Hid (T=false->B=false):=fun h=>by rw [<-aa eB,List.all_eq_false];exact ⟨nd,aK,by rw [eT,h];simp⟩
 have HT:Hid (T=true->Hid (∀ nd'∈ns,(fun z=>left z&&!z.sameKey (bL nd.path)) (bL nd'.path)=false->dG ns (dF nd'.path)=true)):=fun h nd' TV hl=>by simp only [jI (aa uA nd' TV).1 vm] at hl;by_cases ep:nd'.path=nd.path;{rw [ep,eT,h]};{simp [ep] at hl;exact gC nd' TV hl}
 have kn:Hid (bQ nd.path):=vm;have jy:=ae (oG vm);have CJ:(dF nd.path).length<=1048577:=by unfold dF;split;{simp};{rw [List.length_take];omega}
 have am2:=ae (cF.below aS);have Pq:(Instr.entry (.pointer (some ⟨w.heap.size,0,none⟩))).run prog w2=.ok (.tuple #[.string (aY nd.path),.pointer (some ⟨g1,0,none⟩)]) w2:=wF;go_wp2_with fail;refine (vR nd.path _ (by show _=_;rfl) kn js _).mono ?_;rintro r w3 ⟨rfl,rfl⟩;go_wp2_with fail;refine (y9 (dF nd.path) _ am2 jy ad0 CJ T ET).mono ?_;rintro r w4 ⟨rfl,fO⟩;have b4:=ai aS fO;cases T with
 | false=>
  have eF:=aa HF rfl;subst eF;go_wp2;go_ret;exact ⟨rfl,b4⟩
 | true=>
  have pL:=aa HT rfl;have sJ:=re.kept (aw fO none) (by simp) (by simp);go_wp2;go_roundw
  case rel=>exact ⟨_,rz,sJ,pL,b4⟩
  case measure=>rw [sJ.left_eq,kK.left_eq];exact br})
def pK (nd:aA) (i:Int):Prop:=(nd.owner≠0/\i=nd.owner)\/i∈nd.holders\/i∈nd.watchers
theorem cI.del {s:List Int} (h:cI D s) (i:Int):cI (D.del (.int .u64 i)) (s.filter fun j=>decide (j≠i)):=by
 intro k';by_cases e:k'=.int .u64 i;{subst e;rw [Maps.has_del_same];simp};{rw [Maps.has_del_other e,h k'];constructor;{rintro ⟨j,hj,rfl⟩;refine ⟨j,?_,rfl⟩;rw [List.mem_filter];exact ⟨hj,by simpa using fun hh=>e (by rw [hh])⟩};{rintro ⟨j,hj,rfl⟩;exact ⟨j,(List.mem_filter.1 hj).1,rfl⟩}}
theorem Zi:∀ (key:Value) (kl:Lit),keyOf prog 23 key=some kl->∃ i:Int,key=.int .u64 i:=by
 intro key kl hk;obtain ⟨x,rfl,_⟩:=keyOf_int_inv underlying23 hk;exact ⟨x,rfl⟩
theorem kI.uniq {NB HB UB:List Nat} (h:kI w0 w bn ns NB HB UB) {nd':aA} (hi:ns[i]?=some nd) (hj:ns[j]?=some nd') (hp:nd.path=nd'.path):nd=nd':=by
 obtain ⟨D,_,mD⟩:=h.own;obtain ⟨g1,_,_,q1,_,_⟩:=h.at hi;obtain ⟨g2,_,_,q2,_,_⟩:=h.at hj;have m1:(bL nd.path,g1)∈List.zipWith (fun (nd:aA) g=>(bL nd.path,g)) ns NB:=by rw [List.mem_iff_getElem?];exact ⟨i,by rw [List.getElem?_zipWith,hi,q1]⟩
 have m2:(bL nd'.path,g2)∈List.zipWith (fun (nd:aA) g=>(bL nd.path,g)) ns NB:=by rw [List.mem_iff_getElem?];exact ⟨j,by rw [List.getElem?_zipWith,hj,q2]⟩
 have e1:=mD.at' _ m1 .nil;have e2:=mD.at' _ m2 .nil;simp only [hp] at e1;simp only at e2;rw [e1] at e2;simp only [DataW.lit.injEq,Lit.int.injEq,true_and,Int.natCast_inj] at e2;subst e2;have l1:=(aJ.1 q1).1;have l2:=(aJ.1 q2).1;have D6:=List.pairwise_iff_getElem.1 h.jR;have v1:=(aJ.1 q1).2;have v2:=(aJ.1 q2).2;have:i=j:=by rcases Nat.lt_trichotomy i j with hh | hh | hh;{exact absurd (v1.trans v2.symm) (D6 i j l1 l2 hh)};{exact hh};{exact absurd (v2.trans v1.symm) (D6 j i l2 l1 hh)}
 subst this;rw [hi] at hj;cases hj
 rfl
theorem ud {SB NB HB UB:List Nat} (w:World) (cF:Hid (iB w0 w b bs bn e g x t ss ns SB NB HB UB)) (uA:Hid (∀ nd∈ns,bQ nd.path/\nd.holders.length<=1048576/\nd.watchers.length<=1048576)) (TG:Hid (∀ nd∈ns,0<=nd.owner/\nd.owner<18446744073709551616)) (m:Nat) (em:Hid (ns.length=m)) (hm:m<=1048576) (n:Nat) (en:Hid (ss.length=n)) :
  Calls prog 46 #[.pointer (some ⟨b,0,none⟩)] w fun r w'=>∃ nb k D s,r=.returned (.map (some nb))/\w'.ownsMap prog 23 unitElem nb k D/\cI D s/\(∀ i,i∈s↔(∃ nd∈ns,pK nd i)/\¬ ∃ z∈ss,z.1=i)/\Below w.heap.size w w':=by
 have KT:w.cell? ⟨b,5,none⟩=some (.map (some bn)):=aC cF.hd 5;have yF:w.cell? ⟨b,4,none⟩=some (.map (some bs)):=aC cF.hd 4;have Bk:b<w.heap.size:=aI cF.hd;obtain ⟨D,oD,mD⟩:=cF.jR.own;obtain ⟨Ds,oS,mS⟩:=cF.Cl.own;rw [aa em] at oD;rw [aa en] at oS;have MD:=ae mD;have MS:=ae mS;have OS:=ae oS;have Yr:=ae yF;have Fi:=@run_makeMap prog;have b1:Below w.heap.size w (w.alloc (.map #[] 0)):=ay.alloc ax _;have aZ5:=af KT b1;have oD1:=oD.alloc (.map #[] 0);go_enter func46,ntmps46;go_wp2_with (first
  | (at_range;refine wpList_range_own _ rfl _ 130 rfl 9 _ lD underlying130 _ bn m _ rfl oD1 ?_;intro w1 my ri GP)
  | go_in)
 go_frame
 have ik:(w.alloc (.map #[] 0)).heap.size=w.heap.size+1:=by simp
 have bf:Below w.heap.size w w1:=ai b1 (lQ ri);have o0:w1.ownsMap prog 23 (unitElem (H:=Unit)) w.heap.size 0 (.map []):=(World.ownsMap_made w _ _ _).kept ri (by simp);rw [ik] at my ⊢;have HZ1:=ae ik
 go_loopw [5] (fun _ wr=>∃ (left:Lit->Bool) (kc k:Nat) (E:DataW Unit) (s:List Int),wr.ranges prog 9 aQ bn (w.heap.size+1) m D left kc/\k+kc*2097153<=m*2097153/\wr.ownsMap prog 23 unitElem w.heap.size k E/\Hid (cI E s/\∀ i,i∈s↔∃ nd∈ns,left (bL nd.path)=false/\pK nd i)/\Below w.heap.size w wr) (fun _ wr=>wr.rangeLeft bn (w.heap.size+1))
 case atStart =>(
 refine ⟨_,_,0,_,[],my,?_,o0,⟨cI.nil,fun i=>?_⟩,bf⟩;{have:=oD.size_le;omega};{
 constructor;{intro h;cases h};{
 rintro ⟨nd,aK,hl,_⟩;exfalso;obtain ⟨i,hi⟩:=List.getElem?_of_mem aK;obtain ⟨g1,h1,u1,q1,q2,q3⟩:=cF.jR.at hi;have:Maps.has D (bL nd.path)=true:=(MD.hs _).2 ⟨(bL nd.path,g1),by rw [List.mem_iff_getElem?];refine ⟨i,?_⟩;rw [List.getElem?_zipWith,hi,q1],rfl⟩
 rw [this] at hl;cases hl}})
 case round =>(
 obtain ⟨left,kc,k,E,s,kK,Z8,bj,kH,aT⟩:=hrel;go_wp2_with (first
  | (at_next;refine fG _ rfl _ rfl 9 lD (fun s:ByteArray=>.string s) OJ bn (w.heap.size+1) m _ _ (aa MD) _ _ (by first | rfl | (rw [<-aa HZ1];rfl)) kK ?_ ?_)
  | go_in)
 {
 intro _ rh;have iQ:Hid (∀ i,i∈s↔∃ nd∈ns,pK nd i):=fun i=>by rw [kH.2 i];constructor;{rintro ⟨nd,h1,_,h2⟩;exact ⟨nd,h1,h2⟩};{rintro ⟨nd,h1,h2⟩;exact ⟨nd,h1,rh _,h2⟩}
 have GO:=ae kH.1;have yF:=af Yr aT;have oS1:=OS.kept (aw aT none) (by simp);obtain ⟨Y,eY⟩:=ar wr;subst eY;go_wp2_with (first
  | (at_range;refine wpList_range_own _ rfl _ 129 rfl 23 _ gD underlying129 _ bs n _ rfl oS1 ?_;intro w3 oY qL hs3)
  | go_in)
 go_frame
 have ve:=bj.kept qL (by simp);have dA:Below w.heap.size w w3:=bG aT qL aT.size (fun j hj=>by cases hj);have tL:w.heap.size<Y.heap.size:=bj.lt
 go_loopw [6] (fun _ wr=>∃ (left:Lit->Bool) (kc:Nat) (E:DataW Unit) (s':List Int),wr.ranges prog 23 aQ bs Y.heap.size n Ds left kc/\wr.ownsMap prog 23 unitElem w.heap.size k E/\Hid (cI E s'/\∀ i,i∈s'↔i∈s/\¬ ∃ z∈ss,z.1=i/\left (.int .u64 i)=false)/\Below w.heap.size w wr) (fun _ wr=>wr.rangeLeft bs Y.heap.size)
 case atStart =>(
 refine ⟨_,_,E,s,oY,ve,⟨GO,fun i=>?_⟩,dA⟩;constructor;{
 intro hi;refine ⟨hi,?_⟩;rintro ⟨z,hz,rfl,hl⟩;obtain ⟨j,hj⟩:=List.getElem?_of_mem hz;obtain ⟨gz,KL⟩:∃ gz,SB[j]?=some gz:=⟨_,aE (by rw [cF.Cl.len];exact (aJ.1 hj).1)⟩;have:Maps.has Ds (.int .u64 z.1)=true:=(MS.hs _).2 ⟨(.int .u64 z.1,gz),by rw [List.mem_iff_getElem?];exact ⟨j,by rw [List.getElem?_zipWith,hj,KL]⟩,rfl⟩
 rw [this] at hl;cases hl};{exact fun h=>h.1})
 case round =>(
 obtain ⟨left,kc,E1,s',kK,kF,kH,aT⟩:=hrel;go_wp2_with (first
  | (at_next;refine fG _ rfl _ rfl 23 gD (fun i:Int=>.int .u64 i) Zi bs Y.heap.size n _ _ MS _ _ rfl kK ?_ ?_)
  | go_in)
 {intro _ rh;have HS:=aa kH;go_wp2;go_ret;refine ⟨w.heap.size,k,E1,s',rfl,kF,HS.1,fun i=>?_,aT⟩;rw [HS.2 i,aa iQ i];constructor;{rintro ⟨h1,h2⟩;exact ⟨h1,fun ⟨z,hz,e⟩=>h2 ⟨z,hz,e,rh _⟩⟩};{rintro ⟨h1,h2⟩;exact ⟨h1,fun ⟨z,hz,e,_⟩=>h2 ⟨z,hz,e⟩⟩}};{
 intro i0 pl g1 w4 rz dC hp Xj re br fN Tv wF;obtain ⟨j,z,XN,hj,Xr,ee⟩:=gm hp;simp only [Prod.mk.injEq] at ee;obtain ⟨rfl,rfl⟩:=ee;obtain ⟨i1,e1,e2,To⟩:=keyOf_int_inv underlying23 dC;simp only [Value.int.injEq,true_and] at e1;simp only [Lit.int.injEq,true_and] at e2;subst e1;subst e2;have fO:Below w.heap.size w w4:=bG aT fN aT.size (fun j hj=>by cases hj;omega);have qK:=kF.kept fN (by simp;omega);have Pq:(Instr.entry (.pointer (some ⟨Y.heap.size,0,none⟩))).run prog w4=.ok (.tuple #[.int .u64 z.1,.pointer (some ⟨g1,0,none⟩)]) w4:=wF;have B7:Hid (cI (E1.del (.int .u64 z.1)) (s'.filter fun j=>decide (j≠z.1))/\∀ i,i∈(s'.filter fun j=>decide (j≠z.1))↔i∈s/\¬ ∃ y∈ss,y.1=i/\(fun q=>left q&&!q.sameKey (.int .u64 z.1)) (.int .u64 i)=false):=by
  refine ⟨kH.1.del z.1,fun i=>?_⟩;rw [List.mem_filter,kH.2 i];have hk:((Lit.int .u64 i).sameKey (.int .u64 z.1)=true)↔i=z.1:=by rw [WideAt.sameKey_iff (by trivial)];simp
  by_cases ei:i=z.1;{subst ei;simp only [ne_eq,not_true_eq_false,decide_false,Bool.false_eq_true,and_false,false_iff];rintro ⟨_,h2⟩;exact h2 ⟨z,aF hj,rfl,by simp [hk.2 rfl]⟩};{simp [ei,show (Lit.int .u64 i).sameKey (.int .u64 z.1)=false by (rw [Bool.eq_false_iff];exact fun h=>ei (hk.1 h))]}
 go_wp2_with (first
  | (at_delete;refine wpList_delete_own _ rfl _ _ 84 23 rfl _ gD underlying84 unitElem w.heap.size k _ rfl qK _ _ rfl (keyOf_int_mk underlying23 To) ?_;intro w5 sK OP;go_frame)
  | go_in)
 have sO:=OP.grown;have j7:Below w.heap.size w w5:=bG fO sO fO.size (fun j hj=>by cases hj;exact Nat.le_refl _);have qj:=re.kept sO (by have:=OS.lt;simp;omega) (by simp;omega);go_roundw
 case rel=>exact ⟨_,rz,_,_,qj,sK,B7,j7⟩
 case measure=>rw [qj.left_eq,kK.left_eq];exact br})}
 {
 intro sb pl g1 w2 rz dC hp Xj re br fN iQ wF;obtain ⟨i,nd,XN,hi,ux,ee⟩:=gm hp;simp only [Prod.mk.injEq] at ee;obtain ⟨rfl,rfl⟩:=ee;have aS:Below w.heap.size w w2:=bG aT fN aT.size (fun j hj=>by cases hj;omega);obtain rfl:=yj dC;have aK:=aF hi;obtain ⟨vm,KG,yA⟩:=aa uA nd aK;obtain ⟨g2,h1,u1,q1,q2,q3⟩:=cF.jR.at hi;rw [ux] at q1;cases q1;obtain ⟨_,_,_,⟨V,a4,_⟩,⟨Dh,oh,sh⟩,⟨Du,ou,su⟩⟩:=cF.jR.aB i nd g1 h1 u1 hi ux q2 q3;have yC:g1<w.heap.size:=aI a4;have k1:w.cell? ⟨g1,1,none⟩=some (.int .u64 nd.owner):=aC a4 1;have k3:w.cell? ⟨g1,3,none⟩=some (.map (some h1)):=aC a4 3;have k6:w.cell? ⟨g1,6,none⟩=some (.map (some u1)):=aC a4 6;have SH:=ae sh;have SU:=ae su;have sL:=bj.kept fN (by first | (simp;done) | (simp;omega));have Pq:(Instr.entry (.pointer (some ⟨w.heap.size+1,0,none⟩))).run prog w2=.ok (.tuple #[.string (aY nd.path),.pointer (some ⟨g1,0,none⟩)]) w2:=wF;have RR:∀ i:Int,((i∈s\/(nd.owner≠0/\i=nd.owner))\/i∈nd.holders)\/i∈nd.watchers↔∃ nd'∈ns,(fun z=>left z&&!z.sameKey (bL nd.path)) (bL nd'.path)=false/\pK nd' i:=by intro i0;rw [kH.2 i0];constructor;{rintro (((⟨nd',h1,h2,h3⟩ | h) | h) | h);{exact ⟨nd',h1,by simp [h2],h3⟩};{exact ⟨nd,aK,by simp [jI vm vm],.inl h⟩};{exact ⟨nd,aK,by simp [jI vm vm],.inr (.inl h)⟩};{exact ⟨nd,aK,by simp [jI vm vm],.inr (.inr h)⟩}};{rintro ⟨nd',h1,h2,h3⟩;by_cases ep:nd'.path=nd.path;{obtain ⟨j,hj⟩:=List.getElem?_of_mem h1;have:=cF.jR.uniq hj hi ep;subst this;rcases h3 with h3 | h3 | h3;{exact .inl (.inl (.inr h3))};{exact .inl (.inr h3)};{exact .inr h3}};{refine .inl (.inl (.inl ⟨nd',h1,?_,h3⟩));simpa [jI (aa uA nd' h1).1 vm,ep] using h2}}
 have hO:=aa TG nd aK;by_cases ho:nd.owner=0;{
 have d1:=(bu (aS.block g1 yC) 1).trans k1;have d3:=(bu (aS.block g1 yC) 3).trans k3;have d6:=(bu (aS.block g1 yC) 6).trans k6;rw [ho] at d1;have M3:∀ i,i∈s↔i∈s\/(nd.owner≠0/\i=nd.owner):=fun i=>by simp [ho]
 have S3:=ae kH.1;have dA:=aS;have ve:=sL;have oY:=re;obtain ⟨w3,e3⟩:=ar w2;obtain ⟨K3,eK⟩:=ar k;obtain ⟨E3,eE⟩:=ar E;obtain ⟨s3,eS⟩:=ar s;have Ld:K3<=k+1:=by omega
 subst e3 eK eE eS;go_wp2_with fail;refine (me w.heap.size h1 K3 nd.holders.length E3 Dh s3 nd.holders w3 ve (oh.kept (aw dA none) (by simp)) S3 SH (by have:=oh.lt;omega) (by omega) KG).mono ?_;rintro r w4 ⟨E4,s4,rfl,qK,GM,GY,pf⟩;have fO:Below w.heap.size w w4:=bG dA pf dA.size (fun j hj=>by cases hj;exact Nat.le_refl _);have f6:=(bu (fO.block g1 yC) 6).trans k6;have S4:=ae GM;go_wp2_with fail;refine (me w.heap.size u1 _ nd.watchers.length E4 Du s4 nd.watchers w4 qK (ou.kept (aw fO none) (by simp)) S4 SU (by have:=ou.lt;omega) (by omega) yA).mono ?_;rintro r w5 ⟨E5,s5,rfl,sK,GL,GX,sO⟩;have j7:Below w.heap.size w w5:=bG fO sO fO.size (fun j hj=>by cases hj;exact Nat.le_refl _);have qj:=(oY.kept pf (by have:=oD.lt;simp;omega) (by first | (simp;done) | (simp;omega))).kept sO (by have:=oD.lt;simp;omega) (by first | (simp;done) | (simp;omega));have B7:Hid (cI E5 s5/\∀ i,i∈s5↔∃ nd'∈ns,(fun z=>left z&&!z.sameKey (bL nd.path)) (bL nd'.path)=false/\pK nd' i):=⟨GL,fun i=>by rw [GX,GY,M3,RR]⟩
 go_wp2;go_roundw
 case rel=>first | exact ⟨_,rz,qj,_,by omega,E5,sK,s5,B7,j7⟩ | exact ⟨_,rz,_,E5,s5,qj,by omega,sK,B7,j7⟩
 case measure=>rw [qj.left_eq,kK.left_eq];exact br}
 {
 have Rb:(nd.owner != 0)=true:=by simp [ho]
 have d1:=(bu (aS.block g1 yC) 1).trans k1;have Ui:keyOf prog 23 (.int .u64 nd.owner)=some (.int .u64 nd.owner):=keyOf_int_mk underlying23 (kU hO);have M3:∀ i,i∈s++[nd.owner]↔i∈s\/(nd.owner≠0/\i=nd.owner):=fun i=>by simp [ho]
 have S3:=ae (kH.1.put bj.isMap nd.owner (.agg []));go_wp2_with (first
  | (at_mapUpdate;refine wpList_mapUpdate_own _ rfl _ _ _ 84 rfl 23 _ gD underlying84 unitElem w.heap.size k _ rfl sL (by unfold maxLen;omega) _ _ _ rfl rfl Ui (.agg []) [] unitElem_mk ?_;intro w3 ve He;have dA:Below w.heap.size w w3:=bG aS He aS.size (fun j hj=>by cases hj;exact Nat.le_refl _);have d3:=(bu (dA.block g1 yC) 3).trans k3;have d6:=(bu (dA.block g1 yC) 6).trans k6)
  | fail)
 have oY:=re.kept He (by have:=oD.lt;simp;omega) (by first | (simp;done) | (simp;omega));obtain ⟨K3,eK⟩:=ar (k+1);obtain ⟨E3,eE⟩:=ar (E.put (.int .u64 nd.owner) (.agg []));obtain ⟨s3,eS⟩:=ar (s++[nd.owner]);have Ld:K3<=k+1:=by omega
 rw [<-eK,<-eE] at ve;rw [<-eE,<-eS] at S3;rw [<-eS] at M3;refine (me w.heap.size h1 K3 nd.holders.length E3 Dh s3 nd.holders w3 ve (oh.kept (aw dA none) (by simp)) S3 SH (by have:=oh.lt;omega) (by omega) KG).mono ?_;rintro r w4 ⟨E4,s4,rfl,qK,GM,GY,pf⟩;have fO:Below w.heap.size w w4:=bG dA pf dA.size (fun j hj=>by cases hj;exact Nat.le_refl _);have f6:=(bu (fO.block g1 yC) 6).trans k6;have S4:=ae GM;go_wp2_with fail;refine (me w.heap.size u1 _ nd.watchers.length E4 Du s4 nd.watchers w4 qK (ou.kept (aw fO none) (by simp)) S4 SU (by have:=ou.lt;omega) (by omega) yA).mono ?_;rintro r w5 ⟨E5,s5,rfl,sK,GL,GX,sO⟩;have j7:Below w.heap.size w w5:=bG fO sO fO.size (fun j hj=>by cases hj;exact Nat.le_refl _);have qj:=(oY.kept pf (by have:=oD.lt;simp;omega) (by first | (simp;done) | (simp;omega))).kept sO (by have:=oD.lt;simp;omega) (by first | (simp;done) | (simp;omega));have B7:Hid (cI E5 s5/\∀ i,i∈s5↔∃ nd'∈ns,(fun z=>left z&&!z.sameKey (bL nd.path)) (bL nd'.path)=false/\pK nd' i):=⟨GL,fun i=>by rw [GX,GY,M3,RR]⟩
 go_wp2;go_roundw
 case rel=>first | exact ⟨_,rz,qj,_,by omega,E5,sK,s5,B7,j7⟩ | exact ⟨_,rz,_,E5,s5,qj,by omega,sK,B7,j7⟩
 case measure=>rw [qj.left_eq,kK.left_eq];exact br}})
theorem Kq (ss:List aL) (ids:List Int):dZ ss ids=true↔zk ids=true/\∀ i∈ids,live ss i=true:=by
 simp only [dZ,zk,fU,List.all_eq_true,List.mem_range,uk,Bool.and_eq_true];constructor;{intro h;refine ⟨fun i hi=>(h i hi).2,fun y hy=>?_⟩;obtain ⟨i,hi,rfl⟩:=List.getElem_of_mem hy;have:=(h i hi).1;rwa [List.getD_eq_getElem?_getD,aE hi] at this};{rintro ⟨h1,h2⟩ i hi;refine ⟨h2 _ ?_,h1 i hi⟩;rw [List.getD_eq_getElem?_getD,aE hi];exact List.getElem_mem hi}
theorem iA {α:Type} (l:List α) (d:α) (f:α->Bool):(∀ i,i<l.length->f (l.getD i d)=true)↔∀ y∈l,f y=true:=by
 constructor;{intro h y hy;obtain ⟨i,hi,rfl⟩:=List.getElem_of_mem hy;have:=h i hi;rwa [List.getD_eq_getElem?_getD,aE hi] at this};{intro h i hi;rw [List.getD_eq_getElem?_getD,aE hi];exact h _ (List.getElem_mem hi)}
theorem JS (x:Int) (ss:List aL):(List.range ss.length).all (gU x ss)=true↔gJ x ss=true:=by
 simp only [gJ,fU,List.all_eq_true,List.mem_range,gU,sa,Bool.and_eq_true];constructor;{intro h;exact ⟨fun i hi=>⟨(h i hi).1,(h i hi).2.1,(h i hi).2.2.2⟩,fun i hi=>(h i hi).2.2.1⟩};{rintro ⟨h1,h2⟩ i hi;exact ⟨(h1 i hi).1,(h1 i hi).2.1,h2 i hi,(h1 i hi).2.2⟩}
theorem Ka (e g:Int) (ss:List aL) (ns:List aA):(List.range ns.length).all (gq e g ss ns)=true↔gL e g ns=true/\ns.all (fun nd=>dG ns (dF nd.path))=true/\∀ nd∈ns,∀ i,pK nd i->live ss i=true:=by
 have key:∀ k,gq e g ss ns k=true↔(qg e g (ns.getD k dH)=true/\(k==0||!leB (ns.getD k dH).path (ns.getD (k-1) dH).path)=true)/\dG ns (dF (ns.getD k dH).path)=true/\(fun nd=>decide (nd.owner=0)||live ss nd.owner) (ns.getD k dH)=true/\(fun nd:aA=>nd.holders.all (live ss)) (ns.getD k dH)=true/\(fun nd:aA=>nd.watchers.all (live ss)) (ns.getD k dH)=true:=by
  intro k;simp only [gq,qg,Bool.and_eq_true,Kq,List.all_eq_true];have:((ns.getD k dH).owner==0||live ss (ns.getD k dH).owner)=(decide ((ns.getD k dH).owner=0)||live ss (ns.getD k dH).owner):=by
   congr 1
  rw [this];constructor;{rintro ⟨⟨a1,a2⟩,a3,a4,a5,⟨a6,a7⟩,⟨a8,a9⟩,a10⟩;exact ⟨⟨⟨a1,a4,a10,a6,a8⟩,a2⟩,a3,a5,a7,a9⟩};{rintro ⟨⟨⟨a1,a4,a10,a6,a8⟩,a2⟩,a3,a5,a7,a9⟩;exact ⟨⟨a1,a2⟩,a3,a4,a5,⟨a6,a7⟩,⟨a8,a9⟩,a10⟩}
 simp only [gL,fU,List.all_eq_true,List.mem_range,Bool.and_eq_true,key];rw [<-iA ns dH];constructor;{intro h;refine ⟨⟨fun i hi=>(h i hi).1.1,fun i hi=>(h i hi).1.2⟩,fun i hi=>(h i hi).2.1,?_⟩;have h3:=(iA ns dH (fun nd=>decide (nd.owner=0)||live ss nd.owner)).1 (fun i hi=>(h i hi).2.2.1);have h4:=(iA ns dH (fun nd:aA=>nd.holders.all (live ss))).1 (fun i hi=>List.all_eq_true.2 (h i hi).2.2.2.1);have h5:=(iA ns dH (fun nd:aA=>nd.watchers.all (live ss))).1 (fun i hi=>List.all_eq_true.2 (h i hi).2.2.2.2);rintro nd aK i (⟨h1,rfl⟩ | h1 | h1);{have:=h3 nd aK;simpa [h1] using this};{exact List.all_eq_true.1 (h4 nd aK) i h1};{exact List.all_eq_true.1 (h5 nd aK) i h1}};{rintro ⟨⟨h1,h2⟩,h3,h4⟩ i hi;refine ⟨⟨h1 i hi,h2 i hi⟩,h3 i hi,?_,?_,?_⟩;{refine (iA ns dH (fun nd=>decide (nd.owner=0)||live ss nd.owner)).2 (fun nd aK=>?_) i hi;by_cases ho:nd.owner=0;{simp [ho]};{simp [ho,h4 nd aK nd.owner (.inl ⟨ho,rfl⟩)]}};{exact List.all_eq_true.1 ((iA ns dH (fun nd:aA=>nd.holders.all (live ss))).2 (fun nd aK=>List.all_eq_true.2 fun j hj=>h4 nd aK j (.inr (.inl hj))) i hi)};{exact List.all_eq_true.1 ((iA ns dH (fun nd:aA=>nd.watchers.all (live ss))).2 (fun nd aK=>List.all_eq_true.2 fun j hj=>h4 nd aK j (.inr (.inr hj))) i hi)}}
theorem xG (e g x t:Int) (ss:List aL) (ns:List aA):jl e g x t ss ns=true↔sA e g x t ss.length ns.length=true/\gJ x ss=true/\gL e g ns=true/\ns.all (fun nd=>dG ns (dF nd.path))=true/\∀ nd∈ns,∀ i,pK nd i->live ss i=true:=by
 rw [jl,Bool.and_eq_true,Bool.and_eq_true,JS,Ka];exact Iff.rfl
theorem x8 (ss:List aL) (i:Int):live ss i=true↔∃ z∈ss,z.1=i:=by
 rw [live,List.any_eq_true];simp
theorem mg:∀ a:List UInt8,Op.bytesLess a a=false
 | []=>rfl
 | x::a=>by simp [Op.bytesLess,mg a,UInt8.lt_irrefl]
theorem pG:∀ {a b c:List UInt8},Op.bytesLess a b=true->Op.bytesLess b c=true->Op.bytesLess a c=true
 | _,[],_,h,_=>by simp [Op.bytesLess] at h
 | _,_::_,[],_,h=>by simp [Op.bytesLess] at h
 | [],_::_,_::_,_,_=>rfl
 | x::a,y::b,z::c,h,k=>by simp only [Op.bytesLess,Bool.or_eq_true,decide_eq_true_eq,Bool.and_eq_true,beq_iff_eq] at h k ⊢;rcases h with h | ⟨rfl,h⟩;{rcases k with k | ⟨rfl,k⟩;{exact .inl (UInt8.lt_trans h k)};{exact .inl h}};{rcases k with k | ⟨rfl,k⟩;{exact .inl k};{exact .inr ⟨rfl,pG h k⟩}}
theorem zb:∀ {a b:List UInt8},Op.bytesLess a b=false->a≠b->Op.bytesLess b a=true
 | [],[],_,h=>absurd rfl h
 | [],_::_,h,_=>by simp [Op.bytesLess] at h
 | _::_,[],_,_=>rfl
 | x::a,y::b,h,bq=>by
  simp only [Op.bytesLess,Bool.or_eq_false_iff,decide_eq_false_iff_not] at h;simp only [Op.bytesLess,Bool.or_eq_true,decide_eq_true_eq,Bool.and_eq_true,beq_iff_eq];by_cases Xa:x=y;{
 subst Xa
 right
 refine ⟨rfl,zb ?_ (fun e=>bq (by rw [e]))⟩;simpa using h.2};{exact .inl (UInt8.lt_of_le_of_ne (UInt8.not_lt.1 h.1) (Ne.symm Xa))}
theorem pI {n:Nat} {lt:Nat->Nat->Bool} (h:fU n lt=true) (tr:∀ i j k,lt i j=true->lt j k=true->lt i k=true):∀ (j i:Nat),j<n->i<j->lt i j=true:=by
 have hs:∀ j,j+1<n->lt j (j+1)=true:=fun j hj=>by have:=List.all_eq_true.1 h (j+1) (List.mem_range.2 hj);simpa using this
 intro j
 induction j with
 | zero=>intro i _ hi;omega
 | succ j ih=>
  intro i hj hi;by_cases e:i=j;{subst e;exact hs i hj};{exact tr i j (j+1) (ih i (by omega) (by omega)) (hs j hj)}
theorem uP (h:gJ x ss=true):∀ (i j:Nat) (s s':aL),ss[i]?=some s->ss[j]?=some s'->i<j->s.1≠s'.1:=by
 intro i j s s' hi hj ic;rw [gJ,Bool.and_eq_true] at h;have:=pI h.2 (fun i j k h1 h2=>by simp at h1 h2 ⊢;omega) j i (aJ.1 hj).1 ic;simp only [List.getD_eq_getElem?_getD,hi,hj,Option.getD_some,decide_eq_true_eq] at this;omega
theorem ir :(!leB l m)=true↔Op.bytesLess (aY m).toList (aY l).toList=true:=by
 simp only [leB,Bool.not_eq_true',Bool.or_eq_false_iff,beq_eq_false_iff_ne];constructor;{rintro ⟨h1,h2⟩;exact zb h1 h2};{intro h;refine ⟨?_,fun e=>?_⟩;{rw [Bool.eq_false_iff];intro h2;have:=pG h h2;rw [mg] at this;cases this};{rw [e,mg] at h;cases h}}
theorem uW (h:gL e g ns=true):∀ (i j:Nat) (z z':aA),ns[i]?=some z->ns[j]?=some z'->i<j->z.path≠z'.path:=by
 intro i j z z' hi hj ic;rw [gL,Bool.and_eq_true] at h;have:=pI h.2 (fun i j k h1 h2=>ir.2 (pG (ir.1 h1) (ir.1 h2))) j i (aJ.1 hj).1 ic;simp only [List.getD_eq_getElem?_getD,hi,hj,Option.getD_some] at this;intro e;rw [e,ir,mg] at this;cases this
theorem Ck (h:gJ x ss=true) (hx:x<=4611686018427387904):∀ s∈ss,0<=s.1/\s.1<18446744073709551616:=by
 rw [gJ,Bool.and_eq_true,List.all_eq_true] at h;have H:=(iA ss (0,0,[]) (sa x)).1 fun i hi=>h.1 i (List.mem_range.2 hi);intro s hs;have:=H s hs;simp only [sa,Bool.and_eq_true,decide_eq_true_eq] at this;omega
theorem OK (e g x t:Int) (p q:Option Addr) (c n d m:Nat) (ss:List aL) (ns:List aA) (en:Hid (ss.length=n)) (em:Hid (ns.length=m)) (w:World) (h:gh w (.slice p n c) ss) (hN:mi w (.slice q m d) ns) (hn:n<=1048576) (hm:m<=1048576)
  (yG:Hid (∀ s∈ss,s.2.2.length<=1048576/\∀ e∈s.2.2,bQ e.2/\e.2.length<=1048576))
  (fK:Hid (∀ nd∈ns,bQ nd.path/\nd.path.length<=1048576/\nd.value.length<=1048576/\nd.holders.length<=1048576/\nd.watchers.length<=1048576))
  (ME:Hid (∀ nd∈ns,(∀ i∈nd.holders,0<=i/\i<18446744073709551616)/\∀ i∈nd.watchers,0<=i/\i<18446744073709551616))
  (TG:Hid (∀ nd∈ns,0<=nd.owner/\nd.owner<18446744073709551616)) (xq:ML w) (B:Bool) (eB:Hid (jl e g x t ss ns=B)) :
  Calls prog 15 #[cK e g x t (.slice p n c) (.slice q m d)] w fun r w'=>r=.returned (.bool B)/\Below w.heap.size w w':=by
 have HR:=ae fun (w':World) (hb:Below w.heap.size w w')=>ag (h.below hb) (ag (hN.below hb) (xq.below hb));have HI:Hid (B=true↔sA e g x t n m=true/\gJ x ss=true/\gL e g ns=true/\ns.all (fun nd=>dG ns (dF nd.path))=true/\∀ nd∈ns,∀ i,pK nd i->live ss i=true):=by show _↔_;rw [<-aa eB,xG,aa en,aa em]
 obtain ⟨T1,E1⟩:∃ T,Hid (sA e g x t n m=T):=⟨_,(by show _=_;rfl)⟩;obtain ⟨T2,E2⟩:∃ T,Hid (gJ x ss=T):=⟨_,(by show _=_;rfl)⟩;obtain ⟨T3,E3⟩:∃ T,Hid (gL e g ns=T):=⟨_,(by show _=_;rfl)⟩;obtain ⟨T4,E4⟩:∃ T,Hid (ns.all (fun nd=>dG ns (dF nd.path))=T):=⟨_,(by show _=_;rfl)⟩;obtain ⟨W,hW⟩:=ar (w.alloc (.cells #[.int .u64 e,.int .u64 g,.int .u64 x,.int .i64 t,.slice p n c,.slice q m d] 27));have bW:Below w.heap.size w W:=by rw [hW];exact ay.alloc ax _
 have Jg:mh W w.heap.size e g x t (.slice p n c) (.slice q m d):=by rw [hW];simp [mh]
 have Jy:=ae Jg;go_enter func15,ntmps15;go_wp2_with fail;rw [<-hW];refine (AH e g x t p q c n d m _ hn hm T1 E1).mono ?_;rintro r w1 ⟨rfl,bf⟩;have b1:=ai bW bf;cases T1 with
 | false=>
  have eF:B=false:=by rw [Bool.eq_false_iff];intro hB;have:=(HI.1 hB).1;rw [aa E1] at this;cases this
  subst eF;go_wp2;go_ret;exact ⟨rfl,b1⟩
 | true=>
  obtain ⟨i0,i1,i2,i3,i4,i5⟩:=Jy.below bf;go_wp2_with fail;refine (oo e g x t p c n _ ss en _ (aa HR _ b1).1 hn yG (aa HR _ b1).2.2 T2 E2).mono ?_;rintro r w2 ⟨rfl,aS⟩;have b2:=ai b1 aS;cases T2 with
  | false=>
   have eF:B=false:=by rw [Bool.eq_false_iff];intro hB;have:=(HI.1 hB).2.1;rw [aa E2] at this;cases this
   subst eF;go_wp2;go_ret;exact ⟨rfl,b2⟩
  | true=>
   replace i0:=af i0 aS;replace i1:=af i1 aS;replace i2:=af i2 aS;replace i3:=af i3 aS;replace i4:=af i4 aS;replace i5:=af i5 aS;go_wp2_with fail;refine (rQ e g x t _ q d m ns em _ (aa HR _ b2).2.1 hm fK (aa HR _ b2).2.2 T3 E3).mono ?_;rintro r w3 ⟨rfl,dA⟩;have b3:=ai b2 dA;cases T3 with
   | false=>
    have eF:B=false:=by rw [Bool.eq_false_iff];intro hB;have:=(HI.1 hB).2.2.1;rw [aa E3] at this;cases this
    subst eF;go_wp2;go_ret;exact ⟨rfl,b3⟩
   | true=>
    replace i0:=af i0 dA;replace i1:=af i1 dA;replace i2:=af i2 dA;replace i3:=af i3 dA;replace i4:=af i4 dA;replace i5:=af i5 dA;have hx:x<=4611686018427387904:=by have:=aa E1;simp only [sA,decide_eq_true_eq] at this;exact this.2.2.1
    have H1:=ae (Ck E2 hx);have H2:=ae (uP E2);have H3:=ae (uW E3);go_wp2_with fail;refine (qF e g x t p q c n d m ss ns en em _ (aa HR _ b3).1 (aa HR _ b3).2.1 hn hm H1 H2 fK ME H3).mono ?_;rintro r w4 ⟨b,bs,bn,SB,NB,HB,UB,rfl,cF,fO⟩;have b4:=ai b3 fO;have jQ:=ae cF;go_wp2_with fail;refine (Bl _ jQ (fun nd aK=>⟨(aa fK nd aK).1,(aa fK nd aK).2.1⟩) T4 E4).mono ?_;rintro r w5 ⟨rfl,j7⟩;have b5:=ai b4 j7;cases T4 with
    | false=>
     have eF:B=false:=by rw [Bool.eq_false_iff];intro hB;have:=(HI.1 hB).2.2.2.1;rw [aa E4] at this;cases this
     subst eF;go_wp2;go_ret;exact ⟨rfl,b5⟩
    | true=>
     have am1:=ae (jQ.below j7);go_wp2_with fail;refine (ud _ am1 (fun nd aK=>⟨(aa fK nd aK).1,(aa fK nd aK).2.2.2⟩) TG m em hm n en).mono ?_;rintro r w6 ⟨nb,k,D,s,rfl,oD,sD,hs,CN⟩;have b6:=ai b5 CN;have hlen:∀ ty,(Builtin.len_ #[84] ty #[.map (some nb)]).run prog w6=.ok (.int .i64 (Maps.size D)) w6:=fun ty=>oD.len underlying84 ty;have fI:Maps.size D=0↔s=[]:=sD.Sg oD.isMap (fun es ee p hp=>by obtain ⟨Vl,e',_,hk⟩:=oD.entries gD;rw [ee] at e';cases e';exact hk p hp)
     have hB:B=true↔s=[]:=by rw [aa HI];constructor;{rintro ⟨_,_,_,_,h5⟩;apply List.eq_nil_iff_forall_not_mem.2;intro i hi;obtain ⟨⟨nd,aK,hN⟩,lG⟩:=(hs i).1 hi;exact lG ((x8 ss i).1 (h5 nd aK i hN))};{intro GP;refine ⟨E1,E2,E3,E4,fun nd aK i hN=>?_⟩;rw [x8];by_cases hh:∃ z∈ss,z.1=i;{exact hh};{have:=(hs i).2 ⟨⟨nd,aK,hN⟩,hh⟩;rw [GP] at this;cases this}}
     have hb:((Maps.size D:Int)==0)=B:=by rw [Bool.eq_iff_iff,hB,<-fI];simp
     go_wp2;go_ret;exact ⟨rfl,b6⟩
def Za (nd:aA):aA:={ nd with watchers:=[] }
theorem lp {R:Value->Option (DataW Unit × List MemPlace)} {b n:Nat} (h:w.ownsMap Tryz.prog k R b n D) (K:∀ es c,w.heap[b]?=some (.map es c)->w'.heap[b]?=some (.map es c)):w'.ownsMap Tryz.prog k R b n D:=by
 obtain ⟨es,clock,h1,h2⟩:=h;exact ⟨es,clock,K _ _ h1,h2⟩
def Dt (w w':World):Prop:=(∀ (z:Nat) (cs:Array Value) (ty:TypeId),w.heap[z]?=some (.cells cs ty)->w'.heap[z]?=some (.cells cs ty))/\∀ (z:Nat) (es:Array MapEntry) (c:Nat),w.heap[z]?=some (.map es c)->w'.heap[z]?=some (.map es c)
theorem Dt.grown (hg:w.grownBy w' none):Dt w w':=⟨fun z cs ty h=>(hg.block z (aI h) (by simp)).trans h,fun z es c h=>(hg.block z (aI h) (by simp)).trans h⟩
theorem xK {R:Value->Option (DataW Unit × List MemPlace)} {b r n:Nat} {left:Lit->Bool} {kc:Nat} (h:w.ranges P k R b r n D left kc) (h1:w'.heap[b]?=w.heap[b]?) (h2:w'.heap[r]?=w.heap[r]?):w'.ranges P k R b r n D left kc:=by
 obtain ⟨es,clock,since,seen,c0,hb,F,hs,hD,hr,rest⟩:=h;exact ⟨es,clock,since,seen,c0,h1.trans hb,F,hs,hD,h2.trans hr,rest⟩
theorem DP {l:List Nat} (h:l.Nodup) {a:Nat} (hi:l[i]?=some a) (hj:l[j]?=some a):i=j:=by
 have l1:=(aJ.1 hi).1;have l2:=(aJ.1 hj).1;have D6:=List.pairwise_iff_getElem.1 h;have v1:=(aJ.1 hi).2;have v2:=(aJ.1 hj).2;rcases Nat.lt_trichotomy i j with hh | hh | hh;{exact absurd (v1.trans v2.symm) (D6 i j l1 l2 hh)};{exact hh};{exact absurd (v2.trans v1.symm) (D6 j i l2 l1 hh)}
def FI (f:aL->aL) (left:Lit->Bool) (ss:List aL):List aL:=ss.map fun s=>if left (.int .u64 s.1) then s else f s
def Cf (left:Lit->Bool) (ns:List aA):List aA:=ns.map fun s=>if left (bL s.path) then s else Za s
theorem DI {Zd kt et:TypeId} {R:Value->Option (DataW Unit × List MemPlace)} {b n:Nat} (hm:P.underlying Zd=some (.map kt et)) (h:w.ownsMap P k R b n D) (ty:TypeId) :
  ∃ v w',(Builtin.clear_ #[Zd] ty #[.map (some b)]).run P w=.ok v w'/\w'.ownsMap P k R b 0 (.map [])/\w.grownBy w' (some b)/\w'.heap.size=w.heap.size:=by
 obtain ⟨es,clock,hb,F,hs,hD⟩:=h;have du:∃ v,(Builtin.clear_ #[Zd] ty #[.map (some b)]).run P w=.ok v { w with heap:=w.heap.setIfInBounds b (.map #[] clock) }:=by simp [Builtin.clear_,run_underlying hm,MapKept.run_getObj_map hb,MapKept.run_setObj_map _ hb,Result.andThen]
 obtain ⟨v,hv⟩:=du;refine ⟨v,_,hv,?_,⟨rfl,rfl,rfl,by simp,fun i _ bq=>(MapKept.heap_set hb).2 i (fun e=>bq (by rw [e]))⟩,by simp⟩;exact ⟨#[],clock,(MapKept.heap_set hb).1,⟨by simp,MapKept.stamped_empty _,by simp⟩,Nat.le_refl _,rfl⟩
end Go.Proofs.YtcfcafeciggjeaaGreatDoor
