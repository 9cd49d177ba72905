import Derived.Test.YtcfcafeciggjeaaGreatDoorK19
import Derived.Test.YtcfcafeciggjeaaGreatDoorK21
import Derived.Test.YtcfcafeciggjeaaGreatDoorK16
import Derived.Lib.LastIndexByte
import Derived.Laws.IdiomRangeMap
namespace Go.Proofs.YtcfcafeciggjeaaGreatDoor
set_option maxHeartbeats 12800000
set_option linter.all false
set_option maxRecDepth 100000
open Go.ChangeShapes Go.WideShapes Go.ChangeAt Go.RowKit Go.Maps Go.Proofs.Tryz
variable {ss:List Int} {w w':World}
theorem gR:Keyed prog 23:=int_keyed underlying23
theorem kM:Keyed prog 9:=string_keyed underlying9
theorem jO {i:Int} (h:0<=i/\i<18446744073709551616):(Lit.U i).wf=true:=by
 simp only [Lit.wf,IntKind.min,IntKind.max,IntKind.signed,IntKind.bits,Bool.and_eq_true,decide_eq_true_eq];simp;omega
theorem az (h:Bw w w') (row:Option Nat):w.grownBy w' row:=⟨h.os,h.tape,h.output,h.size,fun i hi _=>h.block i hi⟩
theorem bR {B:Nat} {w0:World} {row:Option Nat} (h:Below B w0 w) (hg:w.grownBy w' row) (hB:B<=w.heap.size) (hr:∀ j,row=some j->B<=j):Below B w0 w':=
 ⟨hg.os.trans h.os,hg.tape.trans h.tape,hg.output.trans h.output,Nat.le_trans h.size hg.size,fun k hk=>(hg.block k (Nat.lt_of_lt_of_le hk hB) (fun e=>by have:=hr k e.symm;omega)).trans (h.block k hk)⟩
theorem yX (p:Option Addr) (c n:Nat) (ids:List Int) (en:Hid (ids.length=n)) (w:World) (h:nH w (.S p n c) ids) (hn:n<=1048576) (hU:Hid (∀ i∈ids,0<=i/\i<18446744073709551616)) :
  Calls prog 92 #[.S p n c] w fun r w'=>∃ D,r=.returned (.map (some w.heap.size))/\w'.ownsMap prog 23 unitElem w.heap.size n D/\db D ids/\Bw w w'/\w.heap.size<w'.heap.size:=by
 have HR:=ae fun (w':World) (hb:Bw w w')=>h.below hb;have Be:=@run_makeMap prog;go_enter func92,ntmps92;go_wp2
 go_loopw [9] (fun iv wr=>∃ (k:Nat) (D:DataW Unit),k<=n/\iv=.I k/\wr.ownsMap prog 23 unitElem w.heap.size k D/\Hid (db D (ids.take k))/\Bw w wr) (fun iv _=>n-(intOf iv).toNat)
 case atStart=>exact ⟨0,_,Nat.zero_le _,rfl,World.ownsMap_made _ _ _ _,db.nil,aJ.alloc aA _⟩
 case round =>(
 obtain ⟨k,D,hk,rfl,br,nG,aR⟩:=hrel;by_cases bj:k<n;{
 have bm:=aT k n;have fL:k<ids.length:=by rw [aa en];exact bj
 obtain ⟨b,o,rfl,bG⟩:∃ b o,p=some ⟨b,o,none⟩/\wr.cell? ⟨b,o+k,none⟩=some (.U (ids.getD k 0)):=by obtain ⟨p',c',ev,hd⟩:=aa HR _ aR;simp only [Value.slice.injEq] at ev;obtain ⟨rfl,-,-⟩:=ev;rcases hd with h0 | ⟨b,o,h1,h2⟩;{rw [h0] at fL;simp at fL};{exact ⟨b,o,h1,h2 k fL⟩}
 have e1:ids.take (k+1)=ids.take k++[ids.getD k 0]:=by rw [List.take_add_one,List.getD_eq_getElem?_getD,aK fL];rfl
 have hy:=aa hU (ids.getD k 0) (by rw [List.getD_eq_getElem?_getD,aK fL];exact List.getElem_mem fL);have Hi:=nG.put br.isMap (ids.getD k 0) (.agg []);rw [<-e1] at Hi;have vQ:=ae Hi;obtain ⟨y,ey⟩:=aH (ids.getD k 0);rw [ey] at bG hy vQ;have df:keyOf prog 23 (.U y)=some (.U y):=keyOf_int_mk underlying23 (jO hy);go_wp2_with (first
  | (at_mapUpdate;refine wpList_mapUpdate_own _ rfl _ _ _ 84 rfl 23 _ gR underlying84 unitElem w.heap.size k _ rfl br (by unfold maxLen;omega) _ _ _ rfl rfl df (.agg []) [] unitElem_mk ?_;intro w1 nj Wa)
  | go_in)
 go_roundw
 case rel=>exact ⟨k+1,_,by omega,by go_num,nj,vQ,bR aR Wa (Nat.le_of_lt (Nat.lt_of_le_of_lt aA br.lt)) (fun j hj=>by cases hj;exact Nat.le_refl _)⟩
 case measure=>simp [intOf];omega}
 {
 have bm:=dy k n;have:k=n:=by omega
 subst this;have HS:=aa nG;rw [List.take_of_length_le (by rw [aa en];exact Nat.le_refl _)] at HS;go_wp2;go_ret;exact ⟨rfl,D,br,HS,aR,br.lt⟩})
theorem pA (bd bs nd ns:Nat) (Dd Ds:DataW Unit) (sd ss:List Int) (w:World) (hd:w.ownsMap prog 23 unitElem bd nd Dd) (hs:w.ownsMap prog 23 unitElem bs ns Ds) (hsd:Hid (db Dd sd)) (hss:Hid (db Ds ss)) (bL:bd≠bs) (hn:nd<=4611686018427387904) (hm:ns<=1048576) :
  Calls prog 123 #[.map (some bd),.map (some bs)] w fun r w'=>∃ D s,r=.returned (.tuple #[])/\w'.ownsMap prog 23 unitElem bd (nd+ns) D/\db D s/\(∀ i,i∈s↔i∈sd\/i∈ss)/\w.grownBy w' (some bd):=by
 have HS:=hs;go_enter func123,ntmps123;go_wp2_with (first
  | (at_range;refine wpList_range_own _ rfl _ 84 rfl 23 _ gR underlying84 _ bs ns _ rfl hs ?_;intro w0 pI uX Hj)
  | go_in)
 go_frame
 go_loopw [4] (fun _ wr=>∃ (left:Lit->Bool) (mV k:Nat) (D:DataW Unit) (s:List Int),wr.ranges prog 23 unitElem bs w.heap.size ns Ds left mV/\k+mV<=nd+ns/\wr.ownsMap prog 23 unitElem bd k D/\Hid (db D s)/\Hid (∀ i,i∈s↔i∈sd\/(i∈ss/\left (.U i)=false))/\w.grownBy wr (some bd)) (fun _ wr=>wr.rangeLeft bs w.heap.size)
 case atStart =>(
 refine ⟨_,_,nd,Dd,sd,pI,?_,hd.kept uX (by simp),hsd,?_,uX.but _⟩;{have:=hs.size_le;omega};{intro i;constructor;{exact fun h=>.inl h};{rintro (h | ⟨h1,h2⟩);{exact h};{rw [(aa hss (.U i)).2 ⟨i,h1,rfl⟩] at h2;cases h2}}})
 case round =>(
 obtain ⟨left,mV,k,D,s,nM,hkc,br,nG,fK,qM⟩:=hrel;go_wp2_with (first
  | (at_next;refine uO _ rfl _ rfl 23 gR underlying23 bs w.heap.size ns _ ss hss _ _ rfl nM ?_ ?_)
  | go_in)
 {
 intro _ tJ;go_wp2
 go_end0
 refine ⟨D,s,rfl,br.mono (by omega),nG,fun i=>?_,qM⟩;rw [aa fK i,tJ];simp};{
 intro x w1 vh ZQ hx hlx uT bj fO gx Bk;have aM9:=qM.andThen fO (fun j hj=>by cases hj;exact Or.inl aA);have hr:=nM.lt;have nj:=br.kept fO (fun e=>by cases e;exact absurd hd.lt (by omega));have df:keyOf prog 23 (.U x)=some (.U x):=keyOf_int_mk underlying23 ZQ;have Hi:=ae (nG.put br.isMap x (.agg []));have ab7:Hid (∀ i,i∈s++[x]↔i∈sd\/(i∈ss/\(fun z=>left z&&!z.sameKey (.U x)) (.U i)=false)):=by
  intro i;rw [List.mem_append,aa fK i];simp only [List.mem_singleton];have hk:((Lit.U i).sameKey (.U x)=true)↔i=x:=by rw [WideAt.sameKey_iff (by trivial)];simp
  by_cases e:i=x;{subst e;rw [hk.2 rfl];simp [hx]};{rw [show (Lit.U i).sameKey (.U x)=false by (rw [Bool.eq_false_iff];exact fun h=>e (hk.1 h))];simp [e]}
 go_wp2_with (first
  | (at_mapUpdate;refine wpList_mapUpdate_own _ rfl _ _ _ 84 rfl 23 _ gR underlying84 unitElem bd k _ rfl (nj.alloc _) (by unfold maxLen;omega) _ _ _ rfl rfl df (.agg []) [] unitElem_mk ?_;intro w2 xr Mw)
  | go_in)
 have xm:=(uT.alloc _).kept Mw (by simp;exact fun e=>bL e.symm) (by simp;intro e;exact absurd hd.lt (by omega));go_roundw
 case rel=>exact ⟨_,vh,xm,k+1,by omega,_,xr,_,Hi,ab7,(aM9.andThen (World.grownBy_alloc _ _ none) (fun j hj=>by cases hj)).andThen Mw (fun j hj=>by cases hj;exact Or.inr rfl)⟩
 case measure=>rw [xm.left_eq,nM.left_eq];omega})
theorem fM (l:List Int):(aC l).data.toList=l.map (fun n=>UInt8.ofNat n.toNat):=by rw [aC,Am];rfl
theorem di (l:List Int):(aC l).size=l.length:=by
 show (aC l).data.size=_;rw [<-Array.length_toList,fM,List.length_map]
theorem ab5 {l:List Int} (hB:bM l) (j:Nat) (hj:j<(aC l).size):(((aC l)[j]'hj).toNat:Int)=l.getD j 0:=by
 have hl:j<l.length:=by rw [<-di];exact hj
 have e1:(aC l)[j]'hj=(aC l).data.toList[j]'(by rw [fM,List.length_map];exact hl):=by rw [Array.getElem_toList];rfl
 rw [e1];simp only [fM,List.getElem_map];rw [List.getD_eq_getElem?_getD,aK hl,Option.getD_some];have:=hB l[j] (List.getElem_mem hl);rw [UInt8.toNat_ofNat'];omega
theorem AW (l:List Int) (n:Nat) (s:ByteArray) (es:Hid (s=aC l)) (en:s.size=n) (hB:Hid (bM l)) (hn:n<=2097152) (w:World) :
  Calls prog 177 #[.string s,.int .u8 47] w fun e w'=>((∃ k:Nat,e=.returned (.I k)/\k<n/\Cb l n=k)\/(e=.returned (.I (-1))/\Cb l n=0/\∀ j,j<n->l.getD j 0≠47))/\w'=w:=by
 have Wb:Hid (∀ (j:Nat) (hj:j<s.size),((s[j]'hj).toNat:Int)=l.getD j 0):=by have e:=aa es;subst e;exact fun j hj=>ab5 hB j hj
 subst en;go_enter func177,ntmps177;go_wp2
 go_loop [5] (fun vi=>∃ k:Nat,k<=s.size/\vi=.I ((k:Int)-1)/\Hid (Cb l s.size=Cb l k)/\Hid (∀ j,k<=j->j<s.size->l.getD j 0≠47)) (fun vi=>((RowKit.intOf vi)+1).toNat)
 case atStart=>exact ⟨s.size,Nat.le_refl _,by first | rfl | go_num | (congr 1;omega),(by show _=_;rfl),fun j h1 h2=>by omega⟩
 case round =>(
 obtain ⟨k,hk,rfl,hh,hq⟩:=hrel;go_wp2;{
 have hc:(((s[k-1]).toNat:Int)==47)=true:=by assumption
 have k1:1<=k:=by omega
 have e1:Cb l k=k-1:=by have:=oA l (k-1);rw [show k-1+1=k by omega] at this;rw [this,if_pos];rw [<-aa Wb (k-1) (by omega)];simpa using hc
 have e2:((k-1:Nat):Int)=(k:Int)-1:=by omega
 go_ret;refine ⟨.inl ⟨k-1,by rw [e2];rfl,by omega,by rw [aa hh,e1]⟩,rfl⟩};{
 have hc:(((s[k-1]).toNat:Int)==47)=false:=by assumption
 have k1:1<=k:=by omega
 have e1:Cb l k=Cb l (k-1):=by have:=oA l (k-1);rw [show k-1+1=k by omega] at this;rw [this,if_neg];rw [<-aa Wb (k-1) (by omega)];simpa using hc
 have e3:l.getD (k-1) 0≠47:=by rw [<-aa Wb (k-1) (by omega)];simpa using hc
 refine ⟨⟨k-1,by omega,by congr 1;omega,hh.trans e1,fun j h1 h2=>?_⟩,?_⟩;{by_cases ej:j=k-1;{rw [ej];exact e3};{exact hq j (by omega) h2}};simp [RowKit.intOf];omega};{
 have k0:k=0:=by omega
 subst k0;go_ret;exact ⟨.inr ⟨rfl,hh,fun j hj=>aa hq j (Nat.zero_le _) hj⟩,rfl⟩})
theorem uq (l:List Int) (n:Nat) (s:ByteArray) (es:Hid (s=aC l)) (en:s.size=n) (hB:Hid (bM l)) (hn:n<=2097152) (w:World) :
  Calls prog 162 #[.string s,.int .u8 47] w fun e w'=>((∃ k:Nat,e=.returned (.I k)/\k<n/\Cb l n=k)\/(e=.returned (.I (-1))/\Cb l n=0/\∀ j,j<n->l.getD j 0≠47))/\w'=w:=by
 go_enter func162,ntmps162;go_wp2_with fail;refine (AW l n s es en hB hn w).mono ?_;rintro e w' ⟨hr,rfl⟩;rcases hr with ⟨k,rfl,hk,hl⟩ | ⟨rfl,hl⟩;{have HL:=ae hl;go_wp2;go_ret;exact ⟨.inl ⟨k,rfl,hk,HL⟩,rfl⟩};{have HL:=ae hl;go_wp2;go_ret;exact ⟨.inr ⟨rfl,HL⟩,rfl⟩}
theorem mJ (l:List Int) (n:Nat) (en:Hid (l.length=n)) (hB:Hid (bM l)) (hn:n<=1048576) (w:World) :
  Calls prog 122 #[.string (aC l)] w fun e w'=>e=.returned (.string (aC (dm l)))/\w'=w:=by
 obtain ⟨s,es⟩:=ax (aC l);have hs:s.size=n:=by rw [es,di];exact aa en
 rw [<-es];have ES:=ae es;clear es;go_enter func122,ntmps122;go_wp2_with fail;refine (uq l n s ES hs hB (by omega) w).mono ?_;rintro e w' ⟨hr,rfl⟩;rcases hr with ⟨k,rfl,hk,hl⟩ | ⟨rfl,hl,-⟩;{
 by_cases k0:k=0;{
 subst k0;have e1:dm l=[47]:=by rw [dm,aa en,hl,if_pos rfl]
 have E1:=ae e1;clear hl e1;go_wp2;go_ret;exact ⟨by rw [aa E1];rfl,rfl⟩};{
 have e1:dm l=l.take k:=by rw [dm,aa en,hl,if_neg k0]
 have E1:=ae e1;clear e1;have g1:¬ (k:Int)<1:=by omega
 have g2:=vj k n;have g3:k<=s.size:=by omega
 have ex:Hid (s.extract 0 k=aC (l.take k)):=by show _=_;rw [aa ES];apply ByteArray.ext;apply Array.toList_inj.1;rw [fM,List.map_take,<-fM];simp [ByteArray.data_extract]
 clear hl;go_wp2;go_ret;exact ⟨by rw [aa E1,<-aa ex];rfl,rfl⟩}};{
 have e1:dm l=[47]:=by rw [dm,aa en,hl,if_pos rfl]
 have E1:=ae e1;clear hl e1;go_wp2;go_ret;exact ⟨by rw [aa E1];rfl,rfl⟩}
namespace Q
open Go.Sort
theorem ug:SWO ltInt:=swo_ltInt
abbrev Left (a b a1 b1:Nat) (d dk:Array Int):Prop:=∀ R,PermIn a1 b1 dk R->SortedIn ltInt a1 b1 R->PermIn a b d R/\SortedIn ltInt a b R
theorem Qq (aI off cap N:Nat) (il:N<=1048576):∀ (n a b:Nat) (Dj:Int) (d:Array Int) (w:World),Hid (b-a=n)->Hid (d.size=N)->HU w aI off d->aI<w.heap.size->a<=b->b<=N->0<=Dj->Dj<=64->Go.Sort.Below ltInt a b d →
  Calls prog 179 #[.S (some ⟨aI,off,none⟩) N cap,.I a,.I b,.I Dj] w fun e w'=>
   e=.returned (.tuple #[])/\∃ d',HU w' aI off d'/\PermIn a b d d'/\SortedIn ltInt a b d'/\w.grownBy w' (some aI):=by
 intro n
 induction n using Nat.strongRecOn with
 | _ n ih=>
  intro a b Dj d w hn hN h jd FR hb tJ Cd hB;have IH:=ae ih;have H0:=ae h;have B0:=ae hB;go_enter func179,ntmps179;go_wp2_with fail
  go_loopw [1,2,3,8,9] (fun s1 s2 s3 s8 s9 wr=>∃ (a1 b1:Nat) (li:Int) (p q:Bool) (dk:Array Int),s1=.I a1/\s2=.I b1/\s3=.I li/\s8=.bool p/\s9=.bool q/\a<=a1/\a1<=b1/\b1<=b/\0<=li/\li<=64/\Hid (dk.size=N)/\Hid (HU wr aI off dk)/\Hid (Go.Sort.Below ltInt a1 b1 dk)/\Hid (Left a b a1 b1 d dk)/\Hid (w.grownBy wr (some aI))) (fun s1 s2 _ _ _ _=>(intOf s2-intOf s1).toNat)
  case atStart=>exact ⟨a,b,Dj,true,true,d,rfl,rfl,rfl,rfl,rfl,Nat.le_refl _,FR,Nat.le_refl _,tJ,Cd,hN,H0,B0,fun R h1 h2=>⟨h1,h2⟩,ld _ _⟩
  case round =>(
 obtain ⟨a1,b1,li,p,q,dk,rfl,rfl,rfl,rfl,rfl,z1,z2,z3,z4,z5,hD,hH,hB,hF,hG⟩:=hrel;obtain ⟨L,eL⟩:∃ x:Nat,(b1:Int)-(a1:Int)=(x:Int):=⟨b1-a1,by omega⟩;have wL:=fH L;have BK:b1<=N:=by omega
 by_cases WI:L<=12;{
 have aS4:(L:Int)<=12:=by omega
 go_wp2_with fail;refine (QQ aI off cap N a1 b1 dk hD _ hH z2 BK il).mono ?_;rintro e w1 ⟨rfl,tL,fO⟩;have HH1:=ae tL;have HG1:=ae (aQ hG fO);go_wp2;refine bodyPost_ret (results_none (h:=rfl) _ _ _) rfl ⟨rfl,_,HH1,?_,?_,HG1⟩;{have:=insertionSort_holds ug dk a1 b1 z2 (by rw [aa hD];exact BK);exact (aa hF _ this.1 this.2).1};{have:=insertionSort_holds ug dk a1 b1 z2 (by rw [aa hD];exact BK);exact (aa hF _ this.1 this.2).2}};{
 have aS4:¬ (L:Int)<=12:=by omega
 by_cases hli:li=0;{subst hli;go_wp2_with fail;refine (MC aI off cap N a1 b1 dk hD _ hH z2 BK il).mono ?_;rintro e w1 ⟨rfl,tL,fO⟩;have HH1:=ae tL;have HG1:=ae (aQ hG fO);go_wp2;refine bodyPost_ret (results_none (h:=rfl) _ _ _) rfl ⟨rfl,_,HH1,?_,?_,HG1⟩;{have:=heapSort_holds ug dk a1 b1 z2 (by rw [aa hD];exact BK);exact (aa hF _ this.1 this.2).1};{have:=heapSort_holds ug dk a1 b1 z2 (by rw [aa hD];exact BK);exact (aa hF _ this.1 this.2).2}};{
 have h8:a1+8<=b1:=by omega
 go_upto_if 35 with fail
 go_cut [3] (fun s3 wc=>∃ (lj:Int) (d1:Array Int),s3=.I lj/\0<=lj/\lj<=64/\Hid (d1.size=N)/\Hid (HU wc aI off d1)/\Hid (PermIn a1 b1 dk d1)/\Hid (w.grownBy wc (some aI)))
 case first =>(
 cases p with
 | true=>
  go_wp2_with fail;go_meet;exact ⟨li,dk,rfl,z4,z5,hD,hH,permIn_refl dk a1 b1,hG⟩
 | false=>
  go_wp2_with fail;refine (JE aI off cap N a1 b1 dk hD _ hH (Nat.lt_of_lt_of_le jd hG.size) h8 BK il).mono ?_;rintro e w1 ⟨rfl,d1,tL,Pf,fO⟩;have HH1:=ae tL;have Pw:=ae Pf;have HG1:=ae (aQ hG fO);go_wp2_with fail;go_meet;exact ⟨li-1,d1,by first | rfl | go_num,by omega,by omega,Pw.1.trans hD,HH1,Pw,HG1⟩)
 obtain ⟨lj,d1,rfl,y1,y2,TL,tL,Pf,Ph⟩:=hcut;obtain ⟨Y1,eY1⟩:=ax wc;subst eY1;go_wp2_with fail;refine (IE aI off cap N a1 b1 d1 TL _ tL (Nat.lt_of_lt_of_le jd Ph.size) h8 BK il).mono ?_;rintro e w2 ⟨pv,t,rfl,v1,v2,sX,fU⟩;have UC:=ae sX;have HG2:=ae (aQ Ph fU)
 go_upto_if 50 with fail
 go_cut [11,12] (fun Zd s12 wc=>∃ (pw:Nat) (tt:Int) (d2:Array Int),Zd=.I pw/\s12=.I tt/\a1<=pw/\pw<b1/\Hid (d2.size=N)/\Hid (HU wc aI off d2)/\Hid (PermIn a1 b1 d1 d2)/\Hid (w.grownBy wc (some aI)))
 case first =>(
 by_cases ht:t=2;{
 subst ht;have q1:IntKind.i64.wrap ((b1:Int)-1)=(b1:Int)-1:=IntWalk.i64_in _ (by omega);have q2:IntKind.i64.wrap ((pv:Int)-(a1:Int))=(pv:Int)-(a1:Int):=IntWalk.i64_in _ (by omega);obtain ⟨nv,env⟩:∃ x:Nat,(b1:Int)-1-((pv:Int)-(a1:Int))=(x:Int):=⟨b1-1-(pv-a1),by omega⟩;have q3:=fH nv;have bn:a1<=nv/\nv<b1:=by omega
 go_wp2_with fail;refine (Ql aI off cap N a1 b1 d1 TL _ UC z2 BK il).mono ?_;rintro e w3 ⟨rfl,Bp,uA⟩;have HH3:=ae Bp;have HG3:=ae (aQ HG2 uA);have HP3:=ae (reverseRange_holds d1 a1 b1 z2 (by rw [aa TL];exact BK));go_wp2_with fail;go_meet;exact ⟨nv,1,_,rfl,rfl,bn.1,bn.2,HP3.1.trans TL,HH3,HP3,HG3⟩};{
 have ht':(t==2)=false:=by simp [ht]
 go_wp2_with fail;go_meet;exact ⟨pv,t,d1,rfl,rfl,v1,v2,TL,UC,permIn_refl d1 a1 b1,HG2⟩})
 obtain ⟨pw,tt,d2,rfl,rfl,x1,x2,Yt,sX,zR,Yr⟩:=hcut;obtain ⟨Y2,Nt⟩:=ax wc;subst Nt
 go_upto_region 15 with fail
 go_cut [68] (fun s68 wc=>∃ Bq:Bool,s68=.bool Bq/\wc=Y2)
 case first =>(
 cases p<;>cases q
 all_goals
  go_wp2_with fail;go_meet;exact ⟨_,rfl,rfl⟩)
 obtain ⟨Bq,rfl,rfl⟩:=hcut
 go_upto_if 68 with fail
 go_cut [72] (fun s72 wc=>∃ d3:Array Int,Hid (d3.size=N)/\Hid (HU wc aI off d3)/\Hid (PermIn a1 b1 d2 d3)/\Hid (w.grownBy wc (some aI)))
 case first =>(
 cases Bq with
 | false=>
  go_wp2_with fail;go_meet;exact ⟨d2,Yt,sX,permIn_refl d2 a1 b1,Yr⟩
 | true=>
  go_wp2_with fail;refine (IF aI off cap N a1 b1 d2 Yt _ sX (by omega) BK il).mono ?_;have jL:Go.Sort.Below ltInt a1 b1 d2:=(hB.perm (by rw [aa hD];exact BK) (aa Pf)).perm (by rw [aa TL];exact BK) (aa zR);have XM:=ae (partialInsertionSort_holds ug d2 a1 b1 (by omega) (by rw [aa Yt];exact BK) jL);generalize partialInsertionSort ltInt d2 a1 b1=R at XM;obtain ⟨R1,R2⟩:=R;rintro e w3 ⟨rfl,Bp,uA⟩;have HH3:=ae Bp;have HG3:=ae (aQ Yr uA);cases R2 with
  | true=>
   go_wp2;refine bodyPost_ret (results_none (h:=rfl) _ _ _) rfl ⟨rfl,R1,HH3,?_,?_,HG3⟩;{exact (aa hF R1 (permIn_trans _ _ _ a1 b1 (permIn_trans _ _ _ a1 b1 Pf zR) XM.1) (XM.2 (by first | trivial | rfl))).1};{exact (aa hF R1 (permIn_trans _ _ _ a1 b1 (permIn_trans _ _ _ a1 b1 Pf zR) XM.1) (XM.2 (by first | trivial | rfl))).2}
  | false=>
   go_wp2_with fail;go_meet;exact ⟨R1,XM.1.1.trans Yt,HH3,XM.1,HG3⟩)
 obtain ⟨d3,WC,Bp,aQ0,Ru⟩:=hcut;obtain ⟨Y3,eY3⟩:=ax wc;subst eY3;have hP3:Hid (PermIn a1 b1 dk d3):=permIn_trans _ _ _ a1 b1 (permIn_trans _ _ _ a1 b1 Pf zR) aQ0;have RC:Hid (Go.Sort.Below ltInt a1 b1 d3):=hB.perm (by rw [aa hD];exact BK) (aa hP3)
 go_upto_region 17 with fail
 go_cut [87] (fun s87 wc=>∃ B:Bool,s87=.bool B/\Hid (B=true->0<a1/\ltInt d3[a1-1]! d3[pw]! = false)/\wc=Y3.drew)
 case first =>(
 by_cases ha:0<a1;{
 have Tz:=ja 0 a1;have sB:(a1:Int)>0:=by omega
 obtain ⟨m,em⟩:∃ x:Nat,(a1:Int)-1=(x:Int):=⟨a1-1,by omega⟩;have Ud:a1-1=m:=by omega
 have wm:=fH m;have qO:=aa WC;obtain ⟨c1,-⟩:=aa Bp m (by omega);obtain ⟨c2,-⟩:=aa Bp pw (by omega);obtain ⟨x,ex⟩:=aH d3[m]!;obtain ⟨y,ey⟩:=aH d3[pw]!;rw [ex] at c1;rw [ey] at c2;have k1:=aT m N;have k2:=aT pw N;have k3:=dE 0 m;obtain ⟨Lt,eLt⟩:=aH (ltInt x y);have EL:=ae eLt;have HX:Hid ((!Lt)=true->0<a1/\ltInt d3[a1-1]! d3[pw]! = false):=fun cR=>⟨ha,by rw [Ud,ex,ey,eLt];simpa using cR⟩;have K0:=ae (ag c1 c2);refine bO (fun w'=>w'.cell? ⟨aI,off+m,none⟩=some (.U x)/\w'.cell? ⟨aI,off+pw,none⟩=some (.U y)) (by exact K0) fun hS=>?_;refine gy 0 1 2 3 4 5 6 7 hS ?_;refine gC 8 9 10 11 hS ?_;refine bH 12 fun KK hK=>?_;refine cL (by rfl) 191 _ _ _ (by rfl) (.U x) (.U y) (by rfl) (by rfl) (fun _=>dZ _ _) (dY x y _) ?_;rintro r' w2' ⟨rfl,rfl⟩;refine ⟨_,rfl,?_⟩;rw [aa EL];refine cg hK (by exact K0) fun hS=>?_;refine fe 13 14 hS ?_;refine bu ?_;go_wp2_with fail;go_meet;exact ⟨_,rfl,HX,rfl⟩};{
 have Tz:¬ (0:Int)<(a1:Int):=by omega
 refine bO (fun w'=>True) trivial fun hS=>?_;refine fe 0 1 hS ?_;refine tn 2 hS ?_;refine iI 3 4 5 6 hS ?_;refine iI 7 8 9 10 hS ?_;refine sn 11 hS ?_;refine sn 12 hS ?_;refine sn 13 hS ?_;refine tn 14 hS ?_;refine bu ?_;go_wp2_with fail;go_meet;exact ⟨false,rfl,(fun h=>by cases h),rfl⟩})
 obtain ⟨B,rfl,hBB,rfl⟩:=hcut;cases B with
 | true=>
  obtain ⟨⟨mid,d4⟩,ePE⟩:∃ R,partitionEqual ltInt d3 a1 b1 pw=R:=⟨_,rfl⟩;have hc:=Fi aI off cap N a1 b1 pw d3 WC Y3.drew Bp x1 x2 BK il;rw [ePE] at hc;obtain ⟨m1,m2,m3,m4,m5⟩:=round_eq ug (partitionEqual_holds ltInt) (aa hBB rfl).1 x1 x2 (by rw [aa WC];exact BK) (aa RC) (aa hBB rfl).2 ePE;have Py:Hid (d4.size=N):=m3.trans WC;have Em:=ae m4;have HL4:Hid (Left a b mid b1 d d4):=fun R r1 r2=>by have:=m5 R r1 r2;exact hF R (permIn_trans _ _ _ a1 b1 hP3 this.1) this.2
  go_wp2_with fail;refine hc.mono ?_;rintro e w4 ⟨rfl,DQ,sw⟩;have HH4:=ae DQ;have YL:=ae (aQ (ar Ru) sw);go_wp2;go_roundw
  case rel=>exact ⟨mid,b1,lj,p,q,d4,rfl,rfl,rfl,rfl,rfl,by omega,by omega,by omega,by omega,by omega,Py,HH4,Em,HL4,YL⟩
  case measure=>simp [intOf];omega
 | false=>
  obtain ⟨⟨mid,ap,d4⟩,ePE⟩:∃ R,partition ltInt d3 a1 b1 pw=R:=⟨_,rfl⟩;have hc:=Ld aI off cap N a1 b1 pw d3 WC Y3.drew Bp x1 x2 BK il;rw [ePE] at hc;obtain ⟨m1,m2,m3,m4,m5,m6,m7⟩:=round_part ug (partition_holds ltInt) x1 x2 (by rw [aa WC];exact BK) (aa RC) ePE;have Py:Hid (d4.size=N):=m3.trans WC;have Em:=ae m4;have mZ:=ae m5;have HL6:=ae m6;have HL7:=ae m7;obtain ⟨lL,elL⟩:∃ x:Nat,(mid:Int)-(a1:Int)=(x:Int):=⟨mid-a1,by omega⟩;obtain ⟨rL,erL⟩:∃ x:Nat,(b1:Int)-(mid:Int)=(x:Int):=⟨b1-mid,by omega⟩;have wlL:=fH lL;have wrL:=fH rL;obtain ⟨th,eth⟩:∃ x:Nat,(L:Int) / 8=(x:Int):=⟨L / 8,by omega⟩;have bZ6:Int.tdiv (L:Int) 8=(th:Int):=by rw [<-eth];exact Int.tdiv_eq_ediv_of_nonneg (by omega)
  have wth:=fH th;go_wp2_with fail;refine hc.mono ?_;rintro e w4 ⟨rfl,DQ,sw⟩;have HH4:=ae DQ;have YL:=ae (aQ (ar Ru) sw);by_cases hlr:lL<rL;{
 have aL4:=aT lL rL;go_wp2_with fail;refine (aa IH (mid-a1) (by have:=aa hn;omega) a1 mid lj d4 _ rfl Py HH4 (Nat.lt_of_lt_of_le jd YL.size) m1 (by omega) y1 y2 Em).mono ?_;rintro e w5 ⟨rfl,d5,yI,Wx,hS5,qh⟩;have HH5:=ae yI;have HG5:=ae (aQ YL qh);obtain ⟨o1,o2⟩:=aa HL6 d5 Wx hS5;have XR:=ae o1;have XQ:Hid (d5.size=N):=Wx.1.trans Py;have XO:Hid (Left a b (mid+1) b1 d d5):=fun R r1 r2=>by have:=o2 R r1 r2;exact hF R (permIn_trans _ _ _ a1 b1 hP3 this.1) this.2
 go_wp2;go_roundw
 case rel=>exact ⟨mid+1,b1,lj,_,ap,d5,by first | rfl | go_num,rfl,rfl,rfl,rfl,by omega,by omega,by omega,by omega,by omega,XQ,HH5,XR,XO,HG5⟩
 case measure=>simp [intOf];omega}
  {
 have aL4:=dy lL rL;obtain ⟨mp,emp⟩:∃ x:Nat,(mid:Int)+1=(x:Int):=⟨mid+1,by omega⟩;have aU0:mid+1=mp:=by omega
 have wmp:=fH mp;rw [aU0] at mZ HL7;go_wp2_with fail;refine (aa IH (b1-mp) (by have:=aa hn;omega) mp b1 lj d4 _ rfl Py HH4 (Nat.lt_of_lt_of_le jd YL.size) (by omega) (by omega) y1 y2 mZ).mono ?_;rintro e w5 ⟨rfl,d5,yI,Wx,hS5,qh⟩;have HH5:=ae yI;have HG5:=ae (aQ YL qh);obtain ⟨o1,o2⟩:=aa HL7 d5 Wx hS5;have XR:=ae o1;have XQ:Hid (d5.size=N):=Wx.1.trans Py;have XO:Hid (Left a b a1 mid d d5):=fun R r1 r2=>by have:=o2 R r1 r2;exact hF R (permIn_trans _ _ _ a1 b1 hP3 this.1) this.2
 go_wp2;go_roundw
 case rel=>exact ⟨a1,mid,lj,_,ap,d5,rfl,rfl,rfl,rfl,rfl,by omega,by omega,by omega,by omega,by omega,XQ,HH5,XR,XO,HG5⟩
 case measure=>simp [intOf];omega}}})
end Q
namespace Q
open Go.Sort
theorem QP (cap:Nat) (w:World):Calls prog 185 #[.S none 0 cap,.I 0,.I 0] w fun e w'=>e=.returned (.tuple #[])/\w'=w:=by
 go_enter func185,ntmps185;go_wp2_with fail
 go_loopw [6] (fun s6 wr=>s6=.I 1/\wr=w) (fun _ _=>0)
 case atStart=>exact ⟨rfl,rfl⟩
 case round =>(
 obtain ⟨rfl,rfl⟩:=hrel;go_wp2
 go_end0
 exact ⟨rfl,rfl⟩)
theorem Qp (cap:Nat) (w:World):Calls prog 179 #[.S none 0 cap,.I 0,.I 0,.I 0] w fun e w'=>e=.returned (.tuple #[])/\w'=w:=by
 go_enter func179,ntmps179;go_wp2_with fail
 go_loopw [1,2,3,8,9] (fun s1 s2 s3 s8 s9 wr=>s1=.I 0/\s2=.I 0/\s3=.I 0/\s8=.bool true/\s9=.bool true/\wr=w) (fun _ _ _ _ _ _=>0)
 case atStart=>exact ⟨rfl,rfl,rfl,rfl,rfl,rfl⟩
 case round =>(
 obtain ⟨rfl,rfl,rfl,rfl,rfl,rfl⟩:=hrel;go_wp2_with fail;refine (QP cap _).mono ?_;rintro e w1 ⟨rfl,rfl⟩;go_wp2;exact bodyPost_ret (results_none (h:=rfl) _ _ _) rfl ⟨rfl,rfl⟩)
theorem wh (cap:Nat) (w:World):Calls prog 168 #[.S none 0 cap] w fun e w'=>e=.returned (.tuple #[])/\w'=w:=by
 have hL:=AV 0 (by omega);have e0:Lib.bitLen 0=0:=by decide
 rw [e0] at hL;go_enter func168,ntmps168;go_wp2_with fail;refine (hL _).mono ?_;rintro e w1 ⟨rfl,rfl⟩;go_wp2_with fail;refine (Qp cap _).mono ?_;rintro e w1 ⟨rfl,rfl⟩;go_wp2
 go_end0
 exact ⟨rfl,rfl⟩
theorem KH (aI off cap N:Nat) (d:Array Int) (hN:Hid (d.size=N)) (il:N<=1048576) (w:World) (h:HU w aI off d) (jd:aI<w.heap.size) :
  Calls prog 168 #[.S (some ⟨aI,off,none⟩) N cap] w fun e w'=>
   e=.returned (.tuple #[])/\∃ d',HU w' aI off d'/\PermIn 0 N d d'/\SortedIn ltInt 0 N d'/\w.grownBy w' (some aI):=by
 have hL:=AV N il;have hK:Lib.bitLen N<=21:=Lib.bitLen_le N 21 (by omega) (by omega);generalize Lib.bitLen N=K at hL hK;have wU:IntKind.u64.wrap (N:Int)=(N:Int):=by rw [IntKind.wrap_u64];omega
 have H0:=ae h;clear h;go_enter func168,ntmps168;go_wp2_with fail;refine (hL _).mono ?_;rintro e w1 ⟨rfl,rfl⟩;go_wp2_with fail;refine (Qq aI off cap N il N 0 N K d _ (by show _=_;omega) hN H0 jd (Nat.zero_le _) aA (by omega) (by omega) (Or.inl rfl)).mono ?_;rintro e w2 ⟨rfl,d',hH,hP,hS,hg⟩;have HH:=ae hH;have HP:=ae hP;have HS:=ae hS;have HG:=ae hg;clear hH hP hS hg;go_wp2
 go_end0
 exact ⟨rfl,d',HH,HP,HS,HG⟩
theorem tm (aI off cap:Nat) (l:List Int) (il:l.length<=1048576) (w:World) (h:HU w aI off l.toArray) (jd:aI<w.heap.size) :
  Calls prog 168 #[.S (some ⟨aI,off,none⟩) l.length cap] w fun e w'=>
   e=.returned (.tuple #[])/\HU w' aI off (l.mergeSort (fun x y=>decide (x<=y))).toArray/\w.grownBy w' (some aI):=by
 refine (KH aI off cap l.length l.toArray (by show _=_;simp) il w h jd).mono ?_;rintro e w' ⟨rfl,d',hH,hP,hS,hg⟩;refine ⟨rfl,?_,hg⟩;have e:=sorted_unique_holds ug (fun x y h1 h2=>by simp [ltInt] at h1 h2;omega) l.toArray d' (by simpa using hP) (by simpa using hS);have e2:(fun x y:Int=>!ltInt y x)=(fun x y=>decide (x<=y)):=by
  funext x y
  by_cases hh:x<=y;{rw [decide_eq_true hh];simp [ltInt];omega};{rw [decide_eq_false hh];simp [ltInt];omega}
 rw [e2] at e;have e3:d'=(l.mergeSort (fun x y=>decide (x<=y))).toArray:=by rw [<-show d'.toList.toArray=d' from by simp,e]
 rw [<-e3];exact hH
end Q
namespace Q
open Go.Sort
theorem qU (n:Nat) (hn:3<=n) (g:Nat) (lb:Array Value) (eg:∀ args w,(callFunc g args).run prog w=.ok (.enter g args) w)
  (S Sp:List Int->Prop) (N:Nat) (hN:N<=1048576) (w:World) (oF:SeqStopsK Fence.wide (n-1-1) prog g lb (fun x:Int=>#[dQ x]) KeepsWalks S Sp N w) :
  CallsIn Fence.wide n prog 167 #[.func (.func g) #[] lb] w fun e w'=>∃ (v:Value) (ss:List Int),e=.returned v/\S ss/\w'.ownsRow (w.heap.size+1) 23 1 v ss.length (ss.map dQ)/\(v=.S none 0 0↔ss=[])/\Bw w w':=by
 have h1:1<=n:=by omega
 have Ye:Fence.wide.fn 178:=trivial;refine callsIn_of_wp func167 rfl trivial ?_ rfl;simp only [ntmps167,List.size_toArray,List.length_cons,List.length_nil,Nat.reduceAdd,Nat.reduceSub,Array.replicate_succ,Array.replicate_zero,List.push_toArray,List.append_toArray,List.nil_append,List.cons_append]
 gi_wp2_with (gi_at_call 178;refine (mX (n-1) (by omega) g lb eg S Sp N hN _ oF).mono ?_;rintro e w' ⟨v,ss,rfl,hS,dW,yz,hb⟩)
 go_ret;exact ⟨v,ss,rfl,hS,dW,yz,hb⟩
theorem FB {g:Nat} {cur:Array Value} {e:TypeId} (hb:w.heap[g]?=some (.cells cur e (0,0))) (ht:cur.toList.take ss.length=ss.map dQ):HU w g 0 ss.toArray:=by
 intro j hj;have VZ:j<ss.length:=by simpa using hj
 refine ⟨?_,by simp [World.frozen?,hb]⟩;have h1:(cur.toList.take ss.length)[j]?=(ss.map dQ)[j]?:=by rw [ht]
 rw [List.getElem?_take_of_lt VZ] at h1;simp only [World.cell?,hb,Nat.zero_add];simp only [Option.isSome_none,Bool.false_eq_true,if_false];rw [<-Array.getElem?_toList,h1];simp [VZ,dQ]
def SC (B:Nat) (w:World) (v:Value) (ss:List Int):Prop:=(v=.S none 0 0/\ss=[])\/∃ g cap,v=.S (some ⟨g,0,none⟩) ss.length cap/\B<=g/\g<w.heap.size/\HU w g 0 ss.toArray
structure S7 {H:Type} (D0:DataW H) (ss:List Int):Prop where
 lt:ss.Pairwise (·<·)
 mem:∀ x,x∈ss↔has D0 (.U x)=true
 size:ss.length<=Maps.size D0
theorem BL {H:Type} {D0:DataW H} (h:jb D0 ss):S7 D0 (ss.mergeSort (fun x y=>decide (x<=y))):=by
 have hp:=List.mergeSort_perm ss (fun x y=>decide (x<=y));refine ⟨?_,fun x=>(hp.mem_iff).trans (h.2.1 x),by rw [hp.length_eq];exact h.2.2⟩;have h1:=List.pairwise_mergeSort (le:=fun x y:Int=>decide (x<=y)) (fun a b c h1 h2=>by simp at *;omega) (fun a b=>by simp;omega) ss;have h2:(ss.mergeSort (fun x y=>decide (x<=y))).Pairwise (·≠·):=hp.nodup_iff.2 h.1;exact (h1.and h2).imp (fun {a b} ⟨x,y⟩=>by simp at x;omega)
theorem pf (n:Nat) (hn:4<=n) (g:Nat) (lb:Array Value) (eg:∀ args w,(callFunc g args).run prog w=.ok (.enter g args) w)
  (S Sp:List Int->Prop) (N:Nat) (hN:N<=1048576) (hS:∀ ss,S ss->ss.length<=1048576) (w:World) (oF:SeqStopsK Fence.wide (n-1-1-1) prog g lb (fun x:Int=>#[dQ x]) KeepsWalks S Sp N w) :
  CallsIn Fence.wide n prog 143 #[.func (.func g) #[] lb] w fun e w'=>∃ (v:Value) (ss:List Int),e=.returned v/\S ss/\SC w.heap.size w' v (ss.mergeSort (fun x y=>decide (x<=y)))/\Bw w w':=by
 have h1:1<=n:=by omega
 have hfC:Fence.wide.fn 167:=trivial;have Ye:Fence.wide.fn 168:=trivial;refine callsIn_of_wp func143 rfl trivial ?_ rfl;simp only [ntmps143,List.size_toArray,List.length_cons,List.length_nil,Nat.reduceAdd,Nat.reduceSub,Array.replicate_succ,Array.replicate_zero,List.push_toArray,List.append_toArray,List.nil_append,List.cons_append]
 gi_wp2_with (gi_at_call 167;refine (qU (n-1) (by omega) g lb eg S Sp N hN _ oF).mono ?_;rintro e w' ⟨v,ss,rfl,Wu,dW,yz,hb⟩)
 rcases dW.2 with ⟨rfl,_⟩ | ⟨gb,cap,cur,rfl,sA,Rh,iV,hr2,hr3,hr4⟩;{
 have e0:ss=[]:=yz.1 rfl;subst e0
 gi_wp2_with (gi_at_call 168;refine (callsIn_wide.2 (wh 0 _)).mono ?_;rintro e w2 ⟨rfl,rfl⟩)
 go_ret;exact ⟨_,[],rfl,Wu,.inl ⟨rfl,by simp⟩,hb⟩};{
 have bj:gb<w'.heap.size:=(Array.getElem?_eq_some_iff.1 Rh).1;have hH:=FB Rh (by simpa using hr4)
 gi_wp2_with (gi_at_call 168;refine (callsIn_wide.2 (tm gb 0 cap ss (hS ss Wu) _ hH bj)).mono ?_;rintro e w2 ⟨rfl,sX,fU⟩)
 go_ret;refine ⟨_,ss,rfl,Wu,.inr ⟨gb,cap,by rw [List.length_mergeSort];rfl,by omega,Nat.lt_of_lt_of_le bj fU.size,sX⟩,?_⟩;exact hb.grown fU hb.size (fun k e=>by cases e;omega)}
theorem aa4 {H:Type} (b nn:Nat) (D0:DataW H) {R:Value->Option (DataW H × List MemPlace)} (w:World) (br:w.ownsMap prog 23 R b nn D0) (il:Maps.size D0<=1048576) :
  Calls prog 99 #[.map (some b)] w fun e w'=>∃ (v:Value) (ss:List Int),e=.returned v/\S7 D0 ss/\SC w.heap.size w' v ss/\Bw w w':=by
 refine (callsIn_wide (n:=6)).1 ?_;have hfK:Fence.wide.fn 144:=trivial;have Ye:Fence.wide.fn 143:=trivial;have Cf:=br.lt;have nj:(w.alloc (.cells #[.map (some b)] 129)).ownsMap prog 23 R b nn D0:=by obtain ⟨es,clock,hb,Ft,hs,hD⟩:=br;exact ⟨es,clock,(Below.heap_alloc _ _ b Cf).trans hb,Ft,hs,hD⟩
 have oF:=Aw 2 (by omega) w.heap.size b nn D0 (w.alloc (.cells #[.map (some b)] 129)) (by simp) (by simp) nj;refine callsIn_of_wp func99 rfl trivial ?_ rfl;simp only [ntmps99,List.size_toArray,List.length_cons,List.length_nil,Nat.reduceAdd,Nat.reduceSub,Array.replicate_succ,Array.replicate_zero,List.push_toArray,List.append_toArray,List.nil_append,List.cons_append]
 gi_wp2_with (first
  | (gi_at_call 144;refine (Fv _ _ _).mono ?_;rintro e w' ⟨rfl,rfl⟩)
  | (gi_at_call 143;refine (pf 5 (by omega) _ _ (fun args w=>(by kernel_rfl:(callFunc 169 args).run prog w=.ok (.enter 169 args) w)) _ _ _ il (fun ss h=>Nat.le_trans h.2.2 il) _ oF).mono ?_;rintro e w' ⟨v,ss,rfl,hS,DG,hb⟩))
 go_ret;refine ⟨v,_,rfl,BL hS,?_,((Below.refl _ w).alloc aA _).trans (hb.mono (by simp))⟩;rcases DG with h | ⟨g,cap,h1,h2,h3,h4⟩;{exact .inl h};{exact .inr ⟨g,cap,h1,by simp at h2;omega,h3,h4⟩}
theorem mB {H:Type} (b nn:Nat) (D0:DataW H) {R:Value->Option (DataW H × List MemPlace)} (w:World) (br:w.ownsMap prog 23 R b nn D0) (il:Maps.size D0<=1048576) :
  Calls prog 147 #[.map (some b)] w fun e w'=>∃ (v:Value) (ss:List Int),e=.returned v/\S7 D0 ss/\SC w.heap.size w' v ss/\Bw w w':=by
 refine (callsIn_wide (n:=6)).1 ?_;have hfK:Fence.wide.fn 173:=trivial;have Ye:Fence.wide.fn 143:=trivial;have Cf:=br.lt;have nj:(w.alloc (.cells #[.map (some b)] 83)).ownsMap prog 23 R b nn D0:=by obtain ⟨es,clock,hb,Ft,hs,hD⟩:=br;exact ⟨es,clock,(Below.heap_alloc _ _ b Cf).trans hb,Ft,hs,hD⟩
 have oF:=PX 2 (by omega) w.heap.size b nn D0 (w.alloc (.cells #[.map (some b)] 83)) (by simp) (by simp) nj;refine callsIn_of_wp func147 rfl trivial ?_ rfl;simp only [ntmps147,List.size_toArray,List.length_cons,List.length_nil,Nat.reduceAdd,Nat.reduceSub,Array.replicate_succ,Array.replicate_zero,List.push_toArray,List.append_toArray,List.nil_append,List.cons_append]
 gi_wp2_with (first
  | (gi_at_call 173;refine (Vr _ _ _).mono ?_;rintro e w' ⟨rfl,rfl⟩)
  | (gi_at_call 143;refine (pf 5 (by omega) _ _ (fun args w=>(by kernel_rfl:(callFunc 183 args).run prog w=.ok (.enter 183 args) w)) _ _ _ il (fun ss h=>Nat.le_trans h.2.2 il) _ oF).mono ?_;rintro e w' ⟨v,ss,rfl,hS,DG,hb⟩))
 go_ret;refine ⟨v,_,rfl,BL hS,?_,((Below.refl _ w).alloc aA _).trans (hb.mono (by simp))⟩;rcases DG with h | ⟨g,cap,h1,h2,h3,h4⟩;{exact .inl h};{exact .inr ⟨g,cap,h1,by simp at h2;omega,h3,h4⟩}
end Q
end Go.Proofs.YtcfcafeciggjeaaGreatDoor
