import Derived.Test.YtcfcafeciggjeaaGreatDoorK19
import Derived.Test.YtcfcafeciggjeaaGreatDoorK20
import Derived.Test.YtcfcafeciggjeaaGreatDoorK21
import Derived.Test.YtcfcafeciggjeaaGreatDoorK17
import Derived.Lib.ConvBytes
namespace Go.Proofs.YtcfcafeciggjeaaGreatDoor
set_option maxHeartbeats 12800000
set_option linter.unusedVariables false
set_option linter.unusedSimpArgs false
set_option maxRecDepth 100000
open Go.ChangeShapes Go.WideShapes Go.ChangeAt Go.RowKit Go.Proofs.Tryz
variable {A:List Lf} {B M N b bn bs g gb h i sb:Nat} {D:DataW Unit} {SB:List Nat} {e t x:Int} {es:List Ev} {k:TypeId} {l s xs:List Int} {nd:aA} {ns:List aA} {ss:List aL} {u v:Value} {w w' w0 w1 w2:World}
theorem DX (X:World) (v0:Value) (l0:List Int) (N:Nat) (en:Hid (l0.length=N)) (r0:Rd X v0 l0) (hl:N<=4194304) :
  Calls prog 61 #[.slice (some ⟨X.heap.size,0,none⟩) 1 1] (X.alloc (.cells #[v0] 22)) fun e w'=>∃ p' c',e=.returned (.slice p' N c')/\Own X.heap.size w' (.slice p' N c') l0/\Below X.heap.size X w':=by
 have ba:Below X.heap.size X (X.alloc (.cells #[v0] 22)):=ay.alloc ax _;refine (sH X.heap.size [v0] [l0] l0 N 1 rfl (by show _=_;simp [cat]) en _ ⟨rfl,fun j v x e1 e2=>?_⟩ hl (by omega)).mono ?_;{
 match j,e1,e2 with
 | 0,e1,e2=>simp at e1 e2;subst e1 e2;exact ⟨by simp,r0.below ba⟩}
 {rintro e w' ⟨p',c',rfl,o,hb⟩;exact ⟨p',c',rfl,Own.mono o (by simp),ai ba hb⟩}
theorem BJ (I D:Int) (p:Option Addr) (c n:Nat) (Q:List Ev) (en:Hid (Q.length=n)) (w:World) (h:iC w (.slice p n c) Q) (hn:n<=1048576) (hbq:Hid (∀ e∈Q,e.2.length<=1048576)) :
  Calls prog 100 #[.agg #[.int .u64 I,.int .i64 D,.slice p n c]] w fun r w'=>∃ p' c' A,r=.returned (.agg #[.int .u64 I,.int .i64 D,.slice p' n c'])/\iC w' (.slice p' n c') Q/\tC w' (.slice p' n c') Q A/\ja w.heap.size w' A/\Below w.heap.size w w':=by
 obtain ⟨ie,Xn,mX,ik,jv⟩:=info_parts Tryz.infoEv;have HR:=ae fun (w':World) (hb:Below w.heap.size w w')=>h.below hb;clear h;obtain ⟨W,hW⟩:=ar (w.alloc (.cells #[.int .u64 I,.int .i64 D,.slice p n c] 35));have bW:Below w.heap.size w W:=by rw [hW];exact ay.alloc ax _
 have zW:W.heap.size=w.heap.size+1:=by rw [hW];simp
 have k0:W.cell? ⟨w.heap.size,0,none⟩=some (.int .u64 I):=by rw [hW];simp
 have k1:W.cell? ⟨w.heap.size,1,none⟩=some (.int .i64 D):=by rw [hW];simp
 have k2:W.cell? ⟨w.heap.size,2,none⟩=some (.slice p n c):=by rw [hW];simp
 go_enter func100,ntmps100;go_wp2_with fail;obtain ⟨W2,iY⟩:=ar (W.alloc (.cells #[.int .u64 0,.int .i64 0,.slice none 0 0] 35));have VM:Below W.heap.size W W2:=by rw [iY];exact ay.alloc ax _
 have zW2:W2.heap.size=w.heap.size+2:=by rw [iY];simp;omega
 have MY:al W2 (w.heap.size+1) [.int .u64 0,.int .i64 0,.slice none 0 0]:=by rw [iY,show w.heap.size+1=W.heap.size by omega];exact al.alloc W #[.int .u64 0,.int .i64 0,.slice none 0 0] _
 rw [<-hW,<-iY];have b2:=ai bW VM;have HK:=ae (ag (af k0 VM) (ag (af k1 VM) (af k2 VM)));have Jt:=ae MY;clear hW iY VM k0 k1 k2 bW zW MY
 go_loopw [3,9] (fun ov iv wr=>∃ (k:Nat) (Ls:List (List Lf)),k<=n/\iv=.int .i64 k/\Hid (dI wW 49 2 W2.heap.size wr ov (Q.take k) Ls)/\Below W2.heap.size W2 wr) (fun _ iv _=>n-(intOf iv).toNat)
 case atStart=>exact ⟨0,[],Nat.zero_le _,rfl,dI.nil _ _ _ _ _,Below.refl _ _⟩
 case round =>(
 obtain ⟨k,Ls,hk,rfl,ho,aT⟩:=hrel;have BB:=ai b2 aT;by_cases br:k<n;{
 have bt:(k:Int)<(n:Int):=by omega
 have dT:k<Q.length:=by rw [aa en];exact br
 obtain ⟨⟨K,P⟩,hy⟩:∃ y,Q[k]?=some y:=⟨_,aE dT⟩;obtain ⟨b,o,rfl,Uw,u,Pt,CH,nS⟩:∃ b o,p=some ⟨b,o,none⟩/\wr.cell? ⟨b,o+k*2,none⟩=some (.int .i64 K)/\∃ u,wr.cell? ⟨b,o+k*2+1,none⟩=some u/\Rd wr u P/\fV u:=by obtain ⟨p',c',ev,hd⟩:=aa HR _ BB;simp only [Value.slice.injEq] at ev;obtain ⟨rfl,-,-⟩:=ev;rcases hd with h0 | ⟨b,o,h1,h2⟩;{rw [h0] at dT;simp at dT};{exact ⟨b,o,h1,h2 k _ hy⟩}
 obtain ⟨pp,pc,m,rfl,em⟩:=CH.ew;have hm:m<=1048576:=by rw [<-aa em];exact aa hbq _ (aF hy)
 have QQ:=ae CH;have HY:=ae hy;clear CH nS hy dT;go_wp2_with fail;obtain ⟨X,hX⟩:=ar (wr.alloc (.cells #[.int .i64 K,.slice pp m pc] 49));have Rp:Below wr.heap.size wr X:=by rw [hX];exact ay.alloc ax _
 have e0:X.cell? ⟨wr.heap.size,0,none⟩=some (.int .i64 K):=by rw [hX];simp
 have e1:X.cell? ⟨wr.heap.size,1,none⟩=some (.slice pp m pc):=by rw [hX];simp
 obtain ⟨V,hV⟩:=ar X.drew;have hbV:Below wr.heap.size wr V:=by rw [hV];exact Rp.drew
 rw [<-hX];refine wp_region_noPanic ?_;refine wp_region_held_drew (S:=fun w'=>w'.cell? ⟨wr.heap.size,0,none⟩=some (.int .i64 K)/\w'.cell? ⟨wr.heap.size,1,none⟩=some (.slice pp m pc)) (by kernel_rfl) (by exact ⟨e0,e1⟩) (fun hS=>?_);rw [<-hV] at hS ⊢;have KV:=ae hS;have zV:wr.heap.size<V.heap.size:=World.block_lt_of_cell? V _ hS.1;have z2r:=aT.size;clear hX Rp e0 e1 hV Uw Pt;have OV:=ae (ho.below wW.aM hbV);have HU3:=ae fun b hb=>(ho.lt.1 b hb).2;have rV:=ae (QQ.below hbV);clear ho;refine gp 0 1 2 3 hS ?_;refine tn 4 hS ?_;refine aH 5 fun KK hK=>?_;go_simp;have S5:=(Below.refl V.heap.size V).alloc ax (.cells #[.slice pp m pc] 22);refine bm hK (by exact ⟨af KV.1 S5,af KV.2 S5⟩) fun hS=>?_;clear hK KK;refine aH 6 fun KK hK=>?_;refine fw (DX V (.slice pp m pc) P m em rV (by omega)) ?_;rintro r v1 ⟨p6,c6,rfl,o6,CN⟩;refine ⟨_,rfl,?_⟩;have K6:=ae (ag (af KV.1 CN) (af KV.2 CN));refine bm hK (by exact K6) fun hS=>?_;clear hK KK S5;have O6:=ae o6;have B6:=ae CN;clear o6 CN;refine tn 7 hS ?_;refine aH 8 fun KK hK=>?_;go_simp;have A8:=(Below.refl v1.heap.size v1).alloc ax (.cells #[.int .i64 K,.slice p6 m c6] 49);refine hK.out _ _ (by exact ⟨af K6.1 A8,af K6.2 A8⟩) (fun hS=>?_);clear hK KK;obtain ⟨Z,hZ⟩:=ar (v1.alloc (.cells #[.int .i64 K,.slice p6 m c6] 49));have hcZ:∀ j u,[Value.int .i64 K,.slice p6 m c6][j]?=some u->Z.cell? ⟨v1.heap.size,j,none⟩=some u:=fun j u hu=>by have:=(al.alloc v1 #[.int .i64 K,.slice p6 m c6] 49).1 j u (by simpa using hu);rw [hZ];exact this
 rw [<-hZ] at A8 hS ⊢;have bVZ:Below V.heap.size V Z:=ai B6 A8;have OZ:=OV.below wW.aM bVZ;obtain ⟨lb,q1,q2,q3,q4⟩:=Gg (kd:=.u8) (Own.below O6 A8);have elz:wW Z (K,P) [.int .i64 K,.slice p6 m c6] lb:=⟨p6,c6,by rw [aa em],by rw [aa em];exact (Own.below (aa O6) A8).rd,by rw [aa em];exact ⟨_,_,_,rfl,(Own.below (aa O6) A8).cap,(Own.below (aa O6) A8).BM⟩,by rw [aa em];exact q1⟩;obtain ⟨cs,g1,g2,g3,g4,g5,g6,g7⟩:=id OZ;have Xl:=OV.lt;have hle:(Q.take k).length<=1048576:=by rw [List.length_take];omega
 have z9:W2.heap.size<=Z.heap.size:=by have:=bVZ.size;omega
 clear hZ
 (try simp only [Act.put,xa,xb,xc])
 refine aH 9 fun KK hK=>?_;refine dU (by rfl) _ _ 33 (by rfl) W2.heap.size 49 ie _ 2 32 underlying33 Xn mX ik jv rfl (by decide) u3 _ _ (by rfl) g4 v1.heap.size 1 1 [.int .i64 K,.slice p6 m c6] (by rfl) rfl hcZ (fun u hu=>by simp at hu;rcases hu with rfl | rfl<;>rfl) (by unfold maxLen;omega) (by omega) z9 ?_;intro v' w9 dN hg j6;have sn:=dI.snoc g1 g2 g3 g5 g6 g7 wW.aM elz rfl q2 (by omega) (fun a ha=>(Xl.2 a ha).2) (fun b hb=>(Xl.1 b hb).2) dN hg j6;rw [<-jD (aa HY)] at sn;have ft:Below W2.heap.size W2 w9:=(ai (ai aT hbV) bVZ).grown hg z9 (fun b hb=>(Xl.1 b hb).1);have K9:w9.cell? ⟨wr.heap.size,0,none⟩=some (.int .i64 K)/\w9.cell? ⟨wr.heap.size,1,none⟩=some (.slice pp m pc):=by
  have bq:some wr.heap.size≠u3.ownBlock:=fun e=>by have:=aa HU3 _ e.symm;omega
  exact ⟨hg.cell hS.1 bq,hg.cell hS.2 bq⟩
 refine bm hK (by exact K9) fun hS=>?_;clear hK KK;refine tn 10 hS ?_;refine wpAnyH_done (by kernel_rfl) ?_ _;refine aX ?_;have SN:=ae sn;clear hS sn dN hg j6 g1 g2 g3 g4 g5 g6 g7 elz q1 q2 q3 q4 hcZ OZ Xl;go_wp2;go_roundw
 case rel=>exact ⟨k+1,_,by omega,by go_num,SN,ft⟩
 case measure=>simp [intOf];omega}
 {
 have bt:¬ (k:Int)<(n:Int):=by omega
 have xr:k=n:=by omega
 subst xr;have o2:=aa ho;rw [List.take_of_length_le (by rw [aa en];exact Nat.le_refl _)] at o2;obtain ⟨E0,A,DT,xj⟩:=o2.ev;obtain ⟨pv,cv,rfl,-⟩:=id E0;rw [aa en] at E0 DT ⊢;obtain ⟨q0,q1,q2⟩:=aa HK;have c0:=af q0 aT;have c1:=af q1 aT;have MY:=Jt.below (by omega) aT;have r0:=MY.1 0 _ rfl;have r1:=MY.1 1 _ rfl;have r2:=MY.1 2 _ rfl;have rf:=MY.2;have bq:¬ w.heap.size+1=w.heap.size:=by omega
 have RD:=ae (ag E0 (ag DT xj));have Kr:=aT.size;clear E0 DT xj o2 q0 q1 q2 MY;go_wp2;obtain ⟨E0,DT,xj⟩:=aa RD;obtain ⟨Z,hZ⟩:=ar (((wr.setCell ⟨w.heap.size+1,0,none⟩ (.int .u64 I)).setCell ⟨w.heap.size+1,1,none⟩ (.int .i64 D)).setCell ⟨w.heap.size+1,2,none⟩ (.slice pv k cv));have hk:∀ a∈A,Z.heap[a.b]?=wr.heap[a.b]?:=fun a ha=>by have:=xj.lo a ha;rw [hZ];rw [dt _ _ _ _ (by simp;omega),dt _ _ _ _ (by simp;omega),dt _ _ _ _ (by simp;omega)]
 have Ro:Below w.heap.size w Z:=by rw [hZ];exact ((BB.setCell (by simp) _).setCell (by simp) _).setCell (by simp) _
 refine bodyPost_ret (v:=.agg #[.int .u64 I,.int .i64 D,.slice pv k cv]) (by simp [results,results100,go_sem,r0,r1,r2]) rfl ⟨pv,cv,rfl,?_⟩;rw [<-hZ];exact ⟨E0.cR DT hk,A,tC.aM DT hk,(xj.aM hk).mono (by omega),Ro⟩})
namespace Q
open Go.Sort
theorem qD:SWO ltInt:=swo_ltInt
abbrev Left (a b a1 b1:Nat) (d dk:Array Int):Prop:=∀ R,PermIn a1 b1 dk R->SortedIn ltInt a1 b1 R->PermIn a b d R/\SortedIn ltInt a b R
theorem J6 (aB off cap N:Nat) (fI:N<=1048576):∀ (n a b:Nat) (x9:Int) (d:Array Int) (w:World),Hid (b-a=n)->Hid (d.size=N)->HU w aB off d->aB<w.heap.size->a<=b->b<=N->0<=x9->x9<=64->Go.Sort.Below ltInt a b d →
  Calls prog 179 #[.slice (some ⟨aB,off,none⟩) N cap,.int .i64 a,.int .i64 b,.int .i64 x9] w fun e w'=>
   e=.returned (.tuple #[])/\∃ d',HU w' aB off d'/\PermIn a b d d'/\SortedIn ltInt a b d'/\w.grownBy w' (some aB):=by
 intro n
 induction n using Nat.strongRecOn with
 | _ n ih=>
  intro a b x9 d w hn hN h gG Bo hb rh KG hB;have IH:=ae ih;have H0:=ae h;have B0:=ae hB;go_enter func179,ntmps179;go_wp2_with fail
  go_loopw [1,2,3,8,9] (fun s1 s2 s3 s8 s9 wr=>∃ (a1 b1:Nat) (li:Int) (p q:Bool) (dk:Array Int),s1=.int .i64 a1/\s2=.int .i64 b1/\s3=.int .i64 li/\s8=.bool p/\s9=.bool q/\a<=a1/\a1<=b1/\b1<=b/\0<=li/\li<=64/\Hid (dk.size=N)/\Hid (HU wr aB off dk)/\Hid (Go.Sort.Below ltInt a1 b1 dk)/\Hid (Left a b a1 b1 d dk)/\Hid (w.grownBy wr (some aB))) (fun s1 s2 _ _ _ _=>(intOf s2-intOf s1).toNat)
  case atStart=>exact ⟨a,b,x9,true,true,d,rfl,rfl,rfl,rfl,rfl,Nat.le_refl _,Bo,Nat.le_refl _,rh,KG,hN,H0,B0,fun R h1 h2=>⟨h1,h2⟩,je _ _⟩
  case round =>(
 obtain ⟨a1,b1,li,p,q,dk,rfl,rfl,rfl,rfl,rfl,z1,z2,z3,z4,z5,hD,hH,hB,hF,hG⟩:=hrel;obtain ⟨L,eL⟩:∃ x:Nat,(b1:Int)-(a1:Int)=(x:Int):=⟨b1-a1,by omega⟩;have wL:IntKind.i64.wrap (L:Int)=(L:Int):=IntWalk.i64_in _ (by omega);have xh:b1<=N:=by omega
 by_cases Ru:L<=12;{
 have ag3:(L:Int)<=12:=by omega
 go_wp2_with fail;refine (Ko aB off cap N a1 b1 dk hD _ hH z2 xh fI).mono ?_;rintro e w1 ⟨rfl,qn,fN⟩;have Wr:=ae qn;have Ws:=ae (aG hG fN);go_wp2;refine bodyPost_ret (results_none (h:=rfl) _ _ _) rfl ⟨rfl,_,Wr,?_,?_,Ws⟩;{have:=insertionSort_holds qD dk a1 b1 z2 (by rw [aa hD];exact xh);exact (aa hF _ this.1 this.2).1};{have:=insertionSort_holds qD dk a1 b1 z2 (by rw [aa hD];exact xh);exact (aa hF _ this.1 this.2).2}};{
 have ag3:¬ (L:Int)<=12:=by omega
 by_cases hli:li=0;{subst hli;go_wp2_with fail;refine (Hl aB off cap N a1 b1 dk hD _ hH z2 xh fI).mono ?_;rintro e w1 ⟨rfl,qn,fN⟩;have Wr:=ae qn;have Ws:=ae (aG hG fN);go_wp2;refine bodyPost_ret (results_none (h:=rfl) _ _ _) rfl ⟨rfl,_,Wr,?_,?_,Ws⟩;{have:=heapSort_holds qD dk a1 b1 z2 (by rw [aa hD];exact xh);exact (aa hF _ this.1 this.2).1};{have:=heapSort_holds qD dk a1 b1 z2 (by rw [aa hD];exact xh);exact (aa hF _ this.1 this.2).2}};{
 have h8:a1+8<=b1:=by omega
 go_upto_if 35 with fail
 go_cut [3] (fun s3 wc=>∃ (lj:Int) (d1:Array Int),s3=.int .i64 lj/\0<=lj/\lj<=64/\Hid (d1.size=N)/\Hid (HU wc aB off d1)/\Hid (PermIn a1 b1 dk d1)/\Hid (w.grownBy wc (some aB)))
 case first =>(
 cases p with
 | true=>
  go_wp2_with fail;go_meet;exact ⟨li,dk,rfl,z4,z5,hD,hH,permIn_refl dk a1 b1,hG⟩
 | false=>
  go_wp2_with fail;refine (Ew aB off cap N a1 b1 dk hD _ hH (Nat.lt_of_lt_of_le gG hG.size) h8 xh fI).mono ?_;rintro e w1 ⟨rfl,d1,qn,Jj,fN⟩;have Wr:=ae qn;have Jv:=ae Jj;have Ws:=ae (aG hG fN);go_wp2_with fail;go_meet;exact ⟨li-1,d1,by first | rfl | go_num,by omega,by omega,Jv.1.trans hD,Wr,Jv,Ws⟩)
 obtain ⟨lj,d1,rfl,y1,y2,Na,qn,Jj,Jk⟩:=hcut;obtain ⟨Y1,eY1⟩:=ar wc;subst eY1;go_wp2_with fail;refine (DL aB off cap N a1 b1 d1 Na _ qn (Nat.lt_of_lt_of_le gG Jk.size) h8 xh fI).mono ?_;rintro e w2 ⟨pv,t,rfl,v1,v2,pR,dV⟩;have NF:=ae pR;have Yp:=ae (aG Jk dV)
 go_upto_if 50 with fail
 go_cut [11,12] (fun Sk s12 wc=>∃ (pw:Nat) (tt:Int) (d2:Array Int),Sk=.int .i64 pw/\s12=.int .i64 tt/\a1<=pw/\pw<b1/\Hid (d2.size=N)/\Hid (HU wc aB off d2)/\Hid (PermIn a1 b1 d1 d2)/\Hid (w.grownBy wc (some aB)))
 case first =>(
 by_cases ht:t=2;{
 subst ht;have q1:IntKind.i64.wrap ((b1:Int)-1)=(b1:Int)-1:=IntWalk.i64_in _ (by omega);have q2:IntKind.i64.wrap ((pv:Int)-(a1:Int))=(pv:Int)-(a1:Int):=IntWalk.i64_in _ (by omega);obtain ⟨nv,env⟩:∃ x:Nat,(b1:Int)-1-((pv:Int)-(a1:Int))=(x:Int):=⟨b1-1-(pv-a1),by omega⟩;have q3:IntKind.i64.wrap (nv:Int)=(nv:Int):=IntWalk.i64_in _ (by omega);have bn:a1<=nv/\nv<b1:=by omega
 go_wp2_with fail;refine (JX aB off cap N a1 b1 d1 Na _ NF z2 xh fI).mono ?_;rintro e w3 ⟨rfl,wR,qL⟩;have Yn:=ae wR;have Yo:=ae (aG Yp qL);have HP3:=ae (reverseRange_holds d1 a1 b1 z2 (by rw [aa Na];exact xh));go_wp2_with fail;go_meet;exact ⟨nv,1,_,rfl,rfl,bn.1,bn.2,HP3.1.trans Na,Yn,HP3,Yo⟩};{
 have ht':(t==2)=false:=by simp [ht]
 go_wp2_with fail;go_meet;exact ⟨pv,t,d1,rfl,rfl,v1,v2,Na,NF,permIn_refl d1 a1 b1,Yp⟩})
 obtain ⟨pw,tt,d2,rfl,rfl,x1,x2,XI,pR,vh,Rr⟩:=hcut;obtain ⟨Y2,Qn⟩:=ar wc;subst Qn
 go_upto_region 15 with fail
 go_cut [68] (fun s68 wc=>∃ Bq:Bool,s68=.bool Bq/\wc=Y2)
 case first =>(
 cases p<;>cases q
 all_goals
  go_wp2_with fail;go_meet;exact ⟨_,rfl,rfl⟩)
 obtain ⟨Bq,rfl,rfl⟩:=hcut
 go_upto_if 68 with fail
 go_cut [72] (fun s72 wc=>∃ d3:Array Int,Hid (d3.size=N)/\Hid (HU wc aB off d3)/\Hid (PermIn a1 b1 d2 d3)/\Hid (w.grownBy wc (some aB)))
 case first =>(
 cases Bq with
 | false=>
  go_wp2_with fail;go_meet;exact ⟨d2,XI,pR,permIn_refl d2 a1 b1,Rr⟩
 | true=>
  go_wp2_with fail;refine (DM aB off cap N a1 b1 d2 XI _ pR (by omega) xh fI).mono ?_;have js:Go.Sort.Below ltInt a1 b1 d2:=(hB.perm (by rw [aa hD];exact xh) (aa Jj)).perm (by rw [aa Na];exact xh) (aa vh);have QU:=ae (partialInsertionSort_holds qD d2 a1 b1 (by omega) (by rw [aa XI];exact xh) js);generalize partialInsertionSort ltInt d2 a1 b1=R at QU;obtain ⟨R1,R2⟩:=R;rintro e w3 ⟨rfl,wR,qL⟩;have Yn:=ae wR;have Yo:=ae (aG Rr qL);cases R2 with
  | true=>
   go_wp2;refine bodyPost_ret (results_none (h:=rfl) _ _ _) rfl ⟨rfl,R1,Yn,?_,?_,Yo⟩;{exact (aa hF R1 (permIn_trans _ _ _ a1 b1 (permIn_trans _ _ _ a1 b1 Jj vh) QU.1) (QU.2 (by first | trivial | rfl))).1};{exact (aa hF R1 (permIn_trans _ _ _ a1 b1 (permIn_trans _ _ _ a1 b1 Jj vh) QU.1) (QU.2 (by first | trivial | rfl))).2}
  | false=>
   go_wp2_with fail;go_meet;exact ⟨R1,QU.1.1.trans XI,Yn,QU.1,Yo⟩)
 obtain ⟨d3,PR,wR,ae1,Le⟩:=hcut;obtain ⟨Y3,eY3⟩:=ar wc;subst eY3;have XF:Hid (PermIn a1 b1 dk d3):=permIn_trans _ _ _ a1 b1 (permIn_trans _ _ _ a1 b1 Jj vh) ae1;have Lj:Hid (Go.Sort.Below ltInt a1 b1 d3):=hB.perm (by rw [aa hD];exact xh) (aa XF)
 go_upto_region 17 with fail
 go_cut [87] (fun s87 wc=>∃ B:Bool,s87=.bool B/\Hid (B=true->0<a1/\ltInt d3[a1-1]! d3[pw]! = false)/\wc=Y3.drew)
 case first =>(
 by_cases ha:0<a1;{
 have MV:(0:Int)<(a1:Int):=by omega
 have py:(a1:Int)>0:=by omega
 obtain ⟨m,em⟩:∃ x:Nat,(a1:Int)-1=(x:Int):=⟨a1-1,by omega⟩;have Ni:a1-1=m:=by omega
 have wm:IntKind.i64.wrap (m:Int)=(m:Int):=IntWalk.i64_in _ (by omega);have pj:=aa PR;obtain ⟨c1,-⟩:=aa wR m (by omega);obtain ⟨c2,-⟩:=aa wR pw (by omega);obtain ⟨x,ex⟩:∃ x,d3[m]! = x:=⟨_,rfl⟩;obtain ⟨y,ey⟩:∃ y,d3[pw]! = y:=⟨_,rfl⟩;rw [ex] at c1;rw [ey] at c2;have k1:(m:Int)<(N:Int):=by omega
 have k2:(pw:Int)<(N:Int):=by omega
 have k3:(0:Int)<=(m:Int):=by omega
 obtain ⟨Lt,eLt⟩:=aN (ltInt x y);have EL:=ae eLt;have HX:Hid ((!Lt)=true->0<a1/\ltInt d3[a1-1]! d3[pw]! = false):=fun cL=>⟨ha,by rw [Ni,ex,ey,eLt];simpa using cL⟩;have K0:=ae (ag c1 c2);refine wp_region_noPanic ?_;refine wp_region_held_drew (S:=fun w'=>w'.cell? ⟨aB,off+m,none⟩=some (.int .u64 x)/\w'.cell? ⟨aB,off+pw,none⟩=some (.int .u64 y)) (by kernel_rfl) (by exact K0) (fun hS=>?_);refine gj 0 1 2 3 4 5 6 7 hS ?_;refine gp 8 9 10 11 hS ?_;refine aH 12 fun KK hK=>?_;refine bR (by rfl) 191 _ _ _ (by rfl) (.int .u64 x) (.int .u64 y) (by rfl) (by rfl) (fun _=>dz _ _) (dy x y _) ?_;rintro r' w2' ⟨rfl,rfl⟩;refine ⟨_,rfl,?_⟩;rw [aa EL];refine bm hK (by exact K0) fun hS=>?_;refine dQ 13 14 hS ?_;refine wpAnyH_done (by kernel_rfl) ?_ _;refine aX ?_;go_wp2_with fail;go_meet;exact ⟨_,rfl,HX,rfl⟩};{
 have MV:¬ (0:Int)<(a1:Int):=by omega
 refine wp_region_noPanic ?_;refine wp_region_held_drew (S:=fun w'=>True) (by kernel_rfl) trivial (fun hS=>?_);refine dQ 0 1 hS ?_;refine tn 2 hS ?_;refine sn 3 hS ?_;refine sn 4 hS ?_;refine sn 5 hS ?_;refine sn 6 hS ?_;refine sn 7 hS ?_;refine sn 8 hS ?_;refine sn 9 hS ?_;refine sn 10 hS ?_;refine sn 11 hS ?_;refine sn 12 hS ?_;refine sn 13 hS ?_;refine tn 14 hS ?_;refine wpAnyH_done (by kernel_rfl) ?_ _;refine aX ?_;go_wp2_with fail;go_meet;exact ⟨false,rfl,(fun h=>by cases h),rfl⟩})
 obtain ⟨B,rfl,hBB,rfl⟩:=hcut;cases B with
 | true=>
  obtain ⟨⟨mid,d4⟩,Vy⟩:∃ R,partitionEqual ltInt d3 a1 b1 pw=R:=⟨_,rfl⟩;have hc:=AD aB off cap N a1 b1 pw d3 PR Y3.drew wR x1 x2 xh fI;rw [Vy] at hc;obtain ⟨m1,m2,m3,m4,m5⟩:=round_eq qD (partitionEqual_holds ltInt) (aa hBB rfl).1 x1 x2 (by rw [aa PR];exact xh) (aa Lj) (aa hBB rfl).2 Vy;have Jw:Hid (d4.size=N):=m3.trans PR;have zK:=ae m4;have HL4:Hid (Left a b mid b1 d d4):=fun R r1 r2=>by have:=m5 R r1 r2;exact hF R (permIn_trans _ _ _ a1 b1 XF this.1) this.2
  go_wp2_with fail;refine hc.mono ?_;rintro e w4 ⟨rfl,yJ,pf⟩;have Ym:=ae yJ;have RL:=ae (aG (ao Le) pf);go_wp2;go_roundw
  case rel=>exact ⟨mid,b1,lj,p,q,d4,rfl,rfl,rfl,rfl,rfl,by omega,by omega,by omega,by omega,by omega,Jw,Ym,zK,HL4,RL⟩
  case measure=>simp [intOf];omega
 | false=>
  obtain ⟨⟨mid,ap,d4⟩,Vy⟩:∃ R,partition ltInt d3 a1 b1 pw=R:=⟨_,rfl⟩;have hc:=Gp aB off cap N a1 b1 pw d3 PR Y3.drew wR x1 x2 xh fI;rw [Vy] at hc;obtain ⟨m1,m2,m3,m4,m5,m6,m7⟩:=round_part qD (partition_holds ltInt) x1 x2 (by rw [aa PR];exact xh) (aa Lj) Vy;have Jw:Hid (d4.size=N):=m3.trans PR;have zK:=ae m4;have Mj:=ae m5;have HL6:=ae m6;have HL7:=ae m7;obtain ⟨lL,elL⟩:∃ x:Nat,(mid:Int)-(a1:Int)=(x:Int):=⟨mid-a1,by omega⟩;obtain ⟨rL,erL⟩:∃ x:Nat,(b1:Int)-(mid:Int)=(x:Int):=⟨b1-mid,by omega⟩;have wlL:IntKind.i64.wrap (lL:Int)=(lL:Int):=IntWalk.i64_in _ (by omega);have wrL:IntKind.i64.wrap (rL:Int)=(rL:Int):=IntWalk.i64_in _ (by omega);obtain ⟨th,eth⟩:∃ x:Nat,(L:Int) / 8=(x:Int):=⟨L / 8,by omega⟩;have bd7:Int.tdiv (L:Int) 8=(th:Int):=by rw [<-eth];exact Int.tdiv_eq_ediv_of_nonneg (by omega)
  have wth:IntKind.i64.wrap (th:Int)=(th:Int):=IntWalk.i64_in _ (by omega);go_wp2_with fail;refine hc.mono ?_;rintro e w4 ⟨rfl,yJ,pf⟩;have Ym:=ae yJ;have RL:=ae (aG (ao Le) pf);by_cases hlr:lL<rL;{
 have ZU:(lL:Int)<(rL:Int):=by omega
 go_wp2_with fail;refine (aa IH (mid-a1) (by have:=aa hn;omega) a1 mid lj d4 _ rfl Jw Ym (Nat.lt_of_lt_of_le gG RL.size) m1 (by omega) y1 y2 zK).mono ?_;rintro e w5 ⟨rfl,d5,uD,PJ,hS5,sO⟩;have HH5:=ae uD;have HG5:=ae (aG RL sO);obtain ⟨o1,o2⟩:=aa HL6 d5 PJ hS5;have Q4:=ae o1;have QZ:Hid (d5.size=N):=PJ.1.trans Jw;have HL5:Hid (Left a b (mid+1) b1 d d5):=fun R r1 r2=>by have:=o2 R r1 r2;exact hF R (permIn_trans _ _ _ a1 b1 XF this.1) this.2
 go_wp2;go_roundw
 case rel=>exact ⟨mid+1,b1,lj,_,ap,d5,by first | rfl | go_num,rfl,rfl,rfl,rfl,by omega,by omega,by omega,by omega,by omega,QZ,HH5,Q4,HL5,HG5⟩
 case measure=>simp [intOf];omega}
  {
 have ZU:¬ (lL:Int)<(rL:Int):=by omega
 obtain ⟨mp,emp⟩:∃ x:Nat,(mid:Int)+1=(x:Int):=⟨mid+1,by omega⟩;have ah5:mid+1=mp:=by omega
 have wmp:IntKind.i64.wrap (mp:Int)=(mp:Int):=IntWalk.i64_in _ (by omega);rw [ah5] at Mj HL7;go_wp2_with fail;refine (aa IH (b1-mp) (by have:=aa hn;omega) mp b1 lj d4 _ rfl Jw Ym (Nat.lt_of_lt_of_le gG RL.size) (by omega) (by omega) y1 y2 Mj).mono ?_;rintro e w5 ⟨rfl,d5,uD,PJ,hS5,sO⟩;have HH5:=ae uD;have HG5:=ae (aG RL sO);obtain ⟨o1,o2⟩:=aa HL7 d5 PJ hS5;have Q4:=ae o1;have QZ:Hid (d5.size=N):=PJ.1.trans Jw;have HL5:Hid (Left a b a1 mid d d5):=fun R r1 r2=>by have:=o2 R r1 r2;exact hF R (permIn_trans _ _ _ a1 b1 XF this.1) this.2
 go_wp2;go_roundw
 case rel=>exact ⟨a1,mid,lj,_,ap,d5,rfl,rfl,rfl,rfl,rfl,by omega,by omega,by omega,by omega,by omega,QZ,HH5,Q4,HL5,HG5⟩
 case measure=>simp [intOf];omega}}})
end Q
namespace Q
open Go.Sort
theorem Kn (cap:Nat) (w:World):Calls prog 185 #[.slice none 0 cap,.int .i64 0,.int .i64 0] w fun e w'=>e=.returned (.tuple #[])/\w'=w:=by
 go_enter func185,ntmps185;go_wp2_with fail
 go_loopw [6] (fun s6 wr=>s6=.int .i64 1/\wr=w) (fun _ _=>0)
 case atStart=>exact ⟨rfl,rfl⟩
 case round =>(
 obtain ⟨rfl,rfl⟩:=hrel;go_wp2
 go_end0
 exact ⟨rfl,rfl⟩)
theorem J4 (cap:Nat) (w:World):Calls prog 179 #[.slice none 0 cap,.int .i64 0,.int .i64 0,.int .i64 0] w fun e w'=>e=.returned (.tuple #[])/\w'=w:=by
 go_enter func179,ntmps179;go_wp2_with fail
 go_loopw [1,2,3,8,9] (fun s1 s2 s3 s8 s9 wr=>s1=.int .i64 0/\s2=.int .i64 0/\s3=.int .i64 0/\s8=.bool true/\s9=.bool true/\wr=w) (fun _ _ _ _ _ _=>0)
 case atStart=>exact ⟨rfl,rfl,rfl,rfl,rfl,rfl⟩
 case round =>(
 obtain ⟨rfl,rfl,rfl,rfl,rfl,rfl⟩:=hrel;go_wp2_with fail;refine (Kn cap _).mono ?_;rintro e w1 ⟨rfl,rfl⟩;go_wp2;exact bodyPost_ret (results_none (h:=rfl) _ _ _) rfl ⟨rfl,rfl⟩)
theorem rZ (cap:Nat) (w:World):Calls prog 168 #[.slice none 0 cap] w fun e w'=>e=.returned (.tuple #[])/\w'=w:=by
 have hL:=vT 0 (by omega);have e0:Lib.bitLen 0=0:=by decide
 rw [e0] at hL;go_enter func168,ntmps168;go_wp2_with fail;refine (hL _).mono ?_;rintro e w1 ⟨rfl,rfl⟩;go_wp2_with fail;refine (J4 cap _).mono ?_;rintro e w1 ⟨rfl,rfl⟩;go_wp2
 go_end0
 exact ⟨rfl,rfl⟩
theorem FR (aB off cap N:Nat) (d:Array Int) (hN:Hid (d.size=N)) (fI:N<=1048576) (w:World) (h:HU w aB off d) (gG:aB<w.heap.size) :
  Calls prog 168 #[.slice (some ⟨aB,off,none⟩) N cap] w fun e w'=>
   e=.returned (.tuple #[])/\∃ d',HU w' aB off d'/\PermIn 0 N d d'/\SortedIn ltInt 0 N d'/\w.grownBy w' (some aB):=by
 have hL:=vT N fI;have hK:Lib.bitLen N<=21:=Lib.bitLen_le N 21 (by omega) (by omega);generalize Lib.bitLen N=K at hL hK;have wU:IntKind.u64.wrap (N:Int)=(N:Int):=by rw [IntKind.wrap_u64];omega
 have H0:=ae h;clear h;go_enter func168,ntmps168;go_wp2_with fail;refine (hL _).mono ?_;rintro e w1 ⟨rfl,rfl⟩;go_wp2_with fail;refine (J6 aB off cap N fI N 0 N K d _ (by show _=_;omega) hN H0 gG (Nat.zero_le _) ax (by omega) (by omega) (Or.inl rfl)).mono ?_;rintro e w2 ⟨rfl,d',hH,hP,hS,hg⟩;have HH:=ae hH;have HP:=ae hP;have HS:=ae hS;have HG:=ae hg;clear hH hP hS hg;go_wp2
 go_end0
 exact ⟨rfl,d',HH,HP,HS,HG⟩
theorem qd (aB off cap:Nat) (l:List Int) (fI:l.length<=1048576) (w:World) (h:HU w aB off l.toArray) (gG:aB<w.heap.size) :
  Calls prog 168 #[.slice (some ⟨aB,off,none⟩) l.length cap] w fun e w'=>
   e=.returned (.tuple #[])/\HU w' aB off (l.mergeSort (fun x y=>decide (x<=y))).toArray/\w.grownBy w' (some aB):=by
 refine (FR aB off cap l.length l.toArray (by show _=_;simp) fI w h gG).mono ?_;rintro e w' ⟨rfl,d',hH,hP,hS,hg⟩;refine ⟨rfl,?_,hg⟩;have e:=sorted_unique_holds qD (fun x y h1 h2=>by simp [ltInt] at h1 h2;omega) l.toArray d' (by simpa using hP) (by simpa using hS);have e2:(fun x y:Int=>!ltInt y x)=(fun x y=>decide (x<=y)):=by
  funext x y
  by_cases hh:x<=y;{rw [decide_eq_true hh];simp [ltInt];omega};{rw [decide_eq_false hh];simp [ltInt];omega}
 rw [e2] at e;have e3:d'=(l.mergeSort (fun x y=>decide (x<=y))).toArray:=by rw [<-show d'.toList.toArray=d' from by simp,e]
 rw [<-e3];exact hH
end Q
namespace Q
open Go.Maps Go.Sort
theorem nW (n:Nat) (hn:3<=n) (g:Nat) (lb:Array Value) (eg:∀ args w,(callFunc g args).run prog w=.ok (.enter g args) w)
  (S Sp:List Int->Prop) (N:Nat) (hN:N<=1048576) (w:World) (lE:SeqStopsK Fence.wide (n-1-1) prog g lb (fun x:Int=>#[di x]) KeepsWalks S Sp N w) :
  CallsIn Fence.wide n prog 167 #[.func (.func g) #[] lb] w fun e w'=>∃ (v:Value) (ss:List Int),e=.returned v/\S ss/\w'.ownsRow (w.heap.size+1) 23 1 v ss.length (ss.map di)/\(v=.slice none 0 0↔ss=[])/\Below w.heap.size w w':=by
 have h1:1<=n:=by omega
 have Rk:Fence.wide.fn 178:=trivial;refine callsIn_of_wp func167 rfl trivial ?_ rfl;simp only [ntmps167,List.size_toArray,List.length_cons,List.length_nil,Nat.reduceAdd,Nat.reduceSub,Array.replicate_succ,Array.replicate_zero,List.push_toArray,List.append_toArray,List.nil_append,List.cons_append]
 gi_wp2_with (gi_at_call 178;refine (ki (n-1) (by omega) g lb eg S Sp N hN _ lE).mono ?_;rintro e w' ⟨v,ss,rfl,hS,dN,uo,hb⟩)
 go_ret;exact ⟨v,ss,rfl,hS,dN,uo,hb⟩
theorem AZ {cur:Array Value} {e:TypeId} {ss:List Int} (hb:w.heap[g]?=some (.cells cur e (0,0))) (ht:cur.toList.take ss.length=ss.map di):HU w g 0 ss.toArray:=by
 intro j hj;have Pl:j<ss.length:=by simpa using hj
 refine ⟨?_,by simp [World.frozen?,hb]⟩;have h1:(cur.toList.take ss.length)[j]?=(ss.map di)[j]?:=by rw [ht]
 rw [List.getElem?_take_of_lt Pl] at h1;simp only [World.cell?,hb,Nat.zero_add];simp only [Option.isSome_none,Bool.false_eq_true,if_false];rw [<-Array.getElem?_toList,h1];simp [Pl,di]
def LY (B:Nat) (w:World) (v:Value) (ss:List Int):Prop:=(v=.slice none 0 0/\ss=[])\/∃ g cap,v=.slice (some ⟨g,0,none⟩) ss.length cap/\B<=g/\g<w.heap.size/\HU w g 0 ss.toArray
structure Mn {H:Type} (D0:DataW H) (ss:List Int):Prop where
 lt:ss.Pairwise (·<·)
 mem:∀ x,x∈ss↔has D0 (.int .u64 x)=true
 size:ss.length<=Maps.size D0
theorem xi {H:Type} {D0:DataW H} {ss:List Int} (h:gy D0 ss):Mn D0 (ss.mergeSort (fun x y=>decide (x<=y))):=by
 have hp:=List.mergeSort_perm ss (fun x y=>decide (x<=y));refine ⟨?_,fun x=>(hp.mem_iff).trans (h.2.1 x),by rw [hp.length_eq];exact h.2.2⟩;have h1:=List.pairwise_mergeSort (le:=fun x y:Int=>decide (x<=y)) (fun a b c h1 h2=>by simp at *;omega) (fun a b=>by simp;omega) ss;have h2:(ss.mergeSort (fun x y=>decide (x<=y))).Pairwise (·≠·):=hp.nodup_iff.2 h.1;exact (h1.and h2).imp (fun {a b} ⟨x,y⟩=>by simp at x;omega)
theorem l8 (n:Nat) (hn:4<=n) (g:Nat) (lb:Array Value) (eg:∀ args w,(callFunc g args).run prog w=.ok (.enter g args) w)
  (S Sp:List Int->Prop) (N:Nat) (hN:N<=1048576) (hS:∀ ss,S ss->ss.length<=1048576) (w:World) (lE:SeqStopsK Fence.wide (n-1-1-1) prog g lb (fun x:Int=>#[di x]) KeepsWalks S Sp N w) :
  CallsIn Fence.wide n prog 143 #[.func (.func g) #[] lb] w fun e w'=>∃ (v:Value) (ss:List Int),e=.returned v/\S ss/\LY w.heap.size w' v (ss.mergeSort (fun x y=>decide (x<=y)))/\Below w.heap.size w w':=by
 have h1:1<=n:=by omega
 have Ur:Fence.wide.fn 167:=trivial;have Rk:Fence.wide.fn 168:=trivial;refine callsIn_of_wp func143 rfl trivial ?_ rfl;simp only [ntmps143,List.size_toArray,List.length_cons,List.length_nil,Nat.reduceAdd,Nat.reduceSub,Array.replicate_succ,Array.replicate_zero,List.push_toArray,List.append_toArray,List.nil_append,List.cons_append]
 gi_wp2_with (gi_at_call 167;refine (nW (n-1) (by omega) g lb eg S Sp N hN _ lE).mono ?_;rintro e w' ⟨v,ss,rfl,PH,dN,uo,hb⟩)
 rcases dN.2 with ⟨rfl,_⟩ | ⟨gb,cap,cur,rfl,pr,KO,gF,tL,Tx,ZD⟩;{
 have e0:ss=[]:=uo.1 rfl;subst e0
 gi_wp2_with (gi_at_call 168;refine (callsIn_wide.2 (rZ 0 _)).mono ?_;rintro e w2 ⟨rfl,rfl⟩)
 go_ret;exact ⟨_,[],rfl,PH,.inl ⟨rfl,by simp⟩,hb⟩};{
 have br:gb<w'.heap.size:=(Array.getElem?_eq_some_iff.1 KO).1;have hH:=AZ KO (by simpa using ZD)
 gi_wp2_with (gi_at_call 168;refine (callsIn_wide.2 (qd gb 0 cap ss (hS ss PH) _ hH br)).mono ?_;rintro e w2 ⟨rfl,pR,dV⟩)
 go_ret;refine ⟨_,ss,rfl,PH,.inr ⟨gb,cap,by rw [List.length_mergeSort];rfl,by omega,Nat.lt_of_lt_of_le br dV.size,pR⟩,?_⟩;exact hb.grown dV hb.size (fun k e=>by cases e;omega)}
theorem iq {H:Type} (b nn:Nat) (D0:DataW H) {R:Value->Option (DataW H × List MemPlace)} (w:World) (bj:w.ownsMap prog 23 R b nn D0) (fI:Maps.size D0<=1048576) :
  Calls prog 99 #[.map (some b)] w fun e w'=>∃ (v:Value) (ss:List Int),e=.returned v/\Mn D0 ss/\LY w.heap.size w' v ss/\Below w.heap.size w w':=by
 refine (callsIn_wide (n:=6)).1 ?_;have hfK:Fence.wide.fn 144:=trivial;have Rk:Fence.wide.fn 143:=trivial;have Bk:=bj.lt;have kF:(w.alloc (.cells #[.map (some b)] 129)).ownsMap prog 23 R b nn D0:=by obtain ⟨es,clock,hb,Ft,hs,hD⟩:=bj;exact ⟨es,clock,(Below.heap_alloc _ _ b Bk).trans hb,Ft,hs,hD⟩
 have lE:=vI 2 (by omega) w.heap.size b nn D0 (w.alloc (.cells #[.map (some b)] 129)) (by simp) (by simp) kF;refine callsIn_of_wp func99 rfl trivial ?_ rfl;simp only [ntmps99,List.size_toArray,List.length_cons,List.length_nil,Nat.reduceAdd,Nat.reduceSub,Array.replicate_succ,Array.replicate_zero,List.push_toArray,List.append_toArray,List.nil_append,List.cons_append]
 gi_wp2_with (first
  | (gi_at_call 144;refine (AR _ _ _).mono ?_;rintro e w' ⟨rfl,rfl⟩)
  | (gi_at_call 143;refine (l8 5 (by omega) _ _ (fun args w=>(by kernel_rfl:(callFunc 169 args).run prog w=.ok (.enter 169 args) w)) _ _ _ fI (fun ss h=>Nat.le_trans h.2.2 fI) _ lE).mono ?_;rintro e w' ⟨v,ss,rfl,hS,yv,hb⟩))
 go_ret;refine ⟨v,_,rfl,xi hS,?_,((Below.refl _ w).alloc ax _).trans (hb.mono (by simp))⟩;rcases yv with h | ⟨g,cap,h1,h2,h3,h4⟩;{exact .inl h};{exact .inr ⟨g,cap,h1,by simp at h2;omega,h3,h4⟩}
theorem jU {H:Type} (b nn:Nat) (D0:DataW H) {R:Value->Option (DataW H × List MemPlace)} (w:World) (bj:w.ownsMap prog 23 R b nn D0) (fI:Maps.size D0<=1048576) :
  Calls prog 147 #[.map (some b)] w fun e w'=>∃ (v:Value) (ss:List Int),e=.returned v/\Mn D0 ss/\LY w.heap.size w' v ss/\Below w.heap.size w w':=by
 refine (callsIn_wide (n:=6)).1 ?_;have hfK:Fence.wide.fn 173:=trivial;have Rk:Fence.wide.fn 143:=trivial;have Bk:=bj.lt;have kF:(w.alloc (.cells #[.map (some b)] 83)).ownsMap prog 23 R b nn D0:=by obtain ⟨es,clock,hb,Ft,hs,hD⟩:=bj;exact ⟨es,clock,(Below.heap_alloc _ _ b Bk).trans hb,Ft,hs,hD⟩
 have lE:=JH 2 (by omega) w.heap.size b nn D0 (w.alloc (.cells #[.map (some b)] 83)) (by simp) (by simp) kF;refine callsIn_of_wp func147 rfl trivial ?_ rfl;simp only [ntmps147,List.size_toArray,List.length_cons,List.length_nil,Nat.reduceAdd,Nat.reduceSub,Array.replicate_succ,Array.replicate_zero,List.push_toArray,List.append_toArray,List.nil_append,List.cons_append]
 gi_wp2_with (first
  | (gi_at_call 173;refine (OE _ _ _).mono ?_;rintro e w' ⟨rfl,rfl⟩)
  | (gi_at_call 143;refine (l8 5 (by omega) _ _ (fun args w=>(by kernel_rfl:(callFunc 183 args).run prog w=.ok (.enter 183 args) w)) _ _ _ fI (fun ss h=>Nat.le_trans h.2.2 fI) _ lE).mono ?_;rintro e w' ⟨v,ss,rfl,hS,yv,hb⟩))
 go_ret;refine ⟨v,_,rfl,xi hS,?_,((Below.refl _ w).alloc ax _).trans (hb.mono (by simp))⟩;rcases yv with h | ⟨g,cap,h1,h2,h3,h4⟩;{exact .inl h};{exact .inr ⟨g,cap,h1,by simp at h2;omega,h3,h4⟩}
end Q
theorem vN {ss:List Int} (h:Q.LY B w v ss):∃ p c A,v=.slice p ss.length c/\kL w (.slice p ss.length c) ss/\QN (.slice p ss.length c) ss A/\ja B w A:=by
 rcases h with ⟨rfl,rfl⟩ | ⟨g,cap,rfl,hb,hl,hH⟩;{exact ⟨none,0,[],rfl,⟨none,0,rfl,.inl rfl⟩,⟨none,0,[],rfl,rfl,rfl,.inl rfl⟩,ja.nil _ _⟩};{
 have hc:∀ i,i<ss.length->w.cell? ⟨g,0+i,none⟩=some (.int .u64 (ss.getD i 0))/\w.frozen? ⟨g,0+i,none⟩=false:=fun i hi=>by
  have:=hH i (by simpa using hi);simp only [List.getElem!_toArray] at this;rw [List.getD_eq_getElem?_getD,aE hi];have e:ss[i]! = ss[i]:=by simp [hi]
  first | (rw [e] at this;exact this) | simpa [hi] using this
 refine ⟨some ⟨g,0,none⟩,cap,(List.range ss.length).map fun i=>⟨g,0+i,.u64⟩,rfl,⟨_,_,rfl,.inr ⟨g,0,rfl,fun i hi=>(hc i hi).1⟩⟩,⟨some ⟨g,0,none⟩,cap,(List.range ss.length).map fun i=>[⟨g,0+i,.u64⟩],rfl,by simp,?_,.inr ⟨g,0,rfl,fun i x l' hx hl=>?_⟩⟩,⟨?_,fun a ha=>?_,fun a ha=>?_⟩⟩;{
 induction (List.range ss.length) with
 | nil=>rfl
 | cons i r ih=>rw [List.map_cons,List.map_cons,List.flatten_cons,<-ih];rfl}
 {
 obtain ⟨hi,e⟩:=aJ.1 hl;simp at e;rw [<-e,Nat.mul_one,Nat.zero_add]
 rfl}
 {rw [List.map_map,List.Nodup,List.pairwise_map];exact List.nodup_range.imp (fun {i j} ic=>by simpa using ic)};{obtain ⟨i,hi,rfl⟩:=List.mem_map.1 ha;exact hb};{obtain ⟨i,hi,rfl⟩:=List.mem_map.1 ha;obtain ⟨h1,h2⟩:=hc i (by simpa using hi);exact ⟨⟨_,h1⟩,h2⟩}}
theorem kh:∀ {l m:List Int},l.Pairwise (·<·)->m.Pairwise (·<·)->(∀ x,x∈l↔x∈m)->l=m
 | [],[],_,_,_=>rfl
 | [],b::m,_,_,h=>absurd ((h b).2 (by simp)) (by simp)
 | a::l,[],_,_,h=>absurd ((h a).1 (by simp)) (by simp)
 | a::l,b::m,h1,h2,h=>by
  rw [List.pairwise_cons] at h1 h2;have Bo:a=b:=by rcases List.mem_cons.1 ((h a).1 (by simp)) with e | e;{exact e};{rcases List.mem_cons.1 ((h b).2 (by simp)) with e' | e';{exact e'.symm};{have:=h2.1 a e;have:=h1.1 b e';omega}}
  subst Bo;rw [kh h1.2 h2.2 (fun x=>?_)];constructor;{intro hx;rcases List.mem_cons.1 ((h x).1 (by simp [hx])) with e | e;{have:=h1.1 x hx;omega};{exact e}};{intro hx;rcases List.mem_cons.1 ((h x).2 (by simp [hx])) with e | e;{have:=h2.1 x hx;omega};{exact e}}
theorem r8 {ss:List Int} (h:cI D s) (hs:s.Pairwise (·<·)) (ha:Q.Mn D ss):ss=s:=by
 refine kh ha.lt hs fun x=>?_;rw [ha.mem x,h];constructor;{rintro ⟨i,hi,e⟩;simp only [Lit.int.injEq,true_and] at e;rw [e];exact hi};{intro hx;exact ⟨x,hx,rfl⟩}
structure KN (w:World) (g h u:Nat) (V:Value) (nd:aA):Prop where
 aB:w.heap[g]?=some (.cells #[V,.int .u64 nd.owner,.int .i64 nd.mode,.map (some h),.int .u64 nd.aD,.int .u64 nd.gen,.map (some u)] 137)
 val:Rd w V nd.value
 Rh:∃ D,w.ownsMap Tryz.prog 23 unitElem h nd.holders.length D/\cI D nd.holders
 Mq:∃ D,w.ownsMap Tryz.prog 23 unitElem u nd.watchers.length D/\cI D nd.watchers
structure PB (w:World) (M N:Nat) (v:Value) (xs:List Int) (A:List Lf):Prop where
 rd:Rd w v xs
 cap:fV v
 lv:EF v xs A
 ap:ja M w A
 hi:∀ a∈A,a.b<N
structure PU (w:World) (M N:Nat) (v:Value) (xs:List Int) (A:List Lf):Prop where
 rd:kL w v xs
 lv:QN v xs A
 ap:ja M w A
 hi:∀ a∈A,a.b<N
theorem PB.below (h:PB w M N v xs A) (hb:Below w.heap.size w w'):PB w' M N v xs A:=
 ⟨h.rd.below hb,h.cap,h.lv,h.ap.aM (fun a ha=>hb.block _ (h.ap.qY.lt ha)),h.hi⟩
theorem PU.below (h:PU w M N v xs A) (hb:Below w.heap.size w w'):PU w' M N v xs A:=
 ⟨h.rd.below hb,h.lv,h.ap.aM (fun a ha=>hb.block _ (h.ap.qY.lt ha)),h.hi⟩
theorem Own.pb {p:Option Addr} {n c:Nat} (h:Own B w (.slice p n c) l):∃ A,PB w B w.heap.size (.slice p n c) l A:=by
 obtain ⟨A,q1,q2,q3,q4⟩:=Gg (kd:=.u8) h;exact ⟨A,h.rd,⟨_,_,_,rfl,h.cap,h.BM⟩,q1,q2,fun a ha=>q2.qY.lt ha⟩
theorem ja.QD {A2:List Lf} (h:ja B w A) (h2:ja B w A2) (hd:∀ a∈A,∀ a2∈A2,a.b≠a2.b):ja B w (A++A2):=by
 refine ⟨?_,fun a ha=>?_,dm.app.2 ⟨h.qY,h2.qY⟩⟩;{rw [List.map_append,List.nodup_append];refine ⟨h.nd,h2.nd,fun x hx y hy=>?_⟩;obtain ⟨a,ha,rfl⟩:=List.mem_map.1 hx;obtain ⟨a2,py,rfl⟩:=List.mem_map.1 hy;intro e;simp only [Prod.mk.injEq] at e;exact hd a ha a2 py e.1};{rcases List.mem_append.1 ha with ha | ha;{exact h.lo a ha};{exact h2.lo a ha}}
theorem vu (hB:bQ l) (j:Nat) (hj:j<l.length):(((aY l).data.toList.getD j 0).toNat:Int)=l.getD j 0:=by
 have Pl:j<(aY l).size:=by rw [cW];exact hj
 have h:=za hB j Pl;rw [<-h];have hl:j<(aY l).data.toList.length:=by rw [fe];simpa using hj
 rw [List.getD_eq_getElem?_getD,aE hl]
 rfl
theorem LF (w:World) (hB:bQ l) (hl:l.length<=1048576):∃ p' c' W A,(convert 9 22 (.string (aY l))).run prog w=.ok (.slice p' l.length c') W/\PB W w.heap.size W.heap.size (.slice p' l.length c') l A/\Below w.heap.size w W:=by
 have du:=Lib.run_convert_string_bytes (P:=prog) w 9 22 5 (aY l) underlying9 underlying22 underlying5;rw [cW] at du;obtain ⟨W,hW⟩:=ar (Lib.bytesWorld w 5 (aY l));have fI:W.heap.size=w.heap.size+1:=by rw [hW];exact Lib.bytesWorld_size _ _ _
 have bE:∀ j,j<l.length->W.cell? ⟨w.heap.size,0+j,none⟩=some (.int .u8 (l.getD j 0)):=fun j hj=>by rw [hW,Nat.zero_add,Lib.bytesWorld_cell _ _ _ _ (by rw [cW];exact hj),vu hB j hj]
 have Jf:∀ j,j<l.length->W.frozen? ⟨w.heap.size,0+j,none⟩=false:=fun j hj=>by
  have hn:=Lib.bytesWorld_at_new w 5 (aY l);have hs:j<(Lib.bytesCells w 5 (aY l)).size:=by simp only [Lib.bytesCells,Array.size_append,Array.size_map];have:(aY l).data.size=l.length:=cW l;omega
  rw [hW,Nat.zero_add];simp only [World.frozen?,hn];simp;omega
 have hb:Below w.heap.size w W:=by refine ⟨by rw [hW];rfl,by rw [hW];rfl,by rw [hW];rfl,by omega,fun k hk=>by rw [hW];exact Lib.bytesWorld_at_old _ _ _ _ hk⟩
 have nS:fV (.slice (some ⟨w.heap.size,0,none⟩) l.length (grownCap w l.length 0 5)):=⟨_,_,_,rfl,grownCap_ge _ _ _ _,grownCap_le_maxLen _ _ _ _ (by unfold maxLen;omega)⟩;rw [<-hW] at du;refine ⟨_,_,_,(List.range l.length).map fun i=>⟨w.heap.size,0+i,.u8⟩,du,⟨⟨_,_,rfl,.inr ⟨w.heap.size,0,rfl,bE⟩⟩,nS,⟨some ⟨w.heap.size,0,none⟩,_,(List.range l.length).map fun i=>[⟨w.heap.size,0+i,.u8⟩],rfl,by simp,?_,.inr ⟨w.heap.size,0,rfl,fun i x l' hx hl=>?_⟩⟩,⟨?_,fun a ha=>?_,fun a ha=>?_⟩,fun a ha=>?_⟩,hb⟩;{
 induction (List.range l.length) with
 | nil=>rfl
 | cons i r ih=>rw [List.map_cons,List.map_cons,List.flatten_cons,<-ih];rfl}
 {
 obtain ⟨hi,e⟩:=aJ.1 hl;simp at e;rw [<-e,Nat.mul_one,Nat.zero_add]
 rfl}
 {rw [List.map_map,List.Nodup,List.pairwise_map];exact List.nodup_range.imp (fun {i j} ic=>by simpa using ic)};{obtain ⟨i,hi,rfl⟩:=List.mem_map.1 ha;exact Nat.le_refl _};{obtain ⟨i,hi,rfl⟩:=List.mem_map.1 ha;exact ⟨⟨_,bE i (by simpa using hi)⟩,Jf i (by simpa using hi)⟩};{obtain ⟨i,hi,rfl⟩:=List.mem_map.1 ha;simp only;omega}
theorem Aq {ops:Array Oper} {o:Oper} {a:Act} {K:Act->World->Prop} {Q:Exit->Act->World->Prop} {E:Prop} (jw:o.guard=none) (x:Operand) (yx:o.op=Op.convert 9 22 x) (l:List Int) (hx:a.eval x=.string (aY l)) (hB:bQ l) (hl:l.length<=1048576)
  (hK:∀ p' c' w' A,PB w' w.heap.size w'.heap.size (.slice p' l.length c') l A->Below w.heap.size w w'->K (a.put o.dst (.slice p' l.length c')) w') :
  if Region.wanted o (yielded ops a.tmps)=true then Oper.wp prog o a w K Q else E:=by
 have hw:Region.wanted o (yielded ops a.tmps)=true:=by simp [Region.wanted,jw]
 rw [if_pos hw];obtain ⟨p',c',W,A,du,hP,hb⟩:=LF w hB hl;unfold Oper.wp;simp only [execOp,yx,hx,Sem.run_bind,Sem.run_pure,Result.andThen_ok,du,Result.andThen];exact hK _ _ _ _ hP hb
theorem jP.mk4 {p0 p1 p4 p7:Option Addr} {c0 c1 c4 c7 M0 N0 M1 N1 M4 N4 M7 N7:Nat} {l0 l1 l4 l7:List Lf} (h0:PB w M0 N0 (.slice p0 nd.path.length c0) nd.path l0) (h1:PB w M1 N1 (.slice p1 nd.value.length c1) nd.value l1) (h4:PU w M4 N4 (.slice p4 nd.holders.length c4) nd.holders l4) (h7:PU w M7 N7 (.slice p7 nd.watchers.length c7) nd.watchers l7)
  (b0:B<=M0) (b1:B<=M1) (b4:B<=M4) (b7:B<=M7) (d01:N0<=M1\/N1<=M0) (d04:N0<=M4\/N4<=M0) (d07:N0<=M7\/N7<=M0) (d14:N1<=M4) (d17:N1<=M7) (d47:N4<=M7) :
  jP w nd [.slice p0 nd.path.length c0,.slice p1 nd.value.length c1,.int .u64 nd.owner,.int .i64 nd.mode,.slice p4 nd.holders.length c4,.int .u64 nd.aD,.int .u64 nd.gen,.slice p7 nd.watchers.length c7] (l0++(l1++(l4++l7)))/\ja B w (l0++(l1++(l4++l7))):=by
 refine ⟨⟨p0,c0,p1,c1,p4,c4,p7,c7,l0,l1,l4,l7,rfl,rfl,⟨h0.rd,h0.cap,h0.lv⟩,⟨h1.rd,h1.lv⟩,⟨h4.rd,h4.lv⟩,⟨h7.rd,h7.lv⟩⟩,?_⟩;refine (h0.ap.mono b0).QD ((h1.ap.mono b1).QD ((h4.ap.mono b4).QD (h7.ap.mono b7) fun a ha a2 py e=>?_) fun a ha a2 py e=>?_) fun a ha a2 py e=>?_;{have:=h4.hi a ha;have:=h7.ap.lo a2 py;omega};{rcases List.mem_append.1 py with py | py;{have:=h1.hi a ha;have:=h4.ap.lo a2 py;omega};{have:=h1.hi a ha;have:=h7.ap.lo a2 py;omega}};{rcases List.mem_append.1 py with py | py;{have:=h0.hi a ha;have:=h0.ap.lo a ha;have:=h1.hi a2 py;have:=h1.ap.lo a2 py;omega};{rcases List.mem_append.1 py with py | py;{have:=h0.hi a ha;have:=h0.ap.lo a ha;have:=h4.hi a2 py;have:=h4.ap.lo a2 py;omega};{have:=h0.hi a ha;have:=h0.ap.lo a ha;have:=h7.hi a2 py;have:=h7.ap.lo a2 py;omega}}}
theorem Gs (g h u:Nat) (V:Value) (nd:aA) (w:World) (hk:KN w g h u V nd) (hh:nd.holders.Pairwise (·<·)) (hu:nd.watchers.Pairwise (·<·)) (l1:nd.path.length<=1048576) (l2:nd.value.length<=1048576) (l3:nd.holders.length<=1048576) (l4:nd.watchers.length<=1048576) (fK:bQ nd.path) :
  Calls prog 102 #[.pointer (some ⟨g,0,none⟩),.string (aY nd.path)] w fun r w'=>∃ c l,r=.returned (.agg c)/\jP w' nd c.toList l/\ja w.heap.size w' l/\Below w.heap.size w w':=by
 obtain ⟨gG,qZ,⟨D1,o1,s1⟩,⟨D2,o2,s2⟩⟩:=hk;obtain ⟨pv,cv,nv,rfl,ev⟩:=qZ.ew;have hA7:Mm w g (.slice pv nv cv) (.int .u64 nd.owner) (.int .i64 nd.mode) (.map (some h)) (.int .u64 nd.aD) (.int .u64 nd.gen) (.map (some u)):=⟨aC gG 0,aC gG 1,aC gG 2,aC gG 3,aC gG 4,aC gG 5,aC gG 6⟩;obtain ⟨W0,cA⟩:=ar (w.alloc (.cells #[.slice none 0 0,.slice none 0 0,.int .u64 0,.int .i64 0,.slice none 0 0,.int .u64 0,.int .u64 0,.slice none 0 0] 38));have b0:Below w.heap.size w W0:=by rw [cA];exact ay.alloc ax _
 have z0:W0.heap.size=w.heap.size+1:=by rw [cA];simp
 have r0:al W0 w.heap.size [.slice none 0 0,.slice none 0 0,.int .u64 0,.int .i64 0,.slice none 0 0,.int .u64 0,.int .u64 0,.slice none 0 0]:=by rw [cA];exact al.alloc w #[.slice none 0 0,.slice none 0 0,.int .u64 0,.int .i64 0,.slice none 0 0,.int .u64 0,.int .u64 0,.slice none 0 0] _
 have SZ1:=ae (Nat.le_trans o1.size_le l3);have SZ2:=ae (Nat.le_trans o2.size_le l4);obtain ⟨ow,mo,ep,ge,e1,e2,e3,e4⟩:∃ a b c d,nd.owner=a/\nd.mode=b/\nd.aD=c/\nd.gen=d:=⟨_,_,_,_,rfl,rfl,rfl,rfl⟩
 rw [e1,e2,e3,e4] at hA7;have HE:=ae (ag e1 (ag e2 (ag e3 e4)));clear e1 e2 e3 e4;go_enter func102,ntmps102;go_wp2_with fail;rw [<-cA];obtain ⟨v,D4⟩:=ar W0.drew;have bv:Below w.heap.size w v:=by rw [D4];exact b0.drew
 have zv:w.heap.size<v.heap.size:=by rw [D4];show w.heap.size<W0.heap.size;omega
 have R:Hid (al v w.heap.size [.slice none 0 0,.slice none 0 0,.int .u64 0,.int .i64 0,.slice none 0 0,.int .u64 0,.int .u64 0,.slice none 0 0]):=by rw [D4];exact r0
 have S:=ae (hA7.below bv);refine wp_region_noPanic ?_;refine wp_region_held_drew (S:=fun w'=>Mm w' g (.slice pv nv cv) (.int .u64 ow) (.int .i64 mo) (.map (some h)) (.int .u64 ep) (.int .u64 ge) (.map (some u))) (by kernel_rfl) (by rw [<-D4];exact aa S) (fun hS=>?_);rw [<-D4] at hS ⊢;have BW:=ae bv;have OH:=ae (o1.kept (aw bv none) (by simp));have OU:=ae (o2.kept (aw bv none) (by simp));have RV:=ae (qZ.below bv);have T1:=ae s1;have T2:=ae s2;have HH:=ae hh;have HU:=ae hu;have HBY:=ae fK;clear D4 cA b0 z0 r0 gG qZ o1 o2 hA7 s1 s2 hh hu fK bv;refine gj 0 2 3 4 5 8 9 10 hS ?_;refine gj 11 12 13 14 15 16 17 18 hS ?_;refine gj 19 20 21 22 23 24 25 26 hS ?_;refine gp 27 29 30 31 hS ?_;refine tn 32 hS ?_
 iterate 5 (
  all_goals (first | refine vO [1] (qx (fun KK hK=>?_) AllReadyH.nil) | refine vO [1,6] (qx (fun KK hK=>?_) (qx (fun KK hK=>?_) AllReadyH.nil)) | refine vO [6] (qx (fun KK hK=>?_) AllReadyH.nil) | refine vO [1,7] (qx (fun KK hK=>?_) (qx (fun KK hK=>?_) AllReadyH.nil)) | refine vO [7] (qx (fun KK hK=>?_) AllReadyH.nil) | refine vO [1,28] (qx (fun KK hK=>?_) (qx (fun KK hK=>?_) AllReadyH.nil)) | refine vO [28] (qx (fun KK hK=>?_) AllReadyH.nil) | refine vO [1,33] (qx (fun KK hK=>?_) (qx (fun KK hK=>?_) AllReadyH.nil)) | refine vO [33] (qx (fun KK hK=>?_) AllReadyH.nil))
  all_goals (first
   | (
    refine Tag.go 1 ?_;refine Aq (by rfl) _ (by rfl) nd.path (by rfl) HBY l1 ?_;intro pC cC v' lC fC hb;have FC:=ae fC;clear fC)
   | (
    refine Tag.go 6 ?_;go_simp;obtain ⟨v',hv⟩:=ar (v.alloc (.cells #[.slice pv nv cv] 22));have hb:Below v.heap.size v v':=by rw [hv];exact ay.alloc ax _
    have HP:Hid (qQ v' v.heap.size [.slice pv nv cv] [nd.value]):=⟨rfl,fun j y x q1 q2=>by
     match j,q1,q2 with
     | 0,q1,q2=>simp at q1 q2;subst q1 q2;exact ⟨by rw [hv];simp,RV.below hb⟩⟩
    rw [<-hv];obtain ⟨GB,hGB⟩:=ar v.heap.size;rw [<-hGB] at HP ⊢;clear hv hGB)
   | (
    refine Tag.go 7 ?_;refine fw (sH GB [.slice pv nv cv] [nd.value] nd.value nd.value.length 1 rfl (by show _=_;simp [cat]) (by show _=_;rfl) _ (aa HP) (by omega) (by omega)) ?_;rintro r v' ⟨pJ,cJ,rfl,oJ,hb⟩;refine ⟨_,rfl,?_⟩;obtain ⟨lJ,fJ⟩:=Own.pb oJ;have FJ:=ae fJ;clear fJ oJ HP)
   | (
    refine Tag.go 28 ?_;refine fw (Q.jU h _ D1 _ OH SZ1) ?_;rintro r v' ⟨y,ss,rfl,Dn,zQ,hb⟩;refine ⟨_,rfl,?_⟩;rw [r8 (aa T1) (aa HH) Dn] at zQ;obtain ⟨pH,cH,lH,rfl,q1,q2,q3⟩:=vN zQ;have FH:Hid (PU v' v.heap.size v'.heap.size (.slice pH nd.holders.length cH) nd.holders lH):=⟨q1,q2,q3,fun a ha=>q3.qY.lt ha⟩;clear Dn zQ q1 q2 q3)
   | (
    refine Tag.go 33 ?_;refine fw (Q.jU u _ D2 _ OU SZ2) ?_;rintro r v' ⟨y,ss,rfl,Dn,zQ,hb⟩;refine ⟨_,rfl,?_⟩;rw [r8 (aa T2) (aa HU) Dn] at zQ;obtain ⟨pU,cU,lU,rfl,q1,q2,q3⟩:=vN zQ;have FU:Hid (PU v' v.heap.size v'.heap.size (.slice pU nd.watchers.length cU) nd.watchers lU):=⟨q1,q2,q3,fun a ha=>q3.qY.lt ha⟩;clear Dn zQ q1 q2 q3))
  all_goals (
   have S:=ae (S.below hb);have BW:=ae (ai BW hb);have OH:=ae (OH.kept (aw hb none) (by simp));have OU:=ae (OU.kept (aw hb none) (by simp));have RV:=ae (RV.below hb);have R:=ae (R.below (by omega) hb);have z:v.heap.size<=v'.heap.size:=hb.size
   try have HP:=ae (HP.below hb)
   try have FC:=ae (FC.below hb)
   try have FJ:=ae (FJ.below hb)
   try have FH:=ae (FH.below hb)
   try have FU:=ae (FU.below hb)
   refine bm hK (by exact S) fun hS=>?_;clear hK KK hb
   rename World=>v
   skip))
 all_goals (
  refine tn 34 hS ?_;have Y5:=R.1 0 _ rfl;have Y4:=R.1 1 _ rfl;have YY:=R.1 2 _ rfl;have YX:=R.1 3 _ rfl;have YW:=R.1 4 _ rfl;have YV:=R.1 5 _ rfl;have rc6:=R.1 6 _ rfl;have rc7:=R.1 7 _ rfl;have rf:=R.2;refine ry [35] (cn (fun KK hK=>?_) AllReadyH.nil);go_simp;obtain ⟨Z,hZ⟩:=ar ((((((((v.setCell ⟨w.heap.size,0,none⟩ (.slice pC nd.path.length cC)).setCell ⟨w.heap.size,1,none⟩ (.slice pJ nd.value.length cJ)).setCell ⟨w.heap.size,2,none⟩ (.int .u64 ow)).setCell ⟨w.heap.size,3,none⟩ (.int .i64 mo)).setCell ⟨w.heap.size,4,none⟩ (.slice pH nd.holders.length cH)).setCell ⟨w.heap.size,5,none⟩ (.int .u64 ep)).setCell ⟨w.heap.size,6,none⟩ (.int .u64 ge)).setCell ⟨w.heap.size,7,none⟩ (.slice pU nd.watchers.length cU));have Ug:∀ b,b≠w.heap.size->Z.heap[b]?=v.heap[b]?:=fun b hb=>by
   rw [hZ]
   iterate 8 rw [dt _ _ _ _ hb]
  have cZ:=(al.da (al.da (al.da (al.da (al.da (al.da (al.da (al.da (aa R) 0 (by simp) (.slice pC nd.path.length cC)) 1 (by simp) (.slice pJ nd.value.length cJ)) 2 (by simp) (.int .u64 ow)) 3 (by simp) (.int .i64 mo)) 4 (by simp) (.slice pH nd.holders.length cH)) 5 (by simp) (.int .u64 ep)) 6 (by simp) (.int .u64 ge)) 7 (by simp) (.slice pU nd.watchers.length cU));rw [<-hZ] at cZ;have Ro:Below w.heap.size w Z:=by rw [hZ];exact ((((((((BW.setCell ax _).setCell ax _).setCell ax _).setCell ax _).setCell ax _).setCell ax _).setCell ax _).setCell ax _)
  obtain ⟨en,apn⟩:=jP.mk4 (B:=w.heap.size+1) FC FJ FH FU (by omega) (by omega) (by omega) (by omega) (by omega) (by omega) (by omega) (by omega) (by omega) (by omega);have dT:∀ y∈lC++(lJ++(lH++lU)),Z.heap[y.b]?=v.heap[y.b]?:=fun y hy=>Ug _ (by have:=apn.lo y hy;omega);have EN:=ae (ag (jP.aM _ Z _ _ _ en dT) (ag ((apn.aM dT).mono (B':=w.heap.size) (by omega)) Ro));have SZg:Mm Z g (.slice pv nv cv) (.int .u64 ow) (.int .i64 mo) (.map (some h)) (.int .u64 ep) (.int .u64 ge) (.map (some u)):=by
   have bq:g≠w.heap.size:=fun e=>by have h1:=R.1 0 _ rfl;have h2:=S.2.1;rw [e] at h2;have h3:=R.1 1 _ rfl;rw [h2] at h3;simp at h3
   obtain ⟨s0,s1,s2,s3,s4,s5,s6⟩:=aa S;have hz:=ah (Ug g bq);exact ⟨(hz _).trans s0,(hz _).trans s1,(hz _).trans s2,(hz _).trans s3,(hz _).trans s4,(hz _).trans s5,(hz _).trans s6⟩
  rw [<-hZ];refine bm hK (by exact SZg) fun hS=>?_;have zc0:=cZ.1 0 _ rfl;have zc1:=cZ.1 1 _ rfl;have zc2:=cZ.1 2 _ rfl;have zc3:=cZ.1 3 _ rfl;have zc4:=cZ.1 4 _ rfl;have zc5:=cZ.1 5 _ rfl;have zc6:=cZ.1 6 _ rfl;have zc7:=cZ.1 7 _ rfl;clear hK KK hZ Ug Ro en apn dT SZg cZ Y5 Y4 YY YX YW YV rc6 rc7 rf;refine wpAnyH_done (by kernel_rfl) ?_ _;refine aX ?_;clear hS;obtain ⟨e1,e2,e3,e4⟩:=aa HE;go_wp2;refine bodyPost_ret (v:=.agg #[.slice pC nd.path.length cC,.slice pJ nd.value.length cJ,.int .u64 ow,.int .i64 mo,.slice pH nd.holders.length cH,.int .u64 ep,.int .u64 ge,.slice pU nd.watchers.length cU]) (by simp [results,results102,go_sem,zc0,zc1,zc2,zc3,zc4,zc5,zc6,zc7]) rfl ⟨_,lC++(lJ++(lH++lU)),rfl,?_,EN.2.1,EN.2.2⟩;have wF:=EN.1;rw [e1,e2,e3,e4] at wF;exact wF
  skip)
open Go.Maps
structure Ex (w:World) (bs:Nat) (ss:List aL) (SB:List Nat):Prop where
 len:SB.length=ss.length
 own:∃ D n,w.ownsMap prog 23 aQ bs n D/\n<=1048576/\eh D (List.zipWith (fun (s:aL) g=>(Lit.int .u64 s.1,g)) ss SB)
 aB:∀ (i:Nat) (s:aL) (g:Nat),ss[i]?=some s->SB[i]?=some g->∃ u,w.heap[g]?=some (.cells #[.int .u64 s.1,.int .i64 s.2.1,u] 35)/\iC w u s.2.2
structure Ez (w:World) (bn:Nat) (ns:List aA) (NB:List Nat):Prop where
 len:NB.length=ns.length
 own:∃ D n,w.ownsMap prog 9 aQ bn n D/\n<=1048576/\eh D (List.zipWith (fun (nd:aA) g=>(bL nd.path,g)) ns NB)
 aB:∀ (i:Nat) (nd:aA) (g:Nat),ns[i]?=some nd->NB[i]?=some g->∃ V h u,KN w g h u V nd
theorem KN.below {u:Nat} {V:Value} (k:KN w g h u V nd) (hb:Below w.heap.size w w'):KN w' g h u V nd:=by
 obtain ⟨h1,h2,⟨D1,o1,s1⟩,⟨D2,o2,s2⟩⟩:=k;exact ⟨(hb.block g (aI h1)).trans h1,h2.below hb,⟨D1,o1.kept (aw hb none) (by simp),s1⟩,⟨D2,o2.kept (aw hb none) (by simp),s2⟩⟩
theorem Ex.below (h:Ex w bs ss SB) (hb:Below w.heap.size w w'):Ex w' bs ss SB:=by
 obtain ⟨h1,⟨D,n,o,hn,m⟩,h3⟩:=h;refine ⟨h1,⟨D,n,o.kept (aw hb none) (by simp),hn,m⟩,fun i s g hs hg=>?_⟩;obtain ⟨u,q1,q2⟩:=h3 i s g hs hg;exact ⟨u,(hb.block g (aI q1)).trans q1,q2.below hb⟩
theorem Ez.below {NB:List Nat} (h:Ez w bn ns NB) (hb:Below w.heap.size w w'):Ez w' bn ns NB:=by
 obtain ⟨h1,⟨D,n,o,hn,m⟩,h3⟩:=h;refine ⟨h1,⟨D,n,o.kept (aw hb none) (by simp),hn,m⟩,fun i s g hs hg=>?_⟩;obtain ⟨V,h,u,q⟩:=h3 i s g hs hg;exact ⟨V,h,u,q.below hb⟩
structure VV (w:World) (b bs bn:Nat) (e g x t:Int) (ss:List aL) (ns:List aA) (SB NB:List Nat):Prop where
 hd:w.heap[b]?=some (.cells #[.int .u64 e,.int .u64 g,.int .u64 x,.int .i64 t,.map (some bs),.map (some bn)] 132)
 Cl:Ex w bs ss SB
 jR:Ez w bn ns NB
theorem VV.below {g:Int} {SB NB:List Nat} (h:VV w b bs bn e g x t ss ns SB NB) (hb:Below w.heap.size w w'):VV w' b bs bn e g x t ss ns SB NB:=
 ⟨(hb.block b (aI h.hd)).trans h.hd,h.Cl.below hb,h.jR.below hb⟩
theorem sF (h:Ex w bs ss SB) {s:aL} (hs:ss[i]?=some s):∃ g,SB[i]?=some g/\(Lit.int .u64 s.1,g)∈List.zipWith (fun (s:aL) g=>(Lit.int .u64 s.1,g)) ss SB:=by
 have hi:=(aJ.1 hs).1;obtain ⟨g,hg⟩:∃ g,SB[i]?=some g:=⟨_,aE (by rw [h.len];exact hi)⟩;refine ⟨g,hg,aF (i:=i) ?_⟩;rw [List.getElem?_zipWith,hs,hg]
theorem sG {NB:List Nat} (h:Ez w bn ns NB) (hs:ns[i]?=some nd):∃ g,NB[i]?=some g/\(bL nd.path,g)∈List.zipWith (fun (nd:aA) g=>(bL nd.path,g)) ns NB:=by
 have hi:=(aJ.1 hs).1;obtain ⟨g,hg⟩:∃ g,NB[i]?=some g:=⟨_,aE (by rw [h.len];exact hi)⟩;refine ⟨g,hg,aF (i:=i) ?_⟩;rw [List.getElem?_zipWith,hs,hg]
theorem Cx {α β γ:Type} {f:α->β->γ} {l:List α} {m:List β} {z:γ} (h:z∈List.zipWith f l m):∃ a∈l,∃ b,z=f a b:=by
 induction l generalizing m with
 | nil=>simp at h
 | cons a l ih=>
  cases m with
  | nil=>simp at h
  | cons b m=>
   simp only [List.zipWith_cons_cons,List.mem_cons] at h;rcases h with rfl | h;{exact ⟨a,by simp,b,rfl⟩};{obtain ⟨a',ha,b',e⟩:=ih h;exact ⟨a',by simp [ha],b',e⟩}
theorem Av (h:Ex w bs ss SB) (hs:ss.Pairwise (fun s s'=>s.1<s'.1)) (m:eh D (List.zipWith (fun (s:aL) g=>(Lit.int .u64 s.1,g)) ss SB)) {ids:List Int} (ha:Q.Mn D ids):ids=ss.map (·.1):=by
 refine kh ha.lt (List.pairwise_map.2 hs) fun x=>?_;rw [ha.mem x,m.hs];constructor;{rintro ⟨p,hp,e⟩;obtain ⟨s,vZ,g,rfl⟩:=Cx hp;simp only [Lit.int.injEq,true_and] at e;exact List.mem_map.2 ⟨s,vZ,e⟩};{intro hx;obtain ⟨s,vZ,rfl⟩:=List.mem_map.1 hx;obtain ⟨i,hi,e⟩:=List.getElem_of_mem vZ;obtain ⟨g,hg,hm⟩:=sF h (i:=i) (s:=s) (by rw [aE hi,e]);exact ⟨_,hm,rfl⟩}
def iZ (l:List Int):List UInt8:=l.map fun n=>UInt8.ofNat n.toNat
theorem uR {α:Type} [LT α] (WW:∀ a:α,¬ a<a) (tr:∀ a b c:α,a<b->b<c->a<c):∀ {l m:List α},l.Pairwise (·<·)->m.Pairwise (·<·)->(∀ x,x∈l↔x∈m)->l=m
 | [],[],_,_,_=>rfl
 | [],b::m,_,_,h=>absurd ((h b).2 (by simp)) (by simp)
 | a::l,[],_,_,h=>absurd ((h a).1 (by simp)) (by simp)
 | a::l,b::m,h1,h2,h=>by
  rw [List.pairwise_cons] at h1 h2;have Bo:a=b:=by rcases List.mem_cons.1 ((h a).1 (by simp)) with e | e;{exact e};{rcases List.mem_cons.1 ((h b).2 (by simp)) with e' | e';{exact e'.symm};{exact absurd (tr _ _ _ (h2.1 a e) (h1.1 b e')) (WW _)}}
  subst Bo;rw [uR WW tr h1.2 h2.2 (fun x=>?_)];constructor;{intro hx;rcases List.mem_cons.1 ((h x).1 (by simp [hx])) with e | e;{subst e;exact absurd (h1.1 _ hx) (WW _)};{exact e}};{intro hx;rcases List.mem_cons.1 ((h x).2 (by simp [hx])) with e | e;{subst e;exact absurd (h2.1 _ hx) (WW _)};{exact e}}
theorem sr {NB:List Nat} (h:Ez w bn ns NB) (hs:(ns.map fun nd=>iZ nd.path).Pairwise (·<·)) (m:eh D (List.zipWith (fun (nd:aA) g=>(bL nd.path,g)) ns NB)) {ks:List (List UInt8)} (ha:T.Mn D ks):ks=ns.map fun nd=>iZ nd.path:=by
 refine uR (fun a=>List.lt_irrefl a) (fun a b c=>List.lt_trans) ha.lt hs fun x=>?_;rw [ha.mem x,m.hs];constructor;{rintro ⟨p,hp,e⟩;obtain ⟨s,vZ,g,rfl⟩:=Cx hp;simp only [bL,Lit.string.injEq] at e;exact List.mem_map.2 ⟨s,vZ,e⟩};{intro hx;obtain ⟨s,vZ,rfl⟩:=List.mem_map.1 hx;obtain ⟨i,hi,e⟩:=List.getElem_of_mem vZ;obtain ⟨g,hg,hm⟩:=sG h (i:=i) (nd:=s) (by rw [aE hi,e]);exact ⟨_,hm,rfl⟩}
theorem xy (w:World):(zeroValue 133).run prog w=.ok (.pointer none) w:=by kernel_rfl
theorem xY {bs n:Nat} {l:List (Lit × Nat)} (o:w.ownsMap prog 23 aQ bs n D) (m:eh D l) {I:Int} (hp:(Lit.int .u64 I,g)∈l) (hI:0<=I/\I<18446744073709551616) :
  (Instr.lookup 129 (.map (some bs)) (.int .u64 I) false).run prog w=.ok (.pointer (some ⟨g,0,none⟩)) w:=by
 obtain ⟨v,ps,hr,hv⟩:=o.lookup gD underlying129 (xy w) (zd:=.nil) (zp:=[]) rfl (key:=.int .u64 I) (keyOf_int_mk underlying23 (kU hI));rw [m.at' _ hp] at hv;obtain rfl:=fS hv;exact hr
theorem xZ {bn n:Nat} {l:List (Lit × Nat)} (o:w.ownsMap prog 9 aQ bn n D) (m:eh D l) {P:List Int} (hp:(bL P,g)∈l) (hP:P.length<=1048576) :
  (Instr.lookup 130 (.map (some bn)) (.string (aY P)) false).run prog w=.ok (.pointer (some ⟨g,0,none⟩)) w:=by
 obtain ⟨v,ps,hr,hv⟩:=o.lookup lD underlying130 (iD w) (zd:=.nil) (zp:=[]) rfl (key:=.string (aY P)) (kl:=bL P) (by rw [WideMaps.keyOf_string_mk underlying9 (by rw [cW];unfold maxLen;omega),iJ])
 rw [m.at' _ hp] at hv;obtain rfl:=fS hv;exact hr
theorem gO {row:Option Nat} (h:w.grownBy w1 (some sb)) (k:w1.grownBy w2 row) (hr:∀ b,row=some b->w.heap.size<=b\/b=sb):w.grownBy w2 (some sb):=
 ⟨k.os.trans h.os,k.tape.trans h.tape,k.output.trans h.output,Nat.le_trans h.size k.size,fun i hi bq=>(k.block i (Nat.lt_of_lt_of_le hi h.size) (fun e=>by rcases hr i e.symm with h' | h';{omega};{exact bq (by rw [h'])})).trans (h.block i hi bq)⟩
theorem az (w:World) (a:Addr) (v:Value):w.grownBy (w.setCell a v) (some a.block):=
 ⟨rfl,rfl,rfl,by simp,fun k _ hk=>dt _ _ _ _ (fun e=>hk (by rw [e]))⟩
theorem od (h:Below w.heap.size w w1) (k:w1.grownBy w2 (some sb)) (hs:w.heap.size<=sb):Below w.heap.size w w2:=h.grown k h.size (fun b e=>by cases e;exact hs)
theorem oI {R:Value->Option (DataW Unit × List MemPlace)} {b n:Nat} (h:w.ownsMap prog k R b n D) (hh:w'.heap[b]?=w.heap[b]?):w'.ownsMap prog k R b n D:=by
 obtain ⟨es,clock,h1,h2⟩:=h;exact ⟨es,clock,hh.trans h1,h2⟩
theorem al.grown {vs:List Value} {row:Option Nat} (h:al w b vs) (hb:b<w.heap.size) (hg:w.grownBy w' row) (bq:some b≠row):al w' b vs:=by
 have hh:=hg.block b hb bq;refine ⟨fun i v hi=>(ah hh _).trans (h.1 i v hi),fun o=>?_⟩;have:w'.frozen? ⟨b,o,none⟩=w.frozen? ⟨b,o,none⟩:=World.frozen?_of_block hh;rw [this];exact h.2 o
theorem IG (l:List Int):(⟨(iZ l).toArray⟩:ByteArray)=aY l:=by
 have h:(aY l).data=(iZ l).toArray:=by rw [<-Array.toList_inj];simpa [iZ] using fe l
 cases hb:aY l with
 | mk d=>rw [hb] at h;simp only at h;rw [h]
theorem Cr (h:T.LY B w v (ns.map fun nd=>iZ nd.path)):∃ p c,v=.slice p ns.length c/\(ns=[]\/∃ g,p=some ⟨g,0,none⟩/\B<=g/\g<w.heap.size/\∀ (j:Nat) (nd:aA),ns[j]?=some nd->w.cell? ⟨g,0+j,none⟩=some (.string (aY nd.path))):=by
 rcases h with ⟨rfl,h0⟩ | ⟨g,cap,rfl,hb,hl,hH⟩;{
 have:ns=[]:=by simpa using h0
 subst this;exact ⟨none,0,rfl,.inl rfl⟩};{
 refine ⟨some ⟨g,0,none⟩,cap,by rw [List.length_map],.inr ⟨g,rfl,hb,hl,fun j nd hj=>?_⟩⟩;have wu:=(aJ.1 hj).1;have:=(hH j (by simpa using wu)).1;rw [this,<-IG];have e:(ns.map fun nd=>iZ nd.path).toArray[j]! = iZ nd.path:=by have e2:ns[j]=nd:=(aJ.1 hj).2;simp [wu,e2]
 rw [e]}
theorem jP.cells {c:Array Value} {l:List Lf} (h:jP w nd c.toList l):∃ q0 q1 q2 q3 q4 q5 q6 q7,c=#[q0,q1,q2,q3,q4,q5,q6,q7]/\∀ u∈[q0,q1,q2,q3,q4,q5,q6,q7],u.oneCell'=true:=by
 obtain ⟨p0,c0,p1,c1,p4,c4,p7,c7,l0,l1,l4,l7,-,h2,-⟩:=h;refine ⟨_,_,_,_,_,_,_,_,by rw [<-Array.toList_inj,h2],fun u hu=>?_⟩;simp only [List.mem_cons,List.not_mem_nil,or_false] at hu;rcases hu with rfl | rfl | rfl | rfl | rfl | rfl | rfl | rfl<;>rfl
theorem DD (b bs bn:Nat) (e g x t:Int) (ss:List aL) (ns:List aA) (SB NB:List Nat) (w:World) (h:VV w b bs bn e g x t ss ns SB NB) (hs:Hid (ss.Pairwise (fun s s'=>s.1<s'.1))) (hn:Hid ((ns.map fun nd=>iZ nd.path).Pairwise (·<·)))
  (ls:ss.length<=1048576) (ln:ns.length<=1048576) (Rf:Hid (∀ s∈ss,(0<=s.1/\s.1<18446744073709551616)/\s.2.2.length<=1048576/\∀ e∈s.2.2,e.2.length<=1048576))
  (MG:Hid (∀ nd∈ns,bQ nd.path/\nd.path.length<=1048576/\nd.value.length<=1048576/\nd.holders.length<=1048576/\nd.watchers.length<=1048576/\nd.holders.Pairwise (·<·)/\nd.watchers.Pairwise (·<·))) :
  Calls prog 38 #[.pointer (some ⟨b,0,none⟩)] w fun r w'=>∃ p c q d A1 A2,r=.returned (cK e g x t (.slice p ss.length c) (.slice q ns.length d))/\gh w' (.slice p ss.length c) ss/\mi w' (.slice q ns.length d) ns/\zE w' (.slice p ss.length c) ss A1/\Af w' (.slice q ns.length d) ns A2/\ja w.heap.size w' (A1++A2)/\Below w.heap.size w w':=by
 have k0:w.cell? ⟨b,0,none⟩=some (.int .u64 e):=aC h.hd 0;have k1:w.cell? ⟨b,1,none⟩=some (.int .u64 g):=aC h.hd 1;have k2:w.cell? ⟨b,2,none⟩=some (.int .u64 x):=aC h.hd 2;have k3:w.cell? ⟨b,3,none⟩=some (.int .i64 t):=aC h.hd 3;obtain ⟨is,his,sz0,sz1,sz2⟩:=info_parts Tryz.infoSes;obtain ⟨io,hio,oz0,oz1,oz2⟩:=info_parts Tryz.infoNod;obtain ⟨W0,cA⟩:=ar (w.alloc (.cells #[.int .u64 0,.int .u64 0,.int .u64 0,.int .i64 0,.slice none 0 0,.slice none 0 0] 27));have b0:Below w.heap.size w W0:=by rw [cA];exact ay.alloc ax _
 have z0:W0.heap.size=w.heap.size+1:=by rw [cA];simp
 have r0:al W0 w.heap.size [.int .u64 0,.int .u64 0,.int .u64 0,.int .i64 0,.slice none 0 0,.slice none 0 0]:=by rw [cA];exact al.alloc w #[.int .u64 0,.int .u64 0,.int .u64 0,.int .i64 0,.slice none 0 0,.slice none 0 0] _
 go_enter func38,ntmps38;go_wp2_with fail;rw [<-cA];obtain ⟨v0,D4⟩:=ar W0.drew;have bv:Below w.heap.size w v0:=by rw [D4];exact b0.drew
 have zv:v0.heap.size=w.heap.size+1:=by rw [D4];exact z0
 have R0:Hid (al v0 w.heap.size [.int .u64 0,.int .u64 0,.int .u64 0,.int .i64 0,.slice none 0 0,.slice none 0 0]):=by rw [D4];exact r0
 have S0:=ae (ag (af k0 bv) (ag (af k1 bv) (ag (af k2 bv) (af k3 bv))));have H0:=ae (h.below bv);have ZV:=ae zv;refine wp_region_noPanic ?_;refine wp_region_held_drew (S:=fun w'=>w'.cell? ⟨b,0,none⟩=some (.int .u64 e)/\w'.cell? ⟨b,1,none⟩=some (.int .u64 g)/\w'.cell? ⟨b,2,none⟩=some (.int .u64 x)/\w'.cell? ⟨b,3,none⟩=some (.int .i64 t)) (by kernel_rfl) (by rw [<-D4];exact aa S0) (fun hS=>?_);rw [<-D4] at hS ⊢;clear D4 cA b0 z0 r0 k0 k1 k2 k3 zv;refine gj 0 1 2 3 4 5 6 7 hS ?_;refine gj 8 9 10 11 12 13 14 15 hS ?_;refine tn 16 hS ?_;refine aH 17 fun KK hK=>?_;go_simp;obtain ⟨v1,qI⟩:=ar (v0.alloc (.cells #[.int .u64 0,.int .u64 0,.int .u64 0,.int .i64 0,.slice none 0 0,.slice none 0 0] 27));have bf:Below v0.heap.size v0 v1:=by rw [qI];exact ay.alloc ax _
 have c1:al v1 v0.heap.size [.int .u64 0,.int .u64 0,.int .u64 0,.int .i64 0,.slice none 0 0,.slice none 0 0]:=by rw [qI];exact al.alloc v0 #[.int .u64 0,.int .u64 0,.int .u64 0,.int .i64 0,.slice none 0 0,.slice none 0 0] _
 have z1:v1.heap.size=v0.heap.size+1:=by rw [qI];simp
 rw [<-qI];obtain ⟨sb,ZA⟩:=ar v0.heap.size;rw [<-ZA] at c1 ⊢;have S1:=ae (ag (af S0.1 bf) (ag (af S0.2.1 bf) (ag (af S0.2.2.1 bf) (af S0.2.2.2 bf))));have H1:=ae (H0.below bf);have R1:=ae (R0.below (by have:=aa ZV;omega) bf);have b1:=ai bv bf;have HZ:=ae (ag (aa ZV) (ag ZA z1));refine bm hK (by exact S1) fun hS=>?_;have Y5:=c1.1 0 _ rfl;have Y4:=c1.1 1 _ rfl;have YY:=c1.1 2 _ rfl;have YX:=c1.1 3 _ rfl;have YW:=c1.1 4 _ rfl;have YV:=c1.1 5 _ rfl;have rf:=c1.2;clear hK KK qI bf ZA z1;refine aH 18 fun KK hK=>?_;go_simp;obtain ⟨Z,hZ⟩:=ar ((((((v1.setCell ⟨sb,0,none⟩ (.int .u64 e)).setCell ⟨sb,1,none⟩ (.int .u64 g)).setCell ⟨sb,2,none⟩ (.int .u64 x)).setCell ⟨sb,3,none⟩ (.int .i64 t)).setCell ⟨sb,4,none⟩ (.slice none 0 0)).setCell ⟨sb,5,none⟩ (.slice none 0 0));obtain ⟨zz0,zz1,zz2⟩:=aa HZ;have CZ:al Z sb [.int .u64 e,.int .u64 g,.int .u64 x,.int .i64 t,.slice none 0 0,.slice none 0 0]:=by rw [hZ];exact ((((((c1.da 0 (by simp) _).da 1 (by simp) _).da 2 (by simp) _).da 3 (by simp) _).da 4 (by simp) _).da 5 (by simp) _)
 have Xt:v1.grownBy Z (some sb):=by rw [hZ];exact eX (eX (eX (eX (eX (az _ _ _) (az _ _ _)) (az _ _ _)) (az _ _ _)) (az _ _ _)) (az _ _ _)
 have bZ:Below w.heap.size w Z:=od b1 Xt (by omega);have RZ:=R1.grown (by omega) Xt (by simp;omega);have SZ:Z.cell? ⟨b,0,none⟩=some (.int .u64 e)/\Z.cell? ⟨b,1,none⟩=some (.int .u64 g)/\Z.cell? ⟨b,2,none⟩=some (.int .u64 x)/\Z.cell? ⟨b,3,none⟩=some (.int .i64 t):=⟨aC (h.below bZ).hd 0,aC (h.below bZ).hd 1,aC (h.below bZ).hd 2,aC (h.below bZ).hd 3⟩;have zZ:sb<Z.heap.size:=by have:=Xt.size;omega
 rw [<-hZ];refine bm hK (by exact SZ) fun hS=>?_;clear hK KK hZ Xt SZ c1 Y5 Y4 YY YX YW YV rf S1 H1 R1 S0 H0 R0;refine wpAnyH_done (by kernel_rfl) ?_ _;refine aX ?_;have CF:w.heap.size<sb:=by omega
 have CZ':=ae CZ;have RZ':=ae RZ;have HS:=ae fun (w':World) (hb:Below w.heap.size w w')=>h.below hb;have HLW:Hid (∀ k s gs,ss[k]?=some s->SB[k]?=some gs->b<w.heap.size/\bs<w.heap.size/\gs<w.heap.size):=fun k s gs hy jM=>by obtain ⟨_,_,o,_,_⟩:=h.Cl.own;obtain ⟨_,y3,_⟩:=h.Cl.aB k _ gs hy jM;exact ⟨aI h.hd,o.lt,aI y3⟩
 have HLN:Hid (∀ k s gs,ns[k]?=some s->NB[k]?=some gs->b<w.heap.size/\bn<w.heap.size/\gs<w.heap.size):=fun k s gs hy jM=>by obtain ⟨_,_,o,_,_⟩:=h.jR.own;obtain ⟨_,_,_,y3⟩:=h.jR.aB k _ gs hy jM;exact ⟨aI h.hd,o.lt,aI y3.aB⟩
 have BZ:=ae bZ;clear hS CZ RZ h bv b1 zz0 zz1 zz2 HZ ZV;obtain ⟨U7,PI,Ho⟩:=aa HS _ BZ;obtain ⟨D,nD,oD,hnD,mD⟩:=id PI.own;have k4:Z.cell? ⟨b,4,none⟩=some (.map (some bs)):=aC U7 4;have MD:=ae mD;have OD:=ae oD;clear U7 Ho mD;go_wp2_with fail;refine (Q.iq bs nD D _ oD (Nat.le_trans oD.size_le hnD)).mono ?_;rintro r w1 ⟨kv,ids,rfl,Dn,zQ,bf⟩;obtain rfl:=Av PI hs MD Dn;obtain ⟨pk,ck,Ak,rfl,rk,lk,ak⟩:=vN zQ;have CK:(ss.map (·.1)).length=ss.length:=List.length_map _;obtain ⟨nk,Lp⟩:=ar ((ss.map (·.1)).length);rw [<-Lp] at rk lk ⊢;have Vo:nk=ss.length:=by rw [Lp,CK]
 have ENK:=ae Vo;have aV6:nk<=1048576:=by omega
 have HKV:=ae (ag rk (ag lk ak));have b1:=ai BZ bf;have z1:=bf.size;have C1:=ae (CZ'.below zZ bf);have R1:=ae (RZ'.below (by omega) bf);clear rk lk ak zQ Dn bf k4 PI oD Lp Vo CK CZ' RZ';go_wp2_with fail
 go_loopw [31] (fun iv wr=>∃ (k:Nat) (Sv:Value) (Ls:List (List Lf)),k<=nk/\iv=.int .i64 k/\Hid (al wr sb [.int .u64 e,.int .u64 g,.int .u64 x,.int .i64 t,Sv,.slice none 0 0]/\dI ru 35 3 w1.heap.size wr Sv (ss.take k) Ls)/\Hid (w1.grownBy wr (some sb))) (fun iv _=>nk-(intOf iv).toNat)
 case atStart=>exact ⟨0,_,[],Nat.zero_le _,rfl,⟨C1,dI.nil _ _ _ _ _⟩,nT _ _⟩
 case round =>(
 obtain ⟨k,Sv,Ls,hk,rfl,jL,wv⟩:=hrel;have BB:=od b1 wv (by omega);by_cases br:k<nk;{
 have bt:(k:Int)<(nk:Int):=by omega
 have dT:k<ss.length:=by rw [<-aa ENK];exact br
 obtain ⟨⟨I,Dl,Qu⟩,hy⟩:∃ y,ss[k]?=some y:=⟨_,aE dT⟩;obtain ⟨hH,Xz,-⟩:=aa HS _ BB;obtain ⟨gs,jM,gN⟩:=sF Xz hy;obtain ⟨u,Rn,Tw⟩:=Xz.aB k _ gs hy jM;dsimp only at Rn Tw gN;obtain ⟨pq,cq,rfl,-⟩:=id Tw;obtain ⟨nq,Ei⟩:=aN Qu.length;rw [Ei] at Tw Rn;have Yx:=ae Ei;obtain ⟨hI,OR,Xd⟩:=aa Rf _ (aF hy);dsimp only at hI OR Xd;have hnq:nq<=1048576:=by rw [<-Ei];exact OR
 have Wi:Hid (∀ e∈Qu,e.2.length<=1048576):=Xd;obtain ⟨gk,ok,rfl,MT⟩:∃ gk ok,pk=some ⟨gk,ok,none⟩/\wr.cell? ⟨gk,ok+k,none⟩=some (.int .u64 I):=by obtain ⟨rk,lk,ak⟩:=aa HKV;have rk':=rk.cR lk (w':=wr) (fun a ha=>wv.block a.b (ak.qY.lt ha) (by have:=ak.lo a ha;simp;omega));obtain ⟨p',c',ee,hd⟩:=rk';simp only [Value.slice.injEq] at ee;obtain ⟨rfl,-,-⟩:=ee;rcases hd with hd | ⟨b',o',rfl,hd⟩;{have:=congrArg List.length hd;simp at this;rw [this] at dT;simp at dT};{refine ⟨b',o',rfl,?_⟩;rw [hd k (by simpa using dT)];simp [List.getD_eq_getElem?_getD,hy]}
 have HY:=ae hy;obtain ⟨hC,hO⟩:=aa jL;have cS4:=hC.1 4 _ rfl;have Tj:wr.cell? ⟨b,4,none⟩=some (.map (some bs)):=aC hH 4;obtain ⟨D',n',S6,zS,Ta⟩:=Xz.own;have QV:=ae (ag Ta (ag gN hI));have UR:b<w1.heap.size/\bs<w1.heap.size/\gs<w1.heap.size:=by obtain ⟨y1,y2,-⟩:=aa HS _ b1;obtain ⟨_,_,o,_,_⟩:=y2.own;obtain ⟨_,y3,_⟩:=y2.aB k _ gs hy jM;exact ⟨aI y1,o.lt,aI y3⟩
 have Wo:=ae UR;have hLW:b<w.heap.size/\bs<w.heap.size/\gs<w.heap.size:=aa HLW k _ gs hy jM;have YJ:b≠sb:=by omega
 have YI:bs≠sb:=by omega
 have WN:gs≠sb:=by omega
 obtain ⟨vA,bM⟩:=ar wr.drew;have cg:Below wr.heap.size wr vA:=by rw [bM];exact ay.drew
 have QH:=ae (ag (af Tj cg) (ag (S6.kept (aw cg none) (by simp)) (ag (af (aC Rn 0) cg) (ag (af (aC Rn 1) cg) (af (aC Rn 2) cg)))));have RQ:=ae (Tw.below cg);have OA:=ae (hO.below ru.aM cg);have WE:=ae (hC.below (by have:=wv.size;omega) cg);have gA:Hid (w1.grownBy vA (some sb)):=gO wv (aw cg none) (fun b e=>by cases e);have Q8:=ae (Below.refl vA.heap.size vA);have zxA:sb<vA.heap.size:=by have:=gA.size;omega
 clear Ei OR Xd dT jM UR hLW cS4;go_wp2_with fail;clear MT;refine wp_region_noPanic ?_;refine wp_region_held_drew (S:=fun w'=>w'.cell? ⟨b,4,none⟩=some (.map (some bs))/\w'.ownsMap prog 23 aQ bs n' D'/\w'.cell? ⟨gs,0,none⟩=some (.int .u64 I)/\w'.cell? ⟨gs,1,none⟩=some (.int .i64 Dl)/\w'.cell? ⟨gs,2,none⟩=some (.slice pq nq cq)) (by kernel_rfl) (by rw [<-bM];exact aa QH) (fun hS=>?_);rw [<-bM] at hS ⊢;clear bM cg Rn Tw gN hI S6 Ta hC hO Tj hH Xz;refine gp 0 2 3 4 hS ?_;refine dQ 5 6 hS ?_;refine wpAnyH_take (i:=7) (oi:=_) (v:=?_) (by simp only [List.getElem?_toArray,List.getElem?_cons_succ,List.getElem?_cons_zero];rfl) (by kernel_rfl) (by kernel_rfl) (by kernel_rfl) (fun _ _ _ h=>h) (Or.inl ⟨by rfl,?_⟩) hS ?_;rotate_left;{(intro w' pO;(try dsimp only at pO);(have hlk:=xY pO.2.1 QV.1 QV.2.1 QV.2.2);go_simp;try with_reducible rfl)}
 simp only [Act.put,xa,xb,xc];refine dQ 8 9 hS ?_;refine ry [1,10] (cn (fun KK hK=>?_) (cn (fun KK hK=>?_) AllReadyH.nil));have cl:=WE.1 4 _ rfl;go_simp;refine bm hK (by exact QH) fun hS=>?_;clear hK KK cl;refine ry [10] (cn (fun KK hK=>?_) AllReadyH.nil)
 all_goals (
  refine fw (BJ I Dl pq cq nq Qu Yx _ (RQ.below Q8) hnq Wi) ?_;rintro r v1 ⟨pe,ce,Ae,rfl,E0,DT,xj,bf⟩;refine ⟨_,rfl,?_⟩;have HE1:=ae (ag E0 (ag DT (xj.mono (B':=vA.heap.size) Q8.size)));obtain ⟨s1,s2,s3,s4,s5⟩:=aa QH;have QJ:=ae (ag (af s1 bf) (ag (s2.kept (aw bf none) (by simp)) (ag (af s3 bf) (ag (af s4 bf) (af s5 bf)))));have NL:=ae (WE.below (by omega) bf);have nw:=ae (ai Q8 bf);have zx1:vA.heap.size<=v1.heap.size:=nw.size;clear s1 s2 s3 s4 s5;refine bm hK (by exact QJ) fun hS=>?_;clear hK KK bf E0 DT xj
  skip)
 refine ry [11] (cn (fun KK hK=>?_) AllReadyH.nil);rotate_left;refine ry [1,11] (cn (fun KK hK=>?_) (cn (fun KK hK=>?_) AllReadyH.nil));have cl:=NL.1 4 _ rfl;go_simp;refine bm hK (by exact QJ) fun hS=>?_;clear hK KK cl;refine ry [11] (cn (fun KK hK=>?_) AllReadyH.nil)
 all_goals (
  go_simp;obtain ⟨v2,fM⟩:=ar (v1.alloc (.cells #[.int .u64 I,.int .i64 Dl,.slice pe nq ce] 35));have aS:Below v1.heap.size v1 v2:=by rw [fM];exact ay.alloc ax _
  have Pu:∀ j u,([.int .u64 I,.int .i64 Dl,.slice pe nq ce]:List Value)[j]?=some u->v2.cell? ⟨v1.heap.size,j,none⟩=some u:=fun j u hu=>by rw [fM];exact (al.alloc v1 #[.int .u64 I,.int .i64 Dl,.slice pe nq ce] 35).1 j u (by simpa using hu)
  rw [<-fM];obtain ⟨gE,Up⟩:=ar v1.heap.size;rw [<-Up] at Pu ⊢;obtain ⟨E0,DT,xj⟩:=aa HE1;have kE:∀ a∈Ae,v2.heap[a.b]?=v1.heap[a.b]?:=fun a ha=>aS.block _ (xj.qY.lt ha);have EL2:Hid (ru v2 (I,Dl,Qu) [.int .u64 I,.int .i64 Dl,.slice pe nq ce] Ae/\ja vA.heap.size v2 Ae):=⟨⟨pe,ce,by rw [aa Yx],by rw [aa Yx];exact E0.cR DT kE,by rw [aa Yx];exact tC.aM DT kE⟩,xj.aM kE⟩;have Ca:=ae Pu;obtain ⟨s1,s2,s3,s4,s5⟩:=aa QJ;have QI:=ae (ag (af s1 aS) (ag (s2.kept (aw aS none) (by simp)) (ag (af s3 aS) (ag (af s4 aS) (af s5 aS)))));have Ml:=ae (NL.below (by omega) aS);have Fu:=ae (ai nw aS);have zx2:vA.heap.size<=v2.heap.size:=Fu.size;clear s1 s2 s3 s4 s5;refine bm hK (by exact QI) fun hS=>?_;clear hK KK fM aS Pu Up E0 DT xj kE
  skip)
 rotate_left;refine ry [1] (cn (fun KK hK=>?_) AllReadyH.nil);have cl:=Ml.1 4 _ rfl;go_simp;refine bm hK (by exact QI) fun hS=>?_;clear hK KK cl
 all_goals (
  have OC:=OA.below ru.aM Fu;obtain ⟨Vu,VP⟩:=aa EL2;obtain ⟨cs,g1,g2,g3,g4,g5,g6,g7⟩:=id OC;have G9:=OA.lt;have hle:(ss.take k).length<=1048576:=by rw [List.length_take];omega
  have YD:=gA.size;have zA:w1.heap.size<=v2.heap.size:=by omega
  refine ry [12] ?_;refine cn (fun KK hK=>?_) ?_;{
 refine dU (by rfl) _ _ 24 (by rfl) w1.heap.size 35 is _ 3 40 underlying24 his sz0 sz1 sz2 rfl (by decide) Sv _ _ (by rfl) g4 gE 1 1 [.int .u64 I,.int .i64 Dl,.slice pe nq ce] (by rfl) rfl (aa Ca) (fun u hu=>by simp at hu;rcases hu with rfl | rfl | rfl<;>rfl) (by unfold maxLen;omega) (by omega) zA ?_;intro v' w9 dN hg j6;have sn:=dI.snoc g1 g2 g3 g5 g6 g7 ru.aM Vu rfl VP YD (fun a ha=>(G9.2 a ha).2) (fun b hb=>(G9.1 b hb).2) dN hg j6;rw [<-jD (aa HY)] at sn;obtain ⟨pN,cN,Nd,-⟩:=id sn.read;obtain ⟨lN,KE⟩:=ar ((ss.take (k+1)).length);rw [<-KE] at Nd;subst Nd;clear KE;have uq:∀ z,z<w1.heap.size->some z≠Sv.ownBlock:=fun z hz e=>by have:=(G9.1 z e.symm).1;omega
 have cT:w1.grownBy w9 (some sb):=gO (gO gA (aw Fu none) (fun b e=>by cases e)) hg (fun b e=>.inl (G9.1 b e).1);have C9:=Ml.grown (by omega) hg (uq sb (by omega));obtain ⟨t1,t2,t3⟩:=aa Wo;obtain ⟨s1,s2,s3,s4,s5⟩:=aa QI;have S9:=ae (ag (hg.cell s1 (uq (b) t1)) (ag (s2.kept hg (uq (bs) t2)) (ag (hg.cell s3 (uq (gs) t3)) (ag (hg.cell s4 (uq (gs) t3)) (hg.cell s5 (uq (gs) t3))))));refine bm hK (by exact S9) fun hS=>?_;have SN:=ae sn;have cc:=C9.1 4 _ rfl;have cf:=C9.2;have G8:=sn.lt;clear hK KK sn dN j6 g1 g2 g3 g4 g5 g6 g7 Vu VP OC s1 s2 s3 s4 s5;refine tn 13 hS ?_;refine aH 14 fun KK hK=>?_;go_simp;obtain ⟨wT,GK⟩:=ar (w9.setCell ⟨sb,4,none⟩ (.slice pN lN cN));have CT:=C9.da 4 (by simp) (.slice pN lN cN);have Ha:∀ z,z≠sb->wT.heap[z]?=w9.heap[z]?:=fun z hz=>by rw [GK];exact dt _ _ _ _ hz
 have gT:Hid (w1.grownBy wT (some sb)):=by show World.grownBy _ _ _;rw [GK];exact eX cT (az _ _ _)
 have zT:w9.heap.size<=wT.heap.size:=by rw [GK];simp
 have OT:Hid (dI ru 35 3 w1.heap.size wT (.slice pN lN cN) (ss.take (k+1)) (Ls++[Ae])):=SN.aM (ru.aM _ _) zT (fun z hz=>Ha z (by have:=(G8.1 z hz).1;omega)) (fun y hy=>Ha _ (by have:=(G8.2 y hy).1;omega));rw [<-GK] at CT ⊢;have MU:=fun z (hz:z≠sb) o=>ah (Ha z hz) o;obtain ⟨s1,s2,s3,s4,s5⟩:=aa S9;have ST:=ag ((MU _ YJ _).trans s1) (ag (oI s2 (Ha _ YI)) (ag ((MU _ WN _).trans s3) (ag ((MU _ WN _).trans s4) ((MU _ WN _).trans s5))));refine bm hK (by exact ST) fun hS=>?_;have CT2:=ae CT;clear hK KK GK Ha MU C9 cc cf CT hg cT zT ST s1 s2 s3 s4 s5;refine wpAnyH_done (by kernel_rfl) ?_ _;refine aX ?_;clear hS G8 G9;go_wp2;go_roundw
 case rel=>exact ⟨k+1,_,_,by omega,by go_num,⟨CT2,OT⟩,gT⟩
 case measure=>simp [intOf];omega}
  exact AllReadyH.nil
  skip)}
 {
 have bt:¬ (k:Int)<(nk:Int):=by omega
 have xr:k=nk:=by omega
 subst xr;obtain ⟨hC,hO⟩:=aa jL;rw [List.take_of_length_le (by rw [aa ENK];exact Nat.le_refl _)] at hO;obtain ⟨w2,ew2⟩:=ar wr;subst ew2;have R2:=ae (R1.grown (by omega) (aa wv) (by simp;omega));obtain ⟨pS,cS,evS,-⟩:=id hO.read;obtain ⟨lS,G8⟩:=ar ss.length;rw [<-G8] at evS;subst evS;have HLS:=ae G8;obtain ⟨Ol,A1,Mu,LR⟩:=hO.se;have HA1:=ae fun a ha=>LR.qY.lt (a:=a) ha;have OS:=ae (ag Ol (ag Mu LR));clear Ol Mu LR;have CS:=ae hC;have z12:=wv.size;obtain ⟨U7,-,Ho⟩:=aa HS _ BB;obtain ⟨DN,nN,oN,hnN,mN⟩:=id Ho.own;have k5:w2.cell? ⟨b,5,none⟩=some (.map (some bn)):=aC U7 5;have MN:=ae mN;clear hO hC G8 U7 mN jL hk br bt R1 C1 HKV wv;go_wp2_with fail;refine (T.iq bn nN DN _ oN (Nat.le_trans oN.size_le hnN)).mono ?_;rintro r w3 ⟨kv,ks,rfl,Dn,zQ,dA⟩;obtain rfl:=sr Ho hn MN Dn;obtain ⟨pk2,ck2,rfl,yB⟩:=Cr zQ;obtain ⟨Ou,Qe⟩:=ar ns.length;rw [<-Qe];have Wx:=ae Qe;have av6:Ou<=1048576:=by omega
 have HKN:=ae yB;have b3:=ai BB dA;have z3:=dA.size;have C3:=ae (CS.below (by omega) dA);have R3:=ae (R2.below (by omega) dA);have WV:∀ a∈A1,w3.heap[a.b]?=w2.heap[a.b]?:=fun a ha=>dA.block _ (aa HA1 a ha);have O3:=ae (ag (OS.1.cR OS.2.1 WV) (ag (zE.aM OS.2.1 WV) (OS.2.2.aM WV)));clear yB zQ Dn dA k5 Ho oN Qe CS R2 OS BB WV;go_wp2_with fail
 go_loopw [56] (fun iv wr=>∃ (k:Nat) (Sv:Value) (Ls:List (List Lf)),k<=Ou/\iv=.int .i64 k/\Hid (al wr sb [.int .u64 e,.int .u64 g,.int .u64 x,.int .i64 t,.slice pS lS cS,Sv]/\dI jP 38 8 w3.heap.size wr Sv (ns.take k) Ls)/\Hid (w3.grownBy wr (some sb))) (fun iv _=>Ou-(intOf iv).toNat)
 case atStart=>exact ⟨0,_,[],Nat.zero_le _,rfl,⟨C3,dI.nil _ _ _ _ _⟩,nT _ _⟩
 case round =>(
 obtain ⟨k,Sv,Ls,hk,rfl,jL,wv⟩:=hrel;have BB:=od b3 wv (by omega);by_cases br:k<Ou;{
 have bt:(k:Int)<(Ou:Int):=by omega
 have dT:k<ns.length:=by rw [<-aa Wx];exact br
 obtain ⟨nd,hy⟩:∃ y,ns[k]?=some y:=⟨_,aE dT⟩;obtain ⟨hH,-,XG⟩:=aa HS _ BB;obtain ⟨gs,jM,gN⟩:=sG XG hy;obtain ⟨Vb,hb,ub,MI⟩:=XG.aB k _ gs hy jM;obtain ⟨KG,yA,Jc,KF,Xm,hl6,hl7⟩:=aa MG _ (aF hy);obtain ⟨gk,rfl,MT⟩:∃ gk,pk2=some ⟨gk,0,none⟩/\wr.cell? ⟨gk,k,none⟩=some (.string (aY nd.path)):=by rcases aa HKN with h0 | ⟨gk,rfl,h1,h2,h3⟩;{rw [h0] at dT;simp at dT};{exact ⟨gk,rfl,(ah (wv.block gk h2 (by simp;omega)) _).trans (by have:=h3 k nd hy;rwa [Nat.zero_add] at this)⟩}
 have HY:=ae hy;obtain ⟨hC,hO⟩:=aa jL;have Tj:wr.cell? ⟨b,5,none⟩=some (.map (some bn)):=aC hH 5;obtain ⟨D',n',S6,zS,Ta⟩:=XG.own;have QV:=ae (ag Ta (ag gN yA));have hLW:b<w.heap.size/\bn<w.heap.size/\gs<w.heap.size:=aa HLN k _ gs hy jM;have UR:b<w3.heap.size/\bn<w3.heap.size/\gs<w3.heap.size:=by have:=b3.size;omega
 have Wo:=ae UR;have YJ:b≠sb:=by omega
 have YI:bn≠sb:=by omega
 have WN:gs≠sb:=by omega
 obtain ⟨vA,bM⟩:=ar wr.drew;have cg:Below wr.heap.size wr vA:=by rw [bM];exact ay.drew
 have QH:=ae (ag (af Tj cg) (S6.kept (aw cg none) (by simp)));have RQ:=ae (MI.below cg);have OA:=ae (hO.below jP.aM cg);have WE:=ae (hC.below (by have:=wv.size;omega) cg);have gA:Hid (w3.grownBy vA (some sb)):=gO wv (aw cg none) (fun b e=>by cases e);have Q8:=ae (Below.refl vA.heap.size vA);have zxA:sb<vA.heap.size:=by have:=gA.size;omega
 clear dT jM UR hLW;go_wp2_with fail;clear MT;refine wp_region_noPanic ?_;refine wp_region_held_drew (S:=fun w'=>w'.cell? ⟨b,5,none⟩=some (.map (some bn))/\w'.ownsMap prog 9 aQ bn n' D') (by kernel_rfl) (by rw [<-bM];exact aa QH) (fun hS=>?_);rw [<-bM] at hS ⊢;clear bM cg MI gN S6 Ta hC hO Tj hH XG;refine gp 0 2 3 4 hS ?_;refine dQ 5 6 hS ?_;refine wpAnyH_take (i:=7) (oi:=_) (v:=?_) (by simp only [List.getElem?_toArray,List.getElem?_cons_succ,List.getElem?_cons_zero];rfl) (by kernel_rfl) (by kernel_rfl) (by kernel_rfl) (fun _ _ _ h=>h) (Or.inl ⟨by rfl,?_⟩) hS ?_;rotate_left;{(intro w' pO;(try dsimp only at pO);(have hlk:=xZ pO.2 QV.1 QV.2.1 QV.2.2);go_simp;try with_reducible rfl)}
 simp only [Act.put,xa,xb,xc];refine tn 8 hS ?_;refine ry [1,9] (cn (fun KK hK=>?_) (cn (fun KK hK=>?_) AllReadyH.nil));have cl:=WE.1 5 _ rfl;go_simp;refine bm hK (by exact QH) fun hS=>?_;clear hK KK cl;refine ry [9] (cn (fun KK hK=>?_) AllReadyH.nil)
 all_goals (
  refine ld (Gs gs hb ub Vb nd _ (RQ.below Q8) hl6 hl7 yA Jc KF Xm KG) ?_;rintro r v1 ⟨cn,Ae,rfl,RC,xj,bf⟩;obtain ⟨q0,q1,q2,q3,q4,q5,q6,q7,ecn,one⟩:=RC.cells;subst ecn;refine ⟨_,rfl,?_⟩;have HE1:=ae (ag RC (ag one (xj.mono (B':=vA.heap.size) Q8.size)));obtain ⟨s1,s2⟩:=aa QH;have QJ:=ae (ag (af s1 bf) (s2.kept (aw bf none) (by simp)));have NL:=ae (WE.below (by omega) bf);have nw:=ae (ai Q8 bf);have zx1:vA.heap.size<=v1.heap.size:=nw.size;clear s1 s2;refine bm hK (by exact QJ) fun hS=>?_;clear hK KK bf RC xj one
  skip)
 refine ry [10] (cn (fun KK hK=>?_) AllReadyH.nil);rotate_left;refine ry [1,10] (cn (fun KK hK=>?_) (cn (fun KK hK=>?_) AllReadyH.nil));have cl:=NL.1 5 _ rfl;go_simp;refine bm hK (by exact QJ) fun hS=>?_;clear hK KK cl;refine ry [10] (cn (fun KK hK=>?_) AllReadyH.nil)
 all_goals (
  go_simp;obtain ⟨v2,fM⟩:=ar (v1.alloc (.cells #[q0,q1,q2,q3,q4,q5,q6,q7] 38));have aS:Below v1.heap.size v1 v2:=by rw [fM];exact ay.alloc ax _
  have Pu:∀ j u,([q0,q1,q2,q3,q4,q5,q6,q7]:List Value)[j]?=some u->v2.cell? ⟨v1.heap.size,j,none⟩=some u:=fun j u hu=>by rw [fM];exact (al.alloc v1 #[q0,q1,q2,q3,q4,q5,q6,q7] 38).1 j u (by simpa using hu)
  rw [<-fM];obtain ⟨gE,Up⟩:=ar v1.heap.size;rw [<-Up] at Pu ⊢;obtain ⟨RC,one,xj⟩:=aa HE1;have kE:∀ a∈Ae,v2.heap[a.b]?=v1.heap[a.b]?:=fun a ha=>aS.block _ (xj.qY.lt ha);have EL2:Hid (jP v2 nd [q0,q1,q2,q3,q4,q5,q6,q7] Ae/\ja vA.heap.size v2 Ae):=⟨jP.aM _ _ _ _ _ RC kE,xj.aM kE⟩;have ONE:=ae one;have Ca:=ae Pu;obtain ⟨s1,s2⟩:=aa QJ;have QI:=ae (ag (af s1 aS) (s2.kept (aw aS none) (by simp)));have Ml:=ae (NL.below (by omega) aS);have Fu:=ae (ai nw aS);have zx2:vA.heap.size<=v2.heap.size:=Fu.size;clear s1 s2;refine bm hK (by exact QI) fun hS=>?_;clear hK KK fM aS Pu Up RC xj kE one
  skip)
 rotate_left;refine ry [1] (cn (fun KK hK=>?_) AllReadyH.nil);have cl:=Ml.1 5 _ rfl;go_simp;refine bm hK (by exact QI) fun hS=>?_;clear hK KK cl
 all_goals (
  have OC:=OA.below jP.aM Fu;obtain ⟨Vu,VP⟩:=aa EL2;obtain ⟨cs,g1,g2,g3,g4,g5,g6,g7⟩:=id OC;have G9:=OA.lt;have hle:(ns.take k).length<=1048576:=by rw [List.length_take];omega
  have YD:=gA.size;have zA:w3.heap.size<=v2.heap.size:=by omega
  refine ry [11] ?_;refine cn (fun KK hK=>?_) ?_;{
 refine dU (by rfl) _ _ 25 (by rfl) w3.heap.size 38 io _ 8 128 underlying25 hio oz0 oz1 oz2 rfl (by decide) Sv _ _ (by rfl) g4 gE 1 1 [q0,q1,q2,q3,q4,q5,q6,q7] (by rfl) rfl Ca ONE (by unfold maxLen;omega) (by omega) zA ?_;intro v' w9 dN hg j6;have sn:=dI.snoc g1 g2 g3 g5 g6 g7 jP.aM Vu rfl VP YD (fun a ha=>(G9.2 a ha).2) (fun b hb=>(G9.1 b hb).2) dN hg j6;rw [<-jD (aa HY)] at sn;obtain ⟨pN,cN,Nd,-⟩:=id sn.read;obtain ⟨lN,KE⟩:=ar ((ns.take (k+1)).length);rw [<-KE] at Nd;subst Nd;clear KE;have uq:∀ z,z<w3.heap.size->some z≠Sv.ownBlock:=fun z hz e=>by have:=(G9.1 z e.symm).1;omega
 have cT:w3.grownBy w9 (some sb):=gO (gO gA (aw Fu none) (fun b e=>by cases e)) hg (fun b e=>.inl (G9.1 b e).1);have C9:=Ml.grown (by omega) hg (uq sb (by omega));obtain ⟨t1,t2,t3⟩:=aa Wo;obtain ⟨s1,s2⟩:=aa QI;have S9:=ae (ag (hg.cell s1 (uq (b) t1)) (s2.kept hg (uq (bn) t2)));refine bm hK (by exact S9) fun hS=>?_;have SN:=ae sn;have cc:=C9.1 5 _ rfl;have cf:=C9.2;have G8:=sn.lt;clear hK KK sn dN j6 g1 g2 g3 g4 g5 g6 g7 Vu VP OC s1 s2;refine tn 12 hS ?_;refine aH 13 fun KK hK=>?_;go_simp;obtain ⟨wT,GK⟩:=ar (w9.setCell ⟨sb,5,none⟩ (.slice pN lN cN));have CT:=C9.da 5 (by simp) (.slice pN lN cN);have Ha:∀ z,z≠sb->wT.heap[z]?=w9.heap[z]?:=fun z hz=>by rw [GK];exact dt _ _ _ _ hz
 have gT:Hid (w3.grownBy wT (some sb)):=by show World.grownBy _ _ _;rw [GK];exact eX cT (az _ _ _)
 have zT:w9.heap.size<=wT.heap.size:=by rw [GK];simp
 have OT:Hid (dI jP 38 8 w3.heap.size wT (.slice pN lN cN) (ns.take (k+1)) (Ls++[Ae])):=SN.aM (jP.aM _ _) zT (fun z hz=>Ha z (by have:=(G8.1 z hz).1;omega)) (fun y hy=>Ha _ (by have:=(G8.2 y hy).1;omega));rw [<-GK] at CT ⊢;have MU:=fun z (hz:z≠sb) o=>ah (Ha z hz) o;obtain ⟨s1,s2⟩:=aa S9;have ST:=ag ((MU _ YJ _).trans s1) (oI s2 (Ha _ YI));refine bm hK (by exact ST) fun hS=>?_;have CT2:=ae CT;clear hK KK GK Ha MU C9 cc cf CT hg cT zT ST s1 s2;refine wpAnyH_done (by kernel_rfl) ?_ _;refine aX ?_;clear hS G8 G9;go_wp2;go_roundw
 case rel=>exact ⟨k+1,_,_,by omega,by go_num,⟨CT2,OT⟩,gT⟩
 case measure=>simp [intOf];omega}
  exact AllReadyH.nil
  skip)}
 {
 have bt:¬ (k:Int)<(Ou:Int):=by omega
 have xr:k=Ou:=by omega
 subst xr;obtain ⟨hC,hO⟩:=aa jL;rw [List.take_of_length_le (by rw [aa Wx];exact Nat.le_refl _)] at hO;obtain ⟨pN,cN,Nd,-⟩:=id hO.read;obtain ⟨lN,KE⟩:=ar ns.length;rw [<-KE] at Nd;subst Nd;obtain ⟨Om,A2,Td,VO⟩:=hO.no;obtain ⟨Ol,Mu,LR⟩:=aa O3;have R4:=R3.grown (by omega) (aa wv) (by simp;omega);have c0:=hC.1 0 _ rfl;have c1:=hC.1 1 _ rfl;have c2:=hC.1 2 _ rfl;have c3:=hC.1 3 _ rfl;have c4:=hC.1 4 _ rfl;have c5:=hC.1 5 _ rfl;have r0:=R4.1 0 _ rfl;have r1:=R4.1 1 _ rfl;have r2:=R4.1 2 _ rfl;have r3:=R4.1 3 _ rfl;have r4:=R4.1 4 _ rfl;have r5:=R4.1 5 _ rfl;have rf:=R4.2;have MF:¬ w.heap.size=sb:=by omega
 have hsn:¬ sb=w.heap.size:=by omega
 have RR:=ae (ag Om (ag Td VO));have FIS:=ae (ag Ol (ag Mu LR));have an4:=ae KE;have z3r:=wv.size;clear Om Td VO Ol Mu LR hO hC R4 jL KE;go_wp2;obtain ⟨Om,Td,VO⟩:=aa RR;obtain ⟨Ol,Mu,LR⟩:=aa FIS;obtain ⟨Z,hZ⟩:=ar ((((((wr.setCell ⟨w.heap.size,0,none⟩ (.int .u64 e)).setCell ⟨w.heap.size,1,none⟩ (.int .u64 g)).setCell ⟨w.heap.size,2,none⟩ (.int .u64 x)).setCell ⟨w.heap.size,3,none⟩ (.int .i64 t)).setCell ⟨w.heap.size,4,none⟩ (.slice pS lS cS)).setCell ⟨w.heap.size,5,none⟩ (.slice pN lN cN));have hkZ:∀ z,z≠w.heap.size->Z.heap[z]?=wr.heap[z]?:=fun z hz=>by
  rw [hZ]
  iterate 6 rw [dt _ _ _ _ hz]
 have k1:∀ a∈A1,Z.heap[a.b]?=w3.heap[a.b]?:=fun a ha=>by have h1:=aa HA1 a ha;have h2:=LR.lo a ha;rw [hkZ _ (by omega)];exact wv.block _ (by omega) (by simp;omega)
 have k2:∀ a∈A2,Z.heap[a.b]?=wr.heap[a.b]?:=fun a ha=>by have h2:=VO.lo a ha;exact hkZ _ (by have:=b3.size;omega)
 have Ro:Below w.heap.size w Z:=by rw [hZ];exact (((((BB.setCell ax _).setCell ax _).setCell ax _).setCell ax _).setCell ax _).setCell ax _
 have eS:=aa HLS;have eN:=aa an4;refine bodyPost_ret (v:=cK e g x t (.slice pS lS cS) (.slice pN lN cN)) (by simp [results,results38,go_sem,r0,r1,r2,r3,r4,r5,c0,c1,c2,c3,c4,c5]) rfl ?_;rw [<-hZ];subst eS eN;refine ⟨pS,cS,pN,cN,rfl,Ol.cR Mu k1,Om.cR Td k2,A1,zE.aM Mu k1,A2,Af.aM Td k2,?_,Ro⟩;exact ((LR.aM k1).app (VO.aM k2) (by omega) (fun a ha=>by have:=aa HA1 a ha;omega)).mono (by omega)})})
theorem Cs {α:Type} {R:α->α->Prop} {l:List α} (h:∀ (i j:Nat) (a b:α),l[i]?=some a->l[j]?=some b->i<j->R a b):l.Pairwise R:=by
 rw [List.pairwise_iff_getElem];intro i j hi hj ic;exact h i j _ _ (aE hi) (aE hj) ic
theorem JT (h:gJ x ss=true):ss.Pairwise (fun s s'=>s.1<s'.1):=by
 refine Cs fun i j s s' hi hj ic=>?_;rw [gJ,Bool.and_eq_true] at h;have:=pI h.2 (fun i j k h1 h2=>by simp at h1 h2 ⊢;omega) j i (aJ.1 hj).1 ic;simpa only [List.getD_eq_getElem?_getD,hi,hj,Option.getD_some,decide_eq_true_eq] using this
theorem Kc {g:Int} (h:gL e g ns=true):(ns.map fun nd=>iZ nd.path).Pairwise (·<·):=by
 rw [List.pairwise_map];refine Cs fun i j s s' hi hj ic=>?_;rw [gL,Bool.and_eq_true] at h;have:=pI h.2 (fun i j k h1 h2=>ir.2 (pG (ir.1 h1) (ir.1 h2))) j i (aJ.1 hj).1 ic;simp only [List.getD_eq_getElem?_getD,hi,hj,Option.getD_some] at this;rw [ir,T.iy,decide_eq_true_eq,dE,dE] at this;exact this
theorem zi (h:zk l=true):l.Pairwise (·<·):=by
 refine Cs fun i j s s' hi hj ic=>?_;rw [zk] at h;have:=pI h (fun i j k h1 h2=>by simp at h1 h2 ⊢;omega) j i (aJ.1 hj).1 ic;simpa only [List.getD_eq_getElem?_getD,hi,hj,Option.getD_some,decide_eq_true_eq] using this
theorem xS {g:Int} (h:gL e g ns=true):∀ nd∈ns,nd.holders.Pairwise (·<·)/\nd.watchers.Pairwise (·<·):=by
 intro nd aK;rw [gL,Bool.and_eq_true] at h;have h1:∀ y∈ns,qg e g y=true:=(iA ns dH (qg e g)).1 fun i hi=>List.all_eq_true.1 h.1 i (List.mem_range.2 hi);have:=h1 nd aK;simp only [qg,Bool.and_eq_true] at this;exact ⟨zi this.2.2.2.1,zi this.2.2.2.2⟩
structure xk (ss:List aL) (ns:List aA):Prop where
 s1:ss.Pairwise (fun s s'=>s.1<s'.1)
 n1:(ns.map fun nd=>iZ nd.path).Pairwise (·<·)
 s2:∀ s∈ss,(0<=s.1/\s.1<18446744073709551616)/\s.2.2.length<=1048576/\∀ e∈s.2.2,e.2.length<=1048576
 n2:∀ nd∈ns,bQ nd.path/\nd.path.length<=1048576/\nd.value.length<=1048576/\nd.holders.length<=1048576/\nd.watchers.length<=1048576/\nd.holders.Pairwise (·<·)/\nd.watchers.Pairwise (·<·)
 s3:∀ (i j:Nat) (s s':aL),ss[i]?=some s->ss[j]?=some s'->i<j->s.1≠s'.1
 n3:∀ (i j:Nat) (z z':aA),ns[i]?=some z->ns[j]?=some z'->i<j->z.path≠z'.path
theorem wV {g:Int} (h:jl e g x t ss ns=true) (yG:∀ s∈ss,s.2.2.length<=1048576/\∀ e∈s.2.2,bQ e.2/\e.2.length<=1048576)
  (fK:∀ nd∈ns,bQ nd.path/\nd.path.length<=1048576/\nd.value.length<=1048576/\nd.holders.length<=1048576/\nd.watchers.length<=1048576):xk ss ns:=by
 obtain ⟨h1,h2,h3,h4,h5⟩:=(xG e g x t ss ns).1 h;have hx:x<=4611686018427387904:=by simp only [sA,decide_eq_true_eq] at h1;exact h1.2.2.1
 refine ⟨JT h2,Kc h3,fun s hs=>⟨Ck h2 hx s hs,(yG s hs).1,fun e he=>((yG s hs).2 e he).2⟩,fun nd aK=>?_,uP h2,uW h3⟩;obtain ⟨a,b,c,d,f⟩:=fK nd aK;exact ⟨a,b,c,d,f,(xS h3 nd aK).1,(xS h3 nd aK).2⟩
def AB (w0 w:World) (v:Value) (l:List Int):Prop:=Rd w0 v l\/TB w v l
theorem AB.rd (h:AB w0 w v l) (be:Below w0.heap.size w0 w):Rd w v l:=by
 rcases h with h | h;{exact h.below be};{exact h.1}
theorem AB.fr {T:List TypeId} (h:AB w0 w v l) (hf:Fr T w w') (ht:5∉T):AB w0 w' v l:=by
 rcases h with h | h;{exact .inl h};{exact .inr (h.fr hf ht)}
def AQ (w0 w:World) (u:Value) (es:List Ev):Prop:=
 ∃ (p:Option Addr) (c:Nat),u=.slice p es.length c/\(es=[]\/∃ b o,p=some ⟨b,o,none⟩/\(b<w0.heap.size\/∃ cur m,w.heap[b]?=some (.cells cur 49 m))/\∀ i e,es[i]?=some e->w.cell? ⟨b,o+i*2,none⟩=some (.int .i64 e.1)/\∃ u,w.cell? ⟨b,o+i*2+1,none⟩=some u/\AB w0 w u e.2/\fV u)
theorem AQ.rdc (h:AQ w0 w u es) (be:Below w0.heap.size w0 w):iC w u es:=by
 obtain ⟨p,c,rfl,h⟩:=h;refine ⟨p,c,rfl,?_⟩;rcases h with h | ⟨b,o,rfl,-,h⟩;{exact .inl h};{refine .inr ⟨b,o,rfl,fun i e he=>?_⟩;obtain ⟨h1,u,h2,h3,h4⟩:=h i e he;exact ⟨h1,u,h2,h3.rd be,h4⟩}
theorem AQ.of (h:iC w0 u es) (be:Below w0.heap.size w0 w):AQ w0 w u es:=by
 obtain ⟨p,c,rfl,h⟩:=h;refine ⟨p,c,rfl,?_⟩;rcases h with h | ⟨b,o,rfl,h⟩;{exact .inl h};{by_cases h0:es=[];{exact .inl h0};{obtain ⟨e0,he0⟩:∃ e0,es[0]?=some e0:=⟨_,aE (List.length_pos_iff.2 h0)⟩;refine .inr ⟨b,o,rfl,.inl (World.block_lt_of_cell? w0 _ (h 0 e0 he0).1),fun i e he=>?_⟩;obtain ⟨h1,u,h2,h3,h4⟩:=h i e he;exact ⟨af h1 be,u,af h2 be,.inl h3,h4⟩}}
theorem AQ.fr {T:List TypeId} (h:AQ w0 w u es) (hb:Below w0.heap.size w w') (hf:Fr T w w') (ht:5∉T/\49∉T):AQ w0 w' u es:=by
 obtain ⟨p,c,rfl,h⟩:=h;refine ⟨p,c,rfl,?_⟩;rcases h with h | ⟨b,o,rfl,hd,h⟩;{exact .inl h};{
 have hk:w'.heap[b]?=w.heap[b]?:=by rcases hd with hd | ⟨cur,m,hd⟩;{exact hb.block b hd};{exact (hf.2 _ _ _ _ ht.2 hd).trans hd.symm}
 refine .inr ⟨b,o,rfl,hd.imp id (fun ⟨cur,m,hd⟩=>⟨cur,m,hk.trans hd⟩),fun i e he=>?_⟩;obtain ⟨h1,u,h2,h3,h4⟩:=h i e he;exact ⟨(ah hk _).trans h1,u,(ah hk _).trans h2,h3.fr hf ht.1,h4⟩}
theorem AQ.nil (w0 w:World):AQ w0 w (.slice none 0 0) []:=⟨none,0,rfl,.inl rfl⟩
theorem mT {R:Value->Option (DataW Unit × List MemPlace)} {b n:Nat} (h:w.ownsMap prog k R b n D):w.ownsMap prog k R b (Maps.size D) D:=by
 obtain ⟨es,clock,hb,F,hs,rfl⟩:=h;refine ⟨es,clock,hb,F,?_,rfl⟩;rw [Maps.size_eq,length_sorted];simp
theorem oH {R:Value->Option (DataW Unit × List MemPlace)} {b n:Nat} (h:w.ownsMap prog k R b n D) (K:Keyed prog k):Tidy D:=by
 obtain ⟨es,e,hp,-⟩:=h.entries K;exact ⟨es,e,hp⟩
theorem jV {R:Value->Option (DataW Unit × List MemPlace)} {b n:Nat} (h:w.ownsMap prog k R b n D) (K:Keyed prog k) {L:List Lit} (hn:L.Nodup) (hh:∀ x,Maps.has D x=true↔x∈L):Maps.size D=L.length:=by
 obtain ⟨es,rfl,hp,hk⟩:=h.entries K;rw [Maps.size_eq,<-List.length_map (f:=Prod.fst)];refine List.Perm.length_eq ((List.perm_ext_iff_of_nodup (List.pairwise_map.2 hp) hn).2 fun x=>?_);rw [<-hh x,Maps.has_eq,List.any_eq_true,List.mem_map];constructor;{rintro ⟨p,Xe,rfl⟩;exact ⟨p,Xe,WideAt.sameKey_self (hk p Xe)⟩};{rintro ⟨p,Xe,hs⟩;refine ⟨p,Xe,Classical.byContradiction fun bq=>?_⟩;rw [sameKey_ne bq] at hs;cases hs}
def SM (w:World) (h:Nat) (s:List Int):Prop:=∃ D n,w.ownsMap prog 23 unitElem h n D/\n<=2097152/\cI D s/\Maps.size D=s.length
structure PN (w0 w:World) (g h u:Nat) (nd:aA):Prop where
 lo:w0.heap.size<=g/\w0.heap.size<=h/\w0.heap.size<=u
 aB:∃ V,w.heap[g]?=some (.cells #[V,.int .u64 nd.owner,.int .i64 nd.mode,.map (some h),.int .u64 nd.aD,.int .u64 nd.gen,.map (some u)] 137)/\AB w0 w V nd.value
 Rh:SM w h nd.holders
 Mq:SM w u nd.watchers
def PE (w0 w:World) (g:Nat) (s:aL):Prop:=w0.heap.size<=g/\∃ u,w.heap[g]?=some (.cells #[.int .u64 s.1,.int .i64 s.2.1,u] 35)/\AQ w0 w u s.2.2
structure PS (w0 w:World) (b bs bn:Nat) (D:SD) (SB NB HB UB:List Nat):Prop where
 be:Below w0.heap.size w0 w
 hd:w.heap[b]?=some (.cells #[.int .u64 D.e,.int .u64 D.g,.int .u64 D.x,.int .i64 D.t,.map (some bs),.map (some bn)] 132)
 qU:SB.length=D.ss.length
 qT:∃ M n,w.ownsMap prog 23 aQ bs n M/\n<=1048576/\eh M (List.zipWith (fun (s:aL) g=>(Lit.int .u64 s.1,g)) D.ss SB)/\Maps.size M=D.ss.length
 ox:∀ (i:Nat) (s:aL) (g:Nat),D.ss[i]?=some s->SB[i]?=some g->PE w0 w g s
 snd:SB.Nodup
 sw:NB.length=D.ns.length
 hlen:HB.length=D.ns.length
 ua:UB.length=D.ns.length
 mu:∃ M n,w.ownsMap prog 9 aQ bn n M/\n<=1048576/\eh M (List.zipWith (fun (nd:aA) g=>(bL nd.path,g)) D.ns NB)/\Maps.size M=D.ns.length
 lu:∀ (i:Nat) (nd:aA) (g h u:Nat),D.ns[i]?=some nd->NB[i]?=some g->HB[i]?=some h->UB[i]?=some u->PN w0 w g h u nd
 Mt:NB.Nodup
 lo:w0.heap.size<=b/\w0.heap.size<=bs/\w0.heap.size<=bn
 Ad:(bs::bn::(HB++UB)).Nodup
theorem SM.of {h n:Nat} (o:w.ownsMap prog 23 unitElem h n D) (hn:n<=2097152) (hs:cI D s) (hd:s.Nodup):SM w h s:=by
 refine ⟨D,n,o,hn,hs,?_⟩;have hl:(s.map fun i:Int=>Lit.int .u64 i).length=s.length:=List.length_map _;rw [<-hl];refine jV o gD (List.pairwise_map.2 (hd.imp fun bq e=>bq (by simpa using e))) fun x=>?_;rw [hs x,List.mem_map];constructor;{rintro ⟨i,hi,rfl⟩;exact ⟨i,hi,rfl⟩};{rintro ⟨i,hi,rfl⟩;exact ⟨i,hi,rfl⟩}
theorem SM.kept (k:SM w h s) (hk:w'.heap[h]?=w.heap[h]?):SM w' h s:=by
 obtain ⟨D,n,o,h1,h2,h3⟩:=k;exact ⟨D,n,lp o (fun es c hh=>hk.trans hh),h1,h2,h3⟩
theorem gV (h:s.Pairwise (·<·)):s.Nodup:=h.imp fun hl e=>by omega
theorem PS.of {g:Int} {SB NB HB UB:List Nat} (h:iB w0 w b bs bn e g x t ss ns SB NB HB UB) (be:Below w0.heap.size w0 w) (hF:xk ss ns) (ls:ss.length<=1048576) (ln:ns.length<=1048576):PS w0 w b bs bn ⟨e,g,x,t,ss,ns⟩ SB NB HB UB:=by
 refine ⟨be,h.hd,h.Cl.len,?_,fun i s gb hs hg=>?_,h.Cl.jR,h.jR.len,h.jR.AJ,h.jR.AI,?_,fun i nd gb hh uu hs hg h1 h2=>?_,h.jR.jR,h.lo,h.Ad⟩;{obtain ⟨D,o,m⟩:=h.Cl.own;refine ⟨D,_,o,ls,m,?_⟩;have hl:(ss.map fun s=>Lit.int .u64 s.1).length=ss.length:=List.length_map _;rw [<-hl];refine jV o gD (List.pairwise_map.2 (hF.s1.imp fun br e=>by simp at e;omega)) fun k=>?_;rw [m.hs k,List.mem_map];constructor;{rintro ⟨p,hp,rfl⟩;obtain ⟨i,s,y,h1,-,rfl⟩:=gm hp;exact ⟨s,aF h1,rfl⟩};{rintro ⟨s,hs,rfl⟩;obtain ⟨i,hi⟩:=List.mem_iff_getElem?.1 hs;obtain ⟨y,hy⟩:∃ y,SB[i]?=some y:=⟨_,aE (by rw [h.Cl.len];exact (aJ.1 hi).1)⟩;exact ⟨_,aF (i:=i) (by rw [List.getElem?_zipWith,hi,hy]),rfl⟩}};{obtain ⟨q0,u,q1,q2⟩:=h.Cl.aB i s gb hs hg;exact ⟨q0,u,q1,AQ.of q2 be⟩};{obtain ⟨D,o,m⟩:=h.jR.own;refine ⟨D,_,o,ln,m,?_⟩;have hl:(ns.map fun nd=>bL nd.path).length=ns.length:=List.length_map _;rw [<-hl];refine jV o lD (List.pairwise_map.2 (Cs fun i j a c ha hc ic e=>hF.n3 i j a c ha hc ic (iM (hF.n2 a (aF ha)).1 (hF.n2 c (aF hc)).1 e))) fun k=>?_;rw [m.hs k,List.mem_map];constructor;{rintro ⟨p,hp,rfl⟩;obtain ⟨i,s,y,h1,-,rfl⟩:=gm hp;exact ⟨s,aF h1,rfl⟩};{rintro ⟨s,hs,rfl⟩;obtain ⟨i,hi⟩:=List.mem_iff_getElem?.1 hs;obtain ⟨y,hy⟩:∃ y,NB[i]?=some y:=⟨_,aE (by rw [h.jR.len];exact (aJ.1 hi).1)⟩;exact ⟨_,aF (i:=i) (by rw [List.getElem?_zipWith,hi,hy]),rfl⟩}};{obtain ⟨q0,q1,q2,⟨V,q3,q4⟩,⟨D1,o1,m1⟩,⟨D2,o2,m2⟩⟩:=h.jR.aB i nd gb hh uu hs hg h1 h2;obtain ⟨-,-,-,l1,l2,n1,n2⟩:=hF.n2 nd (aF hs);exact ⟨⟨q0,q1,q2⟩,⟨V,q3,.inl q4⟩,SM.of o1 (by omega) m1 (gV n1),SM.of o2 (by omega) m2 (gV n2)⟩}
theorem PS.sto {D:SD} {SB NB HB UB:List Nat} (h:PS w0 w b bs bn D SB NB HB UB):VV w b bs bn D.e D.g D.x D.t D.ss D.ns SB NB:=by
 refine ⟨h.hd,⟨h.qU,?_,fun i s gb hs hg=>?_⟩,⟨h.sw,?_,fun i nd gb hs hg=>?_⟩⟩;{obtain ⟨M,n,o,hn,m,-⟩:=h.qT;exact ⟨M,n,o,hn,m⟩};{obtain ⟨-,u,q1,q2⟩:=h.ox i s gb hs hg;exact ⟨u,q1,q2.rdc h.be⟩};{obtain ⟨M,n,o,hn,m,-⟩:=h.mu;exact ⟨M,n,o,hn,m⟩};{have hi:=(aJ.1 hs).1;obtain ⟨hh,mB⟩:∃ y,HB[i]?=some y:=⟨_,aE (by rw [h.hlen];exact hi)⟩;obtain ⟨uu,mY⟩:∃ y,UB[i]?=some y:=⟨_,aE (by rw [h.ua];exact hi)⟩;obtain ⟨-,⟨V,q1,q2⟩,⟨D1,n1,o1,-,s1,z1⟩,⟨D2,n2,o2,-,s2,z2⟩⟩:=h.lu i nd gb hh uu hs hg mB mY;exact ⟨V,hh,uu,q1,q2.rd h.be,⟨D1,z1▸mT o1,s1⟩,⟨D2,z2▸mT o2,s2⟩⟩}
structure One (w0 w w':World) (g:Nat):Prop where
 b:Below w0.heap.size w w'
 k:∀ z,z<w.heap.size->z≠g->w'.heap[z]?=w.heap[z]?
 t:∀ cur ty m,w.heap[g]?=some (.cells cur ty m)->ty∈[35,137,132]
theorem One.fr (h:One w0 w w' g):Fr [35,137,132] w w':=by
 refine ⟨h.b.size,fun b cur ty m hn hb=>?_⟩;by_cases e:b=g;{subst e;exact absurd (h.t _ _ _ hb) hn};{exact (h.k b (aI hb) e).trans hb}
theorem One.obj {g z:Nat} {o:Obj} (h:One w0 w w' g) (hz:w.heap[z]?=some o) (bq:z≠g):w'.heap[z]?=some o:=(h.k z (aI hz) bq).trans hz
theorem ownsMap_at {R:Value->Option (DataW Unit × List MemPlace)} {b n:Nat} (h:w.ownsMap prog k R b n D):∃ es c,w.heap[b]?=some (.map es c):=by
 obtain ⟨es,c,h1,-⟩:=h;exact ⟨es,c,h1⟩
theorem One.map {g z n:Nat} {R:Value->Option (DataW Unit × List MemPlace)} (h:One w0 w w' g) (hz:w.ownsMap prog k R z n D) (bq:z≠g):w'.ownsMap prog k R z n D:=
 lp hz (fun es c hh=>h.obj hh bq)
theorem SM.aM (k:SM w h s) (O:One w0 w w' g) (bq:h≠g):SM w' h s:=by
 obtain ⟨D,n,o,h1,h2,h3⟩:=k;exact ⟨D,n,O.map o bq,h1,h2,h3⟩
theorem SM.at (k:SM w h s):∃ es c,w.heap[h]?=some (.map es c):=by
 obtain ⟨D,n,o,-⟩:=k;exact ownsMap_at o
theorem PE.aM {s:aL} (h:PE w0 w gb s) (O:One w0 w w' g) (bq:gb≠g):PE w0 w' gb s:=by
 obtain ⟨h0,u,h1,h2⟩:=h;exact ⟨h0,u,O.obj h1 bq,h2.fr O.b O.fr (by decide)⟩
theorem PN.aM {hh uu:Nat} (h:PN w0 w gb hh uu nd) (O:One w0 w w' g) (h1:gb≠g) (h2:hh≠g) (h3:uu≠g):PN w0 w' gb hh uu nd:=by
 obtain ⟨h0,⟨V,q1,q2⟩,q3,q4⟩:=h;exact ⟨h0,⟨V,O.obj q1 h1,q2.fr O.fr (by decide)⟩,q3.aM O h2,q4.aM O h3⟩
section
variable {w0 w w':World} {b bs bn:Nat} {D:SD} {SB NB HB UB:List Nat}
theorem PS.nat (h:PS w0 w b bs bn D SB NB HB UB) (hi:D.ns[i]?=some nd):∃ g hh uu,NB[i]?=some g/\HB[i]?=some hh/\UB[i]?=some uu/\PN w0 w g hh uu nd:=by
 have hl:=(aJ.1 hi).1;obtain ⟨g,hg⟩:∃ y,NB[i]?=some y:=⟨_,aE (by rw [h.sw];exact hl)⟩;obtain ⟨hh,mB⟩:∃ y,HB[i]?=some y:=⟨_,aE (by rw [h.hlen];exact hl)⟩;obtain ⟨uu,mY⟩:∃ y,UB[i]?=some y:=⟨_,aE (by rw [h.ua];exact hl)⟩;exact ⟨g,hh,uu,hg,mB,mY,h.lu i nd g hh uu hi hg mB mY⟩
theorem PS.sat (h:PS w0 w b bs bn D SB NB HB UB) {s:aL} (hi:D.ss[i]?=some s):∃ g,SB[i]?=some g/\PE w0 w g s:=by
 have hl:=(aJ.1 hi).1;obtain ⟨g,hg⟩:∃ y,SB[i]?=some y:=⟨_,aE (by rw [h.qU];exact hl)⟩;exact ⟨g,hg,h.ox i s g hi hg⟩
theorem PS.below (h:PS w0 w b bs bn D SB NB HB UB) (hb:Below w.heap.size w w'):PS w0 w' b bs bn D SB NB HB UB:=by
 have O:One w0 w w' w.heap.size:=⟨hb.mono h.be.size,fun z hz _=>hb.block z hz,fun cur ty m hc=>absurd (aI hc) (Nat.lt_irrefl _)⟩;have hn:∀ {z:Nat} {o:Obj},w.heap[z]?=some o->z≠w.heap.size:=fun hz e=>by have:=aI hz;omega
 refine ⟨h.be.trans (hb.mono h.be.size),O.obj h.hd (hn h.hd),h.qU,?_,fun i s g hs hg=>?_,h.snd,h.sw,h.hlen,h.ua,?_,fun i nd g hh uu hs hg h1 h2=>?_,h.Mt,h.lo,h.Ad⟩;{obtain ⟨M,n,o,r⟩:=h.qT;obtain ⟨es,c,hm⟩:=ownsMap_at o;exact ⟨M,n,O.map o (hn hm),r⟩};{have q:=h.ox i s g hs hg;obtain ⟨-,u,h1,-⟩:=id q;exact q.aM O (hn h1)};{obtain ⟨M,n,o,r⟩:=h.mu;obtain ⟨es,c,hm⟩:=ownsMap_at o;exact ⟨M,n,O.map o (hn hm),r⟩};{have q:=h.lu i nd g hh uu hs hg h1 h2;obtain ⟨-,⟨V,q1,-⟩,q3,q4⟩:=id q;obtain ⟨es,c,m3⟩:=q3.at;obtain ⟨Vl,c',m4⟩:=q4.at;exact q.aM O (hn q1) (hn m3) (hn m4)}
theorem vY {l:List Nat} (hn:l.Nodup) {j a c:Nat} (hi:l[i]?=some a) (hj:l[j]?=some c) (ic:i≠j):a≠c:=fun e=>ic (DP hn hi (e▸hj))
theorem PS.hu (h:PS w0 w b bs bn D SB NB HB UB):bs≠bn/\(∀ z∈HB,z≠bs/\z≠bn)/\(∀ z∈UB,z≠bs/\z≠bn)/\HB.Nodup/\UB.Nodup/\∀ y∈HB,∀ z∈UB,y≠z:=by
 have hd:=h.Ad;simp only [List.nodup_cons,List.mem_cons,List.mem_append,not_or] at hd;obtain ⟨⟨d0,d1,d2⟩,⟨d3,d4⟩,d5⟩:=hd;rw [List.nodup_append] at d5;exact ⟨d0,fun z hz=>⟨fun e=>d1 (e▸hz),fun e=>d3 (e▸hz)⟩,fun z hz=>⟨fun e=>d2 (e▸hz),fun e=>d4 (e▸hz)⟩,d5.1,d5.2.1,fun y hy z hz=>d5.2.2 y hy z hz⟩
theorem PS.FI (h:PS w0 w b bs bn D SB NB HB UB) {s s':aL} (hs:D.ss[i]?=some s) (hg:SB[i]?=some g) (O:One w0 w w' g) (hid:s'.1=s.1) (hE:PE w0 w' g s'):PS w0 w' b bs bn { D with ss:=D.ss.set i s' } SB NB HB UB:=by
 obtain ⟨g0,u0,gc,-⟩:=h.ox i s g hs hg;have vg:=(aJ.1 hs).1;have nc:∀ {z:Nat} {cs:Array Value} {ty:TypeId},w.heap[z]?=some (.cells cs ty)->ty≠35->z≠g:=fun hz ht e=>by rw [e,gc] at hz;simp at hz;exact ht hz.2.symm
 have nm:∀ {z:Nat} {es:Array MapEntry} {c:Nat},w.heap[z]?=some (.map es c)->z≠g:=fun hz e=>by rw [e,gc] at hz;cases hz
 refine ⟨h.be.trans O.b,O.obj h.hd (nc h.hd (by decide)),by rw [List.length_set];exact h.qU,?_,fun j s1 g1 iQ fN=>?_,h.snd,h.sw,h.hlen,h.ua,?_,fun j nd gb hh uu iQ fN h1 h2=>?_,h.Mt,h.lo,h.Ad⟩;{
 obtain ⟨M,n,o,hn,m,hz⟩:=h.qT;obtain ⟨es,c,hm⟩:=ownsMap_at o;refine ⟨M,n,O.map o (nm hm),hn,?_,by simp only [List.length_set];exact hz⟩;have e:List.zipWith (fun (s:aL) g=>(Lit.int .u64 s.1,g)) (D.ss.set i s') SB=List.zipWith (fun (s:aL) g=>(Lit.int .u64 s.1,g)) D.ss SB:=by refine List.ext_getElem? fun j=>?_;rw [List.getElem?_zipWith,List.getElem?_zipWith,List.getElem?_set];by_cases ej:i=j;{subst ej;rw [if_pos rfl,if_pos vg,hs,hg];simp [hid]};{simp [ej]}
 rw [e];exact m};{simp only [List.getElem?_set] at iQ;by_cases ej:i=j;{subst ej;rw [hg] at fN;cases fN;simp [vg] at iQ;subst iQ;exact hE};{simp [ej] at iQ;exact (h.ox j s1 g1 iQ fN).aM O (vY h.snd fN hg (fun e=>ej e.symm))}};{obtain ⟨M,n,o,r⟩:=h.mu;obtain ⟨es,c,hm⟩:=ownsMap_at o;exact ⟨M,n,O.map o (nm hm),r⟩};{have q:=h.lu j nd gb hh uu iQ fN h1 h2;obtain ⟨-,⟨V,q1,-⟩,q3,q4⟩:=id q;obtain ⟨es,c,m3⟩:=q3.at;obtain ⟨Vl,c',m4⟩:=q4.at;exact q.aM O (nc q1 (by decide)) (nm m3) (nm m4)}
end
end Go.Proofs.YtcfcafeciggjeaaGreatDoor
