import Derived.Test.YtpkakgkipopiaaaGreatDoorK11
open Array renaming setIfInBounds->jI,size->U
open Bool renaming false->dF,true->dY
open Decidable renaming decide->dD
open Go renaming Calls->dQ,Value->dV,World->G
open Go.Ending renaming returned->dR
open Go.IntKind renaming u64->jU,i64->jV,wrap->jY
open Go.Obj renaming cells->dO
open Go.Proofs.Tryz renaming prog->dG
open Go.Region renaming wanted->jW
open Go.RowKit renaming Hid->O
open Go.Value renaming ownBlock->jB,int->jK,bool->jO,I->dI,S->dS,tuple->dT,U->dU
open Go.World renaming alloc->jA,frozen?->jF,heap->Q,setCell->jS,cell?->I
open Int renaming toNat->jN
open List renaming drop->jD,length->J
open Option renaming none->dN,some->Y
namespace Go.Proofs.YtpkakgkipopiaaaGreatDoor
set_option maxHeartbeats 12800000
set_option linter.all false
set_option maxRecDepth 100000
open Go.ChangeShapes Go.WideShapes Go.ChangeAt Go.RowKit
def enc:List R1->LI
 |[]=>[]
 |r::rs=>nH r.1 r.2++enc rs
theorem ei8(rs:List R1):J (enc rs)=kH rs:=by
 induction rs with
 |nil=>rfl
 |cons r rs ih=>simp only[enc,kH,eG,D7,ih]
theorem ej1(a b:List R1):enc (a++b)=enc a++enc b:=by
 induction a with
 |nil=>rfl
 |cons r a ih=>simp only[enc,Al,ih,pO]
variable {i B B' n b b' c:Nat}{rest l P' V:LI}{rs:List R1}{P:Program}{w w' u:G}{ops:iQ}{o:Oper}{a:Act}{K:Act->G->Prop}{E:Prop}{R:Ending->G->Prop}{f:FuncId}{sX:Array TypeId}{xs:Array Operand}{vs cs NI:iA}{v x:dV}{r p0 p1 p2 p:OA}{q C:Int}{D:Dk}{S:fu}{A1 A2 D1 D2:List Lf}{dop:LI->Option Rq}{M:Dm}{X:uq}{iO:sU}{ty:TypeId}{A:Pt}{ss:List aC}{z:Ending}{e:Ev}{es:List Ev}{ns:List au}{nd:au}
theorem Tx(a m c:LI){j:Nat}(q:J a=i)(o:J a+J m=j):sub (a++(m++c)) i j=m:=by
 subst q;subst o;rw[sub,<-pO,List.take_left' ai,List.drop_left' rfl]
theorem aN9(s:Int)(b:LI):nH s b=le (J b) 2++(le s 8++(b++le (ck (yz s b)) 4)):=by
 rw[nH,sm];generalize le (ck (yz s b)) 4=z;simp only[yz,pO]
theorem dB8{b:LI}(hl:J b<=1000):Ar (le (J b) 2++rest)=J b:=by
 have e:sub (le (J b) 2++rest) 0 2=le (J b) 2:=by have:=Tx [] (le (J b) 2) rest (i:=0) (j:=2) rfl (by simp[qW]);simpa using this
 rw[Ar,e,aQ4 _ _ ae];omega
theorem do1{s:Int}{b:LI}(hl:J b<=1000)(s0:0<=s)(s1:s<2^64):ng (nH s b++rest)=Y (s,b):=by
 have r:Ar (nH s b++rest)=J b:=by rw[aN9,pO];exact dB8 hl
 have q:num (sub (nH s b++rest) 2 10)=s:=by have:=Tx (le (J b) 2) (le s 8) ((b++le (ck (yz s b)) 4)++rest) (i:=2) (j:=10) (qW _ _) (by simp[qW]);rw[aN9];simp only[pO]at this⊢;rw[this,aQ4 _ _ s0];exact aR9 s0 (by simpa using s1)
 have o:sub (nH s b++rest) 10 (10+J b)=b:=by have:=Tx (le (J b) 2++le s 8) b (le (ck (yz s b)) 4++rest) (i:=10) (j:=10+J b) (by simp[qW]) (by simp[qW]);rw[aN9];simp only[pO]at this⊢;exact this
 have m:sub (nH s b++rest) 0 (14+J b)=nH s b:=by have:=Tx [] (nH s b) rest (i:=0) (j:=14+J b) rfl (by simp[D7];omega);simpa using this
 unfold ng;rw[r,q,o,m,aJ (by rw[eG,D7];omega),aK rfl]
def FlR:Int->List R1->Prop
 |_,[]=>True
 |t,r::rs=>r.1=t+1/\J r.2<=1000/\FlR r.1 rs
theorem cv4:∀(rs:List R1)(t:Int)(o:Option Int)(f:Nat),FlR t rs->0<=t->t+J rs<=1000000->(o=dN\/o=t)->J rs<f->qd o (yl f (enc rs))=rs
 |[],t,o,f,_,_,_,_,hf=>by obtain⟨f,rfl⟩:∃i,f=i+1:=⟨f-1,ae⟩;rw[enc,Ww (aO1 ai)];cases o<;>rfl
 |r::rs,t,o,f,h,h0,hs,ho,hf=>by
  obtain⟨f,rfl⟩:∃i,f=i+1:=⟨f-1,ae⟩;obtain⟨u,s,q⟩:=h;simp only[ni]at hs hf;have e:ng (enc (r::rs))=r:=by rw[enc];exact do1 s ae ae
  rw[JQ e];have j:sy o r.1:=by obtain rfl|rfl:=ho;{rfl};{simp[sy];omega}
  have m:jD (J r.2+14) (enc (r::rs))=enc rs:=by rw[enc,List.drop_left' (by rw[D7])]
  simp only[qd,j,pQ];rw[m,cv4 rs r.1 r.1 f q ae ae (.R rfl) ae]
theorem cc8:∀rs:List R1,J rs<=J (enc rs)
 |[]=>fq _
 |r::rs=>by have:=cc8 rs;rw[enc,eG,D7,ni];omega
theorem dm2(h:FlR 0 rs)(i:J rs<=1000000):rl (enc rs)=rs:=cv4 rs 0 dN _ h (tQ 0) (by omega) (.L rfl) (aM (cc8 rs))
open Go.Proofs.Tryz
theorem sXw{iZ:iE}(hc:dQ P f vs w R)(hR:∀e w',R e w'->∃v,e=dR v/\K (a.put o.dst v) w')(hw:jW o (yielded ops a.tmps))(ho:o.op=.call {callee:=.value (.func f),args:=xs,argTypes:=sX})(h1:xs.map a.eval=vs)(kn:∀vs,(callFunc f vs).run P w=.ok (.enter f vs) w):if jW o (yielded ops a.tmps)then Oper.wp P o a w K iZ else E:=by
 rw[aK hw];have fW:(execOp a.eval o).run P w=.ok (.enter f vs) w:=by subst h1;unfold execOp;simp[go_sem,ho,resolve,invoke,kn]
 show o.upon P a K iZ _;rw[fW,Mo];refine hc.h ?_;intro e w' h;obtain⟨v,rfl,hk⟩:=hR e w' h;exact hk
theorem sOw{iZ:iE}{E:Prop}{sX:Array TypeId}{x:Operand}(hc:dQ P f #[v] w R)(hR:∀e w',R e w'->∃v,e=dR v/\K (a.put o.dst v) w')(hw:jW o (yielded ops a.tmps):=by rfl)(ho:o.op=.call {callee:=.value (.func f),args:=#[x],argTypes:=sX}:=by rfl)(h1:a.eval x=v:=by rfl)(kn:∀vs,(callFunc f vs).run P w=.ok (.enter f vs) w:=by(intro _;kernel_rfl)):if jW o (yielded ops a.tmps)then Oper.wp P o a w K iZ else E:=sXw hc hR hw ho (by simp[h1]) kn
theorem sTw{iZ:iE}{E:Prop}{sX:Array TypeId}{x y:Operand}{u:dV}(hc:dQ P f #[u,v] w R)(hR:∀e w',R e w'->∃v,e=dR v/\K (a.put o.dst v) w')(hw:jW o (yielded ops a.tmps):=by rfl)(ho:o.op=.call {callee:=.value (.func f),args:=#[x,y],argTypes:=sX}:=by rfl)(h1:a.eval x=u:=by rfl)(h2:a.eval y=v:=by rfl)(kn:∀vs,(callFunc f vs).run P w=.ok (.enter f vs) w:=by(intro _;kernel_rfl)):if jW o (yielded ops a.tmps)then Oper.wp P o a w K iZ else E:=sXw hc hR hw ho (by simp[h1,h2]) kn
abbrev VaS(b z:Nat)(q:Int)(S:fu)(p:OA)(c:Nat)(r:OA)(d:Nat)(T:fu)(p':OA)(c':Nat)(r':OA)(d':Nat)(v:G):Prop:=(I v (Ad b 12)=dU q/\I v (Ad b 6)=dU S.e/\I v (Ad b 7)=dU S.g/\I v (Ad b 8)=dU S.x/\I v (Ad b 9)=dI S.t/\I v (Ad b 10)=dS p (J S.E) c/\I v (Ad b 11)=dS r (J S.N) d)/\I v (Ad z 0)=dU T.e/\I v (Ad z 1)=dU T.g/\I v (Ad z 2)=dU T.x/\I v (Ad z 3)=dI T.t/\I v (Ad z 4)=dS p' (J T.E) c'/\I v (Ad z 5)=dS r' (J T.N) d'
theorem aJ1:∀rs:List R1,J rs<=kH rs
 |[]=>fq _
 |r::rs=>by have:=aJ1 rs;simp only[ni,kH];omega
theorem cd3{r:R1}(h:rs[J rs-1]?=r):sF rs=r.1:=by rw[sF,an3,h];rfl
theorem cY8{n c0 n1 c1 n2 c2 k c m d:Nat}{s0 s1 s2 e g x t:Int}(el:Le l n)(h:Rd w (.S p0 n c0) l)(hB:O (aA l))(hn:Mg n)(hc:n<=c0)(oY:O (c0<=maxLen))(hp:O ((p0=dN/\c0=0)\/∃b o,p0=(Ad b o))):dQ dG 59 #[BI (.S p0 n c0) s0 (.S p1 n1 c1) s1 (.S p2 n2 c2) s2 e g x t (.S p k c) (.S r m d) q] w (Th (LgP l q) w):=by
 obtain⟨W,hW,b1,z1,C1,-⟩:=bM w #[.S p0 n c0,.I s0,.S p1 n1 c1,.I s1,.S p2 n2 c2,.I s2,.U e,.U g,.U x,.I t,.S p k c,.S r m d,.U q] 36;go_in
 go_wp21
 rw[<-hW];refine(cg0 (h.H b1) hB el hn hc oY hp).h ?_;rintro z w1⟨P,C,vs,rfl,o,hb⟩;let⟨j,EU⟩:=bL (rl l);let⟨K,s⟩:=bL (J j);let⟨T,X⟩:=bL (kH j);rw[aa EU,aa s]at o⊢;rw[aa X];have hT:T<=n:=by rw[<-aa X,<-aa EU,<-aa el];exact bL1 _ _ hB
 have hK:K<=T:=by rw[<-aa X,<-aa s];exact aJ1 j
 have nc:=(C1.H ae hb).1 12 _ rfl;have M:=af (ah b1 hb);have D:O (LgP l q↔(n<=4000/\T=n/\(K=0\/sF j=q))):=by show _↔_;rw[LgP,aa EU,aa X,aa el,<-aa s,vI]
 have HO:=af o.rct;by_cases V:n<=4000;{
 have h4':¬(4000:Int)<(n:Int):=ae;by_cases N:T=n;{
 have UI:=fG T n;by_cases h0:K=0;{
 have Rh:((K:Int)==0):=by simp[h0]
 go_wp2
 go_quiet (fail)
 go_wp2;go_ret;exact .yes (by rw[aa D];simp[V,N,h0]) (below_drewN M)};{
 have Rh:((K:Int)==0)=dF:=by simp[h0]
 obtain⟨y,Z⟩:∃y,j[J j-1]?=Y y:=⟨_,bN (aM (aa s))⟩;have hl:=af (cd3 Z);rw[aa s]at Z;obtain⟨rb,ro,rq,rd,rfl,cq,-,-,-,-⟩:=HO.at Z;have wk:jY jV ((K:Int)-1)=((K-1:Nat):Int):=by rw[l8 _ ae];omega
 by_cases hq:y.1=q;{
 have lG:(y.1==q):=by simp[hq]
 go_wp2
 go_quiet (fail)
 go_wp2;go_ret;exact .yes (by rw[aa D,aa hl];simp[V,N,hq]) (below_drewN M)};{
 have lG:(y.1==q)=dF:=by simp[hq]
 go_wp2
 go_quiet (fail)
 go_wp2;go_ret;exact .no (by rw[aa D,aa hl];simp[V,N,hq,h0]) (below_drewN M)}}};{have UI:=bR T n;go_wp2;go_ret;exact .no (by rw[aa D];simp[N]) M}};{have h4':=rr 4000 n;go_wp2;go_ret;exact .no (by rw[aa D];simp[V]) M}
theorem vaW{iZ:Prop}(h':iZ:=by
 let⟨Bl,eBl⟩:=bL (⟨e,g,x,u,ss,ns⟩:fu).B;let⟨Sl,eSl⟩:=bL S.B;let⟨bn,Fa⟩:=bL (J Bl);let⟨sn,esn⟩:=bL (J Sl);have E1:=af (aa F1 _ (aa eBl▸Fa));have E2:=af (aa F2 _ (aa eSl▸esn));have Y1:=af (HV.1.bytes HV.2).2;have Y2:=af (hG.bytes Jk).2;rw[aa eBl]at E1 Y1 HP;rw[aa eSl]at E2 Y2 HP;clear HV HG F1 F2;let⟨⟨i0,i1,i2,i3,i4,i5,i6,i7,i8,i9,ia,ib,ic⟩,j0,j1,j2,j3,j4,j5,jf⟩:=aa HS5 W5 aH
 first|have bb:=(aa HA W5 B5).2.2.2.2|have bb:=(aa HA W5 B5).2.2
 by_cases h1:cd=0;{
 by_cases h2:sq=q;{
 subst h1 h2;refine fK (λv=>VaS (U w.heap) (U v4.heap) sq S p c r d ⟨e,g,x,u,ss,ns⟩ ps cs pn cn v) (by exact⟨⟨ic,i6,i7,i8,i9,ia,ib⟩,j0,j1,j2,j3,j4,j5⟩) λhS=>?_;have JD:=af (λ(v:G)(hv:Bw W5 v)=>(λk=>(⟨⟨k.1.2.2.2.2.2.2.2.2.2.2.2.2,k.1.2.2.2.2.2.2.1,k.1.2.2.2.2.2.2.2.1,k.1.2.2.2.2.2.2.2.2.1,k.1.2.2.2.2.2.2.2.2.2.1,k.1.2.2.2.2.2.2.2.2.2.2.1,k.1.2.2.2.2.2.2.2.2.2.2.2.1⟩,k.2.1,k.2.2.1,k.2.2.2.1,k.2.2.2.2.1,k.2.2.2.2.2.1,k.2.2.2.2.2.2.1⟩:VaS (U w.heap) (U v4.heap) sq S p c r d ⟨e,g,x,u,ss,ns⟩ ps cs pn cn v)) (aa HS5 v hv));have BV:=af (aR (U W5.heap) W5).drew;let⟨v,fU⟩:=aF W5.drew;rw[<-fU]at BV hS⊢;clear fU i0 i1 i2 i3 i4 i5 i6 i7 i8 i9 ia ib ic j0 j1 j2 j3 j4 j5 jf HS5 bb;refine jh 0 1 2 3 4 5 6 7 hS ?_;refine iL 8 9 11 12 hS ?_;refine ft 10 (λKK hK=>?_);refine sOw (aa E1 _ BV) ?_;rintro z v6⟨P,C,rfl,o6,gj⟩;refine⟨_,rfl,?_⟩;have B6:=af (ah BV gj);have O6:=af o6.rd;refine bQ hK (by exact JD _ B6) λhS=>?_;clear hK KK gj o6 BV;refine ft 13 (λKK hK=>?_);refine sOw (aa E2 _ B6) ?_;rintro z v7⟨P2,C2,rfl,o7,Ci⟩;refine⟨_,rfl,?_⟩;have B7:=af (ah B6 Ci);have O7:=br (O6.H Ci) o7.rd;refine bQ hK (by exact JD _ B7) λhS=>?_;clear hK KK Ci o7 B6 O6;refine ft 14 (λKK hK=>?_)
 first|(have T0:=bp2;refine sTw (ZR Fa esn O7.1 O7.2 Y1 Y2) ?_)|refine sTw (Uz Fa esn O7.1 O7.2 Y1 Y2) ?_
 rintro z v8⟨rfl,Gv⟩;refine⟨_,rfl,?_⟩;have B8:=af (ah B7 Gv);refine bQ hK (by exact JD _ B8) λhS=>?_;clear hK KK Gv B7 O7;refine gh 15 16 hS ?_;refine ga ?_
 first|have bb:=(aa HA v8 (ah B5 B8)).2.2.2.2|have bb:=(aa HA v8 (ah B5 B8)).2.2
 go_wp2;go_ret;exact⟨dD (Bl=Sl),(by show _↔_;rw[aa HP];simp),rfl,bb⟩};{
 have Zx:(sq==q)=dF:=by simp[h2]
 subst h1
 go_quiet (fail)
 go_wp2;go_ret;exact .no (by rw[aa HP];simp[h2]) (below_drewN bb)}};{
 have GI:(cd==0)=dF:=by simp[h1]
 go_quiet (fail)
 go_wp2;go_ret;exact .no (by rw[aa HP];simp[h1]) (below_drewN bb)}):iZ:=h'
theorem bL8{c0 M c2 c d:Nat}(h:Hi B w p0 c0 p1 M p2 c2 p c r d D S)(hl:J D.l0+J D.l1+J D.l2<=2^20)(hG:O (SG S))(V:O (aA D.l0))(y1:O (aA D.l1))(hM:ML w)(hT:qP w)(dop:LI->Option Rq)(hd:O (∀l,sV l (dop l))):dQ dG 25 #[D5 p0 c0 p1 M p2 c2 p c r d D S q] w (Th (Bz dop D S q) w):=by
 obtain⟨W,hW,N,z1,C1,-⟩:=bM w #[.S p0 (J D.l0) c0,.I D.n0,.S p1 (J D.l1) M,.I D.n1,.S p2 (J D.l2) c2,.I D.n2,.U S.e,.U S.g,.U S.x,.I S.t,.S p (J S.E) c,.S r (J S.N) d,.U q] 36;have HA:=af (λ(v:G)(hv:Bw W v)=>aD (C1.H ae hv) (aD (h.H (ah N hv)) (aD (hM.H (ah N hv)) (aD (show qP v fromλk i1 i2=>(hT k i1 i2).H (ah N hv)) (ah N hv)))));go_in
 go_wp21
 rw[<-hW];refine cK (aZ6 ae ae ae) λZ ao=>?_;let⟨ok,s⟩:=bL (oK (J D.l0) D.n0 (J D.l1) D.n1 (J D.l2) D.n2);rw[aa s];have BV:=af ao;cases ok with
 |false=>
  have bb:=(aa HA Z BV).2.2.2.2;go_wp2;go_ret;exact .no (λe=>by have:=e.1;rw[Dk.ok,aa s]at this;cases this) bb
 | true=>
  let⟨i0,i1,i2,i3,i4,i5,i6,i7,i8,i9,ia,ib,ic⟩:=(aa HA Z BV).1.gP
  go_wp21
  have H:=af (aa HA Z BV);let⟨ok2,Jk⟩:=bL (mY S.e S.g S.x S.t S.E S.N);refine cK (ap8 rfl rfl H.2.1.2.1 H.2.1.2.2 hG.n hG.m hG.bs hG.bn hG.nu hG.ou H.2.2.1 Jk) λX ay=>?_;have E:=af (ah BV ay);cases ok2 with
  |false=>
   have bb:=(aa HA X E).2.2.2.2;go_wp2;go_ret;exact .no (λe=>by have:=e.2.1;rw[fu.ok,aa Jk]at this;cases this) bb
  | true=>
   let⟨i0,i1,i2,i3,i4,i5,i6,i7,i8,i9,ia,ib,ic⟩:=(aa HA X E).1.gP
   go_wp21
   have H:=af (aa HA X E).2.1.1;refine(cY8 rfl H.1.rd V ae H.1.cp.le H.1.cp.mx H.1.cp.ad).h ?_;rintro z j⟨ok3,bp2,rfl,aE⟩;have y:=af (ah E aE);cases ok3 with
   |false=>
    have bb:=(aa HA j y).2.2.2.2;go_wp2;go_ret;exact .no (λe=>by have:=bp2.2 e.2.2.1;cases this) bb
   |true=>
    let⟨i0,i1,i2,i3,i4,i5,i6,i7,i8,i9,ia,ib,ic⟩:=(aa HA j y).1.gP;have hd1:D.n1<=J D.l1:=by have:=aa s;simp only[oK,gI]at this;have:=aw9 this.1.2;omega
    by_cases hn:D.n1<J D.l1;{have bb:=(aa HA j y).2.2.2.2;go_wp2;go_ret;exact .no (λe=>aM e.2.2.2.1) bb};{
 have HN:O (D.n1=J D.l1):=by show _=_;omega
 go_wp21
 have H:=af (aa HA j y);let⟨R,eR⟩:=bL (uY dop D.l0 D.l1 dY);have HG:=af (XW hd V y1 ae dY);have HC:=af (ldC dop (l0:=D.l0) (l1:=D.l1));rw[aa eR]at HG HC;refine(cg1 p0 p1 p2 _ c0 _ M _ c2 D.n0 D.n1 D.n2 D.l0 D.l1 rfl rfl j H.2.1.1.1.rd H.2.1.1.2.1.rd ae ae ae H.2.1.1.1.cp.le H.2.1.1.2.1.cp.le H.2.1.1.1.cp.mx H.2.1.1.2.1.cp.mx H.2.1.1.1.cp.ad H.2.1.1.2.1.cp.ad V y1 H.2.2.1 H.2.2.2.1 dop hd dY s _ eR).h ?_;rintro z v4⟨⟨ps,cs,pn,cn,rfl,o4⟩,cG⟩;have DW:=af (ah y cG);have O4:=af o4;obtain⟨⟨e,g,x,u,ss,ns⟩,sq,cd⟩:=R;obtain⟨W5,Gx,b5,z5,C5,-⟩:=bM v4 #[.U e,.U g,.U x,.I u,.S ps (J ss) cs,.S pn (J ns) cn] 34
 go_wp21
 rw[<-Gx];clear Gx;have B5:=af (ah DW b5);have HV:=br HG.v.sg HG.v.ok;have HS5:=af (λ(v:G)(hv:Bw W5 v)=>aD (aa HA v (ah (aa B5) hv)).1.gP (C5.H ae hv).c6);have O5:=af (O4.H b5);have HP:O (Bz dop D S q↔(cd=0/\sq=q/\(⟨e,g,x,u,ss,ns⟩:fu).B=S.B)):=by show _↔_;rw[Bz,aa eR];exact⟨λh=>h.2.2.2.2,λh=>⟨s,Jk,bp2.1 ai,HN,h⟩⟩
 have F1:=af (λ(L:Nat)eL=>HV.1.bp7 HV.2 O5.D8.1 O5.D8.2 (aa HA W5 B5).2.2.1 (L:=L) eL);have F2:=af (λ(L:Nat)eL=>hG.bp7 Jk (aa HA W5 B5).2.1.2.1 (aa HA W5 B5).2.1.2.2 (aa HA W5 B5).2.2.1 (L:=L) eL);exact vaW}
def Od(w:G)(T:Dk×fu×Int×Int)(z:Ending)(w':G):Prop:=∃m s j q i o p c r d,z=dR (dT #[D5 m s j q i o p c r d T.1 T.2.1 T.2.2.1,.I T.2.2.2])/\(∃M x u,vm (U (Q w)) M w' x u m s j q i o p c r d T.1 T.2.1)/\Bw w w'
theorem Od.no{T:Dk×fu×Int×Int}(h:O (T=(DK,mO,0,C)))(j:Bw w w'):Od w T (dR (dT #[BI aq 0 aq 0 aq 0 0 0 0 0 aq aq 0,.I C])) w':=by
 rw[aa h];let⟨q,m,i⟩:=nG.zero (U (Q w)) w';exact⟨dN,0,dN,0,dN,0,dN,0,dN,0,rfl,⟨U (Q w),q,m,⟨Own.nil _ _,Own.nil _ _,Own.nil _ _,(λb e=>by cases e),(λb e=>by cases e),(λb e=>by cases e)⟩,(by rintro b(e|e|e)<;>cases e),fq _,i⟩,j⟩
theorem vm.h{M:Nat}{c0 j c2 c d:Nat}(h:vm B M w A1 A2 p0 c0 p1 j p2 c2 p c r d D S)(i:B'<=B):vm B' M w A1 A2 p0 c0 p1 j p2 c2 p c r d D S:=⟨h.1.h i,h.2.1,fx i h.2.2.1,h.2.2.2⟩
theorem bJ5{s:Int}:dQ dG 17 #[.I s] w (Rb (jO (dD (0<=s/\s<=5))) w):=by
 by_cases j:0<=s;{
 by_cases i:s<=5;{
 have e:dD (0<=s/\s<=5):=by simp[j,i]
 rw[e];clear e;go_in;go_wp2;go_ret;exact⟨rfl,aR _ _⟩};{
 have e:dD (0<=s/\s<=5)=dF:=by simp[i]
 rw[e];clear e;go_in;go_wp2;go_ret;exact⟨rfl,aR _ _⟩}};{
 have e:dD (0<=s/\s<=5)=dF:=by simp[j]
 rw[e];clear e;go_in;go_wp2;go_ret;exact⟨rfl,aR _ _⟩}
theorem dI5(p0 p1 p2:OA)(c0 c1 c2:Nat)(D:Dk)(k s:Int)(w:G)(h:my B w (.S p0 (J D.l0) c0) (.S p1 (J D.l1) c1) (.S p2 (J D.l2) c2) D.l0 D.l1 D.l2)(hl:J D.l0+J D.l1+J D.l2<=2^20)(y0:O (aA D.l0))(y1:O (aA D.l1))(hM:ML w)(hT:qP w)(dop:LI->Option Rq)(hd:O (∀l,sV l (dop l)))(ok:Bool)(ld:O (oK (J D.l0) D.n0 (J D.l1) D.n1 (J D.l2) D.n2=ok))(T:Dk×fu×Int×Int)(eT:O (Pd (uY dop D.l0 D.l1 ok) D ok k s=T)):dQ dG 6 #[mu (.S p0 (J D.l0) c0) D.n0 (.S p1 (J D.l1) c1) D.n1 (.S p2 (J D.l2) c2) D.n2,.I k,.I s] w (Od w T):=by
 obtain⟨W0,bG,q0,z0,C0,-⟩:=bM w #[.S p0 (J D.l0) c0,.I D.n0,.S p1 (J D.l1) c1,.I D.n1,.S p2 (J D.l2) c2,.I D.n2] 30;obtain⟨W1,fo,q1,z1,C1,-⟩:=bM W0 #[aq,.I 0,aq,.I 0,aq,.I 0,.U 0,.U 0,.U 0,.I 0,aq,aq,.U 0] 36;rw[z0]at C1 z1;have bW:=ah q0 q1;have j:=af (λ(v:G)(hv:Bw W1 v)=>aD ((C0.H ae q1).H ae hv).c6 (aD (h.H (ah bW hv)) (aD (hM.H (ah bW hv)) (aD (show qP v fromλk i1 i2=>(hT k i1 i2).H (ah bW hv)) (aD (C1.H ae hv) (ah bW hv))))));have HZ:=af z1;clear q0 q1 C0 C1 bW h hM hT z0 z1;go_in
 go_wp21
 rw[<-bG,<-fo];clear bG fo;refine cK (aZ6 ae ae ae) λv ao=>?_;rw[aa ld];have BV:=af ao;clear ao;by_cases hc:ok/\0<=k/\k<=1000000;{
 obtain⟨rfl,k0,k1⟩:=hc;replace k0:¬k<0:=ae;replace k1:¬1000000<k:=ae
 go_wp21
 refine cK (bJ5) λv2 ay=>?_;have qE:=af (ah BV ay);clear ay BV;by_cases hs:0<=s/\s<=5;{
 have e5:dD (0<=s/\s<=5):=by simp[hs]
 rw[e5];let⟨R,eR⟩:=bL (uY dop D.l0 D.l1 dY);have HG:=af (XW hd y0 y1 ae dY);have HC:=af (ldC dop (l0:=D.l0) (l1:=D.l1));rw[aa eR]at HG HC eT;obtain⟨⟨e,g,x,t,ss,ns⟩,q,cd⟩:=R;have eS:=aa eT;rw[Pd,aK ⟨rfl,ae,ae,hs.1,hs.2⟩]at eS;dsimp only at eS;have ES:=af eS;obtain⟨S,rfl⟩:∃n:Nat,s=n:=⟨jN s,ae⟩;have Zc:S<=5:=ae;clear e5 eS eT hs;obtain⟨⟨i0,i1,i2,i3,i4,i5,-⟩,-⟩:=aa j v2 qE
 go_wp21
 clear i0 i1 i2 i3 i4 i5;have H:=af (aa j v2 qE);refine(cg1 p0 p1 p2 _ c0 _ c1 _ c2 D.n0 D.n1 D.n2 D.l0 D.l1 rfl rfl v2 H.2.1.o0.rd H.2.1.o1.rd ae ae ae H.2.1.o0.cap H.2.1.o1.cap H.2.1.o0.NL H.2.1.o1.NL H.2.1.o0.adr.1 H.2.1.o1.adr.1 y0 y1 H.2.2.1 H.2.2.2.1 dop hd dY ld _ eR).h ?_;rintro r v3⟨⟨ps,cs,pn,cn,rfl,o3⟩,aE⟩;dsimp only at o3⊢;let⟨n,en⟩:=bL (J ss);let⟨m,em⟩:=bL (J ns);rw[aa en,aa em]at o3⊢;obtain⟨W3,kJ,b3,z3,C3,-⟩:=bM v3 #[.U e,.U g,.U x,.I t,.S ps n cs,.S pn m cn] 34;have B3':=af (ah qE aE);have B3:=af (ah qE (ah aE b3));have O3:=af o3;have zG:=af C3;have Ye:O (U (Q w)+1<U (Q v3)):=by have:=aa HZ;have:=qE.size;have:=aE.size;show _<_;omega
 clear o3 aE b3 C3 H qE;obtain rfl|rfl:=aa HC;{
 rw[aJ ai]at ES;by_cases he:4611686018427387904<=e;{
 have hed:dD (4611686018427387904<=e):=by simpa using he
 have HD:O (T=(DK,mO,0,12)):=by show _=_;rw[<-aa ES,aK he]
 have W:=(aa j W3 B3).2.2.2.2.1.gP;have nf:=(aa j W3 B3).2.2.2.2.1.2;have BB:=(aa j W3 B3).2.2.2.2.2;obtain⟨j0,j1,j2,j3,j4,j5,-⟩:=zG.c6;clear z3;subst kJ;go_wp2;refine bO (by simp[results,results6,go_sem,W]) rfl (Od.no HD ?_)
 iterate 13 refine kV ?_ ai _
 exact BB};{
 have hed:dD (4611686018427387904<=e)=dF:=by simpa using he
 rw[aJ he]at ES;have HU:=af (HG.up he);have N:=af (HG.aft he (k:=k) ⟨ae,ae⟩);have hq:=HG.q;have iK:=HU.e;have hug:=HU.g;have hux:=HU.x;dsimp only[Js]at hq iK hug hux HU N ES;obtain⟨f,hf⟩:∃f:Nat,e+1=(f:Int):=⟨jN (e+1),ae⟩;obtain⟨V,rfl⟩:∃n:Nat,g=n:=⟨jN g,ae⟩;obtain⟨X,rfl⟩:∃n:Nat,x=n:=⟨jN x,ae⟩;rw[hf]at HU N ES iK;have hw:jY jU (e+1)=(f:Int):=by rw[uW,hf];omega
 let⟨u,uO⟩:=bL (ss.map (JV k));let⟨y,gM⟩:=bL (ns.map lE);rw[aa uO,aa gM]at N ES;have E3:=af kJ;let⟨j0,j1,j2,j3,j4,j5,jf⟩:=zG.c6;clear z3;subst kJ
 go_wp21
 clear j0 j1 j2 j3 j4 j5 jf hed hw;obtain⟨Z,hZ,bZ,zZ,cZ,-⟩:=bM v3 #[.U f,.U V,.U X,.I t,.S ps n cs,.S pn m cn] 34;rw[<-hZ];have BZ:=af (ah B3' bZ);have OZ:=af (O3.H bZ);clear hZ O3 B3 B3' zG E3;refine(dI7 HU k ⟨ae,ae⟩ ps pn cs n cn m en em Z OZ.D8.1 OZ.D8.2 (aa j Z BZ).2.2.1 u y uO gM).h ?_;rintro r v4⟨p5,c5,q5,d5,rfl,o5,cG⟩;dsimp only at o5⊢;have DW:=af (ah BZ cG);have C4:=af (cZ.H ae cG);let⟨j0,j1,j2,j3,j4,j5,jf⟩:=C4.c6;have O5:=af o5;have z4:=cG.size;clear o5 cG OZ BZ cZ bZ
 go_upto_region 10 with fail
 clear j0 j1 j2 j3 j4 j5 jf;let⟨iY,hY⟩:=aF (fv v4 (U (Q v3)) (.U f) (.U V) (.U X) (.I k) (.S p5 (J u) c5) (.S q5 (J y) d5));have zY:U (Q iY)=U (Q v4):=by rw[hY,Pj]
 have zzz:=aa Ye;have bY:Bw W1 iY:=by rw[hY];exact DW.Z ((sY _ _ _ _ _ _ _).h (aM (aa HZ)))
 have CY:=af (Xf C4 (v0:=.U f) (v1:=.U V) (v2:=.U X) (v3:=.I k) (v4:=.S p5 (J u) c5) (v5:=.S q5 (J y) d5));have OY:=af (O5.W (w':=iY) (λb h1 h2=>by rw[hY];exact Da ae));rw[<-hY]at CY;unfold fv at hY;rw[<-hY];have BY:=af bY;let⟨Bt,eBt⟩:=bL (mP f V X u y);let⟨L,eL⟩:=bL (J Bt);have Zu:=N.bytes;simp only[sC]at Zu;rw[aa eBt]at Zu;have hL:L<=190000:=aa eL▸Zu.1;have HBt:=af Zu.2;have ES2:O ((if(S:Int)<5 then(CH (iM q Bt) D S,mO,0,15)else(CH (iM q Bt) D S,(⟨f,V,X,k,u,y⟩:fu),q,0))=T):=by show _=_;rw[<-aa ES];simp only[snS,sC,aa eBt]
 have lh:O D.ok:=ld;have HM:O (J u<=2^20/\J y<=2^20):=⟨by have:=N.sl;dsimp only at this;omega,by have:=N.nl;dsimp only at this;omega⟩;have HE:=af (cz1 f V X k ae ae ae p5 q5 c5 (J u) d5 (J y) u y rfl rfl iY OY.D8.1 OY.D8.2 HM.1 HM.2 N.gy N.cW N.mU N.tp N.Dz (aa j iY bY).2.2.1 Bt (by show _=_;rw[Ct,aK N.ok];simp only[sC];exact aa eBt) L eL);have il:=af (bN0 f V X k p5 q5 c5 (J u) d5 (J y) u y rfl rfl iY OY.D8.1 OY.D8.2 HM.1 HM.2 N.Bg N.Bg.s3 N.mU N.Bg.n3);obtain⟨i0,i1,i2,i3,i4,i5,-⟩:=(aa j iY bY).1;obtain⟨j0,j1,j2,j3,j4,j5,-⟩:=CY.c6;clear hY bY zzz Zu DW O5 C4 HU N ES
 go_wp21
 clear i0 i1 i2 i3 i4 i5 j0 j1 j2 j3 j4 j5;have H:=af (aa j iY BY).2.1;refine(bO5 p0 p1 p2 c0 c1 c2 D f V X k q p5 q5 (J u) c5 (J y) d5 S Zc iY Bt L eL hL HBt hq.1 hq.2 HE lh H.o0.rd H.o1.rd H.o2.rd).h ?_;rintro z v5⟨P0,C0,P1,C1,P2,C2,rfl,R0,R1,R2,cR⟩;have B5:=af (ah BY cR);have ac4:O (aa5 v5 (bS f V X k (.S p5 (J u) c5) (.S q5 (J y) d5)) f V X k u y):=λv hv=>aa il v (ah cR hv);have z5:O (U (Q v3)<U (Q v5)):=by have:=cR.size;show _<_;omega
 have HR:=dy R0 R1 R2;clear R0 R1 R2 cR il HE CY OY H BY;let⟨E,eE⟩:=bL (CH (iM q Bt) D S);have hE:=(aL4 (b:=iM q Bt) lh (by rw[Ie,aa eL];omega) S).len;rw[aa eE]at HR ES2 hE⊢
 go_wp21
 refine(aK2 P0 P1 P2 C0 C1 C2 E f V X k q p5 q5 (J u) c5 (J y) d5 u y v5 ac4 HR.1 HR.2.1 HR.2.2 hE.1 hE.2.1 hE.2.2).h ?_;rintro z v6⟨p6,c6,p7,c7,p8,c8,p9,c9,pa,ca,rfl,M,hM,O6,aL,SO,gj⟩;obtain⟨W7,EG,b7,z7,C7,-⟩:=bM v6 #[.S p6 (J E.l0) c6,.I E.n0,.S p7 (J E.l1) c7,.I E.n1,.S p8 (J E.l2) c8,.I E.n2,.U f,.U V,.U X,.I k,.S p9 (J u) c9,.S pa (J y) ca,.U q] 36;have H7:=aa j W7 (ah B5 (ah gj b7));have W:=H7.2.2.2.2.1.gP;have nf:=H7.2.2.2.2.1.2;have BB:=af H7.2.2.2.2.2;have EX:=af (λ(x0 x1 x2 x3 x4 x5 x6 x7 x8 x9 xd xe xf:dV)=>((((((((((((((show lX (U (Q w)+1) v6 W7 from⟨b7.size,λk hk _=>b7.block k hk⟩).set 0 x0).set 1 x1).set 2 x2).set 3 x3).set 4 x4).set 5 x5).set 6 x6).set 7 x7).set 8 x8).set 9 x9).set 10 xd).set 11 xe).set 12 xf));have zv:O (U (Q w)+1<U (Q v5)):=by have:=aa Ye;have:=aa z5;show _<_;omega
 obtain⟨A1,A2,Kw⟩:=SO;let⟨A3,A4,hzv⟩:=nG.zero M v6;have HX:=br (show vm (U (Q v5)) M v6 A1 A2 p6 c6 p7 c7 p8 c8 p9 c9 pa ca E ⟨f,V,X,k,u,y⟩from⟨O6,aL,hM,Kw⟩) (show vm (U (Q v5)) M v6 A3 A4 p6 c6 p7 c7 p8 c8 dN 0 dN 0 E mO from⟨O6,aL,hM,hzv⟩);clear H7 hM O6 aL Kw hzv gj b7 C7 z7;by_cases h5:(S:Int)<5;{
 have HT:=aa ES2;rw[aK h5]at HT;subst EG;go_wp2;refine bO (v:=dT #[D5 p6 c6 p7 c7 p8 c8 dN 0 dN 0 E mO 0,.I 15]) (by simp[mO,results,results6,go_sem,W]) rfl ?_;rw[<-HT];refine⟨p6,c6,p7,c7,p8,c8,dN,0,dN,0,rfl,⟨M,A3,A4,(HX.2.W (λb h1 h2=>(aa EX _ _ _ _ _ _ _ _ _ _ _ _ _).2 b h2 (aM (aa zv)))).h (aM (aa zv))⟩,?_⟩
 iterate 13 refine kV ?_ ai _
 exact BB};{
 have HT:=aa ES2;rw[aJ h5]at HT;subst EG;go_wp2;refine bO (v:=dT #[D5 p6 c6 p7 c7 p8 c8 p9 c9 pa ca E ⟨f,V,X,k,u,y⟩ q,.I 0]) (by simp[results,results6,go_sem,W]) rfl ?_;rw[<-HT];refine⟨p6,c6,p7,c7,p8,c8,p9,c9,pa,ca,rfl,⟨M,A1,A2,(HX.1.W (λb h1 h2=>(aa EX _ _ _ _ _ _ _ _ _ _ _ _ _).2 b h2 (aM (aa zv)))).h (aM (aa zv))⟩,?_⟩
 iterate 13 refine kV ?_ ai _
 exact BB}}};{
 have HD:O (T=(DK,mO,0,13)):=by show _=_;rw[<-aa ES,aK aX]
 have W:=(aa j W3 B3).2.2.2.2.1.gP;have nf:=(aa j W3 B3).2.2.2.2.1.2;have BB:=(aa j W3 B3).2.2.2.2.2;clear z3;subst kJ;go_wp2;refine bO (by simp[results,results6,go_sem,W]) rfl (Od.no HD ?_)
 iterate 13 refine kV ?_ ai _
 exact BB}};{
 have e5:dD (0<=s/\s<=5)=dF:=by simp only[Iw];exact hs
 rw[e5];have HD:O (T=(DK,mO,0,1)):=by show _=_;rw[<-aa eT,Pd,aJ ae]
 have W:=(aa j v2 qE).2.2.2.2.1.gP;have nf:=(aa j v2 qE).2.2.2.2.1.2;have BB:=(aa j v2 qE).2.2.2.2.2;clear e5 hs;go_wp2;refine bO (by simp[results,results6,go_sem,W]) rfl (Od.no HD ?_)
 iterate 13 refine kV ?_ ai _
 exact BB}};{
 have HD:O (T=(DK,mO,0,1)):=by show _=_;rw[<-aa eT,Pd,aJ λh=>hc ⟨h.1,h.2.1,h.2.2.1⟩]
 have W:=(aa j v BV).2.2.2.2.1.gP;have nf:=(aa j v BV).2.2.2.2.1.2;have BB:=(aa j v BV).2.2.2.2.2;obtain rfl|⟨rfl,k0⟩|⟨rfl,k0,k1⟩:=(by cases ok<;>simp at hc⊢<;>omega:ok=dF\/(ok/\k<0)\/(ok/\¬k<0/\1000000<k))
 all_goals(
  clear hc;go_wp2;refine bO (by simp[results,results6,go_sem,W]) rfl (Od.no HD ?_)
  iterate 13 refine kV ?_ ai _
  exact BB)}
def fu.d(S:fu):SD:=⟨S.e,S.g,S.x,S.t,S.E,S.N⟩
def SD.s(D:SD):fu:=⟨D.e,D.g,D.x,D.t,D.E,D.N⟩
abbrev Dk.m(D:Dk):Dm:=⟨D.n0,D.l1,D.n1,D.l2,D.n2⟩
abbrev Dm.k(M:Dm)(l:LI):Dk:=⟨l,M.n0,M.l1,M.n1,M.l2,M.n2⟩
theorem SG.vd(iG:SG S)(h:S.ok):VD S.d:=VD.of h (iG.Bg h) iG.g.1 iG.x.1 (λs j e he=>((iG.bs s j).2 e he).1) iG.bv iG.e.1 λi m=>(iG.ep i m).1.1
theorem SD.sg{D:SD}(h:VD D):SG D.s/\D.s.ok:=⟨VD.sg (S:=D.s) h,h.ok⟩
abbrev Of:=Dk×fu×Int×RP
def JW(D:Dk)(S:fu)(q:Int)(iO:sU):Of:=(D.m.k (mh (D.l0,S.d,q) iO).2.1,(mh (D.l0,S.d,q) iO).2.2.1.s,(mh (D.l0,S.d,q) iO).2.2.2,(mh (D.l0,S.d,q) iO).1)
theorem Bz.dmg(hd:∀l,sV l (dop l))(h:Bz dop D S q)(iG:SG S)(o:aA D.l0)(j:aA D.l1)(hl:J D.l1<=2^20):DmG D.m (D.l0,S.d,q):=by
 have hq:=(XW hd o j hl dY).q;rw[h.2.2.2.2.2.1]at hq;have i:=Dk.ok.len h.1;exact⟨h.1,i.2.1,i.2.2,iG.vd h.2.1,hq.1,h.2.2.1.1⟩
theorem di1(h:DmG M X)(o:aA iO.P)(m:aA iO.V)(j:JK iO.K):VD (mh X iO).2.2.1/\(mh X iO).2.1.length<=4000:=by
 have i:VD (pK X.2.1 iO).1:=h.v.apply o m j;unfold mh;split;{split;{exact⟨h.v,h.n⟩};{split;{exact⟨h.v,h.n⟩};{exact⟨i,by show J (X.1++_)<=_;rw[eG];omega⟩}}};{exact⟨i,h.n⟩}
def eG0(w:G)(T:Of)(z:Ending)(w':G):Prop:=∃q x o u m s p c r d a j i,z=dR (dT #[D5 q x o u m s p c r d T.1 T.2.1 T.2.2.1,Ai a T.2.2.2])/\(U (Q w)<=j/\U (Q w)<=U (Q i)/\U (Q i)<=U (Q w'))/\uP j i (Ai a T.2.2.2) T.2.2.2/\(∀b,j<=b->b<U (Q i)->w'.heap[b]?=i.heap[b]?)/\(∃M B y,vm (U (Q i)) M w' B y q x o u m s p c r d T.1 T.2.1)/\Bw w w'
theorem cf9(p0 p1 p2 p r:OA)(c0 c1 c2 c d:Nat)(D:Dk)(S:fu)(q:Int)(a:Pq)(iO:sU)(w:G)(h:Hi B w p0 c0 p1 c1 p2 c2 p c r d D S)(hO:Fg w a iO)(hl:J D.l0+J D.l1+J D.l2<=2^20)(hG:O (SG S))(g:O (OG a iO))(y0:O (aA D.l0))(y1:O (aA D.l1))(hM:ML w)(hT:qP w)(hE:Wo w)(dop:LI->Option Rq)(hd:O (∀l,sV l (dop l)))(T:Of)(eT:O (T=JW D S q iO))(hP:O (Bz dop D S q))(hJ:O (JK iO.K)):dQ dG 8 #[D5 p0 c0 p1 c1 p2 c2 p c r d D S q,J1 a iO] w (eG0 w T):=by
 obtain⟨W0,bG,q0,z0,C0,-⟩:=bM w #[.S p0 (J D.l0) c0,.I D.n0,.S p1 (J D.l1) c1,.I D.n1,.S p2 (J D.l2) c2,.I D.n2,.U S.e,.U S.g,.U S.x,.I S.t,.S p (J S.E) c,.S r (J S.N) d,.U q] 36;obtain⟨W1,fo,q1,z1,C1,-⟩:=bM W0 (Im a iO).toArray 26;obtain⟨W2,fM,q2,z2,C2,-⟩:=bM W1 zS.toArray 36;obtain⟨W3,kJ,q3,z3,C3,-⟩:=bM W2 zR.toArray 43;rw[z0]at C1 z1;rw[z1]at C2 z2;rw[z2]at C3 z3;have bW:=ah q0 (ah q1 (ah q2 q3));have HA:=af (λ(v:G)(N:Bw W3 v)=>aD ((((C0.H ae q1).H ae q2).H ae q3).H ae N).gP (aD (h.H (ah bW N)) (aD (hM.H (ah bW N)) (aD (show qP v fromλk i1 i2=>(hT k i1 i2).H (ah bW N)) (aD (show Wo v from aj hE (ah bW N)) (aD ((C2.H ae q3).H ae N) (aD (C3.H ae N) (aD (ah bW N) (aD (hO.H (ah bW N)) (((C1.H ae q2).H ae q3).H ae N))))))))));have HZ:=af z3;clear q0 q1 q2 q3 C0 C1 C2 C3 bW h hO hM hT hE z0 z1 z2 z3;go_in
 go_wp21
 rw[<-bG,<-fo,<-fM,<-kJ];clear bG fo fM kJ;have H:=af (aa HA W3 aH);refine(bL8 H.2.1 hl hG y0 y1 H.2.2.1 H.2.2.2.1 dop hd).h ?_;rintro z v2⟨ok,ld,rfl,ao⟩;have BV:=af ao;clear ao H;cases ok with
 |true=>
  have SG2:=af (hP.dmg hd hG y0 y1 ae);let⟨R,eR⟩:=bL (mh (D.l0,S.d,q) iO);have ET:O (T=(D.m.k R.2.1,R.2.2.1.s,R.2.2.2,R.1)):=by show _=_;rw[aa eT,JW,aa eR]
  have HR:=af (di1 SG2 g.bp g.bv hJ);rw[aa eR]at HR;have H:=af (aa HA v2 BV);let⟨i0,i1,i2,i3,i4,i5,i6,i7,i8,i9,ia,ib,ic⟩:=H.1;have Z:=H.2.2.2.2.2.2.2.2.2;have j0:=aD (Z.1 0 _ rfl) (aD (Z.1 1 _ rfl) (aD (Z.1 2 _ rfl) (aD (Z.1 3 _ rfl) (aD (Z.1 4 _ rfl) (aD (Z.1 5 _ rfl) (Z.1 6 _ rfl))))));clear ld eT Z
  go_wp21
  clear i0 i1 i2 i3 i4 i5 i6 i7 i8 i9 ia ib ic j0;have iI:=H.2.1;refine(da8 (A:=⟨p0,c0,p1,c1,p2,c2,p,c,r,d⟩) (M:=D.m) (X:=(D.l0,S.d,q)) SG2 g hJ ⟨iI.1.1.rd,iI.1.2.1.rd,iI.1.2.2,iI.2.1,iI.2.2⟩ H.2.2.2.2.2.2.2.2.1 H.2.2.1 H.2.2.2.1 H.2.2.2.2.1).h ?_;clear iI;rw[aa eR];rintro z V⟨A,a9,rfl,RI,RL,aE⟩;obtain⟨W6,hW6,b6,z6,C6,-⟩:=bM V (CG A D.m R.2).toArray 36;obtain⟨W7,EG,b7,z7,C7,-⟩:=bM W6 (CL a9 R.1).toArray 43;rw[z6]at C7;have B7:=af (ah BV (ah aE (ah b6 b7)));have W:=af (λ(v:G)(N:Bw W7 v)=>aD ((C6.H ae b7).H ae N) (C7.H ae N));have R7:=af (RI.H (ah b6 b7));have RL7:=br RL (ah b6 b7);have z3:=aE.size;let⟨i0,i1,i2,i3,i4,i5,i6,i7,i8,i9,ia,ib,ic⟩:=(aa W W7 aH).1.gP;let⟨j0,j1,j2,j3,j4,j5,j6,j7⟩:=(aa W W7 aH).2.r8;rw[EG,hW6]at i0 i1 i2 i3 i4 i5 i6 i7 i8 i9 ia ib ic j0 j1 j2 j3 j4 j5 j6 j7;have gJ:=aa HZ;have IJ:=BV.size;have hz7:U (Q W7)=U (Q V)+1+1:=ae;have HZ7:=af hz7;clear C6 C7 b6 b7 z6 z7 aE RI RL H hz7
  go_wp21
  rw[<-hW6,<-EG];clear hW6 EG i0 i1 i2 i3 i4 i5 i6 i7 i8 i9 ia ib ic j0 j1 j2 j3 j4 j5 j6 j7;refine fK (λv=>SvE v (U (Q V)) A D.m R.2/\RpE v (U (Q V)+1) a9 R.1) (by exact⟨(aa W _ aH.drew).1.gP,(aa W _ aH.drew).2.r8⟩) λhS=>?_;let⟨v,fU⟩:=aF W7.drew;have Bv:O (Bw W7 v):=fU▸aH.drew;rw[<-fU]at hS⊢;clear fU;refine gh 0 2 hS ?_;refine ft 1 (λKK hK=>?_);have RV:=af (R7.H Bv);have iG:=SD.sg HR.1;have il:=af (SG.bN1 (S:=R.2.2.1.s) iG.1 iG.2 RV.2.2.2.1 RV.2.2.2.2);have hm:=aa SG2;refine js (aK2 A.p0 A.p1 A.p2 A.c0 A.c1 A.c2 (D.m.k R.2.1) R.2.2.1.e R.2.2.1.g R.2.2.1.x R.2.2.1.t R.2.2.2 A.p A.r _ A.c _ A.d R.2.2.1.E R.2.2.1.N v il RV.1 RV.2.1 RV.2.2.1 (by have:=HR.2;show J R.2.1<=_;omega) hm.m1 hm.m2) ?_;clear iG il hm;rintro z v6⟨p6,c6,p7,c7,p8,c8,p9,c9,pa,ca,rfl,Mx,hMx,O6,aL,SO,gj⟩;refine⟨_,rfl,?_⟩;obtain⟨A1,A2,Kw⟩:=SO;have HX:=af (show vm (U (Q v)) Mx v6 A1 A2 p6 c6 p7 c7 p8 c8 p9 c9 pa ca (D.m.k R.2.1) R.2.2.1.s from⟨O6,aL,hMx,Kw⟩);have B6:=af (ah Bv gj);have zz:=B7.size;have zv:=Bv.size;have z66:=gj.size;refine bQ hK (by exact⟨(aa W v6 B6).1.gP,(aa W v6 B6).2.r8⟩) λhS=>?_;clear hK KK O6 aL hMx Kw gj;have H:=af (aa HA v6 (ah B7 B6));refine Xc 3 4 (vs:=[.S p6 (J R.2.1) c6,.I D.n0,.S p7 (J D.l1) c7,.I D.n1,.S p8 (J D.l2) c8,.I D.n2,.U R.2.2.1.e,.U R.2.2.1.g,.U R.2.2.1.x,.I R.2.2.1.t,.S p9 (J R.2.2.1.E) c9,.S pa (J R.2.2.1.N) ca,.U R.2.2.2]) (vs':=CL a9 R.1) H.2.2.2.2.2.1 H.2.2.2.2.2.2.1 ae ⟨rfl,rfl,by simp[Value.oneCell'],by simp[Value.oneCell']⟩ (λu _ _ hu=>⟨((aa W v6 B6).1.eh (hu _ ae ae)).gP,((aa W v6 B6).2.eh (hu _ ae ae)).r8⟩) ?_;intro w' k1 k2 hk bl;refine Hf ?_;have zw:=(bl 0 (cT _) (cT _)).size;have HF:O (vm (U (Q v)) Mx w' A1 A2 p6 c6 p7 c7 p8 c8 p9 c9 pa ca (D.m.k R.2.1) R.2.2.1.s/\Bw w w'/\(∀b,U (Q v2)<=b->b<U (Q V)->w'.heap[b]?=V.heap[b]?)):=⟨HX.W λb h1 h2=>hk b ae ae,H.2.2.2.2.2.2.2.1.Z (bl _ ae ae),λb h1 h2=>(hk b ae ae).Z ((B6.block b (aM (aa HZ7))).Z (RL7.2.block b h2))⟩;have HZF:=af (show U (Q V)<=U (Q v)/\U (Q v)<=U (Q w')/\U (Q w)<=U (Q v2)/\U (Q v2)<=U V.heap by have:=aa HZ7;omega);let⟨i0,i1,i2,i3,i4,i5,i6,i7,i8,i9,ia,ib,ic⟩:=k1.gP;let⟨j0,j1,j2,j3,j4,j5,j6,j7⟩:=k2.r8;clear k1 k2 hk bl hS H HX;go_wp2;refine bO (v:=dT #[D5 p6 c6 p7 c7 p8 c8 p9 c9 pa ca (D.m.k R.2.1) R.2.2.1.s R.2.2.2,Ai a9 R.1]) (by simp[SD.s,results,results8,go_sem,i0,i1,i2,i3,i4,i5,i6,i7,i8,i9,ia,ib,ic,j0,j1,j2,j3,j4,j5,j6,j7]) rfl ?_;rw[aa ET];have zf:=aa HZF;exact⟨p6,c6,p7,c7,p8,c8,p9,c9,pa,ca,a9,U (Q v2),V,rfl,⟨ae,ae,ae⟩,RL7.1,HF.2.2,⟨Mx,A1,A2,HF.1.h ae⟩,HF.2.1⟩
 |false=>
  exact absurd (ld.2 hP) ai
def fQ(V:LI):Nat->sU
 |0=>⟨1,0,0,0,0,[],[]⟩
 |1=>⟨4,1,0,0,0,[47,97],[]⟩
 |_=>⟨7,1,0,0,0,[47,97],V⟩
def fS(V:LI):Nat->SD
 |0=>⟨1,0,0,0,[],[]⟩
 |n+1=>(pK (fS V n) (fQ V n)).1
theorem fS1(V:LI):pK (fS V 0) (fQ V 0)=(⟨1,0,1,0,[(1,10,[])],[]⟩,{ka with i:=1,n:=10}):=by
 rfl
theorem fSs(V:LI)(n:Nat):fS V (n+1)=(pK (fS V n) (fQ V n)).1:=rfl
theorem cx0(V:LI):fS V 1=⟨1,0,1,0,[(1,10,[])],[]⟩:=by rw[fSs,fS1]
theorem fS2(V:LI):pK (fS V 1) (fQ V 1)=(⟨1,0,1,0,[(1,10,[])],[⟨[47,97],[],0,0,[],0,0,[]⟩]⟩,ka):=by
 rw[cx0];rfl
theorem bo2(V:LI):fS V 2=⟨1,0,1,0,[(1,10,[])],[⟨[47,97],[],0,0,[],0,0,[]⟩]⟩:=by rw[fSs,fS2]
theorem ax7{iU V:LI}(i:J V<=40):pK ⟨1,0,1,0,[(1,10,[])],[⟨[47,97],iU,0,0,[],0,0,[]⟩]⟩ ⟨7,1,0,0,0,[47,97],V⟩=(⟨1,0,1,0,[(1,10,[])],[⟨[47,97],V,0,0,[],0,0,[]⟩]⟩,ka):=by
 have hf:Cq 7 1 0 2 (J V) 0 0:=by unfold Cq;rw[aK aX];simp[oF,rowOf,Bf];omega
 unfold pK lM;simp only[ni,xk,hf];rfl
theorem fSn(V:LI)(i:J V<=40):∀n,fS V (n+3)=⟨1,0,1,0,[(1,10,[])],[⟨[47,97],V,0,0,[],0,0,[]⟩]⟩
 |0=>by rw[fSs,bo2];show(pK _ ⟨7,1,0,0,0,[47,97],V⟩).1=_;rw[ax7 i]
 |n+1=>by rw[fSs,fSn V i n];show(pK _ ⟨7,1,0,0,0,[47,97],V⟩).1=_;rw[ax7 i]
theorem ZD(V:LI)(j:J V<=40):∀n,(pK (fS V n) (fQ V n)).2.k=0
 |0=>by rw[fS1];rfl
 |1=>by rw[fS2];rfl
 |2=>by rw[bo2];show(pK _ ⟨7,1,0,0,0,[47,97],V⟩).2.k=_;rw[ax7 j];rfl
 |n+3=>by rw[fSn V j n];show(pK _ ⟨7,1,0,0,0,[47,97],V⟩).2.k=_;rw[ax7 j];rfl
variable {P:LI}
theorem bK0{r r':LI}(j:J P<2^64)(o:J P'<2^64)(e:tx P++r=tx P'++r'):P=P'/\r=r':=by
 unfold tx at e;rw[pO,pO]at e;have i:=Mh (P++r) j;rw[e,Mh (P'++r') o]at i;simp only[nJ,jk]at i;obtain⟨q,m⟩:=i;exact List.append_inj m.C ae
theorem du9{k s f m s' q:Nat}{j:LI}(B:s<2^64)(x:s'<2^64)(D:J P<2^64)(W:J P'<2^64)(y:J V<2^64)(u:J j<2^64)(e:jr k s P f V=jr m s' P' q j):k=m/\s=s'/\P=P'/\f=q/\V=j:=by
 unfold jr at e;simp only[List.singleton_append,am4]at e;obtain⟨e1,S⟩:=e;have i:=Mh (tx P++(f:Int)::tx V) B;rw[S,Mh (_) x]at i;simp only[nJ,jk]at i;obtain⟨Z,R⟩:=i;let⟨N,o⟩:=bK0 W D R;simp only[am4]at o;obtain⟨X,M⟩:=o;have E:=bK0 (r:=[]) (r':=[]) u y (by rw[M]);exact⟨ae,ae,N.C,ae,E.1.C⟩
theorem er4(hd:∀l,sV l (dop l)){k s f:Nat}(h:oQ (jr k s P f V) k s P f V)(hl:J (jr k s P f V)<2^64):dop (jr k s P f V)=Y (k,s,f,P,V):=by
 have i:=hd (jr k s P f V);cases e:dop (jr k s P f V)with
 |none=>rw[e]at i;exact absurd h (i _ _ _ _ _)
 |some o=>
  rw[e]at i;have a:=oQ.parts h;have b:=oQ.parts (l:=jr k s P f V) i;have K:=o;let⟨u,r,q,m,j⟩:=du9 h.2.2.1 i.2.2.1 ae (aR6 b.1 hl) ae (aR6 b.2 hl) i.2.2.2.2.2.2
  try dsimp only at u r q m j
  rw[u,r,q,m,j]
def fT(V:LI)(j:Nat):Nat->List R1
 |0=>[]
 |m+1=>((j:Int)+1,Eb (fQ V j))::fT V (j+1) m
theorem bo0(V:LI):∀(m j:Nat),fT V j (m+1)=fT V j m++[(((j+m:Nat):Int)+1,Eb (fQ V (j+m)))]
 |0,j=>rfl
 |m+1,j=>by rw[fT,bo0 V m (j+1),fT,Al,show j+1+m=j+(m+1) by omega]
def fL(V:LI)(n:Nat):LI:=enc (fT V 0 n)
theorem ay0(V:LI)(n:Nat):fL V (n+1)=fL V n++sw n (fQ V n):=by
 rw[fL,bo0,ej1,l9];simp only[enc,De];rfl
theorem ax9(i:J V<=40):∀n,J (Eb (fQ V n))=if n=0 then 5 else if n=1 then 7 else 7+J V
 |0=>rfl
 |1=>rfl
 |n+2=>by show J (jr 7 1 [47,97] 0 V)=_;unfold jr tx vi;rw[JT (n:=J V) ae];simp[JT (f:=9) (n:=1) ae,JT (f:=9) (n:=2) ae];omega
theorem cx5(i:J V<=40):∀n,J (fL V (n+2))=40+n*(21+J V)
 |0=>by rw[Nat.zero_mul];rfl
 |n+1=>by rw[ay0,eG,cx5 i n,D7,ax9 i,aJ ae,aJ ae,Ip];omega
theorem cw7(i:J V<=40):∀(m j:Nat),FlR (j:Int) (fT V j m)
 |0,j=>trivial
 |m+1,j=>by
  refine⟨rfl,?_,?_⟩;{show J (Eb (fQ V j))<=1000;rw[ax9 i];split;{omega};{split<;>omega}}
  {have:=cw7 i m (j+1);rwa [show((j+1:Nat):Int)=(j:Int)+1 by omega]at this}
theorem cw6(V:LI):∀(m j:Nat),J (fT V j m)=m
 |0,j=>rfl
 |m+1,j=>by rw[fT,ni,cw6 V m]
theorem bo5(i:J V<=40)(j:n<=1000):rl (fL V n)=fT V 0 n:=dm2 (cw7 i n 0) (by rw[cw6];omega)
theorem es8:oQ (jr 1 0 [] 0 []) 1 0 [] 0 []:=⟨by decide,by decide,by decide,by decide,by decide,by decide,rfl⟩
theorem es7:oQ (jr 4 1 [47,97] 0 []) 4 1 [47,97] 0 []:=⟨by decide,by decide,by decide,by decide,by decide,by decide,rfl⟩
theorem bo4(i:J V<=40):∀n,oQ (Eb (fQ V n)) (fQ V n).K.toNat (fQ V n).S.toNat (fQ V n).P (fQ V n).F.toNat (fQ V n).V
 |0=>es8
 |1=>es7
 |n+2=>⟨by show 1<=7;decide,by show 7<=13;decide,by show 1<_;decide,by show 0<=_;decide,by show oF 7 1 0 2 (J V) 0 0=dY;simp[oF,rowOf,Bf];omega,by show vL 7=dY;decide,rfl⟩
theorem eg6(hd:∀l,sV l (dop l))(i:J V<=40)(n:Nat):dop (Eb (fQ V n))=Y ((fQ V n).K.toNat,(fQ V n).S.toNat,(fQ V n).F.toNat,(fQ V n).P,(fQ V n).V):=
 er4 (dop:=dop) (hd:=hd) (h:=bo4 i n) (hl:=by rw[ax9 i];split<;>(try split)<;>omega)
theorem eg9(V:LI)(D:SD):∀n,Sg D ((fQ V n).K.toNat,(fQ V n).S.toNat,(fQ V n).F.toNat,(fQ V n).P,(fQ V n).V)=pK D (fQ V n)
 |0=>rfl
 |1=>rfl
 |n+2=>rfl
theorem cx2(hd:∀l,sV l (dop l))(i:J V<=40):∀(m j:Nat),j+m<=1000->rC dop (fS V j) j (fT V j m)=(fS V (j+m),((j+m:Nat):Int))
 |0,j,_=>rfl
 |m+1,j,h=>by
  have e:yx dop (fS V j) j ((j:Int)+1,Eb (fQ V j))=Y (fS V (j+1),(j:Int)+1):=by unfold yx;simp only;rw[aJ ae,aJ ae,eg6 hd i];simp only;rw[eg9,aK (ZD V i j)];rfl
  rw[fT,rC,e];simp only;have:=cx2 hd i m (j+1) ae;rw[show((j+1:Nat):Int)=(j:Int)+1 by omega]at this;rw[this,show j+1+m=j+(m+1) by omega]
theorem bO6(s:Int)(l:LI):iM s l=Aq++(le s 8++(le (J l) 4++(l++le (ck (BK s l)) 4))):=by
 rw[iM,sm];generalize le (ck (BK s l)) 4=z;simp only[BK,pO]
theorem VD.Ry{D:SD}(h:VD D):VD ⟨D.e,D.g,D.x,0,D.E.map lZ,D.N.map lE⟩:=h.re (tQ _) h.e.2 ⟨tQ 0,by decide⟩ ⟨tQ 0,by decide⟩
theorem bO7{D:SD}(h:VD D)(o:0<=q)(R:q<=2^62):mQ (iM q (mP (jN D.e) (jN D.g) (jN D.x) D.E D.N))=Y (⟨D.e,D.g,D.x,0,D.E.map lZ,D.N.map lE⟩,q):=by
 have he:=h.e;have N:=h.g;have M:=h.x;have u:=h.Ry;have B:=Pc (jN D.e) (jN D.g) (jN D.x) D.E D.N;have i:=bN8 (e:=jN D.e) (g:=jN D.g) (x:=jN D.x) ae ae ae (VD.TF u) (λs i=>by obtain⟨y,-,rfl⟩:=fg.1 i;rfl) (λs i=>by obtain⟨y,-,rfl⟩:=fg.1 i;rfl);have r:=u.ok;simp only at i r;rw[B]at i;generalize hb:mP (jN D.e) (jN D.g) (jN D.x) D.E D.N=b at*;have m:sub (iM q b) 4 12=le q 8:=by rw[bO6];exact Tx Aq (le q 8) _ rfl (by rw[qW];rfl)
 have E:sub (iM q b) 16 (J (iM q b)-4)=b:=by rw[Ie,bO6,<-pO,<-pO];exact Tx _ b _ (by simp[qW,Qa]) (by simp[qW,Qa];omega)
 have j:num (le q 8)=q:=by rw[aQ4 _ _ o];exact aR9 o (by have:(256:Int) ^ 8=2^64:=rfl;omega)
 rw[aL6 (by rw[Ie];omega) (by rw[m,E,j]) (by rw[m,j];omega),m,E,j,kI,i];simp only[Am,Ga he.1,Ga N.1,Ga M.1,sC];rw[aK ⟨ai,r,B⟩];rfl
def fB:LI:=iM 0 (mP 1 0 0 [] [])
theorem ay1:J fB=25:=by rw[fB,Ie];rfl
def fD(V:LI)(n:Nat):Dk:=⟨fL V n,0,fB,25,[],0⟩
theorem Vo(V:LI):∀n,JK (fQ V n).K
 |0=>.L rfl
 |1=>.R (.R (.L rfl))
 |n+2=>.R (.R (.R (.R (.L rfl))))
theorem vd0:VD ⟨1,0,0,0,[],[]⟩:=⟨by decide,by decide,by decide,by decide,by decide,by decide,List.Pairwise.nil,(λs h=>by cases h),List.Pairwise.nil,(λs h=>by cases h)⟩
theorem eA8:aA (jr 1 0 [] 0 []):=by unfold aA;decide
theorem eA7:aA (jr 4 1 [47,97] 0 []):=by unfold aA;decide
theorem Bh(j:aA V):∀n,VD (fS V n)
 |0=>vd0
 |1=>(Bh j 0).apply (λz i=>by cases i) (λz i=>by cases i) (Vo V 0)
 |2=>(Bh j 1).apply (λz i=>by simp[fQ]at i;omega) (λz i=>by cases i) (Vo V 1)
 |n+3=>(Bh j (n+2)).apply (λz i=>by simp[fQ]at i;omega) j (Vo V (n+2))
theorem eg7(V:LI):mQ fB=Y (fS V 0,0):=by
 have h:=bO7 (D:=fS [] 0) (Bh (V:=[]) (λz i=>by cases i) 0) (q:=0) (tQ 0) (by decide)
 exact h
theorem cx6(j:aA V)(m:J V<=40):∀n,aA (fL V n)
 |0=>λz i=>by cases i
 | n+1=>by
  rw[ay0];refine(cx6 j m n).append (aO0 ?_)
  match n with
  |0=>exact eA8
  |1=>exact eA7
  |n+2=>
   show aA (jr 7 1 [47,97] 0 V);unfold jr tx vi;rw[JT (n:=J V) ae];simp only[JT (f:=9) (n:=1) ae,ni,xk,JT (f:=9) (n:=0+1+1) ae];intro z i;simp only[Al,Ef,gv]at i;obtain rfl|rfl|rfl|rfl|rfl|rfl|rfl|i:=i;{decide}
   {decide}
   {decide}
   {decide}
   {decide}
   {decide}
   {omega};{exact j z i}
theorem cF9:aA (mP 1 0 0 [] []):=by unfold aA;decide
theorem bo6:aA fB:=ai0 cF9
theorem ef5(hd:∀l,sV l (dop l))(o:aA V)(i:J V<=40)(j:n<=1000)(hl:J (fL V n)<=4000):Bz dop (fD V n) (fS V n).s n:=by
 have m:=Qb (dop:=dop) (l0:=fL V n) (l1:=fB) (eg7 V) (X:=(fS V n,(n:Int))) (by rw[bo5 i j];have:=cx2 hd i n 0 ae;rwa [l9]at this)
 unfold Bz Dk.ok fD;dsimp only;rw[m,ay1];refine⟨NF (Rk ae (tQ 0) (Kh _)) rfl rfl,(SD.sg (Bh o n)).2,⟨hl,?_,?_⟩,rfl,rfl,rfl,Pc _ _ _ _ _⟩;{rw[bo5 i j,fL,ei8]};{
 rw[bo5 i j]
 match n with
 |0=>exact .L rfl
 |n+1=>rw[bo0,aX2];exact .R (by rw[l9];rfl)}
def fZ(V:LI)(n:Nat):LI:=iM n (fS V n).s.B
theorem ef4(hd:∀l,sV l (dop l))(i:aA V)(o:n<=1000):Bz dop ⟨[],0,fZ V n,J (fZ V n),[],0⟩ (fS V n).s n:=by
 have j:mQ (fZ V n)=_:=bO7 (Bh i n) (Kh _) ae;have m:=Qb (dop:=dop) (l0:=[]) (l1:=fZ V n) j rfl;have r:=((SD.sg (Bh i n)).1.bytes (SD.sg (Bh i n)).2).1;have q:J (fZ V n)<=190020:=by rw[fZ,Ie];omega
 unfold Bz Dk.ok;dsimp only;rw[m];exact⟨NF rfl (Rk ae (Kh _) (tQ _)) rfl,(SD.sg (Bh i n)).2,⟨aX,rfl,.L rfl⟩,rfl,rfl,rfl,(Pc _ _ _ _ _).Z (Pc _ _ _ _ _)⟩
theorem cw8(i:J V<=40)(m:n<=1000)(h:J l+J (sw n (fQ V n))<=4000):mh (l,fS V n,(n:Int)) (fQ V n)=((pK (fS V n) (fQ V n)).2,l++sw n (fQ V n),fS V (n+1),((n+1:Nat):Int)):=by
 unfold mh;have j:vL (fQ V n).K.toNat:=(bo4 i n).2.2.2.2.2.1;rw[aK ⟨ZD V i n,j⟩,aJ (show¬4611686018427387904<=(n:Int) by omega),aJ (show¬4000<J l+J (sw n (fQ V n)) by omega)];rfl
theorem eg4(i:J V<=40)(m:n<=1000)(h:4000<J l+J (sw n (fQ V n))):mh (l,fS V n,(n:Int)) (fQ V n)=(kP 11,l,fS V n,(n:Int)):=by
 unfold mh;have j:vL (fQ V n).K.toNat:=(bo4 i n).2.2.2.2.2.1;rw[aK ⟨ZD V i n,j⟩,aJ (show¬4611686018427387904<=(n:Int) by omega),aK h]
theorem eg0(i:J V<=40)(n:Nat):J (sw n (fQ V n))=if n=0 then 19 else if n=1 then 21 else 21+J V:=by
 rw[D7,ax9 i];split;{rfl};{split<;>omega}
theorem eg5(j:20<=J V)(i:J V<=40)(h:J (fL V n)<=4000):n<=98:=by
 match n with
 |0=>omega
 |1=>omega
 |n+2=>
  rw[cx5 i]at h;have:=Nat.mul_le_mul_left n (show 41<=21+J V by omega);omega
def FbR(v:G)(p:OA)(c:Nat):Prop:=Rd v (.S p 25 c) fB/\zJ p 25 c
theorem dD4(p r:OA)(c d:Nat)(w:G)(h:mX w (.S p 0 c) [])(hN:iy w (.S r 0 d) []):dQ dG 15 #[mu aq 0 aq 0 aq 0,bS 1 0 0 0 (.S p 0 c) (.S r 0 d),.U 0,.I 5] w λz w'=>∃p1 c1,z=dR (mu aq 0 (.S p1 25 c1) 25 aq 0)/\FbR w' p1 c1/\Bw w w':=by
 obtain⟨W0,bG,b0,z0,C0,-⟩:=bM w #[aq,.I 0,aq,.I 0,aq,.I 0] 30;obtain⟨W1,fo,b1,z1,C1,-⟩:=bM W0 #[.U 1,.U 0,.U 0,.I 0,.S p 0 c,.S r 0 d] 34;let⟨W2,fM,b2,z2,C2,T2⟩:=bM W1 #[aq,.I 0,aq,.I 0,aq,.I 0] 30;rw[z0]at C1 z1;rw[z1]at C2 T2 z2;have bW:=ah b0 (ah b1 b2);have HA:=af (λ(v:G)(j:Bw W2 v)=>aD ((C1.H ae b2).H ae j).c6 (aD ((j.block _ ae).Z T2) (aD (h.H (ah bW j)) (aD (hN.H (ah bW j)) (ah bW j)))));have HZ:=af z2;clear b0 b1 b2 C0 C1 C2 T2 bW z0 z1 z2 h hN;go_in
 go_wp21
 rw[<-bG,<-fo,<-fM];clear bG fo fM;have rN:=Own.rd (Own.nil 0 W2);refine(ce1 dN dN dN 0 0 0 0 0 0 [] [] [] W2 rN rN rN ai ai ai).h ?_;rintro z w1⟨u0,a0,u1,a1,u2,a2,rfl,o1,ao⟩;have B1:=af ao;have zz:O (U (Q w)+3<=U (Q w1)):=by have:=ao.size;have:=aa HZ;show _<=_;omega
 clear o1 ao rN;obtain⟨i,Dw⟩:∃o,O (o=U (Q w1)):=⟨_,rfl⟩;let⟨X,hX,b7,z7,C7,T7⟩:=bM w1 #[.S u0 0 a0,.I 0,.S u1 0 a1,.I 0,aq,.I 0] 30;have BX:=af (ah B1 b7);have RX:=br C7 T7;rw[<-aa Dw]at RX;have zo:O (i<U (Q X)):=by show _<_;have:=aa Dw;omega
 clear b7 z7 C7 T7
 go_upto_region 5 with fail
 rw[<-hX,<-aa Dw];clear hX;have HX:=af (aa HA X BX);obtain⟨j0,j1,j2,j3,j4,j5,-⟩:=HX.1
 go_wp21
 clear j0 j1 j2 j3 j4 j5;have eN:O (J (mP 1 0 0 [] [])=5):=by show _=_;rfl
 refine(aY1 ae ae ae (af rfl) rfl HX.2.2.1 HX.2.2.2.1 (af (Bh (V:=[]) (λz hz=>by cases hz) 0).TF.w) eN).h ?_;rintro z w2⟨p3,c3,rfl,o3,ay⟩;have O3:=af o3.rd;have B2:=af (ah BX ay);have R:=br (RX.1.H zo ay) ((ay.block _ zo).Z RX.2);have Z:O (i<U (Q w2)):=mj zo ay.size;clear o3 ay RX HX BX zo
 go_wp21
 refine(bN5 eN O3 cF9 ae ae ae).h ?_;rintro z W⟨p4,c4,rfl,o4,aE⟩;have B3:=ah B2 aE;have H3:=aa HA W B3;have aN:U (Q w)+1+1≠i:=by have:=aa zz;have:=aa Dw;omega
 let⟨N,M,E,D,B,s,kf⟩:=(R.1.H Z aE).c6;have hK:=(aE.block _ Z).Z R.2;have O4:=br (show Rd W (.S p4 25 c4) fB from o4.rd) (show zJ p4 25 c4 from o4.cp);have RR:=af (λ(v:G)(j:lX i W v)=>aD (O4.1.VK hK (by intro y;simp) j) (aD ((j.2 _ (mj (aM (aa HZ)) B3.size) aN).Z H3.2.1) (λ(hb:Bw w v)=>hb)));have BB3:=af (aa HA W B3).2.2.2.2;have zob:O (U (Q w)<=i):=by have:=aa zz;have:=aa Dw;show _<=_;omega
 have x:=λv=>(show I (jS W (Ad i 4) v) (Ad i 5)=Y (.I 0) by simp[go_sem,s]);clear hK H3 B3 aE o4 R
 go_upto_region 13 with fail
 go_name_world V m
 have EX:lX i W V:=by rw[<-m];(repeat(first|refine lX.set ?_ _ _|exact⟨fq _,λ_ _ _=>rfl⟩))
 have BV:Bw w V:=by rw[<-m];(repeat(first|refine kV ?_ zob _|exact aa BB3))
 obtain⟨s4,sT,-⟩:=aa RR V EX;have e0:I V (Ad i 0)=aq:=by rw[<-m];simp[go_sem,Ad,N,M,E,D,B,s,x]
 have e1:I V (Ad i 1)=dI 0:=by rw[<-m];simp[go_sem,Ad,N,M,E,D,B,s,x]
 have e2:I V (Ad i 2)=dS p4 25 c4:=by rw[<-m];simp[go_sem,Ad,N,M,E,D,B,s,x]
 have e3:I V (Ad i 3)=dI 25:=by rw[<-m];simp[go_sem,Ad,N,M,E,D,B,s,x]
 have e4:I V (Ad i 4)=aq:=by rw[<-m];simp[go_sem,Ad,N,M,E,D,B,s,x]
 have e5:I V (Ad i 5)=dI 0:=by rw[<-m];simp[go_sem,Ad,N,M,E,D,B,s,x]
 have n0:=cX sT 0;have n1:=cX sT 1;have n2:=cX sT 2;have n3:=cX sT 3;have n4:=cX sT 4;have n5:=cX sT 5;have nf:∀o,jF V (Ad (U (Q w)+1+1) o)=dF:=λo=>by simp[World.frozen?,sT]
 have RQ:=af (λ(v:G)(j:lX (U (Q w)+1+1) V v)=>s4.VK sT (by intro y;simp) j);have B7:=af BV;have cp4:=af O4.2;clear EX BV s4 sT N M E D B s x kf m aN RR O4;simp at n0 n1 n2 n3 n4 n5;go_wp2;have EX:=λ(x0 x1 x2 x3 x4 x5:dV)=>(((((((show lX (U (Q w)+1+1) V V from⟨fq _,λ_ _ _=>rfl⟩).set 0 x0).set 1 x1).set 2 x2).set 3 x3).set 4 x4).set 5 x5);refine bO (v:=mu aq _ (.S p4 25 c4) _ aq _) (by simp[results,results15,go_sem,n0,n1,n2,n3,n4,n5]) rfl ⟨p4,c4,rfl,⟨aa RQ _ (EX _ _ _ _ _ _),cp4⟩,?_⟩
 iterate 6 refine kV ?_ (by show U (Q w)<=U (Q w)+1+1;omega) _
 exact B7
def Pf(k:Int)(s:aC):aC:=(s.1,k,s.2.2)
theorem dh7(k:Int)(ss:List aC):(ss.map lZ).map (Pf (k+15))=ss.map (JV k):=by
 rw[sA];rfl
theorem dn7(e g x t K:Int)(hK:0<=K/\K<=1000000)(p q:OA)(c n d m:Nat)(ss:List aC)(ns:List au)(en:Le ss n)(em:Le ns m)(w:G)(h:mX w (.S p n c) ss)(hN:iy w (.S q m d) ns)(hn:Mg n)(hm:Mg m)(gy:O (∀s∈ss,J s.2.2<=2^20/\∀ev∈s.2.2,J ev.2<=2^20))(nO:O (∀nd∈ns,J nd.A<=2^20/\J nd.V<=2^20/\J nd.y<=2^20/\J nd.X<=2^20)):dQ dG 14 #[bS e g x t (.S p n c) (.S q m d),.I K] w (DuR w e g x K n m (ss.map (JV K)) (ns.map lE)):=by
 let⟨W0,bG,b0,z0,C0⟩:=sQ w (.U e) (.U g) (.U x) (.I t) (.S p n c) (.S q m d);let⟨W1,fo,b1,z1,C1⟩:=sQ W0 (.U 0) (.U 0) (.U 0) (.I 0) aq aq;rw[z0]at C1 z1;have V:=ah b0 b1;have HC:=af (cC1 (e:=e) (g:=g) (x:=x) (t:=t) en em (h.H V) (hN.H V) hn hm gy nO);have M:=dy C1 V z1;clear C0 C1 b0 b1 z0 z1 V h hN;go_in
 go_wp21
 rw[<-bG,<-fo];clear bG fo;refine HC.h ?_;rintro r w1⟨y,E,u,D,B,Qs,rfl,EO,hS,AZ,X⟩;let⟨W2,fM,W,z2,C2⟩:=sQ w1 (.U e) (.U g) (.U x) (.I K) (.S y n E) (.S u m D);let⟨ob,Dw⟩:=aF (U (Q w1));rw[<-Dw]at C2;have F2:=Fr.H (T:=[34]) W;have i:=nF (hS.T F2) (di.T AZ F2) C2 ((M.1.H X).H W) ((M.2.1.Z (X.h (aM M.2.2))).Z (W.h (by have:=M.2.2;have:=X.size;omega)));have fw:U (Q w)<=B:=aM M.2.2;have wa:jY jV (K+10)=K+10:=l8 _ ae;have wb:jY jV (K+10+5)=K+15:=(l8 _ ae).Z ae;let⟨R,uO⟩:=bL (ss.map lZ);have len:Le R n:=by show J R=n;rw[<-aa uO,iH];exact aa en
 rw[aa uO]at i;clear hS AZ X W z2 C2 F2 HC M EO;go_wp2;rw[<-Dw,<-fM];clear fM Dw
 go_loopw[6](λiv wr=>∃k:Nat,k<=n/\iv=.I k/\O (ew B wr (.S y n E) (Cr (Pf (K+15)) k R) Qs/\kF B wr (.S u m D) (ns.map lE)/\BX wr ob [.U e,.U g,.U x,.I K,.S y n E,.S u m D]/\BX wr (U (Q w)+1) [.U 0,.U 0,.U 0,.I 0,aq,aq]/\Bw w wr)) (λiv _=>n-(jN (intOf iv)))
 exact⟨0,cT _,rfl,by rw[bn4];exact i⟩;{
 clear i;obtain⟨k,hk,rfl,i⟩:=hrel;have i0:=i.2.2.1.cells;by_cases aL:k<n;{
 have cM:=bR k n;obtain⟨s,hs⟩:∃s,R[k]?=Y s:=⟨_,bN (aa len▸aL)⟩;obtain⟨gs,iZ,rfl,-,-,hQ,j0,j1,j2,hq,jf⟩:=i.1.at (Rl (Pf (K+15)) hs);have U0:=i.1.ge;have wk:jY jV ((k:Int)+1)=((k+1:Nat):Int):=by rw[l8 _ ae];omega
 let⟨Z,j⟩:=i.1.dl (Rl (Pf (K+15)) hs) (K+15);rw[show((s.1,K+15,s.2.2):aC)=Pf (K+15) s from rfl,bn5 (Pf (K+15)) hs]at Z;let⟨iY,hY⟩:=aF (jS wr (Ad gs (k*3+1)) (.I (K+15)));rw[<-hY]at Z j;have BV:Bw w iY:=by rw[hY];exact i.2.2.2.2.setCell (p:=(Ad gs _)) (fx fw U0) _
 have N:=nF Z (di.T i.2.1 j) (i.2.2.1.T j) (i.2.2.2.1.T j) BV;clear Z j BV hq hQ;go_wp2;rw[<-hY];go_roundw;exact⟨k+1,ae,by go_num,N⟩;exact dh};{have cM:=fG k n;have o:=aa i;rw[bn6 (Pf (K+15)) (by rw[aa len];omega),<-aa uO,dh7]at o;let⟨r0,r1,r2,r3,r4,r5,rf⟩:=o.2.2.2.1.cells;let⟨cur,I0⟩:=o.2.2.2.1.2;have j:Fr [34] wr (fv wr (U (Q w)+1) (.U e) (.U g) (.U x) (.I K) (.S y n E) (.S u m D)):=vu I0;have N:=dy (o.1.T j) (di.T o.2.1 j) (o.2.2.2.2.Z ((sY (w:=wr) (U (Q w)+1) (.U e) (.U g) (.U x) (.I K) (.S y n E) (.S u m D)).h ae));clear o I0 j i wa wb;go_wp2;exact bO (v:=bS e g x K (.S y n E) (.S u m D)) (by simp[results,results14,go_sem,r0,r1,r2,r3,r4,r5]) rfl ⟨_,_,_,_,B,_,rfl,fw,N.1,N.2.1,N.2.2⟩}}
theorem cd1(dop:LI->Option Rq):uY dop [] [] dY=(mO,0,0):=Qb (x:=(⟨0,0,0,0,[],[]⟩,0)) rfl rfl
def SfR(w:G)(z:Ending)(w':G):Prop:=∃i j p c r d,z=dR (dT #[BI aq 0 (.S i 25 j) 25 aq 0 1 0 0 0 (.S p 0 c) (.S r 0 d) 0,.I 0])/\FbR w' i j/\Bw w w'
theorem de3(dop:LI->Option Rq)(hd:O (∀l,sV l (dop l)))(w:G):dQ dG 5 #[mu aq 0 aq 0 aq 0,.I 0,.I 5] w (SfR w):=by
 obtain⟨W0,bG,q0,z0,C0,-⟩:=bM w #[aq,.I 0,aq,.I 0,aq,.I 0] 30;let⟨W1,fo,q1,z1,q,T1⟩:=bM W0 #[aq,.I 0,aq,.I 0,aq,.I 0,.U 0,.U 0,.U 0,.I 0,aq,aq,.U 0] 36;rw[z0]at q T1 z1;have bW:=ah q0 q1;have HA:=af (λ(v:G)(X:Bw W1 v)=>aD ((C0.H ae q1).H ae X).c6 (aD (q.H ae X) (aD ((X.block _ ae).Z T1) (ah bW X))));have HZ:=af z1;clear q0 q1 C0 q T1 bW z0 z1;go_in
 go_wp21
 rw[<-bG,<-fo];clear bG fo;refine cK (aL1 ae ae ae) λv ao=>?_;have ld:oK 0 0 0 0 0 0:=aX;rw[ld];have BV:=af ao;clear ao;obtain⟨⟨i0,i1,i2,i3,i4,i5,-⟩,-⟩:=aa HA v BV
 go_wp21
 clear i0 i1 i2 i3 i4 i5;have rN:=Own.rd (Own.nil 0 v);refine(bN4 dN dN dN 0 0 0 0 0 0 0 0 0 [] [] rfl rfl v rN rN ae ae ae ae ae (af aX) (af aX) (af (.L ⟨rfl,rfl⟩)) (af λz hz=>by cases hz) (af λz hz=>by cases hz) dop hd dY ld _ (cd1 dop)).h ?_;rintro r j⟨⟨ps,cs,pn,cn,rfl,o3⟩,aE⟩;dsimp only[mO]at o3⊢;clear rN ld;let⟨W3,kJ,b3,z3,C3⟩:=sQ j (.U 0) (.U 0) (.U 0) (.I 0) (.S ps 0 cs) (.S pn 0 cn);have B3:=af (ah BV (ah aE b3));have zG:=af C3;have Ye:O (U (Q w)+1<U (Q j)/\U (Q j)<U (Q W3)):=⟨by have:=aa HZ;have:=BV.size;have:=aE.size;omega,ae⟩;clear o3 aE b3 C3 BV z3;have JE:=af (dn7 0 0 0 0 0 ⟨ae,ae⟩ ps pn cs 0 cn 0 [] [] rfl rfl W3 ⟨ps,cs,rfl,.L rfl⟩ ⟨pn,cn,rfl,.L rfl⟩ ae ae (af λs hs=>by cases hs) (af λnd aG=>by cases aG));let⟨V,R,N,M,E,D,jf⟩:=zG.cells;subst kJ
 go_wp21
 clear V R N M E D jf;refine JE.h ?_;rintro r v4⟨B,c5,x,Z,B5,Q5,rfl,-,hS,hN,cG⟩;have DW:=af (ah B3 cG);have C4:=zG.H cG;let⟨V,R,N,M,E,D,jf⟩:=C4.cells;have Oz:=af C4.1;have z4:=af (show U (Q j)<U v4.heap from mj Ye.2 cG.size);clear hS hN cG C4 zG JE B3
 go_upto_region 10 with fail
 clear V R N M E D jf
 go_name_world W hY
 have EX:lX (U (Q j)) v4 W:=by rw[<-hY];(repeat(first|refine lX.set ?_ _ _|exact⟨fq _,λ_ _ _=>rfl⟩))
 have cY:aO W (U (Q j)) [.U 1,.U 0,.U 0,.I 0,.S B 0 c5,.S x 0 Z]:=by rw[<-hY];exact(Xf Oz (v0:=.U 0) (v1:=.U 0) (v2:=.U 0) (v3:=.I 0) (v4:=.S B 0 c5) (v5:=.S x 0 Z)).dt 0 ai _
 have zb:U (Q W1)<=U (Q j):=by have:=aa HZ;have:=Ye.1;omega
 have bY:Bw W1 W:=by rw[<-hY];(repeat(first|refine kV ?_ zb _|exact aa DW))
 have zY:U (Q j)<U (Q W):=mj z4 EX.1;have HY:=dy cY bY zY;clear EX hY zb Oz z4 DW;obtain⟨i0,i1,i2,i3,i4,i5,-⟩:=(aa HA W bY).1;obtain⟨V,R,N,M,E,D,-⟩:=cY.c6;clear cY bY zY
 go_wp21
 clear i0 i1 i2 i3 i4 i5 V R N M E D;refine(dD4 B x c5 Z W ⟨B,c5,rfl,.L rfl⟩ ⟨x,Z,rfl,.L rfl⟩).h ?_;rintro z v5⟨P1,q,rfl,R1,cR⟩;obtain⟨W7,EG,b7,z7,C7,-⟩:=bM v5 #[aq,.I 0,.S P1 25 q,.I 25,aq,.I 0] 30;have m:=ah cR b7;have H7:=aa HA W7 (ah HY.2.1 m);have n0:=H7.2.1.gP;have nf:=H7.2.1.2;have hK:=H7.2.2.1;obtain⟨V,R,N,M,E,D,-⟩:=(HY.1.H HY.2.2 m).c6;have RR:=af (λ(v:G)(X:lX (U (Q w)+1) W7 v)=>(R1.1.H b7).VK hK (by intro y;simp) X);have CP:=af R1.2;have EX:=af (λ(x0 x1 x2 x3 x4 x5 x6 x7 x8 x9 xd xe xf:dV)=>((((((((((((((show lX (U (Q w)+1) W7 W7 from⟨fq _,λ_ _ _=>rfl⟩).set 0 x0).set 1 x1).set 2 x2).set 3 x3).set 4 x4).set 5 x5).set 6 x6).set 7 x7).set 8 x8).set 9 x9).set 10 xd).set 11 xe).set 12 xf));have BB:=af H7.2.2.2;clear H7 hK R1 cR b7 C7 z7 m HY;subst EG;go_wp2;refine bO (v:=dT #[BI aq 0 (.S P1 25 q) 25 aq 0 1 0 0 0 (.S B 0 c5) (.S x 0 Z) 0,.I 0]) (by simp[results,results5,go_sem,n0]) rfl ⟨P1,q,B,c5,x,Z,rfl,⟨RR _ (aa EX _ _ _ _ _ _ _ _ _ _ _ _ _),CP⟩,?_⟩
 iterate 13 refine kV ?_ ai _
 exact BB
variable {vs:List dV}
theorem cd0{N:Nat}(_:aO w b vs)(h:N<=b):N<=b:=h
theorem ZA{t q:TypeId}{v:G}(u:U (Q w)<=U (Q v))(x:∀c,c≠b->c≠b'->v.heap[c]?=w.heap[c]?)(h:∃i,w.heap[b]?=dO i t)(o:∃i,w.heap[b']?=dO i q):Fr [t,q] w v:=⟨u,λy i B m r j=>by
  by_cases e:y=b;{subst e;obtain⟨c,h⟩:=h;rw[h]at j;cases j;simp at r};{by_cases s:y=b';{subst s;obtain⟨c,o⟩:=o;rw[o]at j;cases j;simp at r};{exact(x y e s).Z j}}⟩
def eV1(V:G)(D:SD×RP)(v7 m:dV)(wc:G):Prop:=∃j i p c q d a o,v7=Pz j/\m=Pz i/\(aO wc j [.U D.1.e,.U D.1.g,.U D.1.x,.I D.1.t,.S p (J D.1.E) c,.S q (J D.1.N) d]/\aO wc i (CL a D.2))/\(ew (U (Q V)) wc (.S p (J D.1.E) c) D.1.E o/\kF (U (Q V)) wc (.S q (J D.1.N) d) D.1.N)/\RpF wc a D.2/\Bw V wc/\U (Q V)<=j/\U (Q V)<=i
def L6R(w:G)(M:Dm)(Z:RP×uq)(z:Ending)(w':G):Prop:=∃A a,z=dR (dT #[yw A M Z.2,Ai a Z.1])/\VQ w' A M Z.2/\RpF w' a Z.1/\Bw w w'
def aC6(w:G)(j m:Nat)(M:Dm)(Z:RP×uq)(i:G):Prop:=∃A a,aO i j (CG A M Z.2)/\aO i m (CL a Z.1)/\(aO i (U (Q w)+1+1) zS/\aO i (U (Q w)+1+1+1) zR/\i.heap[U (Q w)+1+1]?=dO zS.toArray 36/\i.heap[U (Q w)+1+1+1]?=dO zR.toArray 43)/\VQ i A M Z.2/\RpF i a Z.1/\Bw w i
variable {a:Pq}
theorem dD3(hG:O (DmG M X))(g:O (OG a iO))(hJ:O (JK iO.K))(h:Jy w A M X)(hO:Fg w a iO):dQ dG 24 #[yw A M X,J1 a iO] w (L6R w M (mh X iO)):=by
  let⟨Z,eZ⟩:=bL (mh X iO);rw[aa eZ];obtain⟨W0,bG,b0,z0,C0,-⟩:=bM w (CG A M X).toArray 36;obtain⟨W1,fo,b1,z1,C1,-⟩:=bM W0 (Im a iO).toArray 26;let⟨W2,fM,b2,z2,C2,T2⟩:=bM W1 zS.toArray 36;let⟨W3,kJ,b3,z3,C3,T3⟩:=bM W2 zR.toArray 43;rw[z0]at C1 z1;rw[z1]at C2 T2 z2;rw[z2]at C3 T3 z3;have bW:=ah b0 (ah b1 (ah b2 b3));have HC:=af (λ(v:G)(W:Bw W3 v)=>aD ((((C0.H ae b1).H ae b2).H ae b3).H ae W) (aD (((C1.H ae b2).H ae b3).H ae W) (aD ((C2.H ae b3).H ae W) (aD (C3.H ae W) (aD (ah bW W) (aD ((W.block _ ae).Z ((b3.block _ ae).Z T2)) ((W.block _ ae).Z T3)))))));have HR:=br (h.H bW) (hO.H bW);have HZ:=af z3;clear C0 C1 C2 C3 T2 T3 b0 b1 b2 b3 z0 z1 z2 z3 h hO bW;go_in
  go_wp21
  rw[<-bG,<-fo,<-fM,<-kJ];clear bG fo fM kJ;refine(dD5 HR.1 (af hG.v) (aM hG.n) hG.m1 hG.m2).h ?_;rintro z v1⟨A',iZ,rfl,O3,s1,n1,ao⟩;let⟨V1,ud,bv,zv,CV,TV⟩:=bM v1 (CG A' M X).toArray 36;have H1:=af (aa HC V1 (ah ao bv));have HO:=af (λ(v:G)(W:Bw V1 v)=>aD ((O3.H bv).H W) (aD ((s1.T (bH bv)).T (bH W)) (aD (di.T (di.T n1 (bH bv)) (bH W)) (aD (CV.H ae W) ((W.block _ ae).Z TV)))));have HG:=af (λb e=>(O3.o0.lt b e).2);have Ws:=af (ah ao bv);have zv1:U (Q V1)=U (Q v1)+1:=zv;have fy:U (Q W3)<=U (Q v1):=ao.size;have RV:=br (HR.1.H (ah ao bv)) (HR.2.H (ah ao bv));have i0:=H1.1.gP;have qR:O (∀u,(∀y,y<U (Q V1)->u.heap[y]?=V1.heap[y]?)->Ju u (U (Q w)) X.2.2 X.2.1.e X.2.1.g X.2.1.x X.2.1.t (.S A.p (J X.2.1.E) A.c) (.S A.r (J X.2.1.N) A.d)/\lr u (U (Q w)+1) (.I iO.K) (.U iO.S) (.S a.p (J iO.P) a.c) (.I iO.F) (.S a.q (J iO.V) a.d) (.U iO.E) (.U iO.G)):=λu hu=>by have k0:=H1.1.eh (hu (U (Q w)) (aM (aa HZ)));have k1:=H1.2.1.eh (hu (U (Q w)+1) (aM (aa HZ)));exact⟨⟨k0.1 12 _ rfl,k0.1 6 _ rfl,k0.1 7 _ rfl,k0.1 8 _ rfl,k0.1 9 _ rfl,k0.1 10 _ rfl,k0.1 11 _ rfl⟩,k1.1 0 _ rfl,k1.1 1 _ rfl,k1.1 2 _ rfl,k1.1 3 _ rfl,k1.1 4 _ rfl,k1.1 5 _ rfl,k1.1 6 _ rfl⟩
  clear O3 ao bv CV TV zv s1 n1;rw[ud]at i0
  go_wp21
  rw[<-ud];clear ud i0;let⟨D',eD⟩:=bL (pK X.2.1 iO)
  go_cut[7,8](λv7 v8 wc=>eV1 V1 D' v7 v8 wc)
  case first=>(
 let⟨v0,fU⟩:=aF V1.drew;have Q0:O (Bw V1 v0):=fU▸aH.drew;have HS:O (∀v,Bw V1 v->Ju v (U (Q w)) X.2.2 X.2.1.e X.2.1.g X.2.1.x X.2.1.t (.S A.p (J X.2.1.E) A.c) (.S A.r (J X.2.1.N) A.d)/\lr v (U (Q w)+1) (.I iO.K) (.U iO.S) (.S a.p (J iO.P) a.c) (.I iO.F) (.S a.q (J iO.V) a.d) (.U iO.E) (.U iO.G)):=λv W=>aa qR v W.block;have yj:O (∀v,Bw V1 v->Cp 55 #[bS X.2.1.e X.2.1.g X.2.1.x X.2.1.t (.S A.p (J X.2.1.E) A.c) (.S A.r (J X.2.1.N) A.d)] v λr v'=>∃p c q d,r=dR (bS X.2.1.e X.2.1.g X.2.1.x X.2.1.t (.S p (J X.2.1.E) c) (.S q (J X.2.1.N) d))/\(∃iZ,ew (U (Q V1)) v' (.S p (J X.2.1.E) c) X.2.1.E iZ/\kF (U (Q V1)) v' (.S q (J X.2.1.N) d) X.2.1.N)/\Bw v v'):=λv W=>by have hV:=hG.v;refine(aA0 (af rfl) (af rfl) (RV.1.2.2.2.1.H W).rd (RV.1.2.2.2.2.H W) (aM hV.sl) (aM hV.nl) (af λs hs=>⟨(hV.gy s hs).1,λev he=>((hV.gy s hs).2 ev he).2⟩) (af λnd aG=>(hV.cW nd aG).2)).h ?_;rintro z v'⟨p,c,q,d,rfl,⟨iZ,k1⟩,k2,hb⟩;exact⟨p,c,q,d,rfl,⟨iZ,k1.h W.size,kF.h k2 W.size⟩,hb⟩
 have Oz:O (∀p c q d iZ v,Bw V1 v->(ew (U (Q V1)) v (.S p (J X.2.1.E) c) X.2.1.E iZ/\kF (U (Q V1)) v (.S q (J X.2.1.N) d) X.2.1.N)->Cp 54 #[bS X.2.1.e X.2.1.g X.2.1.x X.2.1.t (.S p (J X.2.1.E) c) (.S q (J X.2.1.N) d),J1 a iO] v (LrP (U (Q V1)) v D')):=λp c q d iZ v W k=>by rw[<-aa eD];exact eD7 hG.v (aa g) hJ k.1 k.2 (RV.2.H W) W.size
 refine fK (λv=>Ju v (U (Q w)) X.2.2 X.2.1.e X.2.1.g X.2.1.x X.2.1.t (.S A.p (J X.2.1.E) A.c) (.S A.r (J X.2.1.N) A.d)/\lr v (U (Q w)+1) (.I iO.K) (.U iO.S) (.S a.p (J iO.P) a.c) (.I iO.F) (.S a.q (J iO.V) a.d) (.U iO.E) (.U iO.G)) (fU▸aa HS v0 (aa Q0)) λhS=>?_;rw[<-fU]at hS⊢;clear fU;refine gh 0 1 hS ?_;refine tn 3 hS ?_;have F2:O (∀u,Bw v0 u->True):=λ_ _=>trivial;have F4:O (∀u,Fr [34,43] v0 u->True):=λ_ _=>trivial;have F8:O (∀u,Fr [114,65,69] v0 u->True):=λ_ _=>trivial;have F9:O (∀u,Fr [114,65,69] v0 u->True):=λ_ _=>trivial;have HM:=af Q0.size
 iterate 4 (
   all_goals(first|refine CQ [2,8,9] (tI (λKK hK=>?_) (tI (λKK hK=>?_) (tI (λKK hK=>?_) fI)))|refine CQ [2,8] (tI (λKK hK=>?_) (tI (λKK hK=>?_) fI))|refine CQ [2,9] (tI (λKK hK=>?_) (tI (λKK hK=>?_) fI))|refine CQ [2] (tI (λKK hK=>?_) fI)|refine CQ [4,8,9] (tI (λKK hK=>?_) (tI (λKK hK=>?_) (tI (λKK hK=>?_) fI)))|refine CQ [4,8] (tI (λKK hK=>?_) (tI (λKK hK=>?_) fI))|refine CQ [4,9] (tI (λKK hK=>?_) (tI (λKK hK=>?_) fI))|refine CQ [4] (tI (λKK hK=>?_) fI)|refine CQ [8,9] (tI (λKK hK=>?_) (tI (λKK hK=>?_) fI))|refine CQ [8] (tI (λKK hK=>?_) fI)|refine CQ [9] (tI (λKK hK=>?_) fI))
   all_goals(first
     |(refine Tag.go 2 ?_;refine js (aa yj v0 Q0) ?_;rintro r v0⟨p4,d4,p5,d5,rfl,⟨Q4,rd2⟩,hb⟩;refine⟨_,rfl,?_⟩;have F4:=af λu hu=>aa F4 u ((Fr.H hb).Z hu);have hF:=Fr.H (T:=[114,65,69]) hb;have hQ:=hb.h Q0.size;clear hb)
     |(refine Tag.go 4 ?_;refine CK (aa Oz _ _ _ _ _ v0 Q0 (aa F2 v0 aH)) ?_;rintro r v0⟨p8,c8,q8,d8,a8,Q8,rfl,rd4,rp4,hF,hQ⟩;refine⟨_,rfl,?_⟩;have F2:O (∀u,Below (U (Q v0)) v0 u->True):=λ_ _=>trivial)
     |(refine Tag.go 9 ?_;go_simp;obtain⟨v0,W,hb,hz,CN9⟩:=DO v0 (jK jV 0) (jK jU 0) (jK jU 0) (jK jU 0) (jK jV 0) aV aV aV;rw[<-W];have HM:=br hz (aa HM);have F2:=af λu hu=>aa F2 u (ah hb hu);have F4:=af λu hu=>aa F4 u ((Fr.H hb).Z hu);have hF:=Fr.H (T:=[114,65,69]) hb;have hQ:=hb.h Q0.size;clear W hz hb)
     |(refine Tag.go 8 ?_;go_simp;obtain⟨v0,W,hb,hz,CN8⟩:=yY v0;rw[<-W];have HM:=br hz (aa HM);have F2:=af λu hu=>aa F2 u (ah hb hu);have F4:=af λu hu=>aa F4 u ((Fr.H hb).Z hu);have hF:=Fr.H (T:=[114,65,69]) hb;have hQ:=hb.h Q0.size;clear W hz hb))
   all_goals(have Q0:=af (Q0.Z hQ);have F8:=af λu hu=>aa F8 u (hF.Z hu);have F9:=af λu hu=>aa F9 u (hF.Z hu);have HM:=br hQ.size (aa HM);refine hK.out _ _ (by exact aa HS v0 (aa Q0)) (λhS=>?_);clear hK KK hF hQ;(try simp only[Act.put,xa,xb,xc]))
   all_goals(first
     |(have F2:=af λ(u:G)(hu:Below (U (Q v0)) v0 u)=>aD (rd2.1.T (bH hu)) (di.T rd2.2 (bH hu));clear rd2)
     |(have F4:=af λ(u:G)(hu:Fr [34,43] v0 u)=>aD (aD (rd4.1.T hu) (di.T rd4.2 hu)) True.intro;clear rd4 rp4;refine tn 5 hS ?_;refine tn 6 hS ?_;refine tn 7 hS ?_)
     |(have F8:=af λ(u:G)(hu:Fr [114,65,69] v0 u)=>CN8.T hu;clear CN8)
     |(have F9:=af λ(u:G)(hu:Fr [114,65,69] v0 u)=>CN9.T hu;clear CN9)))
 all_goals(as_aux_lemma=>
   have hq8:=aa F8 v0 (Fr.refl _ _);have Kt:=aa F9 v0 (Fr.refl _ _);refine Xc 10 11 (vs:=[.U D'.1.e,.U D'.1.g,.U D'.1.x,.I D'.1.t,.S p8 (J D'.1.E) c8,.S q8 (J D'.1.N) d8]) (vs':=CL a8 D'.2) hq8.1 Kt.1 (aM (aa HM)) ⟨rfl,rfl,by simp[Value.oneCell'],by simp[Value.oneCell']⟩ (λu _ _ hu=>aa qR u λy hy=>(hu y (aM (aa HM)) (aM (aa HM))).Z (Q0.block y hy)) ?_;intro w' c8' c9' hk bl;refine Hf ?_;clear hS;have hf:=ZA (bl 0 (cT _) (cT _)).size hk hq8.2 Kt.2;have HF:=nF (aD c8' c9') (aa F4 w' hf) (Q0.Z (bl _ (aM (aa HM)) (aM (aa HM)))) (cd0 (N:=U (Q V1)) c8' (aM (aa HM))) (cd0 (N:=U (Q V1)) c9' (aM (aa HM)));clear hq8 Kt c8' c9' hk bl hf F8 F9 F4 F2 HM
   go_wp21
   go_meet;exact⟨_,_,p8,c8,q8,d8,a8,Q8,rfl,rfl,HF.1,HF.2.1.1,HF.2.1.2,HF.2.2.1,HF.2.2.2.1,HF.2.2.2.2⟩))
  case rest=>(
 obtain⟨b8,b9,p8,c8,q8,d8,a8,Q8,rfl,rfl,⟨K8,K9⟩,R4,RP4,bC,Gv,me⟩:=hcut;have IJ:=aa HZ;have BU:=af bC;have KC:=af (λ(v:G)(W:Bw wc v)=>aD (K8.H (nI wc (Ad b8 0) (K8.1 0 _ rfl)) W) (aD (K9.H (nI wc (Ad b9 0) (K9.1 0 _ rfl)) W) (aD (aD (R4.1.T (bH W)) (di.T R4.2 (bH W))) True.intro)));have bD3:=br Gv me;obtain⟨H0,Ho,-,-,-⟩:=aa HC wc (ah Ws bC);have i12:=H0.1 12 _ rfl;have o0:=Ho.1 0 _ rfl;have j0:=K9.1 0 _ rfl;clear K8 K9 R4 RP4 bC Gv me H0 Ho;by_cases hj:D'.2.k=0/\vL (jN iO.K)=dY
 case' neg=>
   have HS:O (Z=(D'.2,X.1,D'.1,X.2.2)):=by show _=_;rw[<-aa eZ];unfold mh;rw[aa eD,aJ hj]
   have T6:(D'.2.k==0)=dF\/((D'.2.k==0)/\O (1<=iO.K/\iO.K<=13)/\vL (jN iO.K)=dF):=by by_cases h0:D'.2.k=0;{obtain⟨k,f,ek,k1,k2,-⟩:=Z9 (D:=X.2.1) (iO:=iO) (aa eD▸h0);exact .R ⟨by simp[h0],⟨ae,ae⟩,by simpa[h0]using hj⟩};{exact .L (by simp[h0])}
   obtain⟨-,-,-,CO,TO⟩:=aa HO wc BU;let⟨n0,n1,n2,n3,n4,n5,n6,n7,n8,n9,na,nb,nc⟩:=CO.gP;have nf:=CO.2;obtain⟨k0,k1,k2,k3,k4,k5,-⟩:=(aa KC wc aH).1.c6;have cn7:=aa bD3;have Cf:¬b8=U (Q v1):=ae;have bd3:¬U (Q v1)=b8:=ae;have Wp:=br CO TO;clear hj CO TO i12;obtain nL|⟨nL,UT,hJ⟩:=T6
   case' inl=>
     go_wp21
   case' inr=>
     go_wp21
     refine cK (cf1 UT.1 UT.2 wc) λx9 h9=>?_;rw[h9,hJ];clear h9 x9 hJ UT
     go_wp21
   all_goals(
     go_name_world iY hY
     have TT:O (aC6 w (U (Q v1)) b9 M Z iY):=by
       show aC6 _ _ _ _ _ _;rw[aa HS];have KY:∀b,b≠U (Q v1)->iY.heap[b]?=wc.heap[b]?:=λb hb=>by
         rw[<-hY]
         iterate 6 (refine(fN _ _ _ _ (by dsimp only;omega)).Z ?_)
         rfl
       have BY:Below (U (Q v1)) wc iY:=by
         rw[<-hY]
         iterate 6 (refine Below.setCell ?_ (by dsimp only;omega) _)
         exact aR _ _
       have fY:Fr [36] wc iY:=lX.T (ty:=36) ⟨BY.size,λb _ hn=>KY b hn⟩ Wp.2;obtain⟨-,K9,R4,RP4⟩:=aa KC wc aH;obtain⟨-,-,H2,H3,HB,T2,T3⟩:=aa HC wc (ah Ws BU);obtain⟨O3,-⟩:=aa HO wc BU;refine⟨⟨A'.p0,A'.c0,A'.p1,A'.c1,A'.p2,A'.c2,p8,c8,q8,d8⟩,a8,?_,K9.eh (KY b9 ae),⟨H2.eh (KY _ ae),H3.eh (KY _ ae),(KY _ ae).Z T2,(KY _ ae).Z T3⟩,aO6 (B:=U (Q V1)) (O3.o0.T fY) (O3.o1.T fY) (O3.o2.T fY) (R4.1.T fY) (di.T R4.2 fY),gQ,HB.Z (BY.h ae)⟩;rw[<-hY];exact aO.p6 Wp.1
     clear hY n0 n1 n2 n3 n4 n5 n6 n7 n8 n9 na nb nc nf k0 k1 k2 k3 k4 k5 Cf bd3 nL)
 case' pos=>
   have nL:(D'.2.k==0):=by simp[hj.1]
   have HJ:=af hj;obtain⟨k,f,ek,k1,k2,-⟩:=Z9 (D:=X.2.1) (iO:=iO) (aa eD▸hj.1);have UT:=af (show 1<=iO.K/\iO.K<=13 by omega);clear ek k1 k2 hj
   go_wp21
   refine cK (cf1 UT.1 UT.2 wc) λx9 h9=>?_;rw[h9,HJ.2];clear h9 x9 o0 j0 nL;by_cases yK:4611686018427387904<=X.2.2
   case' pos=>
     let kf:Int:=12;have FT:O (Z=(kP kf,X)):=by show _=_;rw[<-aa eZ];unfold mh;rw[aa eD,aK (aa HJ),aK yK]
     go_wp21
     clear i12
     go_name_world y0 hy0
     rw[hy0]at BU
   case' neg=>
     have q0:=hG.q;have m0:=hG.n;have wq:jY jU (X.2.2+1)=X.2.2+1:=by rw[uW];omega
     let⟨L,eL⟩:=bL (J (Eb iO));obtain⟨hL,Zt,-,Zr⟩:=cy9 (D:=X.2.1) (aa eD▸HJ.1) HJ.2 (aa g) L eL;have HBy:=af Zt;have HEn:=af Zr;clear Zt Zr
     go_wp21
     clear i12;have HK:O (∀v,Bw V1 v->I v (Aw w 12)=dU X.2.2/\lr v (U (Q w)+1) (.I iO.K) (.U iO.S) (.S a.p (J iO.P) a.c) (.I iO.F) (.S a.q (J iO.V) a.d) (.U iO.E) (.U iO.G)):=λv W=>by obtain⟨H0,Ho,-,-,-⟩:=aa HC v (ah Ws W);exact⟨H0.1 12 _ rfl,Ho.1 0 _ rfl,Ho.1 1 _ rfl,Ho.1 2 _ rfl,Ho.1 3 _ rfl,Ho.1 4 _ rfl,Ho.1 5 _ rfl,Ho.1 6 _ rfl⟩
     refine fK (λv=>I v (Aw w 12)=dU X.2.2/\lr v (U (Q w)+1) (.I iO.K) (.U iO.S) (.S a.p (J iO.P) a.c) (.I iO.F) (.S a.q (J iO.V) a.d) (.U iO.E) (.U iO.G)) (by exact HK _ BU.drew) λhS=>?_;let⟨v,fU⟩:=aF wc.drew;have bd:=mW fU;rw[<-fU]at hS⊢;clear fU;refine iL 0 1 2 3 hS ?_;refine ft 4 (λKK hK=>?_);refine js (aa HEn v (RV.2.H (ah BU bd))) ?_;rintro z y1⟨pe,ce,rfl,oe,ao⟩;refine⟨_,rfl,?_⟩;have B1:=ah bd ao;refine bQ hK (by exact HK y1 (ah BU B1)) λhS=>?_;clear hK KK;refine tn 5 hS ?_;refine ft 6 (λKK hK=>?_);refine js (show Cp 57 #[yy (X.2.2+1) (.S pe L ce)] y1 _ from bN6 eL oe.rd HBy ae ae ae) ?_;rintro z v2⟨pr,cr,rfl,or,ay⟩;refine⟨_,rfl,?_⟩;have B2:=ah B1 ay;refine bQ hK (by exact HK v2 (ah BU B2)) λhS=>?_;clear hK KK;refine tn 7 hS ?_;refine ga ?_;have KD:=af (aa KC v2 B2);have BU:=af (ah BU B2);have OR:=br or.rd or;have EC:O (L+14=J (sw X.2.2 iO)):=by show _=_;rw[D7,aa eL]
     obtain⟨H0,-,-,-,-⟩:=aa HC v2 (ah Ws BU);obtain⟨-,-,-,CO,-⟩:=aa HO v2 BU;have i00:=H0.1 0 _ rfl;have i12:=H0.1 12 _ rfl;let⟨n0,n1,n2,n3,n4,n5,n6,n7,n8,n9,na,nb,nc⟩:=CO.gP;have nf:=CO.2;have wf:jY jV ((J X.1:Int)+((L+14:Nat):Int))=(J X.1:Int)+((L+14:Nat):Int):=l8 _ ae;clear hS oe ao ay B1 B2 or bd KC HK HBy HEn H0 CO;by_cases hf:4000<J X.1+(L+14)
     case' pos=>
       have hf':(4000:Int)<(J X.1:Int)+((L+14:Nat):Int):=ae;let kf:Int:=11;have FT:O (Z=(kP kf,X)):=by show _=_;rw[<-aa eZ];unfold mh;rw[aa eD,aK (aa HJ),aJ (show¬4611686018427387904<=X.2.2 by omega),aK (aa EC▸hf)]
       go_wp21
       clear i00 i12 n0 n1 n2 n3 n4 n5 n6 n7 n8 n9 na nb nc nf
       go_name_world y0 hy0
       rw[hy0]at BU
     case' neg=>
       have hf':¬(4000:Int)<(J X.1:Int)+((L+14:Nat):Int):=ae;have HS:O (Z=(D'.2,X.1++sw X.2.2 iO,D'.1,X.2.2+1)):=by show _=_;rw[<-aa eZ];unfold mh;rw[aa eD,aK (aa HJ),aJ (show¬4611686018427387904<=X.2.2 by omega),aJ (aa EC▸hf)]
       obtain⟨l',el⟩:∃l',O (l'=X.1++sw X.2.2 iO):=⟨_,af rfl⟩;rw[<-aa el]at HS;have hB:Rd v2 (.S pr (J (sw X.2.2 iO)) cr) (sw X.2.2 iO):=aa EC▸OR.1;have hlC:J (sw X.2.2 iO)=L+14:=EC.C;obtain⟨O3,-,-,CO,TO⟩:=aa HO v2 BU;have MV:=λb e=>aD (O3.o0.lt b e).1 (aa HG b e);have H2:=af (aa HC v2 (ah Ws BU));have O2:=dy O3 CO TO;have zC:=BU.size;have oL:=O3.o0;have HGL:=af MV;have HLC:=af hlC;have LB:=af hB;rw[aa EC]at hf' wf⊢;clear O3 CO TO MV OR EC hL hlC hB;go_wp2_with(at_builtin;refine aH7 rfl rfl (v:=.S A'.p0 (J X.1) A'.c0) (m:=sw X.2.2 iO) el (p:=pr) (c:=cr) rfl rfl oL LB (aM (aa HLC)) ae ?_);intro p' c' w3 o0 hg;have MV:=aa HGL;have KX:O (∀b,jB (Value.slice A'.p0 (J X.1) A'.c0)≠Y b->b<U (Q v2)->w3.heap[b]?=v2.heap[b]?):=λb h1 h2=>hg.block b h2 (λe=>h1 e.C);have vR:∀b,b<U (Q W3)->w3.heap[b]?=v2.heap[b]?:=λb hb=>aa KX b (λe=>aM (MV b e).1) ae;have vS:∀b,U (Q v1)<=b->b<U (Q v2)->w3.heap[b]?=v2.heap[b]?:=λb h1 h2=>aa KX b (λe=>aM (MV b e).2) h2;have cn7:=aa bD3;have z8:=nI v2 (Ad b8 0) (KD.1.1 0 _ rfl);have z9:=nI v2 (Ad b9 0) (KD.2.1.1 0 _ rfl);have Wp:=af (O2.2.1.eh (vS _ az ae));have TO3:=af ((vS _ az ae).Z O2.2.2);have K8:=KD.1.eh (vS b8 ae z8);have K9:=af (KD.2.1.eh (vS b9 ae z9));have RW3:=nF o0 (O2.1.o1.hp (v:=w3) λb e=>aa KX b (λe'=>O2.1.n01 b e' e) (O2.1.o1.lt b e).2) (O2.1.o2.hp (v:=w3) λb e=>aa KX b (λe'=>O2.1.n02 b e' e) (O2.1.o2.lt b e).2) (KD.2.2.1.1.off (w':=w3) λb h1 h2=>vS b ae h2) (kF.off (w':=w3) KD.2.2.1.2 λb h1 h2=>vS b ae h2);have H3:=nF (H2.2.2.1.eh (vR _ ae)) (H2.2.2.2.1.eh (vR _ ae)) (H2.2.2.2.2.1.grown hg ae (λb e=>aM (MV b e).1)) ((vR _ ae).Z H2.2.2.2.2.2.1) ((vR _ ae).Z H2.2.2.2.2.2.2);have i12:=(H2.1.eh (vR (U (Q w)) ae)).1 12 _ rfl;let⟨n0,n1,n2,n3,n4,n5,n6,n7,n8,n9,na,nb,nc⟩:=Wp.gP;have nf:=Wp.2;obtain⟨k0,k1,k2,k3,k4,k5,-⟩:=K8.c6;have Cf:¬b8=U (Q v1):=ae;have bd3:¬U (Q v1)=b8:=ae;have hnw:¬U (Q w)=U (Q v1):=ae;have dN9:¬U (Q v1)=U (Q w):=ae;have z33:=hg.size;clear o0 hg MV KX vR vS K8 z8 oL i00
       go_wp21
       go_name_world iY hY
       have TT:O (aC6 w (U (Q v1)) b9 M Z iY):=by
         show aC6 _ _ _ _ _ _;rw[aa HS];have KY:∀b,b≠U (Q v1)->iY.heap[b]?=w3.heap[b]?:=λb hb=>by
           rw[<-hY]
           iterate 8 (refine(fN _ _ _ _ (by dsimp only;omega)).Z ?_)
           rfl
         have BY:Below (U (Q v1)) w3 iY:=by
           rw[<-hY]
           iterate 8 (refine Below.setCell ?_ (by dsimp only;omega) _)
           exact aR _ _
         have fY:Fr [36] w3 iY:=lX.T (ty:=36) ⟨BY.size,λb _ hn=>KY b hn⟩ TO3;let⟨e1,e2,e3⟩:=dH2 (D:=X.2.1) HJ.2;rw[aa eD]at e1 e2 e3;refine⟨⟨p',c',A'.p1,A'.c1,A'.p2,A'.c2,p8,c8,q8,d8⟩,a8,?_,K9.eh (KY b9 ae),⟨H3.1.eh (KY _ ae),H3.2.1.eh (KY _ ae),(KY _ ae).Z H3.2.2.2.1,(KY _ ae).Z H3.2.2.2.2⟩,aO6 (B:=U (Q V1)) (RW3.1.T fY) (RW3.2.1.T fY) (RW3.2.2.1.T fY) (RW3.2.2.2.1.T fY) (di.T RW3.2.2.2.2 fY),gQ,H3.2.2.1.Z (BY.h ae)⟩;rw[<-hY];exact(((((((Wp.dt 0 ai _).dt 12 ai _).dt 6 ai _).dt 7 ai _).dt 8 ai _).dt 9 ai _).dt 10 ai _).dt 11 ai _
       clear hY i12 n0 n1 n2 n3 n4 n5 n6 n7 n8 n9 na nb nc nf k0 k1 k2 k3 k4 k5 Cf hnw bd3 dN9
 all_goals(first
   | (replace FT:=FT
      refine fK (λv=>SvE v (U (Q v1)) A' M X) (by exact(aa HO _ BU.drew).2.2.2.1.gP) λhS=>?_;let⟨v,fU⟩:=aF y0.drew;have BV:O (Bw V1 v):=fU▸BU.drew;rw[<-fU]at hS⊢;clear fU;refine tn 0 hS ?_;refine ft 1 (λKK hK=>?_);refine js (aX7) ?_;rintro z y⟨rfl,cW⟩;refine⟨_,rfl,?_⟩;have BY:=af (ah BV cW);refine bQ hK (by exact(aa HO y BY).2.2.2.1.gP) λhS=>?_;clear hK KK cW;have HY:=af (aa HC y (ah Ws BY));have HP:=af (aa HO y BY);refine Xc 2 3 (vs:=CG A' M X) (vs':=CL ⟨dN,0,dN,0,dN,0⟩ (kP kf)) HY.2.2.1 HY.2.2.2.1 ae ⟨rfl,rfl,by simp[Value.oneCell'],by simp[Value.oneCell']⟩ (λu _ _ hu=>(HP.2.2.2.1.eh (hu (U (Q v1)) ae ae)).gP) ?_;intro w' k1 k2 hk bl;refine Hf ?_;have hf:=ZA (bl 0 (cT _) (cT _)).size hk ⟨_,HY.2.2.2.2.2.1⟩ ⟨_,HY.2.2.2.2.2.2⟩;have HF:O (VQ w' A' M X/\Bw w w'):=⟨aO6 (HP.1.o0.T hf) (HP.1.o1.T hf) (HP.1.o2.T hf) (HP.2.1.T hf) (di.T HP.2.2.1 hf),HY.2.2.2.2.1.Z (bl _ ae ae)⟩;have i0:=k1.gP;let⟨j0,j1,j2,j3,j4,j5,j6,j7⟩:=k2.r8;clear k1 k2 hk bl hf HP HY hS;go_wp2;refine bO (v:=dT #[yw A' M X,Ai ⟨dN,0,dN,0,dN,0⟩ (kP kf)]) (by simp[results,results24,go_sem,i0,j0,j1,j2,j3,j4,j5,j6,j7]) rfl ?_;rw[aa FT];exact⟨A',⟨dN,0,dN,0,dN,0⟩,rfl,HF.1,gQ,HF.2⟩)
   | (obtain⟨PN,a9,x1,x2,x3,x4,x5,x6⟩:=aa TT
      have K2:=af x1;have K9:=af x2;have H3:=af x3;have RF:=dy x4 x5 x6;have cn7:=aa bD3;clear TT x1 x2 x3 x4 x5 x6;refine fK (λv=>SvE v (U (Q v1)) PN M Z.2/\RpE v b9 a9 Z.1) (by exact⟨K2.gP,K9.r8⟩) λhS=>?_;let⟨v,fU⟩:=aF iY.drew;have hd:∀b:Nat,v.heap[b]?=iY.heap[b]?:=λb=>by rw[fU];rfl
      have bd:=mW fU;rw[<-fU]at hS⊢;clear fU;refine gh 0 1 hS ?_;refine Xc 2 3 (vs:=CG PN M Z.2) (vs':=CL a9 Z.1) (H3.1.eh (hd _)) (H3.2.1.eh (hd _)) ae ⟨rfl,rfl,by simp[Value.oneCell'],by simp[Value.oneCell']⟩ (λu _ _ hu=>⟨(K2.eh ((hu _ ae ae).Z (hd _))).gP,(K9.eh ((hu _ ae ae).Z (hd _))).r8⟩) ?_;intro w' k1 k2 hk bl;refine Hf ?_;have hf:Fr [36,43] iY w':=ZA (fx bd.size (bl 0 (cT _) (cT _)).size) (λc h1 h2=>(hk c h1 h2).Z (hd c)) ⟨_,H3.2.2.1⟩ ⟨_,H3.2.2.2⟩;have HF:O (VQ w' PN M Z.2/\RpF w' a9 Z.1/\Bw w w'):=⟨⟨RF.1.1,λu hu=>RF.1.2 u (hf.Z hu)⟩,gQ,RF.2.2.Z ((bd.h RF.2.2.size).Z (bl _ ae ae))⟩;have i0:=k1.gP;let⟨j0,j1,j2,j3,j4,j5,j6,j7⟩:=k2.r8;clear k1 k2 hk bl hS hf hd bd;go_wp2;refine bO (v:=dT #[yw PN M Z.2,Ai a9 Z.1]) (by simp[results,results24,go_sem,i0,j0,j1,j2,j3,j4,j5,j6,j7]) rfl ?_;exact⟨PN,a9,rfl,HF.1,HF.2.1,HF.2.2⟩)))
theorem SG.bP8(iG:SG S)(h:S.ok){c d L:Nat}(q:mX w (.S p (J S.E) c) S.E)(o:iy w (.S r (J S.N) d) S.N)(s:Le S.B L):∀v,Bw w v->Cp 38 #[bS S.e S.g S.x S.t (.S p (J S.E) c) (.S r (J S.N) d)] v λz w'=>∃i m,z=dR (.S i L m)/\Own (U (Q v)) w' (.S i L m) S.B/\Bw v w':=λv j=>by
 have k:=(iG.TF h).w;obtain⟨e,g,x,t,ss,ns⟩:=S;obtain⟨e,rfl⟩:=ID iG.e.1;obtain⟨g,rfl⟩:=ID iG.g.1;obtain⟨x,rfl⟩:=ID iG.x.1;have a:=iG.e;have b:=iG.g;have f:=iG.x;simp only at a b f;exact aY1 ae ae ae (af rfl) rfl (q.H j) (o.H j) k s
theorem dD2{c0 c1 c2 c d:Nat}(h:Hi B w p0 c0 p1 c1 p2 c2 p c r d D S)(hl:J D.l0+J D.l1+J D.l2<=2^20)(hG:O (SG S))(y0:O (aA D.l0))(y1:O (aA D.l1))(dop:LI->Option Rq)(hd:O (∀l,sV l (dop l))):dQ dG 22 #[D5 p0 c0 p1 c1 p2 c2 p c r d D S q] w (Th (Bz dop D S q) w):=by
 obtain⟨W,hW,b1,z1,C1,-⟩:=bM w #[.S p0 (J D.l0) c0,.I D.n0,.S p1 (J D.l1) c1,.I D.n1,.S p2 (J D.l2) c2,.I D.n2,.U S.e,.U S.g,.U S.x,.I S.t,.S p (J S.E) c,.S r (J S.N) d,.U q] 36;have HA:=af (λ(v:G)(hv:Bw W v)=>aD (C1.H ae hv) (aD (h.H (ah b1 hv)) (ah b1 hv)));go_in
 go_wp21
 rw[<-hW];refine cK (aL1 ae ae ae) λv1 ao=>?_;let⟨ok,ld⟩:=bL (oK (J D.l0) D.n0 (J D.l1) D.n1 (J D.l2) D.n2);rw[aa ld];have BV:=af ao;cases ok with
 |false=>
  have bb:=(aa HA v1 BV).2.2;go_wp2;go_ret;exact .no (λe=>by have:=e.1;rw[Dk.ok,aa ld]at this;cases this) bb
 | true=>
  have i0:=(aa HA v1 BV).1.gP
  go_wp21
  have H:=af (aa HA v1 BV);let⟨ok2,Jk⟩:=bL (mY S.e S.g S.x S.t S.E S.N);refine cK (aL2 rfl rfl H.2.1.2.1.rd H.2.1.2.2 hG.n hG.m hG.bs hG.bn Jk) λv2 ay=>?_;have s:=af (ah BV ay);cases ok2 with
  |false=>
   have bb:=(aa HA v2 s).2.2;go_wp2;go_ret;exact .no (λe=>by have:=e.2.1;rw[fu.ok,aa Jk]at this;cases this) bb
  |true=>
   have i0:=(aa HA v2 s).1.gP;by_cases h4:J D.l0<=4000;{
 have h4':¬(4000:Int)<(J D.l0:Int):=ae
 go_wp21
 have H:=af (aa HA v2 s).2.1.1;refine(bN3 H.1.rd y0 rfl ae H.1.cp.le H.1.cp.mx).h ?_;rintro z v3⟨P,C,vs,rfl,o,aE⟩;have Fp:=af (ah s aE);let⟨rs,M⟩:=bL (rl D.l0);let⟨K,j⟩:=bL (J rs);let⟨T,eT⟩:=bL (kH rs);rw[aa M,aa j]at o⊢;rw[aa eT];have hK:K<=T:=by rw[<-aa eT,<-aa j];exact aJ1 rs
 have HO:=af o.rct;clear aE H s o;have i0:=(aa HA v3 Fp).1.gP;have bb:=(aa HA v3 Fp).2.2;by_cases ht:T=J D.l0;{
 have UI:((T:Int) != (J D.l0:Int))=dF:=by simp[ht]
 by_cases N:D.n1=J D.l1;{
 have tX:(D.n1 != (J D.l1:Int))=dF:=by simp[N]
 have HT:O (kH (rl D.l0)=J D.l0):=by show _=_;rw[aa M,aa eT,ht]
 have HN:=af N;clear N;by_cases h0:K=0
 focus (
  have X:O (rl D.l0=[]\/sF (rl D.l0)=q):=.L (aa M▸Is (j.Z h0));have Rh:¬(0:Int)<(K:Int):=ae
  go_wp21
  go_quiet (fail)
  go_wp21
  let⟨V,hV⟩:=aF (v3.drewN nq);rw[<-hV])
 rotate_left;obtain⟨y,hy⟩:∃y,rs[J rs-1]?=Y y:=⟨_,bN (aM (aa j))⟩;have hl:=af (cd3 hy);rw[aa j]at hy;obtain⟨rb,ro,rq,rd,rfl,cq,-,-,-,-⟩:=HO.at hy;have wk:jY jV ((K:Int)-1)=((K-1:Nat):Int):=by rw[l8 _ ae];omega
 have Rh:=rr 0 K;have fp6:0<K:=ae;clear hy;by_cases hq:y.1=q
 focus (
  have X:O (rl D.l0=[]\/sF (rl D.l0)=q):=.R (by rw[aa M,aa hl,hq]);have lG:(y.1 != q)=dF:=by simp[hq]
  go_wp21
  go_quiet (fail)
  go_wp21
  let⟨V,hV⟩:=aF (v3.drewN nq);rw[<-hV];clear hq lG cq wk)
 rotate_left
 focus (
  have HF:O (¬(rl D.l0=[]\/sF (rl D.l0)=q)):=by show¬_;rw[aa M,aa hl];rintro(e|e);{rw[e]at j;exact h0 j.C};{simp at e;exact hq e}
  have lG:(y.1 != q):=by simp[hq]
  go_wp21
  go_quiet (fail)
  go_wp2;go_ret;exact .no (λe=>aa HF e.2.2.1.2.2) (below_drewN bb))
 all_goals(
  have Z:O (Bw W V):=by show Below _ _ _;rw[hV];exact below_drewN Fp
  have H:=af (aa HA V Z).2.1.1;let⟨R,eR⟩:=bL (uY dop D.l0 D.l1 dY);have HG:=af (XW hd y0 y1 ae dY);rw[aa eR]at HG;refine(bN4 p0 p1 p2 _ c0 _ c1 _ c2 D.n0 D.n1 D.n2 D.l0 D.l1 rfl rfl V H.1.rd H.2.1.rd ae ae ae H.1.cp.le H.2.1.cp.le H.1.cp.mx H.2.1.cp.mx H.2.1.cp.ad y0 y1 dop hd dY ld _ eR).h ?_;rintro z v4⟨⟨ps,cs,pn,cn,rfl,o4⟩,cG⟩;have Z:=af (ah Z cG);have O4:=af o4;obtain⟨⟨e,g,x,u,ss,ns⟩,sq,cd⟩:=R;obtain⟨W5,Gx,b5,z5,C5,-⟩:=bM v4 #[.U e,.U g,.U x,.I u,.S ps (J ss) cs,.S pn (J ns) cn] 34
  go_wp21
  rw[<-Gx];clear Gx;have B5:=af (ah Z b5);have HV:=br HG.v.sg HG.v.ok;have HS5:=af (λ(v:G)(hv:Bw W5 v)=>aD (aa HA v (ah (aa B5) hv)).1.gP (C5.H ae hv).c6);have O5:=br (O4.1.H b5) (O4.2.H b5);clear b5 C5 O4 Z;have HP:O (Bz dop D S q↔(cd=0/\sq=q/\(⟨e,g,x,u,ss,ns⟩:fu).B=S.B)):=by show _↔_;rw[Bz,aa eR];exact⟨λh=>h.2.2.2.2,λh=>⟨ld,Jk,⟨h4,HT,X⟩,HN,h⟩⟩
  have F1:=af (λ(L:Nat)eL=>HV.1.bP8 HV.2 O5.1 O5.2 (L:=L) eL);have F2:=af (λ(L:Nat)eL=>hG.bP8 Jk (aa HA W5 B5).2.1.2.1.rd (aa HA W5 B5).2.1.2.2 (L:=L) eL);exact vaW)}
 {
 have tX:(D.n1 != (J D.l1:Int)):=by simp[N]
 go_wp2;go_ret;exact .no (λe=>N e.2.2.2.1) bb}};{
 have UI:((T:Int) != (J D.l0:Int)):=by simp;omega
 go_wp2;go_ret;exact .no (λe=>ht (by have:=e.2.2.1.2.1;rw[aa M,aa eT]at this;exact this)) bb}};{have h4':(4000:Int)<(J D.l0:Int):=ae;have bb:=(aa HA v2 s).2.2;go_wp2;go_ret;exact .no (λe=>h4 e.2.2.1.1) bb}
abbrev tV(A:Pt)(D:Dk)(S:fu)(q:Int):dV:=D5 A.p0 A.c0 A.p1 A.c1 A.p2 A.c2 A.p A.c A.r A.d D S q
abbrev tL(A:Pt)(D:Dk)(S:fu)(q:Int):List dV:=svL A.p0 A.c0 A.p1 A.c1 A.p2 A.c2 A.p A.c A.r A.d D S q
abbrev tR(w:G)(A:Pt)(D:Dk)(S:fu):Prop:=aa4 w A.p0 A.c0 A.p1 A.c1 A.p2 A.c2 A.p A.c A.r A.d D S
def RdZ(A:Pt)(E:Dk)(S:fu)(u:G):Prop:=tR u A E S
def aC9(w:G)(T:Of)(z:Ending)(w':G):Prop:=∃A a,z=dR (dT #[tV A T.1 T.2.1 T.2.2.1,Ai a T.2.2.2])/\(zJ A.p0 (J T.1.l0) A.c0/\zJ A.p1 (J T.1.l1) A.c1)/\(∀u,Fr [36,43] w' u->RdZ A T.1 T.2.1 u)/\Bw w w'
theorem aC9.of{w v iU:G}{R:RP×uq}{a:Pr}(h:VQ v A D.m R.2)(t:v.heap[b]?=dO cs 36)(i:v.heap[b']?=dO NI 43)(o:U (Q v)<=U (Q iU))(q:∀c,c≠b->c≠b'->iU.heap[c]?=v.heap[c]?)(r:Bw w iU):aC9 w (D.m.k R.2.1,R.2.2.1.s,R.2.2.2,R.1) (dR (dT #[yw A D.m R.2,Ai a R.1])) iU:=by
 have hf:=ZA o q ⟨_,t⟩ ⟨_,i⟩;exact⟨A,a,rfl,h.1,λu j=>(λk=>⟨k.1,k.2.1,k.2.2.1,k.2.2.2.1.rd,k.2.2.2.2⟩) (h.2 u (hf.Z j)),r⟩
theorem de2(p0 N p2 p r:OA)(c0 V c2 c d:Nat)(D:Dk)(S:fu)(q:Int)(a:Pq)(iO:sU)(w:G)(h:Hi B w p0 c0 N V p2 c2 p c r d D S)(hO:Fg w a iO)(hl:J D.l0+J D.l1+J D.l2<=2^20)(hG:O (SG S))(g:O (OG a iO))(y0:O (aA D.l0))(y1:O (aA D.l1))(dop:LI->Option Rq)(hd:O (∀l,sV l (dop l)))(T:Of)(eT:O (T=JW D S q iO))(hP:O (Bz dop D S q))(hJ:O (JK iO.K)):dQ dG 7 #[D5 p0 c0 N V p2 c2 p c r d D S q,J1 a iO] w (aC9 w T):=by
 obtain⟨W0,bG,q0,z0,C0,-⟩:=bM w #[.S p0 (J D.l0) c0,.I D.n0,.S N (J D.l1) V,.I D.n1,.S p2 (J D.l2) c2,.I D.n2,.U S.e,.U S.g,.U S.x,.I S.t,.S p (J S.E) c,.S r (J S.N) d,.U q] 36;obtain⟨W1,fo,q1,z1,C1,-⟩:=bM W0 (Im a iO).toArray 26;let⟨W2,fM,E,z2,C2,y⟩:=bM W1 zS.toArray 36;let⟨W3,kJ,o,z3,C3,T3⟩:=bM W2 zR.toArray 43;rw[z0]at C1 z1;rw[z1]at C2 y z2;rw[z2]at C3 T3 z3;have W:=ah q0 (ah q1 (ah E o));have HA:=af (λ(v:G)(i:Bw W3 v)=>aD ((((C0.H ae q1).H ae E).H ae o).H ae i).gP (aD (h.H (ah W i)) (aD ((C2.H ae o).H ae i) (aD (C3.H ae i) (aD (ah W i) (aD ((i.block _ ae).Z ((o.block _ ae).Z y)) (aD ((i.block _ ae).Z T3) (aD (hO.H (ah W i)) (((C1.H ae E).H ae o).H ae i)))))))));have HZ:=af z3;clear q0 q1 E o C0 C1 C2 C3 y T3 W h hO z0 z1 z2 z3;go_in
 go_wp21
 rw[<-bG,<-fo,<-fM,<-kJ];clear bG fo fM kJ;refine(dD2 (aa HA W3 aH).2.1 hl hG y0 y1 dop hd).h ?_;rintro z v2⟨ok,ld,rfl,ao⟩;have BV:=af ao;have zv:=fx (Nat.le_of_eq HZ.C) ao.size;clear ao;cases ok with
 |true=>
  have SG2:=af (hP.dmg hd hG y0 y1 ae);let⟨R,eR⟩:=bL (mh (D.l0,S.d,q) iO);have ET:O (T=(D.m.k R.2.1,R.2.2.1.s,R.2.2.2,R.1)):=by show _=_;rw[aa eT,JW,aa eR]
  have H:=af (aa HA v2 BV);have i0:=H.1;have j:=H.2.2.2.2.2.2.2.2;have j0:=aD (j.1 0 _ rfl) (aD (j.1 1 _ rfl) (aD (j.1 2 _ rfl) (aD (j.1 3 _ rfl) (aD (j.1 4 _ rfl) (aD (j.1 5 _ rfl) (j.1 6 _ rfl))))));clear ld eT j
  go_wp21
  clear i0 j0;have u:=H.2.1;refine(dD3 (A:=⟨p0,c0,N,V,p2,c2,p,c,r,d⟩) (M:=D.m) (X:=(D.l0,S.d,q)) SG2 g hJ ⟨u.1.1.rd,u.1.2.1.rd,u.1.2.2,u.2.1,u.2.2⟩ H.2.2.2.2.2.2.2.1).h ?_;clear u;rw[aa eR];rintro z v3⟨A,a9,rfl,Z,RL,aE⟩;have H:=aa HA v3 (ah BV aE);have RR:=nF Z RL H.2.2.1 H.2.2.2.1 H.2.2.2.2;have n0:=H.2.2.1.gP;have nf:=H.2.2.1.2;have m0:=H.2.2.2.1.r8;have mf:=H.2.2.2.1.2;clear H Z RL aE;go_wp2;refine bO (v:=dT #[yw A D.m R.2,Ai a9 R.1]) (by simp[results,results7,go_sem,n0,m0]) rfl ?_;rw[aa ET];obtain⟨Z,RL,-,-,BB,y,T3,-⟩:=aa RR;refine aC9.of (a:=a9) Z y T3 ai (λc h1 h2=>?_) ?_;{
 iterate 21 (refine(fN _ _ _ _ (by dsimp only;omega)).Z ?_)
 rfl};{
 iterate 21 refine Below.setCell ?_ (by dsimp only;omega) _
 exact BB}
 |false=>
  exact absurd (ld.2 hP) ai
theorem dI6{c0 c1 c2 c d:Nat}{h:Hi B w p0 c0 p1 c1 p2 c2 p c r d D S}(hl:J D.l0+J D.l1+J D.l2<=2^20)(N:O (SG S))(y0:O (aA D.l0))(y1:O (aA D.l1))(hM:ML w)(hT:qP w)(dop:LI->Option Rq)(hd:O (∀l,sV l (dop l)))(T:Dk×fu×Int×Int){eT:O (T=(CH (iM q S.B) D 5,S,q,0))}(hP:O (Bz dop D S q)):dQ dG 11 #[D5 p0 c0 p1 c1 p2 c2 p c r d D S q,.I 5] w (Od w T):=by
 obtain⟨W0,bG,q0,z0,C0,-⟩:=bM w #[.S p0 (J D.l0) c0,.I D.n0,.S p1 (J D.l1) c1,.I D.n1,.S p2 (J D.l2) c2,.I D.n2,.U S.e,.U S.g,.U S.x,.I S.t,.S p (J S.E) c,.S r (J S.N) d,.U q] 36;obtain⟨W1,fo,q1,z1,C1,-⟩:=bM W0 #[aq,.I 0,aq,.I 0,aq,.I 0,.U 0,.U 0,.U 0,.I 0,aq,aq,.U 0] 36;rw[z0]at C1 z1;have bW:=ah q0 q1;have HA:=af (λ(v:G)(i:Bw W1 v)=>aD ((C0.H ae q1).H ae i).gP (aD (h.H (ah bW i)) (aD (hM.H (ah bW i)) (aD (C1.H ae i) (ah bW i)))));have HT1:O (qP W1):=λk i1 i2=>(hT k i1 i2).H bW;have HZ:=af z1;go_in
 go_wp21
 rw[<-bG,<-fo];have H:=af (aa HA W1 aH);refine(bL8 H.2.1 hl N y0 y1 H.2.2.1 HT1 dop hd).h ?_;rintro z v2⟨ok,ld,rfl,ao⟩;have BV:=af ao;cases ok with
 |true=>
  have HP:=hP;let⟨i0,i1,i2,i3,i4,i5,i6,i7,i8,i9,ia,ib,ic⟩:=(aa HA v2 BV).1
  go_wp21
  refine cK (bJ5) λv3 ay=>?_;have Fp:=af (ah BV ay);{
 have e5:dD ((0:Int)<=5/\(5:Int)<=5):=aX;rw[e5];have HQ:=af (XW hd y0 y1 ae dY).q;rw[HP.2.2.2.2.2.1]at HQ;have hq:=aa HQ;have HK:=af HP.1;have HS:=af HP.2.1;let⟨L,V⟩:=bL (J S.B);have hB:=N.bytes HS;have hL:L<=190000:=aa V▸hB.1;have HB:=af hB.2;have H:=af (aa HA v3 Fp);have HE:=af (N.bp7 HS H.2.1.2.1 H.2.1.2.2 H.2.2.1 V);have il:=af (N.bN1 HS H.2.1.2.1 H.2.1.2.2);let⟨i0,i1,i2,i3,i4,i5,i6,i7,i8,i9,ia,ib,ic⟩:=H.1
 go_wp21
 refine(bO5 p0 p1 p2 c0 c1 c2 D S.e S.g S.x S.t q p r _ c _ d 5 (fq 5) v3 S.B L V hL HB hq.1 hq.2 HE HK H.2.1.1.1.rd H.2.1.1.2.1.rd H.2.1.1.2.2).h ?_;rintro z j⟨P0,C0,P1,C1,P2,C2,rfl,R0,R1,R2,cR⟩;have B5:=af (ah Fp cR);have ac4:O (aa5 j (bS S.e S.g S.x S.t (.S p (J S.E) c) (.S r (J S.N) d)) S.e S.g S.x S.t S.E S.N):=λv i=>aa il v (ah cR i);have HR:=dy R0 R1 R2;let⟨E,eE⟩:=bL (CH (iM q S.B) D 5);have R:=(aL4 (b:=iM q S.B) HK (by rw[Ie,aa V];omega) 5).len;have ET:=eT;rw[aa eE]at HR ET R⊢
 go_wp21
 refine(aK2 P0 P1 P2 C0 C1 C2 E S.e S.g S.x S.t q p r _ c _ d S.E S.N j ac4 HR.1 HR.2.1 HR.2.2 R.1 R.2.1 R.2.2).h ?_;rintro z v6⟨y,c6,u,c7,s,Z,o,X,m,W,rfl,M,hM,O6,aL,SO,gj⟩;obtain⟨W7,EG,b7,z7,C7,-⟩:=bM v6 #[.S y (J E.l0) c6,.I E.n0,.S u (J E.l1) c7,.I E.n1,.S s (J E.l2) Z,.I E.n2,.U S.e,.U S.g,.U S.x,.I S.t,.S o (J S.E) X,.S m (J S.N) W,.U q] 36;have H7:=aa HA W7 (ah B5 (ah gj b7));have n0:=H7.2.2.2.1.gP;have nf:=H7.2.2.2.1.2;have BB:=af H7.2.2.2.2;have EX:=af (λ(x0 x1 x2 x3 x4 x5 x6 x7 x8 x9 xd xe xf:dV)=>((((((((((((((show lX (U (Q w)+1) v6 W7 from⟨b7.size,λk hk _=>b7.block k hk⟩).set 0 x0).set 1 x1).set 2 x2).set 3 x3).set 4 x4).set 5 x5).set 6 x6).set 7 x7).set 8 x8).set 9 x9).set 10 xd).set 11 xe).set 12 xf));have zv:O (U (Q w)+1<U (Q j)):=by have:=aa HZ;have:=B5.size;show _<_;omega
 obtain⟨A1,A2,Kw⟩:=SO;have HX:=af (show vm (U (Q j)) M v6 A1 A2 y c6 u c7 s Z o X m W E S from⟨O6,aL,hM,Kw⟩);subst EG;go_wp2;refine bO (v:=dT #[D5 y c6 u c7 s Z o X m W E S q,.I 0]) (by simp[results,results11,go_sem,n0]) rfl ?_;rw[aa ET];refine⟨y,c6,u,c7,s,Z,o,X,m,W,rfl,⟨M,A1,A2,(HX.W (λb h1 h2=>(aa EX _ _ _ _ _ _ _ _ _ _ _ _ _).2 b h2 (aM (aa zv)))).h (aM (aa zv))⟩,?_⟩
 iterate 13 refine kV ?_ ai _
 exact BB}
 |false=>
  exact absurd (ld.2 hP) ai
theorem mX.sc(h:mX w v ss)(hq:∀s∈ss,s.2.2=[]):mJ w v ss:=by
 obtain⟨p,c,rfl,h⟩:=h;refine⟨p,c,rfl,?_⟩;obtain h|⟨b,o,rfl,h⟩:=h;{exact .L h};{refine .R ⟨b,o,rfl,λi s j=>?_⟩;obtain⟨x,r,u,m,q,d,rfl,-⟩:=h i s j;exact⟨x,r,_,m,q,d,rfl,.L (hq s (bq j))⟩}
theorem ef9(V:LI)(i:J V<=40):∀n,∀s∈(fS V n).E,s.2.2=[]
 |0=>λs h=>by cases h
 |1=>λs h=>by rw[cx0]at h;rw[td.1 h]
 |2=>λs h=>by rw[bo2]at h;rw[td.1 h]
 |n+3=>λs h=>by rw[fSn V i n]at h;rw[td.1 h]
theorem zJ.nil:zJ dN 0 0:=⟨fq 0,by decide,.L ⟨rfl,rfl⟩⟩
def Oe(u:G)(A:Pt)(D:Dk)(S:fu):Prop:=(zJ A.p0 (J D.l0) A.c0/\zJ A.p1 (J D.l1) A.c1)/\tR u A D S
theorem Oe.H(h:Oe w A D S)(i:Bw w w'):Oe w' A D S:=⟨h.1,aa4.H h.2 i⟩
theorem Oe.si(h:Oe u A D S)(hq:∀s∈S.E,s.2.2=[]):Hi B u A.p0 A.c0 A.p1 A.c1 A.p2 A.c2 A.p A.c A.r A.d D S:=⟨⟨⟨h.2.1,h.1.1⟩,⟨h.2.2.1,h.1.2⟩,h.2.2.2.1⟩,mX.sc h.2.2.2.2.1 hq,h.2.2.2.2.2⟩
theorem vm.si{M:Nat}{c0 i c2 c d:Nat}(o:vm B M w A1 A2 p0 c0 p1 i p2 c2 p c r d D S):Hi B' w p0 c0 p1 i p2 c2 p c r d D S:=⟨⟨⟨o.1.o0.rd,o.1.o0.cp⟩,⟨o.1.o1.rd,o.1.o1.cp⟩,o.1.o2.rd⟩,o.2.2.2.1,o.2.2.2.2.1⟩
theorem fB0(V:LI):fD V 0=⟨[],0,fB,25,[],0⟩:=rfl
theorem dd3(dop:LI->Option Rq)(V:LI):Pd (uY dop DK.l0 DK.l1 dY) DK dY 0 5=(fD V 0,(fS V 0).s,0,0):=by
 show Pd (uY dop [] [] dY) DK dY 0 5=_;rw[cd1,Pd,aK ⟨rfl,aX⟩,zk,zk,zk];show(_,_,_,_)=(_,_,_,_);rw[fB0];have e:snS (Js mO 0) 0=fB:=rfl;rw[e];show((⟨[],0,fB,(J fB:Int),[],0⟩:Dk),_,_,_)=_;rw[ay1];rfl
theorem SfR.sp(V:LI)(h:SfR w z w'):∃A,z=dR (dT #[tV A (fD V 0) (fS V 0).s 0,.I 0])/\Oe w' A (fD V 0) (fS V 0).s/\Bw w w':=by
 obtain⟨i,j,p,c,r,d,rfl,R,q⟩:=h;have m:=ay1;refine⟨⟨dN,0,i,j,dN,0,p,c,r,d⟩,?_,⟨⟨zJ.nil,?_⟩,Own.rd (Own.nil 0 _),?_,Own.rd (Own.nil 0 _),⟨p,c,rfl,.L rfl⟩,⟨r,d,rfl,.L rfl⟩⟩,q⟩;{show _=Ending.returned (dT #[BI _ _ (.S i (J fB) j) _ _ _ _ _ _ _ _ _ _,_]);rw[m];rfl};{show zJ i (J fB) j;rw[m];exact R.2};{show Rd w' (.S i (J fB) j) fB;rw[m];exact R.1}
theorem fOG(j:aA V)(m:J V<=40):∀n,((fQ V n).P.length<=a.c/\a.c<=maxLen)->OG a (fQ V n)
 |0,h=>⟨(show(0:Int)<=0/\(0:Int)<2^64 by omega),(show 0<=2^20 by omega),(show 0<=2^20 by omega),(λz i=>by cases i),(λz i=>by cases i),h.1,h.2⟩
 |1,h=>⟨(show(0:Int)<=1/\(1:Int)<2^64 by omega),(show 2<=2^20 by omega),(show 0<=2^20 by omega),(λz i=>by simp[fQ]at i;omega),(λz i=>by cases i),h.1,h.2⟩
 |n+2,h=>⟨(show(0:Int)<=1/\(1:Int)<2^64 by omega),(show 2<=2^20 by omega),(show J V<=2^20 by omega),(λz i=>by simp[fQ]at i;omega),j,h.1,h.2⟩
theorem fHl(h:J (fL V n)<=4000):(fD V n).l0.length+(fD V n).l1.length+(fD V n).l2.length<=2^20:=by
 show J (fL V n)+J fB+0<=_;rw[ay1];omega
theorem fSb(j:J V<=40)(i:n<=1000)(h:J (fL V n)+J (sw n (fQ V n))<=4000):JW (fD V n) (fS V n).s n (fQ V n)=(fD V (n+1),(fS V (n+1)).s,((n+1:Nat):Int),(pK (fS V n) (fQ V n)).2):=by
 have e:=cw8 (l:=fL V n) j i h;show((fD V n).m.k (mh (fL V n,fS V n,(n:Int)) (fQ V n)).2.1,(mh (fL V n,fS V n,(n:Int)) (fQ V n)).2.2.1.s,(mh (fL V n,fS V n,(n:Int)) (fQ V n)).2.2.2,(mh (fL V n,fS V n,(n:Int)) (fQ V n)).1)=_;rw[e,<-ay0];rfl
theorem fSf(j:J V<=40)(i:n<=1000)(h:4000<J (fL V n)+J (sw n (fQ V n))):JW (fD V n) (fS V n).s n (fQ V n)=(fD V n,(fS V n).s,(n:Int),kP 11):=by
 have e:=eg4 (l:=fL V n) j i h;show((fD V n).m.k (mh (fL V n,fS V n,(n:Int)) (fQ V n)).2.1,(mh (fL V n,fS V n,(n:Int)) (fQ V n)).2.2.1.s,(mh (fL V n,fS V n,(n:Int)) (fQ V n)).2.2.2,(mh (fL V n,fS V n,(n:Int)) (fQ V n)).1)=_;rw[e];rfl
def fE(V:LI)(n:Nat):Dk:=⟨[],0,fZ V n,J (fZ V n),[],0⟩
theorem fSr(i:J V<=40)(j:n<=1000):JW (fE V n) (fS V n).s n (fQ V n)=(⟨sw n (fQ V n),0,fZ V n,J (fZ V n),[],0⟩,(fS V (n+1)).s,((n+1:Nat):Int),(pK (fS V n) (fQ V n)).2):=by
 have o:J (sw n (fQ V n))<=61:=by rw[eg0 i];split<;>(try split)<;>omega
 have e:=cw8 (l:=[]) i j (by simp only[xk,l9];omega);show((fE V n).m.k (mh ([],fS V n,(n:Int)) (fQ V n)).2.1,(mh ([],fS V n,(n:Int)) (fQ V n)).2.2.1.s,(mh ([],fS V n,(n:Int)) (fQ V n)).2.2.2,(mh ([],fS V n,(n:Int)) (fQ V n)).1)=_;rw[e];rfl
def FI(w q:G)(o m:Nat)(V:LI)(u:G)(A A':Pt)(i:Nat):Prop:=(U (Q q)<=U (Q u)/\∀b,b<U (Q q)->b≠o->b≠m->u.heap[b]?=q.heap[b]?)/\(aO u o (tL A (fD V i) (fS V i).s i)/\∃j,u.heap[o]?=dO j 36)/\(aO u m (tL A' (fD V i) (fS V i).s i)/\∃j,u.heap[m]?=dO j 36)/\Oe u A (fD V i) (fS V i).s/\Hi 0 u A'.p0 A'.c0 A'.p1 A'.c1 A'.p2 A'.c2 A'.p A'.c A'.r A'.d (fD V i) (fS V i).s/\Bw w u
theorem aO.p7{u0 u1 u2 u3 u4 u5 u6 v0 v1 v2 v3 v4 v5 v6:dV}(h:aO w b [u0,u1,u2,u3,u4,u5,u6]):aO (jS (jS (jS (jS (jS (jS (jS w (Ad b 0) v0) (Ad b 1) v1) (Ad b 2) v2) (Ad b 3) v3) (Ad b 4) v4) (Ad b 5) v5) (Ad b 6) v6) b [v0,v1,v2,v3,v4,v5,v6]:=(((((((h).dt 0 (by simp) v0).dt 1 (by simp) v1).dt 2 (by simp) v2).dt 3 (by simp) v3).dt 4 (by simp) v4).dt 5 (by simp) v5).dt 6 (by simp) v6
abbrev o7(v:G)(b:Nat)(a:Pq)(iO:sU):Prop:=lr v b (.I iO.K) (.U iO.S) (.S a.p (J iO.P) a.c) (.I iO.F) (.S a.q (J iO.V) a.d) (.U iO.E) (.U iO.G)
theorem aO.o7(h:aO w b (Im a iO)):o7 w b a iO:=⟨h.1 0 _ rfl,h.1 1 _ rfl,h.1 2 _ rfl,h.1 3 _ rfl,h.1 4 _ rfl,h.1 5 _ rfl,h.1 6 _ rfl⟩
theorem Rd.hp(h:Rd w v l)(j:∀b,jB v=Y b->w'.heap[b]?=w.heap[b]?):Rd w' v l:=by
 obtain⟨p,c,rfl,h⟩:=h;refine⟨p,c,rfl,?_⟩;obtain h|⟨b,o,rfl,h⟩:=h;{exact .L h};{exact .R ⟨b,o,rfl,λi m=>(gF (j b rfl) _).Z (h i m)⟩}
theorem bK2{X:G}(m:X=jA w (dO #[jK .u8 47,jK .u8 97] 5 (2,2+1))):Rd X (.T (U (Q w)) 2 2) [47,97]:=by
 rw[m];refine⟨_,_,rfl,.R ⟨U (Q w),0,rfl,λi j=>?_⟩⟩
 match i,j with
 |0,_=>(rw[l9,aA5];rfl)
 |1,_=>(rw[l9,aA5];rfl)
theorem dg2{o:Nat}(h:∃i,w.heap[b]?=dO i ty):∃i,(jS w (Ad b o) x).heap[b]?=dO i ty:=by
 obtain⟨i,h⟩:=h;have j:=vU h;refine⟨jI i o x,?_⟩;have m:w.heap[b]=dO i ty:=by simpa[bZ7 j]using h
 show(w.heap.modify b _)[b]?=_;rw[bZ7 (by simpa using j),Array.getElem_modify_self,m];rfl
abbrev qQ(w:G)(b:Nat)(v0 v1 v2 v3 v4 v5 v6 v7 v8 v9 va vb vc:dV):G:=jS (jS (jS (jS (jS (jS (jS (jS (jS (jS (jS (jS (jS w (Ad b 0) v0) (Ad b 1) v1) (Ad b 2) v2) (Ad b 3) v3) (Ad b 4) v4) (Ad b 5) v5) (Ad b 6) v6) (Ad b 7) v7) (Ad b 8) v8) (Ad b 9) v9) (Ad b 10) va) (Ad b 11) vb) (Ad b 12) vc
section
variable {w w0:World}{b c B:Nat}{v0 v1 v2 v3 v4 v5 v6 v7 v8 v9 va vb vc:Value}{ty:TypeId}
theorem qQ.off(h:c≠b):(qQ w b v0 v1 v2 v3 v4 v5 v6 v7 v8 v9 va vb vc).heap[c]?=w.heap[c]?:=by
 iterate 13 (refine(fN _ _ _ _ h).Z ?_)
 rfl
theorem qQ.uw(h:∃i,w.heap[b]?=dO i ty):∃i,(qQ w b v0 v1 v2 v3 v4 v5 v6 v7 v8 v9 va vb vc).heap[b]?=dO i ty:=by
 iterate 13 (refine dg2 ?_)
 exact h
theorem qQ.size:U (Q (qQ w b v0 v1 v2 v3 v4 v5 v6 v7 v8 v9 va vb vc))=U (Q w):=by simp[qQ]
theorem qQ.H(h:Below B w0 w)(i:B<=b):Below B w0 (qQ w b v0 v1 v2 v3 v4 v5 v6 v7 v8 v9 va vb vc):=by
 iterate 13 refine kV ?_ i _
 exact h
end
theorem FI.next{N g g1:G}{x q:Nat}{A' B B':Pt}{j:Nat}(hF:FI w N x q V u A A' i)(aN:x≠q)(l1:U (Q w)<=x/\x<U (Q N))(l2:U (Q w)<=q/\q<U (Q N))(b1:Bw u g1)(b2:Bw g1 g)(cp:zJ B.p0 (fD V j).l0.length B.c0/\zJ B.p1 (fD V j).l1.length B.c1)(rz:∀y,Fr [36,43] g1 y->RdZ B (fD V j) (fS V j).s y){M Bo:Nat}(hB:U (Q N)<=Bo)(o:vm Bo M g D1 D2 B'.p0 B'.c0 B'.p1 B'.c1 B'.p2 B'.c2 B'.p B'.c B'.r B'.d (fD V j) (fS V j).s){v0 v1 v2 v3 v4 v5 v6 v7 v8 v9 va vb vc x0 x1 x2 x3 x4 x5 Z X W S xa xb xc:dV}(ev:[v0,v1,v2,v3,v4,v5,v6,v7,v8,v9,va,vb,vc]=tL B (fD V j) (fS V j).s j)(ex:[x0,x1,x2,x3,x4,x5,Z,X,W,S,xa,xb,xc]=tL B' (fD V j) (fS V j).s j):FI w N x q V (qQ (qQ g x v0 v1 v2 v3 v4 v5 v6 v7 v8 v9 va vb vc) q x0 x1 x2 x3 x4 x5 Z X W S xa xb xc) B B' j:=by
 obtain⟨⟨f1,f2⟩,⟨f3,f4⟩,⟨f5,f6⟩,-,-,f9⟩:=hF;have R:=ah b1 b2;have t5:∀{b},b<U (Q N)->(∃m,u.heap[b]?=dO m 36)->∃m,g.heap[b]?=dO m 36:=λhb⟨m,h⟩=>⟨m,(R.block _ ae).Z h⟩;have k:∀c,c≠x->c≠q->(qQ (qQ g x v0 v1 v2 v3 v4 v5 v6 v7 v8 v9 va vb vc) q x0 x1 x2 x3 x4 x5 Z X W S xa xb xc).heap[c]?=g.heap[c]?:=λc E D=>(qQ.off D).Z (qQ.off E);have z:U (Q (qQ (qQ g x v0 v1 v2 v3 v4 v5 v6 v7 v8 v9 va vb vc) q x0 x1 x2 x3 x4 x5 Z X W S xa xb xc))=U (Q g):=qQ.size.Z qQ.size;have zu:=R.size;refine⟨⟨ae,λb E D h3=>(k b D h3).Z ((R.block b ae).Z (f2 b E D h3))⟩,⟨?_,?_⟩,⟨?_,?_⟩,⟨cp,rz _ ((Fr.H b2).Z ((ZA ae (λc E D=>k c E D) (t5 l1.2 f4) (t5 l2.2 f6)).sub ai))⟩,(o.W λb E D=>k b ae ae).si,qQ.H (qQ.H (ah f9 R) l1.1) l2.1⟩;{rw[<-ev];exact aO.eh (aO.Xg (f3.H ae R)) (qQ.off aN)};{rw[qQ.off aN];exact qQ.uw (t5 l1.2 f4)};{rw[<-ex];exact aO.Xg ((f5.H ae R).eh (qQ.off (El aN)))};{refine qQ.uw ?_;rw[qQ.off (El aN)];exact t5 l2.2 f6}
theorem ef2(i:aA V)(n:Nat):(fE V n).l0.length+(fE V n).l1.length+(fE V n).l2.length<=2^20:=by
 have h:=((SD.sg (Bh i n)).1.bytes (SD.sg (Bh i n)).2).1;show 0+J (iM n (fS V n).s.B)+0<=_;rw[Ie];omega
theorem ef3(i:aA V)(n:Nat):aA (fE V n).l1:=ai0 ((SD.sg (Bh i n)).1.bytes (SD.sg (Bh i n)).2).2
theorem eh0(i:J V<=40)(j:n<=1000):∃T:Of,T=JW (fE V n) (fS V n).s n (fQ V n)/\T.2.2.1=(n:Int)+1/\T.2.2.2.k=0/\0<J T.1.l0:=by
 refine⟨_,rfl,?_⟩;rw[fSr i j];refine⟨by show((n+1:Nat):Int)=_;omega,ZD V i n,?_⟩;show 0<J (sw n (fQ V n));rw[D7];omega
open Go.Deep
theorem bQ4(p q:OA)(c d n:Nat)(l:LI)(D:Le l n)(w:G)(u:RdU w (.S p n c) l)(s:RdU w (.S q n d) l)(hl:Mg n):dQ dG 28 #[.S p n c,.S q n d] w (Rb (jO dY) w):=by
 have y:=af λ(B:G)(r:Bw w B)=>aD (u.H r) (s.H r);clear u s;go_in;go_wp2
 go_loopw[5](λj wr=>∃k:Nat,k<=n/\j=.I k/\O (Bw w wr)) (λj _=>n-(jN (intOf j)))
 exact⟨0,cT _,rfl,aR _ _⟩;{
 obtain⟨k,R,rfl,i⟩:=hrel;by_cases M:k<n;{
 have E:=bR k n;obtain⟨x,m⟩:∃x,l[k]?=Y x:=⟨_,bN (aa D▸M)⟩;obtain⟨b,o,rfl,W⟩:=(aa y _ i).1.at m;obtain⟨X,N,rfl,V⟩:=(aa y _ i).2.at m;clear m;go_wp2
 go_quiet (fail)
 go_wp2;go_roundw;exact⟨k+1,ae,by go_num,af (below_drewN i)⟩;exact dh};{have E:=fG k n;go_wp2;go_ret;exact⟨rfl,i⟩}}
theorem vo.at(h:vo w (.S p n c) es)(s:es[i]?=e):∃b o j m,p=(Ad b o)/\I w (Ad b (o+i*2))=dI e.1/\I w (Ad b (o+i*2+1))=dS j (J e.2) m/\Rd w (.S j (J e.2) m) e.2:=by
 obtain⟨j,m,x,D⟩:=h;simp only[ti]at x;obtain⟨rfl,-,rfl⟩:=x;obtain rfl|⟨b,o,rfl,hc⟩:=D;{simp at s};{let⟨M,u,E,r⟩:=hc i e s;obtain⟨q,y,rfl,B⟩:=r;exact⟨b,o,q,y,rfl,M,E,q,y,rfl,B⟩}
theorem di3(p q:OA)(c d n:Nat)(l:List Ev)(en:Le l n)(w:G)(h1:vo w (.S p n c) l)(h2:vo w (.S q n d) l)(hl:Mg n)(D:O (∀e∈l,J e.2<=2^20)):dQ dG 27 #[.S p n c,.S q n d] w (Rb (jO dY) w):=by
 have HR:=af λ(w':G)(D:Bw w w')=>aD (h1.H D) (h2.H D);clear h1 h2;go_in;go_wp2
 go_loopw[5](λW wr=>∃k:Nat,k<=n/\W=.I k/\O (Bw w wr)) (λW _=>n-(jN (intOf W)))
 exact⟨0,cT _,rfl,aR _ _⟩;{
 obtain⟨k,hk,rfl,V⟩:=hrel;by_cases aL:k<n;{
 have cM:=bR k n;obtain⟨x,y⟩:∃x,l[k]?=Y x:=⟨_,bN (aa en▸aL)⟩;obtain⟨b,o,p1,m,rfl,c1,c2,r1⟩:=(aa HR _ V).1.at y;obtain⟨N,u,p2,j,rfl,d1,d2,Z⟩:=(aa HR _ V).2.at y;have UF:=aa D x (bq y);clear y
 go_wp21
 let⟨X,M⟩:=aF wr.drew;have s:=mW M;have SA:=af (λ(v:G)(B:Bw wr v)=>(aD (aj c1 B) (aD (aj c2 B) (aD (aj d1 B) (aj d2 B))):I v (Ad b (o+k*2))=dI x.1/\I v (Ad b (o+k*2+1))=dS p1 (J x.2) m/\I v (Ad N (u+k*2))=dI x.1/\I v (Ad N (u+k*2+1))=dS p2 (J x.2) j));have Wc:=br (r1.H s) (Z.H s);have Hy:=af s;have Hx:=af (λ(vs:iA)(w:G)=>show(callFunc 10 vs).run dG w=.ok (.enter 10 vs) w by kernel_rfl);refine fK (λv=>I v (Ad b (o+k*2))=dI x.1/\I v (Ad b (o+k*2+1))=dS p1 (J x.2) m/\I v (Ad N (u+k*2))=dI x.1/\I v (Ad N (u+k*2+1))=dS p2 (J x.2) j) (M▸aa SA X s) λhS=>?_;rw[<-M]at hS⊢;clear M s c1 c2 d1 d2 r1 Z;refine jh 0 1 2 3 4 5 6 7 hS ?_;refine jh 8 9 10 11 12 13 14 15 hS ?_;refine iL 16 17 18 19 hS ?_;refine gh 20 21 hS ?_;refine ft 22 λKK hK=>?_;refine dc0 aP aP aP aP (λ_=>aa Hx _ _) (ai6 _ _ x.2 x.2 X Wc.1 Wc.2 ae ae) ?_;rintro r v1⟨rfl,ao⟩;refine⟨_,rfl,?_⟩;rw[Df rfl];have jy:=af (ah Hy ao);refine bQ hK (by exact SA v1 jy) λhS=>?_;clear hK KK ao;refine gh 23 24 hS ?_;refine ga ?_;clear hS;go_wp2;go_roundw;exact⟨k+1,ae,by go_num,af (ah V jy)⟩;exact dh};{have cM:=fG k n;go_wp2;go_ret;exact⟨rfl,V⟩}}
theorem mX.at3(h:mX w (.S p n c) ss){s:aC}(x:ss[i]?=s):∃b o j m,p=(Ad b o)/\I w (Ad b (o+i*3))=dU s.1/\I w (Ad b (o+i*3+1))=dI s.2.1/\I w (Ad b (o+i*3+2))=dS j (J s.2.2) m/\vo w (.S j (J s.2.2) m) s.2.2:=by
 obtain⟨j,m,e,D⟩:=h;obtain⟨rfl,-,rfl⟩:=mg e;obtain rfl|⟨b,o,rfl,hc⟩:=D;{simp at x};{let⟨N,M,u,E,r⟩:=hc i s x;obtain⟨q,y,rfl,B⟩:=r;exact⟨b,o,q,y,rfl,N,M,E,q,y,rfl,B⟩}
theorem iy.own(h:iy w (.S p n c) ns)(j:ns[i]?=nd):∃b o P V H iU,p=(Ad b o)/\Hl w b (o+i*8) nd P V H iU:=by
 obtain⟨b,o,rfl,hc⟩:=h.at (aM (bu.1 j).1);let⟨P,V,H,iU,m⟩:=hc i nd j;exact⟨b,o,P,V,H,iU,rfl,m⟩
theorem di2(D:SD)(p p':OA)(c c' n:Nat)(q q':OA)(d d' m:Nat)(en:Le D.E n)(em:Le D.N m)(w:G)(h1:O (mX w (.S p n c) D.E))(h2:O (iy w (.S q m d) D.N))(k1:O (mX w (.S p' n c') D.E))(k2:O (iy w (.S q' m d') D.N))(hn:Mg n)(hm:Mg m)(gy:O (Bs D.E))(cW:O (Bn D.N)):dQ dG 9 #[bS D.e D.g D.x D.t (.S p n c) (.S q m d),bS D.e D.g D.x D.t (.S p' n c') (.S q' m d')] w (Rb (jO dY) w):=by
 let⟨W0,bG,b0,z0,C0⟩:=eC1 w D p n c q m d;let⟨W1,fo,b1,z1,C1⟩:=sQ W0 (.U D.e) (.U D.g) (.U D.x) (.I D.t) (.S p' n c') (.S q' m d');rw[z0]at C1;have bW:=ah b0 b1;have HW:=af (λ(v:G)(W:Bw W1 v)=>aD ((C0.H b1).H W) (aD (C1.H W) (aD (h1.H (ah bW W)) (aD (k1.H (ah bW W)) (aD (h2.H (ah bW W)) (aD (k2.H (ah bW W)) (ah bW W)))))));let⟨q0,q1,q2,q3,q4,q5,qf⟩:=(C0.H b1).cells;let⟨u0,u1,u2,u3,u4,u5,uf⟩:=C1.cells;clear C0 C1 b0 b1 bW z0 z1 h1 h2 k1 k2;rw[fo,bG]at q0 q1 q2 q3 q4 q5 u0 u1 u2 u3 u4 u5;go_in;go_wp2;rw[<-bG,<-fo];clear bG fo q0 q1 q2 q3 q4 q5 qf u0 u1 u2 u3 u4 u5 uf
 go_loopw[5](λiv wr=>∃k:Nat,k<=n/\iv=.I k/\O (Bw W1 wr)) (λiv _=>n-(jN (intOf iv)))
 exact⟨0,cT _,rfl,aR _ _⟩;{
 obtain⟨k,hk,rfl,aB⟩:=hrel;let⟨q0,q1,q2,q3,q4,q5,qf⟩:=(aa HW wr aB).1.cells;let⟨u0,u1,u2,u3,u4,u5,uf⟩:=(aa HW wr aB).2.1.cells;by_cases aL:k<n;{
 have cM:=bR k n;obtain⟨s,hs⟩:∃s,D.E[k]?=Y s:=⟨_,bN (aa en▸aL)⟩;let⟨nq,yb⟩:=bL (J s.2.2);let⟨l1,l2⟩:=aa gy s (bq hs);rw[aa yb]at l1;obtain⟨gs,os,pq,cq,rfl,a0,a1,a2,re⟩:=mX.at3 (aa HW wr aB).2.2.1 hs;obtain⟨gt,ot,rq,dq,rfl,e0,e1,e2,rf⟩:=mX.at3 (aa HW wr aB).2.2.2.1 hs;rw[aa yb]at a2 e2 re rf;obtain⟨Y1,AV,b1,z1,K1,-⟩:=bM wr #[.U s.1,.I s.2.1,.S pq nq cq] 65;obtain⟨Y2,Y5,b2,z2,K2,-⟩:=bM Y1 #[.U s.1,.I s.2.1,.S rq nq dq] 65;rw[z1]at K2 z2;have bY:=ah b1 b2;have j:=dy (re.H bY) (rf.H bY) (ah (aa aB) bY);have H9:=af (λe he=>(l2 e he).2);have e0:=aj e0 b1;have e1:=aj e1 b1;have e2:=aj e2 b1;have Wx:=aj u4 b1;rw[AV]at e0 e1 e2 Wx;clear re rf K1 K2 b1 b2 bY z1 z2 hs l2
 go_wp21
 rw[<-AV,<-Y5];clear AV Y5 a0 a1 a2 e0 e1 e2 Wx q0 q1 q2 q3 q4 q5 qf u0 u1 u2 u3 u4 u5 uf Y1;refine cK (di3 pq rq cq dq nq s.2.2 yb Y2 j.1 j.2.1 ae H9) λM y=>?_;have B3:=af (ah j.2.2 y);clear y;go_wp2;go_roundw;exact⟨k+1,ae,by go_num,B3⟩;exact dh};{
 have cM:=fG k n;go_wp2;clear q0 q1 q2 q3 q4 q5 qf u0 u1 u2 u3 u4 u5 uf
 go_loopw[8](λiv wr=>∃k:Nat,k<=m/\iv=.I k/\O (Bw W1 wr)) (λiv _=>m-(jN (intOf iv)))
 exact⟨0,cT _,rfl,aB⟩;{
 clear aB aL cM hk;obtain⟨k,hk,rfl,aB⟩:=hrel;let⟨q0,q1,q2,q3,q4,q5,qf⟩:=(aa HW wr aB).1.cells;let⟨u0,u1,u2,u3,u4,u5,uf⟩:=(aa HW wr aB).2.1.cells;by_cases aL:k<m;{
 have cM:=bR k m;obtain⟨o,aG⟩:∃o,D.N[k]?=Y o:=⟨_,bN (aa em▸aL)⟩;let⟨nh,enh⟩:=bL (J o.y);let⟨nu,Jl⟩:=bL (J o.X);obtain⟨-,l1,l2,l3,l4⟩:=aa cW o (bq aG);rw[aa enh]at l3;rw[aa Jl]at l4;obtain⟨gn,on,P',V',H',U',rfl,NA⟩:=iy.own (aa HW wr aB).2.2.2.2.1 aG;obtain⟨pP,cP,rfl⟩:∃p c,P'=.S p (J o.A) c:=by obtain⟨p,c,e,-⟩:=NA.r0;exact⟨p,c,e⟩
 obtain⟨pV,cV,rfl⟩:∃p c,V'=.S p (J o.V) c:=by obtain⟨p,c,e,-⟩:=NA.r1;exact⟨p,c,e⟩
 obtain⟨pH,cH,rfl⟩:∃p c,H'=.S p nh c:=by obtain⟨p,c,e,-⟩:=NA.r4;rw[aa enh]at e;exact⟨p,c,e⟩
 obtain⟨pU,cU,rfl⟩:∃p c,U'=.S p nu c:=by obtain⟨p,c,e,-⟩:=NA.r7;rw[aa Jl]at e;exact⟨p,c,e⟩
 obtain⟨gm,om,P',V',H',U',rfl,NB⟩:=iy.own (aa HW wr aB).2.2.2.2.2.1 aG;obtain⟨rP,dP,rfl⟩:∃p c,P'=.S p (J o.A) c:=by obtain⟨p,c,e,-⟩:=NB.r0;exact⟨p,c,e⟩
 obtain⟨rV,dV,rfl⟩:∃p c,V'=.S p (J o.V) c:=by obtain⟨p,c,e,-⟩:=NB.r1;exact⟨p,c,e⟩
 obtain⟨rH,dH,rfl⟩:∃p c,H'=.S p nh c:=by obtain⟨p,c,e,-⟩:=NB.r4;rw[aa enh]at e;exact⟨p,c,e⟩
 obtain⟨rU,dU,rfl⟩:∃p c,U'=.S p nu c:=by obtain⟨p,c,e,-⟩:=NB.r7;rw[aa Jl]at e;exact⟨p,c,e⟩
 obtain⟨Y1,AV,b1,z1,K1,-⟩:=bM wr #[.S pP (J o.A) cP,.S pV (J o.V) cV,.U o.D,.I o.M,.S pH nh cH,.U o.P,.U o.F,.S pU nu cU] 69;obtain⟨Y2,Y5,b2,z2,K2,-⟩:=bM Y1 #[.S rP (J o.A) dP,.S rV (J o.V) dV,.U o.D,.I o.M,.S rH nh dH,.U o.P,.U o.F,.S rU nu dU] 69;rw[z1]at K2 z2;have bY:=ah b1 b2;have j:=af (λ(v:G)(W:Bw Y2 v)=>aD ((K1.H ae b2).H ae W) (aD (K2.H ae W) (aD (NA.r0.H (ah bY W)) (aD (NB.r0.H (ah bY W)) (aD (NA.r1.H (ah bY W)) (aD (NB.r1.H (ah bY W)) (aD (NA.r4.H (ah bY W)) (aD (NB.r4.H (ah bY W)) (aD (NA.r7.H (ah bY W)) (aD (NB.r7.H (ah bY W)) (ah (aa aB) (ah bY W))))))))))));obtain⟨a0,a1,a2,a3,a4,a5,a6,a7⟩:_/\_/\_/\_/\_/\_/\_/\_:=⟨NA.c0,NA.c1,NA.c2,NA.c3,NA.c4,NA.c5,NA.c6,NA.c7⟩;obtain⟨e0,e1,e2,e3,e4,e5,e6,e7⟩:_/\_/\_/\_/\_/\_/\_/\_:=⟨aj NB.c0 b1,aj NB.c1 b1,aj NB.c2 b1,aj NB.c3 b1,aj NB.c4 b1,aj NB.c5 b1,aj NB.c6 b1,aj NB.c7 b1⟩;have Wx:=aj u5 b1;rw[AV]at e0 e1 e2 e3 e4 e5 e6 e7 Wx;clear NA NB K1 K2 b1 b2 bY z1 z2 aG
 go_wp21
 rw[<-AV,<-Y5];clear AV Y5 a0 a1 a2 a3 a4 a5 a6 a7 e0 e1 e2 e3 e4 e5 e6 e7 Wx q0 q1 q2 q3 q4 q5 qf u0 u1 u2 u3 u4 u5 uf Y1;refine cK (ai6 _ _ o.A o.A Y2 (aa j Y2 aH).2.2.1 (aa j Y2 aH).2.2.2.1 ae ae) λM y=>?_;rw[Df rfl];have B3:=af y;obtain⟨f0,f1,f2,f3,f4,f5,f6,f7⟩:_/\_/\_/\_/\_/\_/\_/\_:=⟨(aa j M y).1.1 0 _ rfl,(aa j M y).1.1 1 _ rfl,(aa j M y).1.1 2 _ rfl,(aa j M y).1.1 3 _ rfl,(aa j M y).1.1 4 _ rfl,(aa j M y).1.1 5 _ rfl,(aa j M y).1.1 6 _ rfl,(aa j M y).1.1 7 _ rfl⟩;obtain⟨j0,j1,j2,j3,j4,j5,j6,j7⟩:_/\_/\_/\_/\_/\_/\_/\_:=⟨(aa j M y).2.1.1 0 _ rfl,(aa j M y).2.1.1 1 _ rfl,(aa j M y).2.1.1 2 _ rfl,(aa j M y).2.1.1 3 _ rfl,(aa j M y).2.1.1 4 _ rfl,(aa j M y).2.1.1 5 _ rfl,(aa j M y).2.1.1 6 _ rfl,(aa j M y).2.1.1 7 _ rfl⟩;clear y
 go_wp21
 clear f0 f1 f2 f3 f4 f5 f6 f7 j0 j1 j2 j3 j4 j5 j6 j7;refine cK (ai6 _ _ o.V o.V M (aa j M B3).2.2.2.2.1 (aa j M B3).2.2.2.2.2.1 ae ae) λV cG=>?_;rw[Df rfl];have Z:=af (ah B3 cG);obtain⟨f0,f1,f2,f3,f4,f5,f6,f7⟩:_/\_/\_/\_/\_/\_/\_/\_:=⟨(aa j V Z).1.1 0 _ rfl,(aa j V Z).1.1 1 _ rfl,(aa j V Z).1.1 2 _ rfl,(aa j V Z).1.1 3 _ rfl,(aa j V Z).1.1 4 _ rfl,(aa j V Z).1.1 5 _ rfl,(aa j V Z).1.1 6 _ rfl,(aa j V Z).1.1 7 _ rfl⟩;obtain⟨j0,j1,j2,j3,j4,j5,j6,j7⟩:_/\_/\_/\_/\_/\_/\_/\_:=⟨(aa j V Z).2.1.1 0 _ rfl,(aa j V Z).2.1.1 1 _ rfl,(aa j V Z).2.1.1 2 _ rfl,(aa j V Z).2.1.1 3 _ rfl,(aa j V Z).2.1.1 4 _ rfl,(aa j V Z).2.1.1 5 _ rfl,(aa j V Z).2.1.1 6 _ rfl,(aa j V Z).2.1.1 7 _ rfl⟩;clear cG
 go_wp21
 clear f0 f1 f2 f3 f4 f5 f6 f7 j0 j1 j2 j3 j4 j5 j6 j7;refine cK (bQ4 pH rH cH dH nh o.y enh V (aa j V Z).2.2.2.2.2.2.1 (aa j V Z).2.2.2.2.2.2.2.1 ae) λN cR=>?_;have X:=af (ah Z cR);obtain⟨f0,f1,f2,f3,f4,f5,f6,f7⟩:_/\_/\_/\_/\_/\_/\_/\_:=⟨(aa j N X).1.1 0 _ rfl,(aa j N X).1.1 1 _ rfl,(aa j N X).1.1 2 _ rfl,(aa j N X).1.1 3 _ rfl,(aa j N X).1.1 4 _ rfl,(aa j N X).1.1 5 _ rfl,(aa j N X).1.1 6 _ rfl,(aa j N X).1.1 7 _ rfl⟩;obtain⟨j0,j1,j2,j3,j4,j5,j6,j7⟩:_/\_/\_/\_/\_/\_/\_/\_:=⟨(aa j N X).2.1.1 0 _ rfl,(aa j N X).2.1.1 1 _ rfl,(aa j N X).2.1.1 2 _ rfl,(aa j N X).2.1.1 3 _ rfl,(aa j N X).2.1.1 4 _ rfl,(aa j N X).2.1.1 5 _ rfl,(aa j N X).2.1.1 6 _ rfl,(aa j N X).2.1.1 7 _ rfl⟩;clear cR
 go_wp21
 clear f0 f1 f2 f3 f4 f5 f6 f7 j0 j1 j2 j3 j4 j5 j6 j7;refine cK (bQ4 pU rU cU dU nu o.X Jl N (aa j N X).2.2.2.2.2.2.2.2.1 (aa j N X).2.2.2.2.2.2.2.2.2.1 ae) λy6 gj=>?_;have B6:=af (aa j y6 (ah X gj)).2.2.2.2.2.2.2.2.2.2;clear gj;go_wp2;go_roundw;exact⟨k+1,ae,by go_num,B6⟩;exact dh};{have cM:=fG k m;go_wp2;go_ret;exact⟨rfl,(aa HW wr aB).2.2.2.2.2.2⟩}}}}
end Go.Proofs.YtpkakgkipopiaaaGreatDoor
