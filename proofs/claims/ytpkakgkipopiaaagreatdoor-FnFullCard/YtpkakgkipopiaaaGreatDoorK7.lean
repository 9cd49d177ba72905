import Derived.Test.YtpkakgkipopiaaaGreatDoorK6
import Derived.Test.YtpkakgkipopiaaaGreatDoorK3
open Array renaming size->U
open Bool renaming false->dF,true->dY
open Decidable renaming decide->dD
open Go renaming Calls->dQ,Value->dV,World->G
open Go.Ending renaming returned->dR
open Go.IntKind renaming u64->jU,i64->jV,wrap->jY
open Go.Obj renaming cells->dO
open Go.Proofs.Tryz renaming prog->dG
open Go.RowKit renaming Hid->O
open Go.Value renaming ownBlock->jB,string->jJ,bool->jO,agg->jP,I->dI,T->dK,pointer->dP,S->dS,tuple->dT,U->dU
open Go.World renaming alloc->jA,frozen?->jF,grownBy->jG,heap->Q,ownsMap->jM,setCell->jS,cell?->I
open Int renaming toNat->jN
open List renaming drop->jD,flatten->jL,take->jT,eraseIdx->jX,zipWith->jZ,length->J
open Option renaming none->dN,some->Y
namespace Go.Proofs.YtpkakgkipopiaaaGreatDoor
set_option maxHeartbeats 6400000
set_option linter.all false
set_option maxRecDepth 100000
open Go.ChangeShapes Go.WideShapes Go.ChangeAt Go.RowKit Go.Maps Go.Proofs.Tryz
structure VP(w:G)(bs:Nat)(ss:List aC)(SB:iN):Prop where
 len:J SB=J ss
 own:∃D n,jM w dG 24 iB bs n D/\n<=2^20/\qC D (jZ (λ(s:aC)g=>(Lit.U s.1,g)) ss SB)
 blk:∀(i:Nat)(s:aC)(g:Nat),ss[i]?=s->SB[i]?=Y g->∃u,w.heap[g]?=dO #[.U s.1,.I s.2.1,u] 65/\ur w u s.2.2
structure VU(w:G)(bn:Nat)(ns:List au)(NB:iN):Prop where
 len:J NB=J ns
 own:∃D n,jM w dG 9 iB bn n D/\n<=2^20/\qC D (jZ (λ(nd:au)g=>(dr nd.A,g)) ns NB)
 blk:∀(i:Nat)(nd:au)(g:Nat),ns[i]?=nd->NB[i]?=Y g->∃V h u,KN w g h u V nd
variable {w w' w1 w2 w0:G}{V v u v' Pv:dV}{nd:au}{bs bn b i g n sb B z gb hh uu:Nat}{ss ss':List aC}{SB L':iN}{ns:List au}{e x t iI:Int}{D d:DataW Unit}{ids P s:LI}{ks:List (List UInt8)}{row:Option Nat}{k ty:TypeId}{vs Qs:List dV}{c:iA}{l:List Lf}{es q' q:List Ev}{L:List Lit}{ls cs:List (List dV)}{p:OA}{ev:Ev}{o:Oper}{a:Act}{ops:iQ}{rest:List Oper}
theorem KN.H{g h u:Nat}(k:KN w g h u V nd)(i:Bw w w'):KN w' g h u V nd:=by
 obtain⟨j,s,⟨y,r,o⟩,⟨x,q,m⟩⟩:=k;exact⟨(i.block g (gD j)).Z j,s.H i,⟨y,r.kept (mn i dN) ai,o⟩,⟨x,q.kept (mn i dN) ai,m⟩⟩
theorem VP.H(h:VP w bs ss SB)(j:Bw w w'):VP w' bs ss SB:=by
 obtain⟨M,⟨D,n,o,y,m⟩,E⟩:=h;refine⟨M,⟨D,n,o.kept (mn j dN) ai,y,m⟩,λi s g x B=>?_⟩;let⟨u,q,r⟩:=E i s g x B;exact⟨u,(j.block g (gD q)).Z q,r.H j⟩
theorem VU.H{NB:iN}(h:VU w bn ns NB)(j:Bw w w'):VU w' bn ns NB:=by
 obtain⟨E,⟨D,n,o,x,m⟩,B⟩:=h;refine⟨E,⟨D,n,o.kept (mn j dN) ai,x,m⟩,λi s g r y=>?_⟩;let⟨V,h,u,q⟩:=B i s g r y;exact⟨V,h,u,q.H j⟩
structure VO(w:G)(b bs bn:Nat)(e g x t:Int)(ss:List aC)(ns:List au)(SB NB:iN):Prop where
 hd:w.heap[b]?=dO #[.U e,.U g,.U x,.I t,.map bs,.map bn] 135
 Af:VP w bs ss SB
 kc:VU w bn ns NB
theorem VO.H{g:Int}{SB NB:iN}(h:VO w b bs bn e g x t ss ns SB NB)(i:Bw w w'):VO w' b bs bn e g x t ss ns SB NB:=
 ⟨(i.block b (gD h.hd)).Z h.hd,h.Af.H i,h.kc.H i⟩
theorem ce5(h:VP w bs ss SB){s:aC}(j:ss[i]?=s):∃g,SB[i]?=Y g/\(Lit.U s.1,g)∈jZ (λ(s:aC)g=>(Lit.U s.1,g)) ss SB:=by
 have o:=(bu.1 j).1;obtain⟨g,m⟩:∃g,SB[i]?=Y g:=⟨_,bN (h.len▸o)⟩;refine⟨g,m,bq (i:=i) ?_⟩;rw[qV,j,m]
theorem ce6{NB:iN}(h:VU w bn ns NB)(j:ns[i]?=nd):∃g,NB[i]?=Y g/\(dr nd.A,g)∈jZ (λ(nd:au)g=>(dr nd.A,g)) ns NB:=by
 have o:=(bu.1 j).1;obtain⟨g,m⟩:∃g,NB[i]?=Y g:=⟨_,bN (h.len▸o)⟩;refine⟨g,m,bq (i:=i) ?_⟩;rw[qV,j,m]
theorem bZ2{α β γ:Type}{f:α->β->γ}{l:List α}{m:List β}{z:γ}(h:z∈jZ f l m):∃a∈l,∃b,z=f a b:=by
 induction l generalizing m with
 |nil=>simp at h
 | cons a l ih=>
  cases m with
  |nil=>simp at h
  |cons b m=>
   simp only[cb1,gv]at h;obtain rfl|h:=h;{exact⟨a,ai,b,rfl⟩};{let⟨q,i,j,e⟩:=ih h;exact⟨q,by simp[i],j,e⟩}
theorem dh1(h:VP w bs ss SB)(u:ss.Pairwise (λs q=>s.1<q.1))(m:qC D (jZ (λ(s:aC)g=>(Lit.U s.1,g)) ss SB))(o:iZ.L6 D ids):ids=ss.map (·.1):=by
 refine aB9 o.lt (BO.2 u) λx=>?_;rw[o.mem x,m.hs];constructor;{rintro⟨p,y,e⟩;obtain⟨s,j,g,rfl⟩:=bZ2 y;simp only[Mq,Iq]at e;exact fg.2 ⟨s,j,e⟩};{intro r;obtain⟨s,j,rfl⟩:=fg.1 r;let⟨i,B,e⟩:=Mv j;let⟨g,E,hm⟩:=ce5 h (i:=i) (s:=s) (by rw[bN B,e]);exact⟨_,hm,rfl⟩}
def jv(l:LI):List UInt8:=l.map λn=>UInt8.ofNat (jN n)
theorem bU0{α:Type}[LT α](i:∀a:α,¬a<a)(q:∀a b c:α,a<b->b<c->a<c):∀{l m:List α},l.Pairwise (·<·)->m.Pairwise (·<·)->(∀x,x∈l↔x∈m)->l=m
 |[],[],_,_,_=>rfl
 |[],b::m,_,_,h=>absurd ((h b).2 ai) ai
 |a::l,[],_,_,h=>absurd ((h a).1 ai) ai
 |a::l,b::m,h1,h2,h=>by
  rw[Km]at h1 h2;have r:a=b:=by obtain e|e:=gv.1 ((h a).1 ai);{exact e};{obtain o|o:=gv.1 ((h b).2 ai);{exact o.C};{exact absurd (q _ _ _ (h2.1 a e) (h1.1 b o)) (i _)}}
  subst r;rw[bU0 i q h1.2 h2.2 (λx=>?_)];constructor;{intro j;obtain e|e:=gv.1 ((h x).1 (by simp[j]));{subst e;exact absurd (h1.1 _ j) (i _)};{exact e}};{intro j;obtain e|e:=gv.1 ((h x).2 (by simp[j]));{subst e;exact absurd (h2.1 _ j) (i _)};{exact e}}
theorem aQ5{NB:iN}(h:VU w bn ns NB)(r:(ns.map λnd=>jv nd.A).Pairwise (·<·))(m:qC D (jZ (λ(nd:au)g=>(dr nd.A,g)) ns NB))(o:T.L6 D ks):ks=ns.map λnd=>jv nd.A:=by
 refine bU0 (λa=>List.lt_irrefl a) (λa b c=>List.lt_trans) o.lt r λx=>?_;rw[o.mem x,m.hs];constructor;{rintro⟨p,u,e⟩;obtain⟨s,j,g,rfl⟩:=bZ2 u;simp only[dr,aS5]at e;exact fg.2 ⟨s,j,e⟩};{intro q;obtain⟨s,j,rfl⟩:=fg.1 q;let⟨i,y,e⟩:=Mv j;let⟨g,B,hm⟩:=ce6 h (i:=i) (nd:=s) (by rw[bN y,e]);exact⟨_,hm,rfl⟩}
theorem bH3:(zeroValue 136).run dG w=.ok (dP dN) w:=by kernel_rfl
theorem cb9{l:List (Lit×Nat)}(o:jM w dG 24 iB bs n D)(m:qC D l)(q:(Lit.U iI,g)∈l)(r:0<=iI/\iI<2^64):(Instr.lookup 132 (.map bs) (.U iI) dF).run dG w=.ok (Pz g) w:=by
 let⟨v,s,j,i⟩:=o.lookup mT underlying132 (bH3 (w:=w)) (zd:=.nil) (zp:=[]) rfl (key:=.U iI) (keyOf_int_mk underlying24 (DZ r));rw[m.at' _ q]at i;obtain rfl:=Uc i;exact j
theorem cc2{l:List (Lit×Nat)}(o:jM w dG 9 iB bn n D)(m:qC D l)(q:(dr P,g)∈l)(s:Mg (J P)):(Instr.lookup 133 (.map bn) (jJ (bf P)) dF).run dG w=.ok (Pz g) w:=by
 let⟨v,r,j,i⟩:=o.lookup sG underlying133 (Tn w) (zd:=.nil) (zp:=[]) rfl (key:=jJ (bf P)) (kl:=dr P) (by rw[WideMaps.keyOf_string_mk underlying9 (by rw[DM];unfold maxLen;omega),VH])
 rw[m.at' _ q]at i;obtain rfl:=Uc i;exact j
theorem No(h:jG w w1 sb)(k:jG w1 w2 row)(hr:∀b,row=Y b->U (Q w)<=b\/b=sb):jG w w2 sb:=
 ⟨k.os.Z h.os,k.tape.Z h.tape,k.output.Z h.output,fx h.size k.size,λi j o=>(k.block i (mj j h.size) (λe=>by obtain m|m:=hr i e.C;{omega};{exact o (by rw[m])})).Z (h.block i j o)⟩
theorem iF(w:G)(a:Addr)(v:dV):jG w (w.setCell a v) a.block:=
 ⟨rfl,rfl,rfl,ai,λk _ i=>fN _ _ _ _ (λe=>i (by rw[e]))⟩
theorem aB4(h:Bw w w1)(k:jG w1 w2 sb)(i:U (Q w)<=sb):Bw w w2:=h.grown k h.size (λb e=>by cases e;exact i)
theorem bV4{R:dV->Option (DataW Unit×List MemPlace)}(h:jM w dG k R b n D)(j:w'.heap[b]?=w.heap[b]?):jM w' dG k R b n D:=by
 obtain⟨es,i,o,m⟩:=h;exact⟨es,i,j.Z o,m⟩
theorem aO.grown(h:aO w b vs)(r:b<U (Q w))(q:jG w w' row)(s:Y b≠row):aO w' b vs:=by
 have j:=q.block b r s;refine⟨λi v m=>(gF j _).Z (h.1 i v m),λo=>?_⟩;have:jF w' (Ad b o)=jF w (Ad b o):=Dj j;rw[this];exact h.2 o
theorem eB6(l:LI):(⟨(jv l).toArray⟩:ByteArray)=bf l:=by
 have h:(bf l).data=(jv l).toArray:=by rw[<-ao0];simpa[jv]using RM (l:=l)
 cases hb:bf l with
 |mk d=>rw[hb]at h;simp only at h;rw[h]
theorem aO4(h:T.LK B w v (ns.map λnd=>jv nd.A)):∃p c,v=.S p (J ns) c/\(ns=[]\/∃g,p=(Ad g 0)/\B<=g/\g<U (Q w)/\∀(j:Nat)(nd:au),ns[j]?=Y nd->I w (Ad g (0+j))=Y (jJ (bf nd.A))):=by
 obtain⟨rfl,u⟩|⟨g,i,rfl,r,q,s⟩:=h;{
 have:ns=[]:=by simpa using u
 subst this;exact⟨dN,0,rfl,.L rfl⟩};{
 refine⟨Y (Ad g 0),i,by rw[iH],.R ⟨g,rfl,r,q,λj nd o=>?_⟩⟩;have m:=(bu.1 o).1;have:=(s j (by simpa using m)).1;rw[this,<-eB6];have e:(ns.map λnd=>jv nd.A).toArray[j]! = jv nd.A:=by have x:ns[j]=nd:=(bu.1 o).2;simp[m,x]
 rw[e]}
theorem mV.cells(h:mV w nd c.toList l):∃x s r q o m j i,c=#[x,s,r,q,o,m,j,i]/\∀u∈[x,s,r,q,o,m,j,i],u.oneCell':=by
 obtain⟨N,c0,M,c1,E,Z,D,X,W,V,S,R,-,B,-⟩:=h;refine⟨_,_,_,_,_,_,_,_,by rw[<-ao0,B],λu y=>?_⟩;simp only[gv,Up,Uw]at y;obtain rfl|rfl|rfl|rfl|rfl|rfl|rfl|rfl:=y<;>rfl
variable {g:Int}
theorem ah6{SB NB:iN}(h:VO w b bs bn e g x t ss ns SB NB)(hs:O (ss.Pairwise (λs s'=>s.1<s'.1)))(hn:O ((ns.map λnd=>jv nd.A).Pairwise (·<·)))(ls:Mg (J ss))(ln:Mg (J ns))(UQ:O (∀s∈ss,(0<=s.1/\s.1<2^64)/\J s.2.2<=2^20/\∀e∈s.2.2,J e.2<=2^20))(Yu:O (∀nd∈ns,aA nd.A/\J nd.A<=2^20/\J nd.V<=2^20/\J nd.y<=2^20/\J nd.X<=2^20/\nd.y.Pairwise (·<·)/\nd.X.Pairwise (·<·))):dQ dG 46 #[Pz b] w λr w'=>∃p c q d A1 A2,r=dR (bS e g x t (.S p (J ss) c) (.S q (J ns) d))/\mJ w' (.S p (J ss) c) ss/\iy w' (.S q (J ns) d) ns/\LvS w' (.S p (J ss) c) ss A1/\LvN w' (.S q (J ns) d) ns A2/\je (U (Q w)) w' (A1++A2)/\Bw w w':=by
 have k0:I w (Ad b 0)=dU e:=cX h.hd 0;have k1:I w (Ad b 1)=dU g:=cX h.hd 1;have k2:I w (Ad b 2)=dU x:=cX h.hd 2;have k3:I w (Ad b 3)=dI t:=cX h.hd 3;let⟨is,QD,WO,WN,WM⟩:=og Tryz.infoSes;let⟨io,hio,oz0,oz1,oz2⟩:=og Tryz.infoNod;let⟨W0,bG⟩:=aF (jA w (dO #[.U 0,.U 0,.U 0,.I 0,aq,aq] 34));have b0:=ij bG;have z0:U (Q W0)=U (Q w)+1:=by rw[bG];simp
 have r0:aO W0 (U (Q w)) [.U 0,.U 0,.U 0,.I 0,aq,aq]:=by rw[bG];exact aO.alloc w #[.U 0,.U 0,.U 0,.I 0,aq,aq] _
 go_in
 go_wp21
 rw[<-bG];let⟨v0,fU⟩:=aF W0.drew;have bv:Bw w v0:=fU▸b0.drew;have zv:U (Q v0)=U (Q w)+1:=fU▸z0;have R0:O (aO v0 (U (Q w)) [.U 0,.U 0,.U 0,.I 0,aq,aq]):=fU▸r0;have S0:=jq (aj k0 bv) (aj k1 bv) (aj k2 bv) (aj k3 bv);have H0:=af (h.H bv);have ZV:=af zv;refine fK (λw'=>I w' (Ad b 0)=dU e/\I w' (Ad b 1)=dU g/\I w' (Ad b 2)=dU x/\I w' (Ad b 3)=dI t) (fU▸aa S0) λhS=>?_;rw[<-fU]at hS⊢;clear fU bG b0 z0 r0 k0 k1 k2 k3 zv;refine jh 0 1 2 3 4 5 6 7 hS ?_;refine jh 8 9 10 11 12 13 14 15 hS ?_;refine tn 16 hS ?_;refine ft 17 λM hK=>?_;go_simp;let⟨v1,Gg⟩:=aF (jA v0 (dO #[.U 0,.U 0,.U 0,.I 0,aq,aq] 34));have V:=ij Gg;have c1:aO v1 (U (Q v0)) [.U 0,.U 0,.U 0,.I 0,aq,aq]:=by rw[Gg];exact aO.alloc v0 #[.U 0,.U 0,.U 0,.I 0,aq,aq] _
 have z1:U (Q v1)=U (Q v0)+1:=by rw[Gg];simp
 rw[<-Gg];let⟨B,AD⟩:=aF (U (Q v0));rw[<-AD]at c1⊢;have S1:=jq (aj S0.1 V) (aj S0.2.1 V) (aj S0.2.2.1 V) (aj S0.2.2.2 V);have H1:=af (H0.H V);have R1:=af (R0.H (aM (aa ZV)) V);have b1:=ah bv V;have HZ:=dy (aa ZV) AD z1;refine bQ hK (by exact S1) λhS=>?_;let⟨rc0,rc1,rc2,rc3,rc4,rc5⟩:=Bx c1.1;have rf:=c1.2;clear hK M Gg V AD z1;refine ft 18 λM hK=>?_;go_simp;let⟨Z,hZ⟩:=aF (jS (jS (jS (jS (jS (jS v1 (Ad B 0) (.U e)) (Ad B 1) (.U g)) (Ad B 2) (.U x)) (Ad B 3) (.I t)) (Ad B 4) aq) (Ad B 5) aq);let⟨zz0,zz1,zz2⟩:=aa HZ;have CZ:aO Z B [.U e,.U g,.U x,.I t,aq,aq]:=by rw[hZ];exact((((((c1.dt 0 ai _).dt 1 ai _).dt 2 ai _).dt 3 ai _).dt 4 ai _).dt 5 ai _)
 have hgZ:jG v1 Z B:=by rw[hZ];exact Nn (Nn (Nn (Nn (Nn (iF _ _ _) (iF _ _ _)) (iF _ _ _)) (iF _ _ _)) (iF _ _ _)) (iF _ _ _)
 have bZ:Bw w Z:=aB4 b1 hgZ ae;have RZ:=R1.grown ae hgZ cg;have SZ:I Z (Ad b 0)=dU e/\I Z (Ad b 1)=dU g/\I Z (Ad b 2)=dU x/\I Z (Ad b 3)=dI t:=⟨cX (h.H bZ).hd 0,cX (h.H bZ).hd 1,cX (h.H bZ).hd 2,cX (h.H bZ).hd 3⟩;have zZ:B<U (Q Z):=aM hgZ.size;rw[<-hZ];refine bQ hK (by exact SZ) λhS=>?_;clear hK M hZ hgZ SZ c1 rc0 rc1 rc2 rc3 rc4 rc5 rf S1 H1 R1 S0 H0 R0;refine ga ?_;have Az:U (Q w)<B:=ae;have CZ':=af CZ;have RZ':=af RZ;have HS:=af λ(w':G)(hb:Bw w w')=>h.H hb;have HLW:O (∀k s N,ss[k]?=Y s->SB[k]?=Y N->b<U (Q w)/\bs<U (Q w)/\N<U (Q w)):=λk s N W tz=>by let⟨_,_,o,_,_⟩:=h.Af.own;let⟨_,y3,_⟩:=h.Af.blk k _ N W tz;exact⟨gD h.hd,o.lt,gD y3⟩
 have HLN:O (∀k s N,ns[k]?=Y s->NB[k]?=Y N->b<U (Q w)/\bn<U (Q w)/\N<U (Q w)):=λk s N W tz=>by let⟨_,_,o,_,_⟩:=h.kc.own;let⟨_,_,_,y3⟩:=h.kc.blk k _ N W tz;exact⟨gD h.hd,o.lt,gD y3.blk⟩
 have BZ:=af bZ;clear hS CZ RZ h bv b1 zz0 zz1 zz2 HZ ZV;let⟨Zn,bi4,Zi⟩:=aa HS _ BZ;let⟨D,nD,oD,hnD,mD⟩:=id bi4.own;have k4:I Z (Ad b 4)=Y (.map bs):=cX Zn 4;have MD:=af mD;have OD:=af oD;clear Zn Zi mD
 go_wp21
 refine(iZ.WS bs nD D _ oD (fx oD.size_le hnD)).h ?_;rintro r w1⟨kv,ids,rfl,zh,xg,V⟩;obtain rfl:=dh1 bi4 hs MD zh;obtain⟨pk,ck,Ak,rfl,rk,lk,ak⟩:=aO5 xg;have Cd:J (ss.map (·.1))=J ss:=iH _;let⟨nk,Ln⟩:=aF (J (ss.map (·.1)));rw[<-Ln]at rk lk⊢;have cy3:nk=J ss:=by rw[Ln,Cd]
 have ENK:=af cy3;have fi4:nk<=2^20:=ae;have HKV:=dy rk lk ak;have b1:=ah BZ V;have z1:=V.size;have C1:=af (CZ'.H zZ V);have R1:=af (RZ'.H ae V);clear rk lk ak xg zh V k4 bi4 oD Ln cy3 Cd CZ' RZ'
 go_wp21
 go_loopw[31](λiv wr=>∃(k:Nat)(Sv:dV)(Ls:List (List Lf)),k<=nk/\iv=.I k/\O (aO wr B [.U e,.U g,.U x,.I t,Sv,aq]/\OwnT qe 65 3 (U (Q w1)) wr Sv (jT k ss) Ls)/\O (jG w1 wr B)) (λiv _=>nk-(jN (intOf iv)))
 exact⟨0,_,[],cT _,rfl,⟨C1,OwnT.nil _ _ _ _ _⟩,aw5⟩;{
 obtain⟨k,Sv,Ls,hk,rfl,iW,pW⟩:=hrel;have BB:=aB4 b1 pW ae;by_cases aL:k<nk;{
 have cM:=bR k nk;have db:k<J ss:=aa ENK▸aL;let⟨⟨iI,Dl,Qu⟩,W⟩:=sj db;obtain⟨hH,hSe,-⟩:=aa HS _ BB;let⟨N,tz,mF⟩:=ce5 hSe W;let⟨u,U9,Yo⟩:=hSe.blk k _ N W tz;dsimp only at U9 Yo mF;obtain⟨pq,cq,rfl,-⟩:=id Yo;let⟨nq,yb⟩:=aZ (J Qu);rw[yb]at Yo U9;have ENQ:=af yb;let⟨hI,IN,yK⟩:=aa UQ _ (bq W);dsimp only at hI IN yK;have hnq:nq<=2^20:=yb▸IN;have SR:O (∀e∈Qu,J e.2<=2^20):=yK;obtain⟨gk,ok,rfl,KM⟩:∃gk ok,pk=(Ad gk ok)/\I wr (Ad gk (ok+k))=dU iI:=by let⟨rk,lk,ak⟩:=aa HKV;have rk':=rk.ox lk (w':=wr) (λa ha=>pW.block a.b (ak.oy.lt ha) (by have:=ak.lo a ha;simp;omega));obtain⟨p',c',ee,hd⟩:=rk';obtain⟨rfl,-,-⟩:=mg ee;obtain hd|⟨b',o',rfl,hd⟩:=hd;{have:=tg List.length hd;simp at this;rw[this]at db;simp at db};{refine⟨b',o',rfl,?_⟩;rw[hd k (by simpa using db)];simp[iR,W]}
 have HY:=af W;let⟨hC,hO⟩:=aa iW;have cS4:=hC.1 4 _ rfl;have Yb:I wr (Ad b 4)=Y (.map bs):=cX hH 4;let⟨D',n',Xj,tX,Xo⟩:=hSe.own;have Tb:=dy Xo mF hI;have Zk:b<U (Q w1)/\bs<U (Q w1)/\N<U (Q w1):=by obtain⟨y1,y2,-⟩:=aa HS _ b1;let⟨_,_,o,_,_⟩:=y2.own;let⟨_,y3,_⟩:=y2.blk k _ N W tz;exact⟨gD y1,o.lt,gD y3⟩
 have LY:=af Zk;have hLW:b<U (Q w)/\bs<U (Q w)/\N<U (Q w):=aa HLW k _ N W tz;have t3b:b≠B:=ae;have t4b:bs≠B:=ae;have t5b:N≠B:=ae;let⟨vA,de⟩:=aF wr.drew;have cQ:=mW de;have Ss:=nF (aj Yb cQ) (Xj.kept (mn cQ dN) ai) (aj (cX U9 0) cQ) (aj (cX U9 1) cQ) (aj (cX U9 2) cQ);have RQ:=af (Yo.H cQ);have OA:=af (hO.H qe.W cQ);have CXA:=af (hC.H (aM pW.size) cQ);have gA:O (jG w1 vA B):=No pW (mn cQ dN) (λb e=>by cases e);have Ti:=af (aR (U (Q vA)) vA);have zxA:B<U (Q vA):=aM gA.size;clear yb IN yK db tz Zk hLW cS4
 go_wp21
 clear KM;refine fK (λw'=>I w' (Ad b 4)=Y (.map bs)/\jM w' dG 24 iB bs n' D'/\I w' (Ad N 0)=dU iI/\I w' (Ad N 1)=dI Dl/\I w' (Ad N 2)=dS pq nq cq) (de▸aa Ss) λhS=>?_;rw[<-de]at hS⊢;clear de cQ U9 Yo mF hI Xj Xo hC hO Yb hH hSe;refine iL 0 2 3 4 hS ?_;refine gh 5 6 hS ?_;refine Iy (i:=7) (oi:=_) (v:=?_) (by simp only[uB,vF,vE];rfl) aU aU aU (λ_ _ _ h=>h) (Or.L ⟨aP,?_⟩) hS ?_;rotate_left;{(intro w' nR;(try dsimp only at nR);(have hlk:=cb9 nR.2.1 Tb.1 Tb.2.1 Tb.2.2);go_simp;try with_reducible rfl)}
 simp only[Act.put,xa,xb,xc];refine gh 8 9 hS ?_;refine ry [1,10] (cn (λM hK=>?_) (cn (λM hK=>?_) fI));have cl:=CXA.1 4 _ rfl;go_simp;refine bQ hK (by exact Ss) λhS=>?_;refine ry [10] (cn (λM hK=>?_) fI)
 all_goals(
  refine js (eu5 iI Dl pq cq nq Qu ENQ _ (RQ.H Ti) hnq SR) ?_;rintro r v1⟨pe,ce,Ae,rfl,Ij,Gb,vk,V⟩;refine⟨_,rfl,?_⟩;have HE1:=dy Ij Gb (vk.h (B':=U (Q vA)) Ti.size);let⟨s1,X,s3,s4,s5⟩:=aa Ss;have Su:=nF (aj s1 V) (X.kept (mn V dN) ai) (aj s3 V) (aj s4 V) (aj s5 V);have Te:=af (CXA.H ae V);have nY:=af (ah Ti V);have Wu:U (Q vA)<=U (Q v1):=nY.size;refine bQ hK (by exact Su) λhS=>?_
  skip)
 refine ry [11] (cn (λM hK=>?_) fI);rotate_left;refine ry [1,11] (cn (λM hK=>?_) (cn (λM hK=>?_) fI));have cl:=Te.1 4 _ rfl;go_simp;refine bQ hK (by exact Su) λhS=>?_;refine ry [11] (cn (λM hK=>?_) fI)
 all_goals(
  go_simp;let⟨v2,qY⟩:=aF (jA v1 (dO #[.U iI,.I Dl,.S pe nq ce] 65));have ay:=ij qY;have rh:∀j u,([.U iI,.I Dl,.S pe nq ce]:List dV)[j]?=Y u->I v2 (Ad (U (Q v1)) j)=Y u:=λj u hu=>by rw[qY];exact(aO.alloc v1 #[.U iI,.I Dl,.S pe nq ce] 65).1 j u (by simpa using hu)
  rw[<-qY];let⟨gE,YH⟩:=aF (U (Q v1));rw[<-YH]at rh⊢;let⟨Ij,Gb,vk⟩:=aa HE1;have kE:∀a∈Ae,v2.heap[a.b]?=v1.heap[a.b]?:=λa ha=>ay.block _ (vk.oy.lt ha);have EL2:O (qe v2 (iI,Dl,Qu) [.U iI,.I Dl,.S pe nq ce] Ae/\je (U (Q vA)) v2 Ae):=⟨⟨pe,ce,by rw[aa ENQ],by rw[aa ENQ];exact Ij.ox Gb kE,by rw[aa ENQ];exact LvE.W Gb kE⟩,vk.W kE⟩;have ru:=af rh;let⟨s1,X,s3,s4,s5⟩:=aa Su;have St:=nF (aj s1 ay) (X.kept (mn ay dN) ai) (aj s3 ay) (aj s4 ay) (aj s5 ay);have CX2:=af (Te.H ae ay);have Fo:=af (ah nY ay);have zx2:U (Q vA)<=U (Q v2):=Fo.size;refine bQ hK (by exact St) λhS=>?_;clear hK M qY ay rh YH Ij Gb vk kE
  skip)
 rotate_left;refine ry [1] (cn (λM hK=>?_) fI);have cl:=CX2.1 4 _ rfl;go_simp;refine bQ hK (by exact St) λhS=>?_;clear hK M cl
 all_goals(
  have OC:=OA.H qe.W Fo;let⟨ZG,apC⟩:=aa EL2;let⟨cs,g1,g2,g3,g4,g5,g6,g7⟩:=id OC;have Gn:=OA.lt;have hle:J (jT k ss)<=2^20:=by rw[te];omega
  have zA1:=gA.size;have zA:U (Q w1)<=U (Q v2):=ae;refine ry [12] ?_;refine cn (λM hK=>?_) ?_;{
 refine TD aP aP is 3 underlying31 QD WO WN WM rfl aX aP g4 1 1 [.U iI,.I Dl,.S pe nq ce] aP rfl ru (λu hu=>by simp at hu;obtain rfl|rfl|rfl:=hu<;>rfl) kL ae zA ?_;intro v' w9 gC hg gR;have sn:=OwnT.snoc g1 g2 g3 g5 g6 g7 qe.W ZG rfl apC zA1 (λa ha=>(Gn.2 a ha).2) (λb hb=>(Gn.1 b hb).2) gC hg gR;rw[<-WK (aa HY)]at sn;obtain⟨pN,cN,GJ,-⟩:=id sn.read;let⟨lN,Ky⟩:=aF (J (jT (k+1) ss));rw[<-Ky]at GJ;subst GJ;clear Ky;have IQ:∀z,z<U (Q w1)->Y z≠jB Sv:=λz hz e=>by have:=(Gn.1 z e.C).1;omega
 have qA:jG w1 w9 B:=No (No gA (mn Fo dN) (λb e=>by cases e)) hg (λb e=>.L (Gn.1 b e).1);have C9:=CX2.grown ae hg (IQ B ae);let⟨t1,t2,t3⟩:=aa LY;let⟨s1,X,s3,s4,s5⟩:=aa St;have S9:=nF (hg.cell s1 (IQ (b) t1)) (X.kept hg (IQ (bs) t2)) (hg.cell s3 (IQ (N) t3)) (hg.cell s4 (IQ (N) t3)) (hg.cell s5 (IQ (N) t3));refine bQ hK (by exact S9) λhS=>?_;have SN:=af sn;have cc:=C9.1 4 _ rfl;have cf:=C9.2;have Gm:=sn.lt;clear hK M sn gC gR g1 g2 g3 g4 g5 g6 g7 ZG apC OC s1 X s3 s4 s5;refine tn 13 hS ?_;refine ft 14 λM hK=>?_;go_simp;let⟨wT,Gf⟩:=aF (jS w9 (Ad B 4) (.S pN lN cN));have CT:=C9.dt 4 ai (.S pN lN cN);have Gq:∀z,z≠B->wT.heap[z]?=w9.heap[z]?:=λz hz=>by rw[Gf];exact fN _ _ _ _ hz
 have gT:O (jG w1 wT B):=by show World.grownBy _ _ _;rw[Gf];exact Nn qA (iF _ _ _)
 have zT:U (Q w9)<=U (Q wT):=by rw[Gf];simp
 have OT:O (OwnT qe 65 3 (U (Q w1)) wT (.S pN lN cN) (jT (k+1) ss) (Ls++[Ae])):=SN.W (qe.W _ _) zT (λz hz=>Gq z (aM (Gm.1 z hz).1)) (λy W=>Gq _ (aM (Gm.2 y W).1));rw[<-Gf]at CT⊢;have MZ:=λz(hz:z≠B)o=>gF (Gq z hz) o;let⟨s1,X,s3,s4,s5⟩:=aa S9;have ST:=aD ((MZ _ t3b _).Z s1) (aD (bV4 X (Gq _ t4b)) (aD ((MZ _ t5b _).Z s3) (aD ((MZ _ t5b _).Z s4) ((MZ _ t5b _).Z s5))));refine bQ hK (by exact ST) λhS=>?_;have CT2:=af CT;clear hK M Gf Gq MZ C9 cc cf CT hg qA zT ST s1 X s3 s4 s5;refine ga ?_;clear hS Gm Gn;go_wp2;go_roundw;exact⟨k+1,_,_,ae,by go_num,⟨CT2,OT⟩,gT⟩;exact dh};exact fI
  skip)}
 {
 have cM:=fG k nk;obtain rfl:k=nk:=ae;let⟨hC,hO⟩:=aa iW;rw[od (aa ENK▸fq _)]at hO;let⟨w2,ew2⟩:=aF wr;subst ew2;have R2:=af (R1.grown ae (aa pW) cg);obtain⟨pS,cS,ZE,-⟩:=id hO.read;let⟨lS,Gm⟩:=aF (J ss);rw[<-Gm]at ZE;subst ZE;have HLS:=af Gm;let⟨Pg,A1,MA,LH⟩:=hO.se;have HA1:=af λa ha=>LH.oy.lt (a:=a) ha;have OS:=dy Pg MA LH;clear Pg MA LH;have CS:=af hC;have z12:=pW.size;obtain⟨Zn,-,Zi⟩:=aa HS _ BB;let⟨DN,nN,oN,hnN,mN⟩:=id Zi.own;have k5:I w2 (Ad b 5)=Y (.map bn):=cX Zn 5;have MN:=af mN;clear hO hC Gm Zn mN iW hk aL cM R1 C1 HKV pW
 go_wp21
 refine(T.WS bn nN DN _ oN (fx oN.size_le hnN)).h ?_;rintro r w3⟨kv,ks,rfl,zh,xg,aE⟩;obtain rfl:=aQ5 Zi hn MN zh;obtain⟨pk2,ck2,rfl,Qz⟩:=aO4 xg;let⟨Pu,bp6⟩:=aF (J ns);rw[<-bp6];have cQ5:=af bp6;have fi3:Pu<=2^20:=ae;have HKN:=af Qz;have b3:=ah BB aE;have z3:=aE.size;have C3:=af (CS.H ae aE);have R3:=af (R2.H ae aE);have kS3:∀a∈A1,w3.heap[a.b]?=w2.heap[a.b]?:=λa ha=>aE.block _ (aa HA1 a ha);have O3:=dy (OS.1.ox OS.2.1 kS3) (LvS.W OS.2.1 kS3) (OS.2.2.W kS3);clear Qz xg zh aE k5 Zi oN bp6 CS R2 OS BB kS3
 go_wp21
 go_loopw[56](λiv wr=>∃(k:Nat)(Sv:dV)(Ls:List (List Lf)),k<=Pu/\iv=.I k/\O (aO wr B [.U e,.U g,.U x,.I t,.S pS lS cS,Sv]/\OwnT mV 69 8 (U (Q w3)) wr Sv (jT k ns) Ls)/\O (jG w3 wr B)) (λiv _=>Pu-(jN (intOf iv)))
 exact⟨0,_,[],cT _,rfl,⟨C3,OwnT.nil _ _ _ _ _⟩,aw5⟩;{
 obtain⟨k,Sv,Ls,hk,rfl,iW,pW⟩:=hrel;have BB:=aB4 b3 pW ae;by_cases aL:k<Pu;{
 have cM:=bR k Pu;have db:k<J ns:=aa cQ5▸aL;let⟨nd,W⟩:=sj db;obtain⟨hH,-,hNo⟩:=aa HS _ BB;let⟨N,tz,mF⟩:=ce6 hNo W;let⟨Vb,hb,ub,Kz⟩:=hNo.blk k _ N W tz;let⟨yM,rM,xt,xU,hl5,hl6,hl7⟩:=aa Yu _ (bq W);obtain⟨gk,rfl,KM⟩:∃gk,pk2=(Ad gk 0)/\I wr (Ad gk k)=Y (jJ (bf nd.A)):=by obtain h0|⟨gk,rfl,h1,h2,h3⟩:=aa HKN;{rw[h0]at db;simp at db};{exact⟨gk,rfl,(gF (pW.block gk h2 cg) _).Z (by have:=h3 k nd W;rwa [l9]at this)⟩}
 have HY:=af W;let⟨hC,hO⟩:=aa iW;have Yb:I wr (Ad b 5)=Y (.map bn):=cX hH 5;let⟨D',n',Xj,tX,Xo⟩:=hNo.own;have Tb:=dy Xo mF rM;have hLW:b<U (Q w)/\bn<U (Q w)/\N<U (Q w):=aa HLN k _ N W tz;have Zk:b<U (Q w3)/\bn<U (Q w3)/\N<U (Q w3):=aM b3.size;have LY:=af Zk;have t3b:b≠B:=ae;have t4b:bn≠B:=ae;have t5b:N≠B:=ae;let⟨vA,de⟩:=aF wr.drew;have cQ:=mW de;have Ss:=br (aj Yb cQ) (Xj.kept (mn cQ dN) ai);have RQ:=af (Kz.H cQ);have OA:=af (hO.H mV.W cQ);have CXA:=af (hC.H (aM pW.size) cQ);have gA:O (jG w3 vA B):=No pW (mn cQ dN) (λb e=>by cases e);have Ti:=af (aR (U (Q vA)) vA);have zxA:B<U (Q vA):=aM gA.size;clear db tz Zk hLW
 go_wp21
 clear KM;refine fK (λw'=>I w' (Ad b 5)=Y (.map bn)/\jM w' dG 9 iB bn n' D') (de▸aa Ss) λhS=>?_;rw[<-de]at hS⊢;clear de cQ Kz mF Xj Xo hC hO Yb hH hNo;refine iL 0 2 3 4 hS ?_;refine gh 5 6 hS ?_;refine Iy (i:=7) (oi:=_) (v:=?_) (by simp only[uB,vF,vE];rfl) aU aU aU (λ_ _ _ h=>h) (Or.L ⟨aP,?_⟩) hS ?_;rotate_left;{(intro w' nR;(try dsimp only at nR);(have hlk:=cc2 nR.2 Tb.1 Tb.2.1 Tb.2.2);go_simp;try with_reducible rfl)}
 simp only[Act.put,xa,xb,xc];refine tn 8 hS ?_;refine ry [1,9] (cn (λM hK=>?_) (cn (λM hK=>?_) fI));have cl:=CXA.1 5 _ rfl;go_simp;refine bQ hK (by exact Ss) λhS=>?_;clear hK M cl;refine ry [9] (cn (λM hK=>?_) fI)
 all_goals(
  refine CK (dx0 (RQ.H Ti) hl6 hl7 rM xt xU hl5 yM) ?_;rintro r v1⟨cn,Ae,rfl,GN,vk,V⟩;let⟨q0,q1,q2,q3,q4,q5,q6,q7,ecn,one⟩:=GN.cells;subst ecn;refine⟨_,rfl,?_⟩;have HE1:=dy GN one (vk.h (B':=U (Q vA)) Ti.size);let⟨s1,X⟩:=aa Ss;have Su:=br (aj s1 V) (X.kept (mn V dN) ai);have Te:=af (CXA.H ae V);have nY:=af (ah Ti V);have Wu:U (Q vA)<=U (Q v1):=nY.size;clear s1 X;refine bQ hK (by exact Su) λhS=>?_;clear hK M V GN vk one
  skip)
 refine ry [10] (cn (λM hK=>?_) fI);rotate_left;refine ry [1,10] (cn (λM hK=>?_) (cn (λM hK=>?_) fI));have cl:=Te.1 5 _ rfl;go_simp;refine bQ hK (by exact Su) λhS=>?_;clear hK M cl;refine ry [10] (cn (λM hK=>?_) fI)
 all_goals(
  go_simp;let⟨v2,qY⟩:=aF (jA v1 (dO #[q0,q1,q2,q3,q4,q5,q6,q7] 69));have ay:=ij qY;have rh:∀j u,([q0,q1,q2,q3,q4,q5,q6,q7]:List dV)[j]?=Y u->I v2 (Ad (U (Q v1)) j)=Y u:=λj u hu=>by rw[qY];exact(aO.alloc v1 #[q0,q1,q2,q3,q4,q5,q6,q7] 69).1 j u (by simpa using hu)
  rw[<-qY];let⟨gE,YH⟩:=aF (U (Q v1));rw[<-YH]at rh⊢;let⟨GN,one,vk⟩:=aa HE1;have kE:∀a∈Ae,v2.heap[a.b]?=v1.heap[a.b]?:=λa ha=>ay.block _ (vk.oy.lt ha);have EL2:O (mV v2 nd [q0,q1,q2,q3,q4,q5,q6,q7] Ae/\je (U (Q vA)) v2 Ae):=⟨mV.W _ _ _ _ _ GN kE,vk.W kE⟩;have ONE:=af one;have ru:=af rh;let⟨s1,X⟩:=aa Su;have St:=br (aj s1 ay) (X.kept (mn ay dN) ai);have CX2:=af (Te.H ae ay);have Fo:=af (ah nY ay);have zx2:U (Q vA)<=U (Q v2):=Fo.size;clear s1 X;refine bQ hK (by exact St) λhS=>?_;clear hK M qY ay rh YH GN vk kE one
  skip)
 rotate_left;refine ry [1] (cn (λM hK=>?_) fI);have cl:=CX2.1 5 _ rfl;go_simp;refine bQ hK (by exact St) λhS=>?_;clear hK M cl
 all_goals(
  have OC:=OA.H mV.W Fo;let⟨ZG,apC⟩:=aa EL2;let⟨cs,g1,g2,g3,g4,g5,g6,g7⟩:=id OC;have Gn:=OA.lt;have hle:J (jT k ns)<=2^20:=by rw[te];omega
  have zA1:=gA.size;have zA:U (Q w3)<=U (Q v2):=ae;refine ry [11] ?_;refine cn (λM hK=>?_) ?_;{
 refine TD aP aP io 8 underlying32 hio oz0 oz1 oz2 rfl aX aP g4 1 1 [q0,q1,q2,q3,q4,q5,q6,q7] aP rfl ru ONE kL ae zA ?_;intro v' w9 gC hg gR;have sn:=OwnT.snoc g1 g2 g3 g5 g6 g7 mV.W ZG rfl apC zA1 (λa ha=>(Gn.2 a ha).2) (λb hb=>(Gn.1 b hb).2) gC hg gR;rw[<-WK (aa HY)]at sn;obtain⟨pN,cN,GJ,-⟩:=id sn.read;let⟨lN,Ky⟩:=aF (J (jT (k+1) ns));rw[<-Ky]at GJ;subst GJ;clear Ky;have IQ:∀z,z<U (Q w3)->Y z≠jB Sv:=λz hz e=>by have:=(Gn.1 z e.C).1;omega
 have qA:jG w3 w9 B:=No (No gA (mn Fo dN) (λb e=>by cases e)) hg (λb e=>.L (Gn.1 b e).1);have C9:=CX2.grown ae hg (IQ B ae);let⟨t1,t2,t3⟩:=aa LY;let⟨s1,X⟩:=aa St;have S9:=br (hg.cell s1 (IQ (b) t1)) (X.kept hg (IQ (bn) t2));refine bQ hK (by exact S9) λhS=>?_;have SN:=af sn;have cc:=C9.1 5 _ rfl;have cf:=C9.2;have Gm:=sn.lt;clear hK M sn gC gR g1 g2 g3 g4 g5 g6 g7 ZG apC OC s1 X;refine tn 12 hS ?_;refine ft 13 λM hK=>?_;go_simp;let⟨wT,Gf⟩:=aF (jS w9 (Ad B 5) (.S pN lN cN));have CT:=C9.dt 5 ai (.S pN lN cN);have Gq:∀z,z≠B->wT.heap[z]?=w9.heap[z]?:=λz hz=>by rw[Gf];exact fN _ _ _ _ hz
 have gT:O (jG w3 wT B):=by show World.grownBy _ _ _;rw[Gf];exact Nn qA (iF _ _ _)
 have zT:U (Q w9)<=U (Q wT):=by rw[Gf];simp
 have OT:O (OwnT mV 69 8 (U (Q w3)) wT (.S pN lN cN) (jT (k+1) ns) (Ls++[Ae])):=SN.W (mV.W _ _) zT (λz hz=>Gq z (aM (Gm.1 z hz).1)) (λy W=>Gq _ (aM (Gm.2 y W).1));rw[<-Gf]at CT⊢;have MZ:=λz(hz:z≠B)o=>gF (Gq z hz) o;let⟨s1,X⟩:=aa S9;have ST:=aD ((MZ _ t3b _).Z s1) (bV4 X (Gq _ t4b));refine bQ hK (by exact ST) λhS=>?_;have CT2:=af CT;clear hK M Gf Gq MZ C9 cc cf CT hg qA zT ST s1 X;refine ga ?_;clear hS Gm Gn;go_wp2;go_roundw;exact⟨k+1,_,_,ae,by go_num,⟨CT2,OT⟩,gT⟩;exact dh};exact fI
  skip)}
 {
 have cM:=fG k Pu;obtain rfl:k=Pu:=ae;let⟨hC,hO⟩:=aa iW;rw[od (aa cQ5▸fq _)]at hO;obtain⟨pN,cN,GJ,-⟩:=id hO.read;let⟨lN,Ky⟩:=aF (J ns);rw[<-Ky]at GJ;subst GJ;let⟨rdN,A2,XM,apN⟩:=hO.no;let⟨Pg,MA,LH⟩:=aa O3;have R4:=R3.grown ae (aa pW) cg;let⟨c0,c1,c2,c3,c4,c5⟩:=Bx hC.1;let⟨r0,r1,r2,r3,r4,r5⟩:=Bx R4.1;have rf:=R4.2;have Gi:¬U (Q w)=B:=ae;have hsn:¬B=U (Q w):=ae;have FIN:=dy rdN XM apN;have FIS:=dy Pg MA LH;have eQ5:=af Ky;have z3r:=pW.size;clear rdN XM apN Pg MA LH hO hC R4 iW Ky;go_wp2;let⟨rdN,XM,apN⟩:=aa FIN;let⟨Pg,MA,LH⟩:=aa FIS;let⟨Z,hZ⟩:=aF (jS (jS (jS (jS (jS (jS wr (Ad (U (Q w)) 0) (.U e)) (Ad (U (Q w)) 1) (.U g)) (Ad (U (Q w)) 2) (.U x)) (Ad (U (Q w)) 3) (.I t)) (Ad (U (Q w)) 4) (.S pS lS cS)) (Ad (U (Q w)) 5) (.S pN lN cN));have UW:∀z,z≠U (Q w)->Z.heap[z]?=wr.heap[z]?:=λz hz=>by
  rw[hZ]
  iterate 6 rw[fN _ _ _ _ hz]
 have k1:∀a∈A1,Z.heap[a.b]?=w3.heap[a.b]?:=λa ha=>by have h1:=aa HA1 a ha;have h2:=LH.lo a ha;rw[UW _ ae];exact pW.block _ ae cg
 have k2:∀a∈A2,Z.heap[a.b]?=wr.heap[a.b]?:=λa ha=>by have h2:=apN.lo a ha;exact UW _ (aM b3.size)
 have YV:Bw w Z:=by rw[hZ];exact(((((BB.setCell az _).setCell az _).setCell az _).setCell az _).setCell az _).setCell az _
 have eS:=aa HLS;have eN:=aa eQ5;refine bO (v:=bS e g x t (.S pS lS cS) (.S pN lN cN)) (by simp[results,results46,go_sem,r0,r1,r2,r3,r4,r5,c0,c1,c2,c3,c4,c5]) rfl ?_;rw[<-hZ];subst eS eN;refine⟨pS,cS,pN,cN,rfl,Pg.ox MA k1,rdN.ox XM k2,A1,LvS.W MA k1,A2,LvN.W XM k2,?_,YV⟩;exact((LH.W k1).app (apN.W k2) ae (λa ha=>aM (aa HA1 a ha))).h ae}}}}
theorem ak4{α:Type}{R:α->α->Prop}{l:List α}(h:∀(i j:Nat)(a b:α),l[i]?=a->l[j]?=b->i<j->R a b):l.Pairwise R:=by
 rw[FO];intro i j q o m;exact h i j _ _ (bN q) (bN o) m
theorem dh4(h:CJ x ss):ss.Pairwise (λs m=>s.1<m.1):=by
 refine ak4 λi j s m r o q=>?_;rw[CJ,gI]at h;have:=Z7 h.2 (λi j k y u=>by simp at y u⊢;omega) j i (bu.1 o).1 q;simpa only[iR,r,o,ta,lx]using this
theorem dx4(h:BM e g ns):(ns.map λnd=>jv nd.A).Pairwise (·<·):=by
 rw[BO];refine ak4 λi j s x q m o=>?_;rw[BM,gI]at h;have:=Z7 h.2 (λi j k u r=>J7.2 (aB2 (J7.1 u) (J7.1 r))) j i (bu.1 m).1 o;simp only[iR,q,m,ta]at this;rw[J7,T.aA8,lx,Cv,Cv]at this;exact this
variable {l:LI}
theorem bv6(h:Ob l):l.Pairwise (·<·):=by
 refine ak4 λi j s x q m o=>?_;rw[Ob]at h;have:=Z7 h (λi j k u r=>by simp at u r⊢;omega) j i (bu.1 m).1 o;simpa only[iR,q,m,ta,lx]using this
theorem bX3(h:BM e g ns):∀nd∈ns,nd.y.Pairwise (·<·)/\nd.X.Pairwise (·<·):=by
 intro nd o;rw[BM,gI]at h;have m:∀y∈ns,yB e g y:=(Jr ns jt (yB e g)).1 λi j=>lW.1 h.1 i (xl.2 j);have:=m nd o;simp only[yB,gI]at this;exact⟨bv6 this.2.2.2.1,bv6 this.2.2.2.2⟩
structure zI(ss:List aC)(ns:List au):Prop where
 s1:ss.Pairwise (λs s'=>s.1<s'.1)
 n1:(ns.map λnd=>jv nd.A).Pairwise (·<·)
 s2:∀s∈ss,(0<=s.1/\s.1<2^64)/\J s.2.2<=2^20/\∀e∈s.2.2,J e.2<=2^20
 n2:∀nd∈ns,aA nd.A/\J nd.A<=2^20/\J nd.V<=2^20/\J nd.y<=2^20/\J nd.X<=2^20/\nd.y.Pairwise (·<·)/\nd.X.Pairwise (·<·)
 s3:∀(i j:Nat)(s s':aC),ss[i]?=Y s->ss[j]?=Y s'->i<j->s.1≠s'.1
 n3:∀(i j:Nat)(z z':au),ns[i]?=z->ns[j]?=z'->i<j->z.A≠z'.A
theorem Rm(h:mY e g x t ss ns)(u:Bs ss)(B:Bn ns):zI ss ns:=by
 let⟨r,o,i,E,D⟩:=(aK7 e g x t ss ns).1 h;have y:x<=2^62:=by simp only[ME,lx]at r;exact r.2.2.1
 refine⟨dh4 o,dx4 i,λs m=>⟨aM3 o y s m,(u s m).1,λe he=>((u s m).2 e he).2⟩,λj q=>?_,bP7 o,bX4 i⟩;let⟨a,b,c,d,f⟩:=B j q;exact⟨a,b,c,d,f,(bX3 i j q).1,(bX3 i j q).2⟩
theorem db6{SB NB HB UB:iN}(h:Jv w0 w b bs bn e g x t ss ns SB NB HB UB)(S:Bw w0 w)(l1:Mg (J ss))(l2:Mg (J ns)):VO w b bs bn e g x t ss ns SB NB:=by
 refine⟨h.hd,⟨h.Af.len,?_,λi s E j B=>?_⟩,⟨h.kc.len,?_,λi Z E j B=>?_⟩⟩;{let⟨D,o,m⟩:=h.Af.own;exact⟨D,_,o,l1,m⟩};{obtain⟨-,u,r,q⟩:=h.Af.blk i s E j B;exact⟨u,r,q.H S⟩};{let⟨D,o,m⟩:=h.kc.own;exact⟨D,_,o,l2,m⟩};{have N:=(bu.1 j).1;obtain⟨R,jd⟩:∃y,HB[i]?=Y y:=⟨_,bN (h.kc.MG▸N)⟩;obtain⟨M,iK⟩:∃y,UB[i]?=Y y:=⟨_,bN (h.kc.MF▸N)⟩;obtain⟨-,-,-,⟨V,r,q⟩,X,W⟩:=h.kc.blk i Z E R M j B jd iK;exact⟨V,R,M,r,q.H S,X,W⟩}
def AB(w0 w:G)(v:dV)(l:LI):Prop:=Rd w0 v l\/TB w v l
theorem AB.rd(h:AB w0 w v l)(i:Bw w0 w):Rd w v l:=by
 obtain h|h:=h;{exact h.H i};{exact h.1}
theorem AB.T{T:List TypeId}(h:AB w0 w v l)(hf:Fr T w w')(ht:5∉T:=by decide):AB w0 w' v l:=by
 obtain h|h:=h;{exact .L h};{exact .R (h.T hf ht)}
def AQ(w0 w:G)(u:dV)(es:List Ev):Prop:=
 ∃(p:OA)(c:Nat),u=.S p (J es) c/\(es=[]\/∃b o,p=(Ad b o)/\(b<U (Q w0)\/∃j m,w.heap[b]?=dO j 114 m)/\∀i e,es[i]?=Y e->I w (Ad b (o+i*2))=dI e.1/\∃u,I w (Ad b (o+i*2+1))=Y u/\AB w0 w u e.2/\vr u)
theorem AQ.D8(h:AQ w0 w u es)(s:Bw w0 w):ur w u es:=by
 obtain⟨p,c,rfl,h⟩:=h;refine⟨p,c,rfl,?_⟩;obtain h|⟨b,o,rfl,-,h⟩:=h;{exact .L h};{refine .R ⟨b,o,rfl,λi e he=>?_⟩;let⟨r,u,q,m,j⟩:=h i e he;exact⟨r,u,q,m.rd s,j⟩}
theorem AQ.of(h:ur w0 u es)(r:Bw w0 w):AQ w0 w u es:=by
 obtain⟨p,c,rfl,h⟩:=h;refine⟨p,c,rfl,?_⟩;obtain h|⟨b,o,rfl,h⟩:=h;{exact .L h};{by_cases q:es=[];{exact .L q};{obtain⟨m,j⟩:∃m,es[0]?=Y m:=⟨_,bN (PC.2 q)⟩;refine .R ⟨b,o,rfl,.L (nI w0 _ (h 0 m j).1),λi e he=>?_⟩;let⟨B,u,y,x,s⟩:=h i e he;exact⟨aj B r,u,aj y r,.L x,s⟩}}
theorem AQ.T{T:List TypeId}(h:AQ w0 w u es)(hb:Below (U (Q w0)) w w')(hf:Fr T w w')(ht:5∉T/\114∉T:=by decide):AQ w0 w' u es:=by
 obtain⟨p,c,rfl,h⟩:=h;refine⟨p,c,rfl,?_⟩;obtain h|⟨b,o,rfl,hd,h⟩:=h;{exact .L h};{
 have hk:w'.heap[b]?=w.heap[b]?:=by obtain hd|⟨cur,m,hd⟩:=hd;{exact hb.block b hd};{exact(hf.2 _ _ _ _ ht.2 hd).Z hd.C}
 refine .R ⟨b,o,rfl,hd.imp id (λ⟨cur,m,hd⟩=>⟨cur,m,hk.Z hd⟩),λi e he=>?_⟩;let⟨h1,u,h2,h3,h4⟩:=h i e he;exact⟨(gF hk _).Z h1,u,(gF hk _).Z h2,h3.T hf ht.1,h4⟩}
theorem AQ.nil(w0 w:G):AQ w0 w aq []:=⟨dN,0,rfl,.L rfl⟩
theorem Il{R:dV->Option (DataW Unit×List MemPlace)}(h:jM w dG k R b n D):jM w dG k R b (Maps.size D) D:=by
 obtain⟨es,i,j,F,m,rfl⟩:=h;refine⟨es,i,j,F,?_,rfl⟩;rw[Maps.size_eq,length_sorted];simp
theorem ak8{R:dV->Option (DataW Unit×List MemPlace)}(h:jM w dG k R b n D)(K:Keyed dG k):Tidy D:=by
 obtain⟨es,e,i,-⟩:=h.entries K;exact⟨es,e,i⟩
theorem aM0{R:dV->Option (DataW Unit×List MemPlace)}(h:jM w dG k R b n D)(K:Keyed dG k)(o:L.Nodup)(r:∀x,Maps.has D x=dY↔x∈L):Maps.size D=J L:=by
 obtain⟨es,rfl,m,q⟩:=h.entries K;rw[Maps.size_eq,<-iH (f:=Prod.fst)];refine List.Perm.length_eq ((List.perm_ext_iff_of_nodup (BO.2 m) o).2 λx=>?_);rw[<-r x,Maps.has_eq,Ur,fg];constructor;{rintro⟨p,i,rfl⟩;exact⟨p,i,an2 (q p i)⟩};{rintro⟨p,i,j⟩;refine⟨p,i,ca9 λs=>?_⟩;rw[sameKey_ne s]at j;cases j}
def SM(w:G)(h:Nat)(s:LI):Prop:=∃D n,jM w dG 24 unitElem h n D/\n<=2^21/\kM D s/\Maps.size D=J s
structure PN(w0 w:G)(g h u:Nat)(nd:au):Prop where
 lo:U (Q w0)<=g/\U (Q w0)<=h/\U (Q w0)<=u
 blk:∃V,w.heap[g]?=dO #[V,.U nd.D,.I nd.M,.map h,.U nd.P,.U nd.F,.map u] 142/\AB w0 w V nd.V
 Cg:SM w h nd.y
 zL:SM w u nd.X
def PE(w0 w:G)(g:Nat)(s:aC):Prop:=U (Q w0)<=g/\∃u,w.heap[g]?=dO #[.U s.1,.I s.2.1,u] 65/\AQ w0 w u s.2.2
structure PS(w0 w:G)(b bs bn:Nat)(D:SD)(SB NB HB UB:iN):Prop where
 be:Bw w0 w
 hd:w.heap[b]?=dO #[.U D.e,.U D.g,.U D.x,.I D.t,.map bs,.map bn] 135
 vw:J SB=J D.E
 uy:∃M n,jM w dG 24 iB bs n M/\n<=2^20/\qC M (jZ (λ(s:aC)g=>(Lit.U s.1,g)) D.E SB)/\Maps.size M=J D.E
 vx:∀(i:Nat)(s:aC)(g:Nat),D.E[i]?=s->SB[i]?=Y g->PE w0 w g s
 snd:SB.Nodup
 xi:J NB=J D.N
 hlen:J HB=J D.N
 xE:J UB=J D.N
 qH:∃M n,jM w dG 9 iB bn n M/\n<=2^20/\qC M (jZ (λ(nd:au)g=>(dr nd.A,g)) D.N NB)/\Maps.size M=J D.N
 rE:∀(i:Nat)(nd:au)(g h u:Nat),D.N[i]?=nd->NB[i]?=Y g->HB[i]?=h->UB[i]?=u->PN w0 w g h u nd
 FM:NB.Nodup
 lo:U (Q w0)<=b/\U (Q w0)<=bs/\U (Q w0)<=bn
 wu:(bs::bn::(HB++UB)).Nodup
theorem SM.of{h n:Nat}(o:jM w dG 24 unitElem h n D)(q:n<=2^21)(m:kM D s)(hd:s.Nodup):SM w h s:=by
 refine⟨D,n,o,q,m,?_⟩;have r:J (s.map λi:Int=>Lit.U i)=J s:=iH _;rw[<-r];refine aM0 o mT (BO.2 (hd.imp λu e=>u (by simpa using e))) λx=>?_;rw[m x,fg];constructor;{rintro⟨i,j,rfl⟩;exact⟨i,j,rfl⟩};{rintro⟨i,j,rfl⟩;exact⟨i,j,rfl⟩}
theorem SM.kept{h:Nat}(k:SM w h s)(i:w'.heap[h]?=w.heap[h]?):SM w' h s:=by
 obtain⟨D,n,o,r,q,m⟩:=k;exact⟨D,n,aP9 o (λes c j=>i.Z j),r,q,m⟩
theorem Xe(h:s.Pairwise (·<·)):s.Nodup:=h.imp λi e=>by omega
theorem PS.of{SB NB HB UB:iN}(h:Jv w0 w b bs bn e g x t ss ns SB NB HB UB)(be:Bw w0 w)(hF:zI ss ns)(ls:Mg (J ss))(ln:Mg (J ns)):PS w0 w b bs bn ⟨e,g,x,t,ss,ns⟩ SB NB HB UB:=by
 refine⟨be,h.hd,h.Af.len,?_,λi s gb q Z=>?_,h.Af.kc,h.kc.len,h.kc.MG,h.kc.MF,?_,λi E gb hh uu q Z B h2=>?_,h.kc.kc,h.lo,h.wu⟩;{let⟨D,o,m⟩:=h.Af.own;refine⟨D,_,o,ls,m,?_⟩;have X:J (ss.map λs=>Lit.U s.1)=J ss:=iH _;rw[<-X];refine aM0 o mT (BO.2 (hF.s1.imp λaL e=>by simp at e;omega)) λk=>?_;rw[m.hs k,fg];constructor;{rintro⟨p,W,rfl⟩;obtain⟨i,s,y,B,-,rfl⟩:=yv W;exact⟨s,bq B,rfl⟩};{rintro⟨s,q,rfl⟩;let⟨i,r⟩:=ji.1 q;obtain⟨y,S⟩:∃y,SB[i]?=Y y:=⟨_,bN (h.Af.len▸(bu.1 r).1)⟩;exact⟨_,bq (i:=i) (by rw[qV,r,S]),rfl⟩}};{let⟨R,u,N,M⟩:=h.Af.blk i s gb q Z;exact⟨R,u,N,AQ.of M be⟩};{let⟨D,o,m⟩:=h.kc.own;refine⟨D,_,o,ln,m,?_⟩;have X:J (ns.map λE=>dr E.A)=J ns:=iH _;rw[<-X];refine aM0 o sG (BO.2 (ak4 λi j a c ha hc ky e=>hF.n3 i j a c ha hc ky (MC (hF.n2 a (bq ha)).1 (hF.n2 c (bq hc)).1 e))) λk=>?_;rw[m.hs k,fg];constructor;{rintro⟨p,W,rfl⟩;obtain⟨i,s,y,B,-,rfl⟩:=yv W;exact⟨s,bq B,rfl⟩};{rintro⟨s,q,rfl⟩;let⟨i,r⟩:=ji.1 q;obtain⟨y,S⟩:∃y,NB[i]?=Y y:=⟨_,bN (h.kc.len▸(bu.1 r).1)⟩;exact⟨_,bq (i:=i) (by rw[qV,r,S]),rfl⟩}};{let⟨R,N,M,⟨V,q3,q4⟩,⟨D1,o1,m1⟩,⟨D2,o2,m2⟩⟩:=h.kc.blk i E gb hh uu q Z B h2;obtain⟨-,-,-,l1,l2,n1,n2⟩:=hF.n2 E (bq q);exact⟨⟨R,N,M⟩,⟨V,q3,.L q4⟩,SM.of o1 ae m1 (Xe n1),SM.of o2 ae m2 (Xe n2)⟩}
theorem PS.WQ{D:SD}{SB NB HB UB:iN}(h:PS w0 w b bs bn D SB NB HB UB):VO w b bs bn D.e D.g D.x D.t D.E D.N SB NB:=by
 refine⟨h.hd,⟨h.vw,?_,λi s N j E=>?_⟩,⟨h.xi,?_,λi nd N j E=>?_⟩⟩;{obtain⟨M,n,o,B,m,-⟩:=h.uy;exact⟨M,n,o,B,m⟩};{obtain⟨-,u,r,q⟩:=h.vx i s N j E;exact⟨u,r,q.D8 h.be⟩};{obtain⟨M,n,o,B,m,-⟩:=h.qH;exact⟨M,n,o,B,m⟩};{have S:=(bu.1 j).1;obtain⟨W,jd⟩:∃y,HB[i]?=Y y:=⟨_,bN (h.hlen▸S)⟩;obtain⟨R,iK⟩:∃y,UB[i]?=Y y:=⟨_,bN (h.xE▸S)⟩;obtain⟨-,⟨V,r,q⟩,⟨D1,n1,o1,-,s1,Z⟩,⟨D2,n2,o2,-,s2,X⟩⟩:=h.rE i nd N W R j E jd iK;exact⟨V,W,R,r,q.rd h.be,⟨D1,Z▸Il o1,s1⟩,⟨D2,X▸Il o2,s2⟩⟩}
structure One(w0 w w':G)(g:Nat):Prop where
 b:Below (U (Q w0)) w w'
 k:∀z,z<U (Q w)->z≠g->w'.heap[z]?=w.heap[z]?
 t:∀cur ty m,w.heap[g]?=dO cur ty m->ty∈[65,142,135]
variable {g:Nat}
theorem One.T(h:One w0 w w' g):Fr [65,142,135] w w':=by
 refine⟨h.b.size,λb cur ty m hn hb=>?_⟩;by_cases e:b=g;{subst e;exact absurd (h.t _ _ _ hb) hn};{exact(h.k b (gD hb) e).Z hb}
theorem One.obj{o:Obj}(h:One w0 w w' g)(i:w.heap[z]?=o)(j:z≠g):w'.heap[z]?=o:=(h.k z (gD i) j).Z i
theorem ownsMap_at{R:dV->Option (DataW Unit×List MemPlace)}(h:jM w dG k R b n D):∃es c,w.heap[b]?=Y (.map es c):=by
 obtain⟨es,c,i,-⟩:=h;exact⟨es,c,i⟩
theorem One.map{R:dV->Option (DataW Unit×List MemPlace)}(h:One w0 w w' g)(i:jM w dG k R z n D)(m:z≠g):jM w' dG k R z n D:=
 aP9 i (λes c j=>h.obj j m)
theorem SM.W{g h:Nat}(k:SM w h s)(iO:One w0 w w' g)(q:h≠g):SM w' h s:=by
 obtain⟨D,n,o,m,j,i⟩:=k;exact⟨D,n,iO.map o q,m,j,i⟩
theorem SM.at{h:Nat}(k:SM w h s):∃es c,w.heap[h]?=Y (.map es c):=by
 obtain⟨D,n,o,-⟩:=k;exact ownsMap_at o
variable {s:aC}
theorem PE.W(h:PE w0 w gb s)(iO:One w0 w w' g)(o:gb≠g):PE w0 w' gb s:=by
 obtain⟨m,u,j,i⟩:=h;exact⟨m,u,iO.obj j o,i.T iO.b iO.T aX⟩
theorem PN.W(h:PN w0 w gb hh uu nd)(iO:One w0 w w' g)(s:gb≠g)(r:hh≠g)(q:uu≠g):PN w0 w' gb hh uu nd:=by
 obtain⟨u,⟨V,o,m⟩,j,i⟩:=h;exact⟨u,⟨V,iO.obj o s,m.T iO.T⟩,j.W iO r,i.W iO q⟩
section
variable {w0 w w':World}{b bs bn:Nat}{D:SD}{SB NB HB UB:iN}
variable {nd:au}{i:Nat}
theorem PS.nat(h:PS w0 w b bs bn D SB NB HB UB)(q:D.N[i]?=nd):∃g hh uu,NB[i]?=Y g/\HB[i]?=Y hh/\UB[i]?=Y uu/\PN w0 w g hh uu nd:=by
 have j:=(bu.1 q).1;obtain⟨g,r⟩:∃y,NB[i]?=Y y:=⟨_,bN (h.xi▸j)⟩;obtain⟨hh,m⟩:∃y,HB[i]?=Y y:=⟨_,bN (h.hlen▸j)⟩;obtain⟨uu,o⟩:∃y,UB[i]?=Y y:=⟨_,bN (h.xE▸j)⟩;exact⟨g,hh,uu,r,m,o,h.rE i nd g hh uu q r m o⟩
variable {s:aC}
theorem PS.sat(h:PS w0 w b bs bn D SB NB HB UB)(j:D.E[i]?=s):∃g,SB[i]?=Y g/\PE w0 w g s:=by
 have o:=(bu.1 j).1;obtain⟨g,m⟩:∃y,SB[i]?=Y y:=⟨_,bN (h.vw▸o)⟩;exact⟨g,m,h.vx i s g j m⟩
variable {g:Nat}
theorem PS.bX9(h:PS w0 w b bs bn D SB NB HB UB)(j:NB[i]?=g):∃nd,D.N[i]?=Y nd:=⟨_,bN (h.xi▸(bu.1 j).1)⟩
theorem PS.H(h:PS w0 w b bs bn D SB NB HB UB)(N:Bw w w'):PS w0 w' b bs bn D SB NB HB UB:=by
 have x:One w0 w w' (U (Q w)):=⟨N.h h.be.size,λz y _=>N.block z y,λcur ty m hc=>absurd (gD hc) (Nat.lt_irrefl _)⟩;have j:∀{z:Nat}{o:Obj},w.heap[z]?=o->z≠U (Q w):=λy e=>aM (gD y);refine⟨h.be.Z (N.h h.be.size),x.obj h.hd (j h.hd),h.vw,?_,λi s g B E=>?_,h.snd,h.xi,h.hlen,h.xE,?_,λi nd g hh S B E R h2=>?_,h.FM,h.lo,h.wu⟩;{let⟨M,n,o,r⟩:=h.uy;let⟨es,c,hm⟩:=ownsMap_at o;exact⟨M,n,x.map o (j hm),r⟩};{have q:=h.vx i s g B E;obtain⟨-,u,R,-⟩:=id q;exact q.W x (j R)};{let⟨M,n,o,r⟩:=h.qH;let⟨es,c,hm⟩:=ownsMap_at o;exact⟨M,n,x.map o (j hm),r⟩};{have q:=h.rE i nd g hh S B E R h2;obtain⟨-,⟨V,Z,-⟩,X,W⟩:=id q;let⟨es,c,m3⟩:=X.at;let⟨Jj,c',m4⟩:=W.at;exact q.W x (j Z) (j m3) (j m4)}
variable {l:iN}
theorem ap9(o:l.Nodup){j a c:Nat}(r:l[i]?=a)(q:l[j]?=c)(m:i≠j):a≠c:=λe=>m (dw7 o r (e▸q))
theorem PS.hu(h:PS w0 w b bs bn D SB NB HB UB):bs≠bn/\(∀z∈HB,z≠bs/\z≠bn)/\(∀z∈UB,z≠bs/\z≠bn)/\HB.Nodup/\UB.Nodup/\∀y∈HB,∀z∈UB,y≠z:=by
 have m:=h.wu;simp only[BS,gv,jg,Iu]at m;obtain⟨⟨x,u,s⟩,⟨r,q⟩,j⟩:=m;rw[Ek]at j;exact⟨x,λz i=>⟨λe=>u (e▸i),λe=>r (e▸i)⟩,λz i=>⟨λe=>s (e▸i),λe=>q (e▸i)⟩,j.1,j.2.1,λy o z i=>j.2.2 y o z i⟩
theorem PS.xF(h:PS w0 w b bs bn D SB NB HB UB){s':aC}(hs:D.E[i]?=s)(hg:SB[i]?=Y g)(iO:One w0 w w' g)(hid:s'.1=s.1)(hE:PE w0 w' g s'):PS w0 w' b bs bn {D with E:=D.E.set i s'} SB NB HB UB:=by
 obtain⟨g0,u0,gc,-⟩:=h.vx i s g hs hg;have sK:=(bu.1 hs).1;have nc:∀{z:Nat}{cs:iA}{ty:TypeId},w.heap[z]?=dO cs ty->ty≠65->z≠g:=λhz ht e=>by rw[e,gc]at hz;simp at hz;exact ht hz.2.C
 have nm:∀{z:Nat}{es:Array MapEntry}{c:Nat},w.heap[z]?=Y (.map es c)->z≠g:=λhz e=>by rw[e,gc]at hz;cases hz
 refine⟨h.be.Z iO.b,iO.obj h.hd (nc h.hd aX),by rw[rF];exact h.vw,?_,λj s1 g1 fh dw=>?_,h.snd,h.xi,h.hlen,h.xE,?_,λj nd gb hh uu fh dw h1 h2=>?_,h.FM,h.lo,h.wu⟩;{
 let⟨M,n,o,hn,m,hz⟩:=h.uy;let⟨es,c,hm⟩:=ownsMap_at o;refine⟨M,n,iO.map o (nm hm),hn,?_,by simp only[rF];exact hz⟩;have e:jZ (λ(s:aC)g=>(Lit.U s.1,g)) (D.E.set i s') SB=jZ (λ(s:aC)g=>(Lit.U s.1,g)) D.E SB:=by refine XK λj=>?_;rw[qV,qV,vJ];by_cases ej:i=j;{subst ej;rw[aK rfl,aK sK,hs,hg];simp[hid]};{simp[ej]}
 rw[e];exact m};{simp only[vJ]at fh;by_cases ej:i=j;{subst ej;rw[hg]at dw;cases dw;simp[sK]at fh;subst fh;exact hE};{simp[ej]at fh;exact(h.vx j s1 g1 fh dw).W iO (ap9 h.snd dw hg (λe=>ej e.C))}};{let⟨M,n,o,r⟩:=h.qH;let⟨es,c,hm⟩:=ownsMap_at o;exact⟨M,n,iO.map o (nm hm),r⟩};{have q:=h.rE j nd gb hh uu fh dw h1 h2;obtain⟨-,⟨V,q1,-⟩,q3,q4⟩:=id q;let⟨es,c,m3⟩:=q3.at;let⟨Jj,c',m4⟩:=q4.at;exact q.W iO (nc q1 aX) (nm m3) (nm m4)}
end
theorem ec1(E:n<=2^21):dQ dG 305 #[aq,.I n] w λe w'=>∃j o,e=dR (.S j 0 o)/\w'.ownsRow (U (Q w)) 114 2 (.S j 0 o) 0 []/\Bw w w':=by
 let⟨i,y,s,M,B⟩:=og Tryz.infoEv;by_cases h:n=0;{subst h;go_in;go_wp2;go_ret;exact⟨dN,0,rfl,nK _ _ _ _,aR _ _⟩};{
 have D:=rr 0 n;have x:=Lib.run_append_nil_zeros (P:=dG) w 41 3 41 114 i (jP #[.I 0,aq]) jV jV underlying41 underlying3 y s n ae ae ae (by rw[B];omega);have q:=af x;have r:=am7 w n 0 114;have m:=am6 w n 0 114 kL;generalize grownCap w n 0 114=cc at q r m;go_in;go_wp2_with(at_builtin;refine Lib.wpList_append_run _ rfl _ _ _ _ rfl _ _ rfl rfl _ _ (by exact q) ?_);unfold maxLen at m;go_wp2;go_ret;have u:(Builtin.zeroCells #[Value.int jV 0,Value.slice dN 0 0] n++Builtin.zeroCells #[Value.int jV 0,Value.slice dN 0 0] (cc-n)).size=cc*2:=by rw[aS1,am5,am5];simp;omega
 exact⟨_,cc,rfl,World.ownsRow_made (base:=U (Q w)) (e:=114) (size:=2) w _ cc az kL u,(aH.alloc az _).drew⟩}
def cL8(ls:List (List dV))(N:Nat):Prop:=J (jL ls)=N*2
def ab2(w:G)(g:Nat)(vs:List dV)(ls:List (List dV)):Prop:=J vs=J ls/\∀j v l,vs[j]?=Y v->ls[j]?=Y l->I w (Ad g j)=Y v/\(∀u∈l,u.oneCell')/\∃n p c,J l=n*2/\v=.S p n c/\(l=[]\/∃a,p=Y a/\∀i u,l[i]?=Y u->I w (a.add i)=Y u)
theorem ab2.H(h:ab2 w g vs ls)(m:Bw w w'):ab2 w' g vs ls:=by
 refine⟨h.1,λj v l M E=>?_⟩;let⟨B,y,n,p,c,x,s,r⟩:=h.2 j v l M E;refine⟨aj B m,y,n,p,c,x,s,r.imp id λ⟨a,D,q⟩=>⟨a,D,λi u o=>?_⟩⟩;have hc:=q i u o;exact(m.cell (p:=a.add i) (nI w _ hc)).Z hc
variable {k:Nat}
theorem cv6{l:List dV}(h:ls[k]?=l):jL (jT (k+1) ls)=jL (jT k ls)++l:=by
 rw[sE,h,Uu];simp
theorem ax2(k:Nat):(jT k ls).flatten.length<=J (jL ls):=by
 have e:jL ls=jL (jT k ls)++jL (jD k ls):=by rw[<-Uu,Mw]
 rw[e,eG];omega
theorem ev0(h:ab2 w g vs ls)(hl:J (jL ls)<=2^21)(hk:J ls<=1000):dQ dG 304 #[.T g (J ls) (J ls)] w λe w'=>∃N q r,e=dR (.S q N r)/\cL8 ls N/\w'.ownsRow (U (Q w)) 114 2 (.S q N r) N (jL ls)/\Bw w w':=by
 let⟨i,hi,ki,fy,gJ⟩:=og Tryz.infoEv;have V:=jq hi ki fy gJ;have HH:=af λ(w':G)(hb:Bw w w')=>h.H hb;let⟨B,m⟩:=bL (J ls);rw[aa m]at hk⊢;go_in;go_wp2
 go_loopw[3,11](λs i wr=>∃k N:Nat,k<=B/\i=.I k/\s=.I N/\O ((jT k ls).flatten.length=N*2)/\wr=w) (λ_ i _=>B-(jN (intOf i)))
 exact⟨0,0,cT _,rfl,rfl,(by show _=_;simp),rfl⟩;{
 obtain⟨k,N,iV,rfl,rfl,hN,rfl⟩:=hrel;have QH:=ax2 (ls:=ls) k;rw[aa hN]at QH;by_cases aL:k<B;{have cM:=bR k B;obtain⟨l,E⟩:∃l,ls[k]?=Y l:=⟨_,bN (aa m▸aL)⟩;let⟨Ja,ui⟩:=aa HH _ aH;obtain⟨v,e2⟩:∃v,vs[k]?=Y v:=⟨_,bN (by rw[Ja,aa m];exact aL)⟩;obtain⟨c1,-,n,p,c,W,rfl,-⟩:=ui k v l e2 E;have X:=cv6 E;have x:=af (by rw[X,eG,aa hN,W];omega:(jT (k+1) ls).flatten.length=(N+n)*2);have YI:=ax2 (ls:=ls) (k+1);rw[aa x]at YI;go_wp2;go_roundw;exact⟨k+1,N+n,ae,by go_num,by go_num,x,by first|rfl|trivial⟩;exact dh};{
 obtain rfl:k=B:=ae;have cM:=fG k k;have e9:=aa hN;rw[od (by rw[aa m];omega)]at e9;have E9:=af e9
 go_wp21
 obtain⟨Z,rfl⟩:=aF wr;refine(ec1 ae).h ?_;rintro e w1⟨p1,c1,rfl,o1,ao⟩;have O1:=af o1;have B1:=af ao;go_wp2
 go_loopw[6,27](λv i w2=>∃(j M:Nat)(y:OA)(R:Nat),j<=k/\i=.I j/\v=.S y M R/\O ((jT j ls).flatten.length=M*2)/\O (w2.ownsRow (U (Q Z)) 114 2 (.S y M R) M (jL (jT j ls)))/\O (Bw Z w2)) (λ_ i _=>k-(jN (intOf i)))
 exact⟨0,0,p1,c1,cT _,rfl,rfl,(by show _=_;simp),by simpa using O1,B1⟩;{
 obtain⟨j,M,y,R,hj,rfl,rfl,hM,D,o⟩:=hrel;have dS7:=ax2 (ls:=ls) j;rw[aa hM]at dS7;have z2:=o.size;by_cases Ex:j<k;{
 have be1:=bR j k;obtain⟨l,E⟩:∃l,ls[j]?=Y l:=⟨_,bN (aa m▸Ex)⟩;let⟨Ja,ui⟩:=aa HH _ o;obtain⟨v,e2⟩:∃v,vs[j]?=Y v:=⟨_,bN (by rw[Ja,aa m];exact Ex)⟩;obtain⟨c2,Ys,n,p,c,W,rfl,nM⟩:=ui j v l e2 E;have X:=cv6 E;have x:=af (by rw[X,eG,aa hM,W];omega:(jT (j+1) ls).flatten.length=(M+n)*2);have YI:=ax2 (ls:=ls) (j+1);rw[aa x]at YI;have HS:=af X;have H3:=af W;have HO:=af Ys;cases p with
 |none=>
  obtain rfl:l=[]:=nM.resolve_right (λ⟨a,ea,_⟩=>by cases ea);obtain rfl:n=0:=by have:=aa H3;simp at this;omega
  have HA:=af (W8 (P:=dG) 41 i underlying41 V.1 c D);go_wp2_with(at_builtin;refine Lib.wpList_append_run _ rfl _ _ _ _ rfl _ _ rfl rfl _ _ (by exact HA) ?_);go_roundw;exact⟨j+1,M,y,R,ae,by go_num,rfl,by simpa using x,(by show World.ownsRow _ _ _ _ _ _ _;rw[aa HS];simpa using aa D),o⟩;exact dh
 |some ad=>
  have yO:∀(jj:Nat)(u:dV),l[jj]?=u->I wr (ad.add jj)=u:=by obtain rfl|⟨a,ea,ha⟩:=nM;{intro jj u hu;simp at hu};{cases ea;exact ha}
  go_wp2_with(at_builtin;refine Uj _ rfl _ _ 41 rfl (U (Q Z)) 114 i _ 2 32 underlying41 V.1 V.2.1 V.2.2.1 V.2.2.2 rfl aX _ _ _ rfl D ad n c l rfl H3 yO HO kL ae o.size ?_);intro v' w3 du hg _;have b3:=af (o.grown hg o.size (λk hk=>(Mp D k hk).1));obtain⟨q,r,rfl⟩:∃q r,v'=.S q (M+n) r:=by obtain⟨rfl,h0⟩|⟨g',cap,cur,rfl,-⟩:=du.2;{exact⟨dN,0,by rw[h0]⟩};{exact⟨_,_,rfl⟩}
  have HW:=af du;go_wp2;go_roundw;exact⟨j+1,M+n,q,r,ae,by go_num,rfl,x,(by show World.ownsRow _ _ _ _ _ _ _;rw[aa HS];exact aa HW),b3⟩;exact dh};{obtain rfl:j=k:=ae;have be1:=fG j j;have e8:=aa D;have e7:=aa hM;rw[od (by rw[aa m];omega)]at e8 e7;have HE:=br e8 e7;go_wp2;go_ret;exact⟨M,y,R,rfl,HE.2,HE.1,o⟩}}}}
def Rp(w0 w:G)(e:Ev)(c:List dV):Prop:=∃P,c=[.I e.1,P]/\AB w0 w P e.2/\vr P
theorem Rp.T{T:List TypeId}(hf:Fr T w w')(ht:5∉T)(e:Ev)(c:List dV)(h:Rp w0 w e c):Rp w0 w' e c:=by
 obtain⟨P,h1,h2,h3⟩:=h;exact⟨P,h1,h2.T hf ht,h3⟩
theorem cv7(i:∀c∈cs,J c=2):J (jL cs)=J cs*2:=by
 induction cs with
 |nil=>rfl
 |cons c r ih=>rw[vH,eG,i c ai,ih (λd j=>i d (by simp[j])),ni];omega
variable {c:Nat}
theorem AQ.cells(h:AQ w0 w (.S p n c) es):n=J es/\∃cs:List (List dV),J cs=J es/\(∀c∈cs,J c=2)/\(∀(i:Nat)(e:Ev)(c:List dV),es[i]?=Y e->cs[i]?=Y c->Rp w0 w e c)/\(jL cs=[]\/∃a,p=Y a/\∀i u,cs.flatten[i]?=Y u->I w (a.add i)=Y u):=by
 obtain⟨V,W,e,h⟩:=h;obtain⟨rfl,N,rfl⟩:=mg e;refine⟨N,?_⟩;obtain rfl|⟨b,o,rfl,-,h⟩:=h;{exact⟨[],rfl,λc hc=>by simp at hc,λi e c he=>by simp at he,.L rfl⟩};{
 have key:∀(es:List Ev)(o:Nat),(∀i e,es[i]?=Y e->I w (Ad b (o+i*2))=dI e.1/\∃u,I w (Ad b (o+i*2+1))=Y u/\AB w0 w u e.2/\vr u)->∃cs:List (List dV),J cs=J es/\(∀c∈cs,J c=2)/\(∀(i:Nat)(e:Ev)(c:List dV),es[i]?=Y e->cs[i]?=Y c->Rp w0 w e c)/\∀i u,cs.flatten[i]?=Y u->I w (Ad b (o+i))=Y u:=by
  intro es
  induction es with
  |nil=>intro o h;exact⟨[],rfl,λc hc=>by simp at hc,λi e c he=>by simp at he,λi u m=>by simp at m⟩
  |cons e r ih=>
   intro o h;let⟨cs,y,x,s,q⟩:=ih (o+2) (λi e he=>by have:=h (i+1) e (by simpa using he);rw[show o+(i+1)*2=o+2+i*2 by omega]at this;exact this)
   let⟨M,u,E,D,B⟩:=h 0 e rfl;refine⟨[.I e.1,u]::cs,by simp[y],λc hc=>?_,λi R c he hc=>?_,λi v j=>?_⟩;{obtain rfl|hc:=gv.1 hc;{rfl};{exact x c hc}};{
 cases i with
 |zero=>simp at he hc;subst he hc;exact⟨u,rfl,D,B⟩
 | succ i=>exact s i R c (by simpa using he) (by simpa using hc)}
   {
 match i,j with
 |0,j=>simp at j;subst j;simpa using M
 |1,j=>simp at j;subst j;simpa using E
 |i+2,j=>
  have:=q i v (by simpa using j);rw[show o+(i+2)=o+2+i by omega];exact this}
 let⟨cs,y,x,s,q⟩:=key es o h;exact⟨cs,y,x,s,.R ⟨_,rfl,λi u m=>by rw[Ix];exact q i u m⟩⟩}
theorem AQ.dv4(h:RT (Rp w0) 114 2 B w v es):AQ w0 w v es:=by
 obtain⟨p,c,rfl,-,-,q⟩:=RT.form h;refine⟨p,c,rfl,?_⟩;by_cases o:es=[];{exact .L o};{obtain⟨g,rfl⟩:=q (PC.2 o);let⟨j,hc⟩:=h.uw g rfl;refine .R ⟨g,0,rfl,.R ⟨j,_,hc⟩,λi e he=>?_⟩;obtain⟨cs,-,⟨P,rfl,s,r⟩,m,-⟩:=RT.at h he;rw[l9];exact⟨m 0 _ rfl,P,m 1 _ rfl,s,r⟩}
theorem dr1(h:PE w0 w g s):∃i q,w.heap[g]?=dO #[.U s.1,.I s.2.1,.S i (J s.2.2) q] 65/\AQ w0 w (.S i (J s.2.2) q) s.2.2/\(∀o,jF w (Ad g o)=dF):=by
 obtain⟨-,u,m,j⟩:=h;obtain⟨p,c,rfl,r⟩:=id j;exact⟨p,c,m,j,λo=>by simp[World.frozen?,m]⟩
theorem cu2{i:G}(E:Bw w0 w)(D:PE w0 w g s)(j:Bw w i)(hq:AQ w0 i v' q'):One w0 w (jS i (Ad g 2) v') g/\PE w0 (jS i (Ad g 2) v') g (s.1,s.2.1,q'):=by
 obtain⟨r,u,o,R⟩:=D;have q:=(j.block g (gD o)).Z o;have f:Fr [65] i (jS i (Ad g 2) v'):=Fr.set q ai;have x:Below (U (Q w0)) i (jS i (Ad g 2) v'):=aH.setCell (p:=(Ad g 2)) r _;refine⟨⟨(j.h E.size).Z x,λz y M=>(fN _ _ _ _ M).Z (j.block z y),λcur N m hc=>?_⟩,r,v',by simp[World.setCell,yD,q],hq.T x f aX⟩;rw[o]at hc;simp at hc;simp[<-hc.2.1]
theorem cE0{pq pe:OA}{nq X M:Nat}(hQ:AQ w0 w (.S pq nq X) es)(hv:AB w0 w Pv ev.2)(hc:vr Pv)(hn:nq<=1000)(h0:I w (Ad z 0)=dS pq nq X)(h1:I w (Ad z 1)=dK M 1 1)(k0:I w (Ad M 0)=dI ev.1)(k1:I w (Ad M 1)=Pv):Cp 304 #[.T z 2 2] w λr w'=>∃V Z,r=dR (.S V (nq+1) Z)/\AQ w0 w' (.S V (nq+1) Z) (es++[ev])/\Bw w w':=by
 let⟨en,cs,R,g2,g3,g4⟩:=hQ.cells;have Ys:Pv.oneCell':=by obtain⟨_,_,_,rfl,-⟩:=hc;rfl
 have hf:=cv7 g2;have hPE:ab2 w z [.S pq nq X,.T M 1 1] [jL cs,[.I ev.1,Pv]]:=by
  refine⟨rfl,λj v l s q=>?_⟩
  match j,s,q with
  |0,s,q=>
   simp at s q;subst s q;refine⟨h0,λu m=>?_,nq,pq,X,by rw[hf,R,en],rfl,g4⟩;let⟨l,hl,E⟩:=FN.1 m;let⟨i,W⟩:=ji.1 hl;obtain⟨e,he⟩:∃e,es[i]?=Y e:=⟨_,bN (R▸(bu.1 W).1)⟩;obtain⟨P,rfl,-,⟨_,_,_,rfl,-⟩⟩:=g3 i e l he W;simp at E;obtain rfl|rfl:=E<;>rfl
  |1,s,q=>
   simp at s q;subst s q;refine⟨h1,λu m=>?_,1,Y (Ad M 0),1,rfl,rfl,.R ⟨_,rfl,λi u m=>?_⟩⟩;{simp at m;obtain rfl|rfl:=m;{rfl};{exact Ys}};{
 rw[Ix,l9]
 match i,m with
 |0,m=>simp at m;subst m;exact k0
 |1,m=>simp at m;subst m;exact k1}
 have QH:jL ([jL cs,[.I ev.1,Pv]]:List (List dV))=jL (cs++[[.I ev.1,Pv]]):=ai;have o:([jL cs,[.I ev.1,Pv]]:List (List dV)).flatten.length=(nq+1)*2:=by
  rw[QH,cv7 (λc hc=>by obtain hc|hc:=jg.1 hc;{exact g2 c hc};{simp at hc;subst hc;rfl}),eG,R,<-en]
  rfl
 refine(ev0 hPE (by rw[o];omega) ai).h ?_;rintro r w'⟨N,V,Z,rfl,hN,ho,hb⟩;have eN:N=nq+1:=by unfold cL8 at hN;rw[o]at hN;omega
 subst eN;refine⟨V,Z,rfl,AQ.dv4 (B:=U (Q w)) ⟨cs++[[.I ev.1,Pv]],by simp[R],λc hc=>?_,?_,λi y c x D=>?_⟩,hb⟩;{obtain hc|hc:=jg.1 hc;{exact g2 c hc};{simp at hc;subst hc;rfl}};{rw[<-QH,eG,<-en];exact ho};{
 have gR:Fr [] w w':=Fr.H hb;by_cases W:i<J es;{rw[qw W]at x;rw[qw ae]at D;exact Rp.T gR ai _ _ (g3 i y c x D)};{
 have ei:i=J es:=by have:=(bu.1 x).1;simp at this;omega
 subst ei;rw[rG az,BQ]at x;rw[rG ae,R,BQ]at D;simp at x D;subst x D;exact⟨Pv,rfl,hv.T gR ai,hc⟩}}
variable {cs:iA}
theorem One.ofB(s:Bw w0 w)(i:Bw w w')(q:w.heap[g]?=dO cs ty)(o:ty∈[65,142,135]):One w0 w w' g:=by
 refine⟨i.h s.size,λz j _=>i.block z j,λr u m hc=>?_⟩;rw[q]at hc;simp at hc;rw[<-hc.2.1];exact o
theorem PE.H(h:PE w0 w g s)(q:Bw w0 w)(i:Bw w w'):PE w0 w' g s:=by
 obtain⟨o,u,j,m⟩:=h;exact⟨o,u,(i.block g (gD j)).Z j,m.T (i.h q.size) (bH i) ai⟩
theorem ec3(w:G)(y:Nat)(s:aC)(K:Int)(P:LI)(pe:OA)(X ce:Nat)(be:O (Bw w0 w))(hE:O (PE w0 w y s))(hP:O (AB w0 w (.S pe X ce) P))(hc:O (vr (.S pe X ce)))(hq:J s.2.2<=1000):dQ dG 303 #[Pz y,jP #[.I K,.S pe X ce]] w λr w'=>One w0 w w' y/\PE w0 w' y (s.1,s.2.1,uA s.2.2 (K,P))/\∃v,r=dR v:=by
 let⟨pq,cq,gc,hQ,gf⟩:=dr1 hE;let⟨nq,yb⟩:=bL (J s.2.2);rw[aa yb]at gc hQ hq;have c2:I w (Ad y 2)=dS pq nq cq:=cX gc 2;have tz:y<U (Q w):=gD gc;let⟨W0,N,b0,z0,C0,T0⟩:=bM w #[.I K,.S pe X ce] 114;have HC0:=af C0;have B0:=af b0;have HQ:=af (hQ.T (b0.h be.size) (bH b0) ai);have HP0:=af (hP.T (bH b0) ai);have c2a:=λ(ob:Obj)=>aj c2 ((aR (U (Q w)) w).alloc az ob);have c2w:=af c2;have gfw:=af gf;clear C0 b0 T0 hQ gf;go_in;have HGC:=af gc;clear gc;by_cases h7:nq<7;{
 have h7':(nq:Int)<7:=ae;have Ql:uA s.2.2 (K,P)=s.2.2++[(K,P)]:=by rw[uA,aa yb,aK h7]
 rw[Ql]
 go_wp21
 rw[<-N];clear N c2a Ql;let⟨vA,de⟩:=aF W0.drew;have cQ:=mW de;have BA:=af cQ;have m:=af (λ(v:G)(hv:Bw W0 v)=>aD (aD (aj (HC0.1 0 _ rfl) hv) (aj (HC0.1 1 _ rfl) hv)) (aD (aj c2w (ah (aa B0) hv)) (aD (HQ.T ((am2 hv (by have:=B0.size;have:=be.size;omega))) (bH hv) ai) (aD (HP0.T (bH hv) ai) (ah (aa B0) hv)))));refine fK (λw'=>I w' (Aw w 0)=dI K/\I w' (Aw w 1)=dS pe X ce) (de▸(aa m vA cQ).1) λhS=>?_;rw[<-de]at hS⊢;clear de cQ;refine iL 0 1 2 3 hS ?_;refine tn 5 hS ?_;refine ry [4,6] ?_;refine cn (λj hK=>?_) ?_;rotate_left;refine cn (λj hK=>?_) ?_;rotate_left;exact fI;have cq:=(aa m vA BA).2.1;go_simp;refine bQ hK (by exact(aa m vA BA).1) λhS=>?_;clear hK j cq;refine ry [6] ?_;refine cn (λj hK=>?_) ?_;rotate_left;exact fI;rotate_right;go_simp;obtain⟨Z,q,M,zZ,V,-⟩:=bM vA #[.I K,.S pe X ce] 114;rw[<-q];have B1:=af (ah BA M);have yi:=af V;refine bQ hK (by exact(aa m Z B1).1) λhS=>?_;clear hK j q M V;rotate_left;go_simp;obtain⟨Z,q,M,zZ,V,-⟩:=bM vA #[.I K,.S pe X ce] 114;rw[<-q];have B1:=af (ah BA M);have yi:=af V;refine bQ hK (by exact(aa m Z B1).1) λhS=>?_;clear hK j q M V;refine ry [4] ?_;refine cn (λj hK=>?_) ?_;rotate_left;exact fI;rotate_right;have cq:=(aa m Z B1).2.1;go_simp;refine bQ hK (by exact(aa m Z B1).1) λhS=>?_;clear hK j cq
 all_goals(
  refine ry [7] ?_;refine cn (λj hK=>?_) ?_;rotate_left;exact fI;rotate_right;go_simp;obtain⟨iY,D,bY,zY,W,-⟩:=bM Z #[.S pq nq cq,.T (U (Q vA)) 1 1] 41;rw[<-D];rw[zZ]at W;have B2:=af (ah B1 bY);have x:=br W (yi.H ae bY);refine bQ hK (by exact(aa m iY B2).1) λhS=>?_;clear hK j D bY W;refine ry [8] ?_;refine cn (λj hK=>?_) ?_;rotate_left;exact fI;rotate_right;refine js (cE0 (ev:=(K,P)) (pe:=pe) (aa m iY B2).2.2.1 (aa m iY B2).2.2.2.1 hc hq (x.1.1 0 _ rfl) (x.1.1 1 _ rfl) (x.2.1 0 _ rfl) (x.2.1 1 _ rfl)) ?_;rintro r w5⟨p',c',rfl,Yr,cR⟩;refine⟨_,rfl,?_⟩;have B5:=af (ah B2 cR);have SQ:=af Yr;refine bQ hK (by exact(aa m w5 B5).1) λhS=>?_;clear hK j Yr cR;refine gh 9 10 hS ?_;refine ry [11] ?_;refine cn (λj hK=>?_) ?_;rotate_left;exact fI;rotate_right;obtain⟨-,c25,-,-,VF⟩:=aa m w5 B5;have f25:=(VF.frozen (p:=(Ad y 2)) tz).Z (aa gfw 2);have BW5:=af VF;clear VF;go_simp;have iG:=af (cu2 be hE BW5 SQ);have kS:∀o,I (jS w5 (Ad y 2) (.S p' (nq+1) c')) (Aw w o)=I w5 (Aw w o):=λo=>gF (fN _ _ _ _ (by show U (Q w)≠y;omega)) _;refine bQ hK (by exact⟨(kS 0).Z hS.1,(kS 1).Z hS.2⟩) λhS=>?_;clear hK j c25 f25 kS;refine ga ?_;clear hS;go_wp2;go_end0;exact⟨iG.1,iG.2,_,rfl⟩)}
 {
 have h7':¬(nq:Int)<7:=ae;by_cases h8:nq=7;{
 have Ql:uA s.2.2 (K,P)=s.2.2++[(4,[])]:=by rw[uA,aa yb,aJ h7,aK h8]
 rw[Ql];have Re:((nq:Int)==7):=by simp;omega
 obtain⟨Z,q,M,zZ,V,-⟩:=bM W0 #[.I 4,aq] 114;obtain⟨iY,D,bY,zY,W,-⟩:=bM Z #[.S pq nq cq,.T (U (Q W0)) 1 1] 41;have BY:=af (ah M bY);have x:=br W (V.H ae bY);have QY:=af (HQ.T (BY.h (by have:=B0.size;have:=be.size;omega)) (bH BY) ai);have c2b:=λ(ob oc:Obj)=>aj (c2a ob) (aH.alloc az oc);rw[zZ]at W x;have HW:=dy N q D;rw[z0]at x zZ W;clear W V N q D M bY Ql h7 h8
 go_wp21
 let⟨N,q,D⟩:=aa HW;rw[z0]at D;rw[<-N,<-q,<-D];clear N q D HW c2a c2b;refine(cE0 (w:=iY) (ev:=(4,[])) (pe:=dN) QY (.R (TB.nil _)) ⟨dN,0,0,rfl,fq _,cT _⟩ hq (x.1.1 0 _ rfl) (x.1.1 1 _ rfl) (x.2.1 0 _ rfl) (x.2.1 1 _ rfl)).h ?_;rintro r w5⟨p',c',rfl,Yr,cR⟩;have lp:=af (ah (ah B0 BY) cR);have c25:=aj c2w lp;have f25:=(lp.frozen (p:=(Ad y 2)) tz).Z (aa gfw 2);have iG:=af (cu2 be hE lp Yr);clear Yr cR;go_wp2;go_end0;exact⟨iG.1,iG.2,_,rfl⟩};{
 have Ql:uA s.2.2 (K,P)=s.2.2:=by rw[uA,aa yb,aJ h7,aJ h8]
 rw[Ql];have Re:((nq:Int)==7)=dF:=by simp;omega
 go_wp2;go_end0;rw[<-N];exact⟨One.ofB be B0 HGC ai,hE.H be B0,_,rfl⟩}}
theorem qC.same{l o:List (Lit×Nat)}(h:qC D l)(j:∀p,p∈o↔p∈l):qC D o:=by
 refine⟨λk=>?_,λp i z=>h.at' p ((j p).1 i) z⟩;rw[h.hs k];exact⟨λ⟨p,i,m⟩=>⟨p,(j p).2 i,m⟩,λ⟨p,i,m⟩=>⟨p,(j p).1 i,m⟩⟩
theorem qC.del{l:List (Lit×Nat)}(h:qC D l){k:Lit}(u:l[i]?=Y (k,g))(hd:∀(j:Nat)(p:Lit×Nat),l[j]?=Y p->p.1=k->j=i):qC (D.del k) (jX l i):=by
 have q:∀p,p∈jX l i↔p∈l/\p.1≠k:=λp=>by rw[ca8];constructor;{rintro⟨j,o,e⟩;exact⟨bq e,λr=>o (hd j p e r)⟩};{rintro⟨m,E⟩;let⟨j,o⟩:=ji.1 m;refine⟨j,λe=>E ?_,o⟩;subst e;rw[u]at o;cases o;rfl}
 refine⟨λs=>?_,λp m z=>?_⟩;{by_cases e:s=k;{subst e;rw[has_del_same];constructor;{intro x;cases x};{rintro⟨p,m,r⟩;exact absurd r ((q p).1 m).2}};{rw[has_del_other e,h.hs s];constructor;{rintro⟨p,m,rfl⟩;exact⟨p,(q p).2 ⟨m,e⟩,rfl⟩};{rintro⟨p,m,rfl⟩;exact⟨p,((q p).1 m).1,rfl⟩}}};{let⟨B,y⟩:=(q p).1 m;rw[atKey_del_other y];exact h.at' p B z}
theorem aH1{α β γ:Type}(f:α->β->γ):∀(l:List α)(m:List β)(i:Nat),J l=J m->jZ f (jX l i) (jX m i)=jX (jZ f l m) i
 |[],[],i,_=>ai
 |a::l,c::m,0,_=>ai
 |a::l,c::m,i+1,h=>by simp[aH1 f l m i (by simpa using h)]
section
variable {w0 w w':World}{b bs bn:Nat}{D:SD}{SB NB HB UB:iN}
variable {nd:au}{i:Nat}
theorem PS.aI9(h:PS w0 w b bs bn D SB NB HB UB){nd':au}(hi:D.N[i]?=nd)(hg:NB[i]?=Y g)(jd:HB[i]?=hh)(iK:UB[i]?=uu)(hz:z=g\/z=hh\/z=uu)(iO:One w0 w w' z)(hp:nd'.A=nd.A)(hN:PN w0 w' g hh uu nd'):PS w0 w' b bs bn {D with N:=D.N.set i nd'} SB NB HB UB:=by
 obtain⟨-,⟨V0,gc,-⟩,q3,q4⟩:=h.rE i nd g hh uu hi hg jd iK;let⟨es3,c3,m3⟩:=q3.at;let⟨es4,c4,m4⟩:=q4.at;let⟨d0,d1,d2,d3,d4,d5⟩:=h.hu;have sK:=(bu.1 hi).1;have hhm:=bq jd;have hum:=bq iK;have nc:∀{y:Nat}{cs:iA}{ty:TypeId},w.heap[y]?=dO cs ty->(ty≠142\/y≠g)->y≠z:=λ{y cs ty}hy ht e=>by obtain rfl|rfl|rfl:=hz;{obtain ht|ht:=ht;{rw[e,gc]at hy;simp at hy;exact ht hy.2.C};{exact ht e}};{rw[e,m3]at hy;cases hy};{rw[e,m4]at hy;cases hy}
 have nm:∀{y:Nat}{es:Array MapEntry}{c:Nat},w.heap[y]?=Y (.map es c)->y≠hh->y≠uu->y≠z:=λ{y es c}hy h1 h2 e=>by obtain rfl|rfl|rfl:=hz;{rw[e,gc]at hy;cases hy};{exact h1 e};{exact h2 e}
 refine⟨h.be.Z iO.b,iO.obj h.hd (nc h.hd (.L aX)),h.vw,?_,λj s1 g1 fh dw=>?_,h.snd,by rw[rF];exact h.xi,by rw[rF];exact h.hlen,by rw[rF];exact h.xE,?_,λj gS gb h1 u1 fh dw qZ kW=>?_,h.FM,h.lo,h.wu⟩;{let⟨M,n,o,r⟩:=h.uy;let⟨es,c,hm⟩:=ownsMap_at o;exact⟨M,n,iO.map o (nm hm (λe=>(d1 _ hhm).1 e.C) (λe=>(d2 _ hum).1 e.C)),r⟩};{have q:=h.vx j s1 g1 fh dw;obtain⟨-,u,h1,-⟩:=id q;exact q.W iO (nc h1 (.L aX))};{
 let⟨M,n,o,hn,m,hs⟩:=h.qH;let⟨es,c,hm⟩:=ownsMap_at o;refine⟨M,n,iO.map o (nm hm (λe=>(d1 _ hhm).2 e.C) (λe=>(d2 _ hum).2 e.C)),hn,?_,by simp only[rF];exact hs⟩;have e:jZ (λ(nd:au)g=>(dr nd.A,g)) (D.N.set i nd') NB=jZ (λ(nd:au)g=>(dr nd.A,g)) D.N NB:=by refine XK λj=>?_;rw[qV,qV,vJ];by_cases ej:i=j;{subst ej;rw[aK rfl,aK sK,hi,hg];simp[hp]};{simp[ej]}
 rw[e];exact m};{simp only[vJ]at fh;by_cases ej:i=j;{subst ej;rw[hg]at dw;rw[jd]at qZ;rw[iK]at kW;cases dw;cases qZ;cases kW;simp[sK]at fh;subst fh;exact hN};{simp[ej]at fh;have q:=h.rE j gS gb h1 u1 fh dw qZ kW;obtain⟨-,⟨V,q1,-⟩,p3,p4⟩:=id q;let⟨es,c,m5⟩:=p3.at;let⟨Jj,c',m6⟩:=p4.at;have ej':¬j=i:=λe=>ej e.C;exact q.W iO (nc q1 (.R (ap9 h.FM dw hg ej'))) (nm m5 (ap9 d3 qZ jd ej') (d5 _ (bq qZ) _ hum)) (nm m6 (λe=>d5 _ hhm _ (bq kW) e.C) (ap9 d4 kW iK ej'))}}
theorem PS.ag7(h:PS w0 w b bs bn D SB NB HB UB)(iO:One w0 w w' b)(e g x t:Int)(hd:w'.heap[b]?=dO #[.U e,.U g,.U x,.I t,.map bs,.map bn] 135):PS w0 w' b bs bn ⟨e,g,x,t,D.E,D.N⟩ SB NB HB UB:=by
 have R:∀{y:Nat}{cs:iA}{s:TypeId},w.heap[y]?=dO cs s->s≠135->y≠b:=λ{y cs s}i ht e=>by rw[e,h.hd]at i;simp at i;exact ht i.2.C
 have m:∀{y:Nat}{es:Array MapEntry}{c:Nat},w.heap[y]?=Y (.map es c)->y≠b:=λ{y es c}i e=>by rw[e,h.hd]at i;cases i
 refine⟨h.be.Z iO.b,hd,h.vw,?_,λj W g1 E N=>?_,h.snd,h.xi,h.hlen,h.xE,?_,λj nd gb hh S E N B h2=>?_,h.FM,h.lo,h.wu⟩;{let⟨M,n,o,r⟩:=h.uy;let⟨es,c,hm⟩:=ownsMap_at o;exact⟨M,n,iO.map o (m hm),r⟩};{have q:=h.vx j W g1 E N;obtain⟨-,u,B,-⟩:=id q;exact q.W iO (R B aX)};{let⟨M,n,o,r⟩:=h.qH;let⟨es,c,hm⟩:=ownsMap_at o;exact⟨M,n,iO.map o (m hm),r⟩};{have q:=h.rE j nd gb hh S E N B h2;obtain⟨-,⟨V,q1,-⟩,Z,X⟩:=id q;let⟨es,c,m3⟩:=Z.at;let⟨Jj,c',m4⟩:=X.at;exact q.W iO (R q1 aX) (m m3) (m m4)}
theorem PS.es6(h:PS w0 w b bs bn D SB NB HB UB)(hi:D.N[i]?=nd)(iO:One w0 w w' bn)(hd:∀(j:Nat)(z:au),D.N[j]?=z->dr z.A=dr nd.A->j=i)(hM:∀M n,jM w dG 9 iB bn n M->jM w' dG 9 iB bn n (M.del (dr nd.A))):PS w0 w' b bs bn {D with N:=jX D.N i} SB (jX NB i) (jX HB i) (jX UB i):=by
 obtain⟨g,hh,uu,hg,jd,iK,-⟩:=h.nat hi;let⟨d0,d1,d2,d3,d4,d5⟩:=h.hu;let⟨M,n,o,hn,m,hs⟩:=h.qH;let⟨es0,c0,m0⟩:=ownsMap_at o;have sK:=(bu.1 hi).1;have nc:∀{y:Nat}{cs:iA}{ty:TypeId},w.heap[y]?=dO cs ty->y≠bn:=λ{y cs ty}hy e=>by rw[e,m0]at hy;cases hy
 have hz:(jZ (λ(nd:au)g=>(dr nd.A,g)) D.N NB)[i]?=Y (dr nd.A,g):=by rw[qV,hi,hg]
 have hdz:∀(j:Nat)(p:Lit×Nat),(jZ (λ(nd:au)g=>(dr nd.A,g)) D.N NB)[j]?=Y p->p.1=dr nd.A->j=i:=λj p hj e=>by
  rw[qV]at hj;cases ha:D.N[j]? with
  |none=>rw[ha]at hj;cases hj
  | some a=>
   cases hc:NB[j]? with
   |none=>rw[ha,hc]at hj;cases hj
   |some c=>
    rw[ha,hc]at hj;cases hj;exact hd j a ha e
 have el:∀{l:iN},J l=J D.N->J (jX l i)=J (jX D.N i):=λhl=>by rw[PJ,PJ,hl]
 refine⟨h.be.Z iO.b,iO.obj h.hd (nc h.hd),h.vw,?_,λj s1 g1 fh dw=>?_,h.snd,el h.xi,el h.hlen,el h.xE,⟨_,n,hM M n o,hn,?_,?_⟩,λj gS gb h1 u1 fh dw qZ kW=>?_,h.FM.sublist (Kk _ _),h.lo,?_⟩;{let⟨M,n,o,r⟩:=h.uy;exact⟨M,n,iO.map o d0,r⟩};{have q:=h.vx j s1 g1 fh dw;obtain⟨-,u,h1,-⟩:=id q;exact q.W iO (nc h1)};{rw[aH1 _ _ _ _ h.xi.C];exact m.del hz hdz};{have QF:Maps.has M (dr nd.A):=(m.hs _).2 ⟨_,bq hz,rfl⟩;have:=size_del (k:=dr nd.A) (ak8 o sG);rw[QF]at this;simp only[pQ]at this;simp only[PJ,sK,pQ];omega};{
 rw[aT4]at fh dw qZ kW;obtain⟨j',xQ,dz,hh2,Ay⟩:∃j',D.N[j']?=Y gS/\NB[j']?=Y gb/\HB[j']?=Y h1/\UB[j']?=Y u1:=by by_cases hj:j<i;{rw[aK hj]at fh dw qZ kW;exact⟨j,fh,dw,qZ,kW⟩};{rw[aJ hj]at fh dw qZ kW;exact⟨j+1,fh,dw,qZ,kW⟩}
 have q:=h.rE j' gS gb h1 u1 xQ dz hh2 Ay;obtain⟨-,⟨V,q1,-⟩,p3,p4⟩:=id q;exact q.W iO (nc q1) (d1 _ (bq hh2)).2 (d2 _ (bq Ay)).2};{exact h.wu.sublist (((Kk HB i).append (Kk UB i)).cons_cons bn |>.cons_cons bs)}
variable {s:aC}
theorem PS.es5(h:PS w0 w b bs bn D SB NB HB UB)(hi:D.E[i]?=s)(iO:One w0 w w' bs)(hd:∀(j:Nat)(z:aC),D.E[j]?=z->z.1=s.1->j=i)(hM:∀M n,jM w dG 24 iB bs n M->jM w' dG 24 iB bs n (M.del (.U s.1))):PS w0 w' b bs bn {D with E:=jX D.E i} (jX SB i) NB HB UB:=by
 obtain⟨g,hg,-⟩:=h.sat hi;let⟨d0,d1,d2,d3,d4,d5⟩:=h.hu;let⟨M,n,o,hn,m,hs⟩:=h.uy;let⟨es0,c0,m0⟩:=ownsMap_at o;have sK:=(bu.1 hi).1;have nc:∀{y:Nat}{cs:iA}{ty:TypeId},w.heap[y]?=Y (dO cs ty)->y≠bs:=λ{y cs ty}hy e=>by rw[e,m0]at hy;cases hy
 have hz:(jZ (λ(s:aC)g=>(Lit.U s.1,g)) D.E SB)[i]?=Y (.U s.1,g):=by rw[qV,hi,hg]
 have hdz:∀(j:Nat)(p:Lit×Nat),(jZ (λ(s:aC)g=>(Lit.U s.1,g)) D.E SB)[j]?=Y p->p.1=.U s.1->j=i:=λj p hj e=>by
  rw[qV]at hj;cases ha:D.E[j]? with
  |none=>rw[ha]at hj;cases hj
  | some a=>
   cases hc:SB[j]? with
   |none=>rw[ha,hc]at hj;cases hj
   |some c=>
    rw[ha,hc]at hj;cases hj;exact hd j a ha (by simpa using e)
 refine⟨h.be.Z iO.b,iO.obj h.hd (nc h.hd),by rw[PJ,PJ,h.vw],⟨_,n,hM M n o,hn,?_,?_⟩,λj s1 g1 fh dw=>?_,h.snd.sublist (Kk _ _),h.xi,h.hlen,h.xE,?_,λj gS gb h1 u1 fh dw qZ kW=>?_,h.FM,h.lo,h.wu⟩;{rw[aH1 _ _ _ _ h.vw.C];exact m.del hz hdz};{have QF:Maps.has M (.U s.1):=(m.hs _).2 ⟨_,bq hz,rfl⟩;have:=size_del (k:=.U s.1) (ak8 o mT);rw[QF]at this;simp only[pQ]at this;simp only[PJ,sK,pQ];omega};{
 rw[aT4]at fh dw;obtain⟨j',xQ,dz⟩:∃j',D.E[j']?=Y s1/\SB[j']?=Y g1:=by by_cases hj:j<i;{rw[aK hj]at fh dw;exact⟨j,fh,dw⟩};{rw[aJ hj]at fh dw;exact⟨j+1,fh,dw⟩}
 have q:=h.vx j' s1 g1 xQ dz;obtain⟨-,u,h1,-⟩:=id q;exact q.W iO (nc h1)};{let⟨M,n,o,r⟩:=h.qH;exact⟨M,n,iO.map o (λe=>d0 e.C),r⟩};{have q:=h.rE j gS gb h1 u1 fh dw qZ kW;obtain⟨-,⟨V,q1,-⟩,p3,p4⟩:=id q;exact q.W iO (nc q1) (d1 _ (bq qZ)).1 (d2 _ (bq kW)).1}
end
structure sS(ss:List aC):Prop where
 pw:ss.Pairwise (λs s'=>s.1<s'.1)
 rg:∀s∈ss,0<=s.1/\s.1<2^64
 ql:∀s∈ss,J s.2.2<=8
theorem bU3(h:J q<=8):J (uA q ev)<=8:=by
 unfold uA;split;{simp;omega};{split;{simp;omega};{exact h}}
theorem bm6(ss:List aC)(id:Int)(ev:Ev):(Co ss id ev).map (·.1)=ss.map (·.1):=by
 unfold Co;rw[sA];refine My λs _=>?_;simp only[Function.comp];split<;>rfl
theorem sS.aw7(h:sS ss)(id:Int)(ev:Ev):sS (Co ss id ev):=by
 refine⟨?_,λs m=>?_,λs m=>?_⟩;{have:=h.pw;rw[<-BO (f:=λs:aC=>s.1) (R:=(·<·))]at this⊢;rw[bm6];exact this};{obtain⟨i,j,rfl⟩:=fg.1 m;split<;>exact h.rg i j}
 {obtain⟨i,j,rfl⟩:=fg.1 m;split;{exact bU3 (h.ql i j)};{exact h.ql i j}}
theorem cu3(h:ss.Pairwise (λs o=>s.1<o.1))(q:ss[i]?=Y s)(ev:Ev):Co ss s.1 ev=ss.set i (s.1,s.2.1,uA s.2.2 ev):=by
 refine XK λj=>?_;unfold Co;rw[qI,vJ];by_cases r:i=j;{subst r;rw[aK rfl,aK (bu.1 q).1,q];simp};{
 rw[aJ r];cases hj:ss[j]? with
 |none=>rfl
 |some o=>
  have E:¬o.1=s.1:=λe=>by have y:=FO.1 h;let⟨D,x⟩:=bu.1 q;let⟨B,u⟩:=bu.1 hj;obtain m|m|m:=Mz i j;{have:=y i j D B m;rw[x,u]at this;omega};{exact r m};{have:=y j i B D m;rw[x,u]at this;omega}
  simp[E]}
theorem WH(ids:LI)(ev:Ev):∀ss:List aC,(wX ss ids ev).map (·.1)=ss.map (·.1):=by
 unfold wX
 induction ids with
 |nil=>intro ss;rfl
 |cons a r ih=>intro ss;rw[Kc,ih,bm6]
theorem eu6(w:G)(u:aA l)(hl:Mg (J l)):∃i r W,(convert 9 22 (jJ (bf l))).run dG w=.ok (.S i (J l) r) W/\TB W (.S i (J l) r) l/\Bw w W:=by
 have q:=Lib.run_convert_string_bytes (P:=dG) w 9 22 5 (bf l) underlying9 underlying22 underlying5;rw[DM]at q;refine⟨_,_,_,q,⟨⟨_,_,rfl,.R ⟨U (Q w),0,rfl,λj m=>?_⟩⟩,λb o=>.R ?_,_,_,_,rfl,am7 _ _ _ _,am6 _ _ _ _ kL⟩,⟨rfl,rfl,rfl,by rw[Lib.bytesWorld_size];omega,λk s=>Lib.bytesWorld_at_old _ _ _ _ s⟩⟩;{rw[l9,Lib.bytesWorld_cell _ _ _ _ (DM▸m),cG4 u m]};{simp only[jB,nJ]at o;subst o;exact⟨_,_,Lib.bytesWorld_at_new w 5 (bf l)⟩}
variable {D:SD}
theorem PS.look{SB NB HB UB:iN}(h:PS w0 w b bs bn D SB NB HB UB)(j:D.E[i]?=s)(hr:0<=s.1/\s.1<2^64):∃g,SB[i]?=Y g/\PE w0 w g s/\(Instr.lookup 132 (.map bs) (.U s.1) dF).run dG w=.ok (Pz g) w:=by
 let⟨g,q,r⟩:=h.sat j;obtain⟨M,n,o,-,m,-⟩:=h.uy;exact⟨g,q,r,cb9 o m (bq (i:=i) (by rw[qV,j,q])) hr⟩
theorem PS.XP{SB NB HB UB:iN}(h:PS w0 w b bs bn D SB NB HB UB)(j:D.N[i]?=nd)(hl:J nd.A<=2^20):∃g hh uu,NB[i]?=Y g/\HB[i]?=Y hh/\UB[i]?=Y uu/\PN w0 w g hh uu nd/\(Instr.lookup 133 (.map bn) (jJ (bf nd.A)) dF).run dG w=.ok (Pz g) w:=by
 let⟨g,hh,uu,q,r,s,u⟩:=h.nat j;obtain⟨M,n,o,-,m,-⟩:=h.qH;exact⟨g,hh,uu,q,r,s,u,cc2 o m (bq (i:=i) (by rw[qV,j,q])) hl⟩
theorem PN.cells{g h u:Nat}(k:PN w0 w g h u nd):∃V,AB w0 w V nd.V/\w.heap[g]?=dO #[V,.U nd.D,.I nd.M,.map h,.U nd.P,.U nd.F,.map u] 142/\I w (Ad g 0)=Y V/\I w (Ad g 1)=dU nd.D/\I w (Ad g 2)=dI nd.M/\I w (Ad g 3)=Y (.map h)/\I w (Ad g 4)=dU nd.P/\I w (Ad g 5)=dU nd.F/\I w (Ad g 6)=Y (.map u)/\∀o,jF w (Ad g o)=dF:=by
 let⟨V,i,j⟩:=k.blk;exact⟨V,j,i,cX i 0,cX i 1,cX i 2,cX i 3,cX i 4,cX i 5,cX i 6,λo=>by simp[World.frozen?,i]⟩
theorem PS.nM{SB NB HB UB:iN}(h:PS w0 w b bs bn D SB NB HB UB):I w (Ad b 0)=dU D.e/\I w (Ad b 1)=dU D.g/\I w (Ad b 2)=dU D.x/\I w (Ad b 3)=dI D.t/\I w (Ad b 4)=Y (.map bs)/\I w (Ad b 5)=Y (.map bn)/\∀o,jF w (Ad b o)=dF:=
 ⟨cX h.hd 0,cX h.hd 1,cX h.hd 2,cX h.hd 3,cX h.hd 4,cX h.hd 5,λo=>by simp[World.frozen?,h.hd]⟩
structure NT(ss:List aC)(nd:au):Prop where
 VE:aA nd.A
 pl:J nd.A<=2^20
 ON:nd.X.Pairwise (·<·)
 O0:J nd.X<=2^20
 Tr:∀i∈nd.X,∃s∈ss,s.1=i
theorem bZ4(h:ss'.map (·.1)=ss.map (·.1)){i:Int}(u:∃s∈ss,s.1=i):∃(j:Nat)(s:aC),ss'[j]?=Y s/\s.1=i:=by
 obtain⟨s,q,rfl⟩:=u;have:s.1∈ss'.map (·.1):=by rw[h];exact fg.2 ⟨s,q,rfl⟩
 let⟨m,o,e⟩:=fg.1 this;let⟨j,r⟩:=ji.1 o;exact⟨j,m,r,e⟩
theorem dF3{ss:LI}(h:iZ.LK B w v ss):∃p c gk,v=.S p (J ss) c/\B<=gk/\∀(j:Nat)(x:Int),ss[j]?=Y x->p=(Ad gk 0)/\gk<U (Q w)/\I w (Ad gk j)=dU x:=by
 obtain⟨rfl,rfl⟩|⟨g,m,rfl,q,s,o⟩:=h;{exact⟨dN,0,B,rfl,fq _,λj x i=>by simp at i⟩};{refine⟨_,m,g,rfl,q,λj x i=>⟨rfl,s,?_⟩⟩;have:=o j (by simpa using(bu.1 i).1);have r:=this.1;simpa[i]using r}
theorem One.Ec(r:Bw w0 w)(i:jG w w' z)(j:U (Q w0)<=z)(hm:∃es c,w.heap[z]?=Y (.map es c)):One w0 w w' z:=by
 refine⟨(aR (U (Q w0)) w).grown i r.size (λb e=>by cases e;exact j),λy o s=>i.block y o (λe=>s (by cases e;rfl)),λq u m hc=>?_⟩;obtain⟨es,c,hm⟩:=hm;rw[hm]at hc;cases hc
variable {s:LI}
theorem PS.zL{SB NB HB UB:iN}(h:PS w0 w b bs bn D SB NB HB UB)(hi:D.N[i]?=nd)(hg:NB[i]?=g)(jd:HB[i]?=hh)(iK:UB[i]?=uu)(iO:One w0 w w' uu)(hs:SM w' uu s):PS w0 w' b bs bn {D with N:=D.N.set i {nd with X:=s}} SB NB HB UB:=by
 let⟨lo,⟨V,q1,q2⟩,q3,q4⟩:=h.rE i nd g hh uu hi hg jd iK;let⟨es,c,m4⟩:=q4.at;refine h.aI9 hi hg jd iK (.R (.R rfl)) iO rfl ⟨lo,⟨V,iO.obj q1 (λe=>?_),q2.T iO.T⟩,q3.W iO (h.hu.2.2.2.2.2 _ (bq jd) _ (bq iK)),hs⟩;rw[e,m4]at q1;cases q1
theorem PS.Cg{SB NB HB UB:iN}(h:PS w0 w b bs bn D SB NB HB UB)(hi:D.N[i]?=nd)(hg:NB[i]?=g)(jd:HB[i]?=hh)(iK:UB[i]?=uu)(iO:One w0 w w' hh)(hs:SM w' hh s):PS w0 w' b bs bn {D with N:=D.N.set i {nd with y:=s}} SB NB HB UB:=by
 let⟨lo,⟨V,q1,q2⟩,q3,q4⟩:=h.rE i nd g hh uu hi hg jd iK;let⟨es,c,m3⟩:=q3.at;refine h.aI9 hi hg jd iK (.R (.L rfl)) iO rfl ⟨lo,⟨V,iO.obj q1 (λe=>?_),q2.T iO.T⟩,hs,q4.W iO (λe=>h.hu.2.2.2.2.2 _ (bq jd) _ (bq iK) e.C)⟩;rw[e,m3]at q1;cases q1
abbrev T3:List TypeId:=[65,142,135]
def PL(b bs bn:Nat)(SB NB HB UB:iN):iN:=b::bs::bn::(SB++(NB++(HB++UB)))
def Kb(L:iN)(w w':G):Prop:=∀z,z<U (Q w)->z∉L->w'.heap[z]?=w.heap[z]?
variable {L:iN}
theorem Kb.H(h:Bw w w'):Kb L w w':=λz i _=>h.block z i
theorem Kb.Z(h:Kb L w w1)(m:Kb L w1 w2)(o:U (Q w)<=U (Q w1)):Kb L w w2:=λz j i=>(m z (by omega) i).Z (h z j i)
theorem Kb.h(h:Kb L w w')(j:∀z∈L,z∈L'):Kb L' w w':=λz i m=>h z i (λhm=>m (j z hm))
theorem One.kb(iO:One w0 w w' g)(m:g∈L):Kb L w w':=λz i j=>iO.k z i (λe=>j (e▸m))
theorem aJ4{SB NB HB UB:iN}(h:O (PS w0 w b bs bn D SB NB HB UB))(nd:au)(hk:O (D.N[k]?=nd))(kd:Int)(hS:O (sS D.E))(E:O (NT D.E nd)):dQ dG 302 #[Pz b,.I kd,jJ (bf nd.A)] w λr w'=>PS w0 w' b bs bn (kr D k kd) SB NB HB UB/\(Fr T3 w w'/\Kb (PL b bs bn SB NB HB UB) w w')/\∃v,r=dR v:=by
 let⟨g,hh,uu,hg,jd,iK,hN,hlk⟩:=h.XP hk E.pl;obtain⟨V,-,-,-,-,-,-,-,-,n6,-⟩:=hN.cells;obtain⟨-,-,-,-,-,h5,-⟩:=h.nM;let⟨M,nn,oM,hnn,sM,zM⟩:=hN.zL;have y:=dy hg jd iK;have MV:g<U (Q w):=by obtain⟨V,hb,-⟩:=hN.blk;exact gD hb
 go_in
 go_wp21
 refine(iZ.aL3 uu nn M w oM (zM▸E.O0)).h ?_;rintro r w1⟨v,ws,rfl,hA,hK,ao⟩;have ews:ws=nd.X:=aB9 hA.lt E.ON λx=>by rw[hA.mem x,sM];simp
 subst ews;obtain⟨p,c,gk,rfl,hgk,fe⟩:=dF3 hK;let⟨m,em⟩:=bL (J nd.X);rw[aa em];have JG:=af fe;have P1:=af (h.H ao);have F1:=af (Fr.H (T:=T3) ao);have K1:=af (Kb.H (L:=PL b bs bn SB NB HB UB) ao);have z1:=ao.size;have hm:m<=2^20:=aa em▸E.O0;go_wp2
 go_loopw[21](λiv wr=>∃(j:Nat)(SS:List aC),j<=m/\iv=.I j/\O (wX D.E (jT j nd.X) (kd,nd.A)=SS)/\O (PS w0 wr b bs bn {D with E:=SS} SB NB HB UB)/\O (sS SS)/\O (Fr T3 w wr)/\O (wr.heap[gk]?=w1.heap[gk]?)/\O (U (Q w1)<=U (Q wr))/\O (Kb (PL b bs bn SB NB HB UB) w wr)) (λiv _=>m-(jN (intOf iv)))
 exact⟨0,D.E,cT _,rfl,cO,P1,hS,F1,cO,fq _,K1⟩;{
 obtain⟨j,SS,hj,rfl,N,S,Zb,Zq,hGK,Au,hKB⟩:=hrel;obtain⟨-,-,-,-,h4,h5,-⟩:=S.nM;by_cases aL:j<m;{
 have cM:=bR j m;obtain⟨x,hx⟩:∃x,nd.X[j]?=Y x:=⟨_,bN (aa em▸aL)⟩;obtain⟨rfl,fk5,KM⟩:=aa JG j x hx;have fl0:=(gF hGK j).Z KM;obtain⟨i,s,hi,rfl⟩:=bZ4 (ss':=SS) (aa N▸WH _ _ _) (E.Tr x (bq hx));let⟨gs,tz,hE,UQ⟩:=S.look hi (Zb.rg s (bq hi));let⟨pc,cc,W,hcv,hTB,QO⟩:=eu6 wr E.VE E.pl;have fk3:gs<U (Q w):=by obtain⟨s0,xR⟩:∃s0,D.E[i]?=Y s0:=⟨_,bN (h.vw▸(bu.1 tz).1)⟩;obtain⟨-,u,hc,-⟩:=h.vx i s0 gs xR tz;exact gD hc
 have hSn:=bL3 (ss:=D.E) (ev:=(kd,nd.A)) hx;rw[aa N,cu3 Zb.pw hi]at hSn;have HSN:=af hSn;have PW:=af (S.H QO);have SO2:=Zb.aw7 s.1 (kd,nd.A);rw[cu3 Zb.pw hi]at SO2;have eO7:=af SO2;have Z:=br hi tz;have HTB:=af hTB;have ql:=Zb.ql s (bq hi);have X:=af QO
 go_wp21
 refine(ec3 (w0:=w0) W gs s kd nd.A pc _ cc PW.be (PW.vx i s gs Z.1 Z.2) (.R HTB) HTB.2.2 ae).h ?_;rintro r w5⟨O5,E5,v5,rfl⟩;have P5:=af (PS.xF (s':=(s.1,s.2.1,uA s.2.2 (kd,nd.A))) PW Z.1 Z.2 O5 rfl E5);have G5:=af (((O5.k gk (by have:=X.size;have:=aa Au;omega) ae).Z (X.block gk (aM (aa Au)))).Z hGK);have Z5:=af (by have:=O5.b.size;have:=X.size;have:=aa Au;omega:U (Q w1)<=U (Q w5));have F5:=af ((Zq.Z (Fr.H (T:=T3) X)).Z O5.T);have K5:=af ((hKB.Z (Kb.H X) Zq.1).Z (O5.kb (by simp[PL,bq Z.2])) (by have:=X.size;have:=Zq.1;omega));go_wp2;go_roundw;exact⟨j+1,_,ae,by go_num,HSN,P5,eO7,F5,G5,Z5,K5⟩;exact dh};{have cM:=fG j m;have e1:=aa N;rw[od (by rw[aa em];omega)]at e1;have R:=S.rE k nd g hh uu hk y.1 y.2.1 y.2.2;obtain⟨V,-,-,-,-,-,-,-,-,n6,-⟩:=R.cells;obtain⟨M5,n5,o5,-,-,-⟩:=R.zL;let⟨vv,w5,fW,uI,nj,hs5⟩:=bR0 underlying139 o5 0;have HN5:=af R;have HO5:=dy uI nj hs5;have H5:=af o5;go_wp2;go_end0;have iO:=One.Ec S.be HO5.2.1 HN5.lo.2.2 (ownsMap_at H5);have hQ:=PS.zL (s:=[]) S hk y.1 y.2.1 y.2.2 iO ⟨_,0,HO5.1,ae,kM.nil,rfl⟩;refine⟨?_,⟨Zq.Z iO.T,hKB.Z (iO.kb (by simp[PL,bq y.2.2])) Zq.1⟩,_,rfl⟩;unfold kr;rw[aa hk];simp only[e1];exact hQ}}
theorem da0{SB NB HB UB:iN}(h:O (PS w0 w b bs bn D SB NB HB UB))(nd:au)(i:O (D.N[k]?=nd))(kd:Int)(m:O (sS D.E))(j:O (NT D.E nd)):Cp 302 #[Pz b,.I kd,jJ (bf nd.A)] w λr w'=>PS w0 w' b bs bn (kr D k kd) SB NB HB UB/\Fr T3 w w'/\∃v,r=dR v:=(aJ4 h nd i kd m j).h λr w'⟨s,q,o⟩=>⟨s,q.1,o⟩
variable {D:DataW Unit}
theorem kM.has(h:kM D s)(id:Int):Maps.has D (.U id)=s.contains id:=by
 rw[PQ,h];simp
theorem Ia{id x:Int}:x∈kG s id↔x∈s/\x≠id:=by
 unfold kG;simp
theorem Ma{id:Int}(h:s.Pairwise (·<·)):(kG s id).Pairwise (·<·):=h.filter _
theorem Ts:∀{s:LI}{id x:Int},x∈lY s id↔x=id\/x∈s
 |[],id,x=>by simp[lY]
 |y::r,id,x=>by
  unfold lY;split;{rw[gv,Ia];by_cases e:x=id<;>simp[e]}
  {rw[gv,Ts,gv];constructor;{rintro(h|h|h);{exact .R (.L h)};{exact .L h};{exact .R (.R h)}};{rintro(h|h|h);{exact .R (.L h)};{exact .L h};{exact .R (.R h)}}}
theorem WB:∀{s:LI}{id:Int},s.Pairwise (·<·)->(lY s id).Pairwise (·<·)
 |[],id,_=>by simp[lY]
 |y::r,id,h=>by unfold lY;let⟨m,o⟩:=Km.1 h;split;{rename_i hle;refine Km.2 ⟨λz i=>?_,Ma h⟩;let⟨j,q⟩:=Ia.1 i;obtain rfl|j:=gv.1 j;{omega};{have:=m z j;omega}};{rename_i hle;refine Km.2 ⟨λz i=>?_,WB o⟩;obtain rfl|i:=Ts.1 i;{omega};{exact m z i}}
theorem bJ2(s:LI)(id:Int):J (lY s id)<=J s+1:=by
 induction s with
 |nil=>simp[lY]
 |cons y r ih=>
  unfold lY;split;{have:=Mb (l:=(y::r)) (id:=id);simp at this⊢;omega};{simp;omega}
theorem SM.del{w w':G}{h n:Nat}{id:Int}(m:kM D s)(q:s.Pairwise (·<·))(r:n<=2^21)(o:jM w' dG 24 unitElem h n (D.del (.U id))):SM w' h (kG s id):=by
 refine SM.of o r (λk=>?_) (Xe (Ma q));by_cases e:k=.U id;{subst e;rw[has_del_same];constructor;{intro u;cases u};{rintro⟨i,j,e⟩;simp at e;exact absurd e.C (Ia.1 j).2}};{rw[has_del_other e,m k];constructor;{rintro⟨i,j,rfl⟩;exact⟨i,Ia.2 ⟨j,λx=>e (by rw[x])⟩,rfl⟩};{rintro⟨i,j,rfl⟩;exact⟨i,(Ia.1 j).1,rfl⟩}}
theorem SM.put{w w':G}{h n:Nat}{id:Int}(m:kM D s)(u:IsMap D)(q:s.Pairwise (·<·))(r:n<=2^21)(o:jM w' dG 24 unitElem h n (D.put (.U id) d)):SM w' h (lY s id):=by
 refine SM.of o r (λk=>?_) (Xe (WB q));rw[(kM.put m u id d) k];constructor;{rintro⟨i,j,rfl⟩;exact⟨i,Ts.2 (by simp at j;exact j.C),rfl⟩};{rintro⟨i,j,rfl⟩;exact⟨i,by have:=Ts.1 j;simp;exact this.C,rfl⟩}
theorem KI(m:O (PN w0 w g hh uu nd)){id:Int}(j:0<=id/\id<2^64){B:Bool}(u:O (nd.y.contains id=B)):dQ dG 299 #[Pz g,.U id] w (Rb (jO B) w):=by
 obtain⟨V,-,-,-,-,-,x,-⟩:=m.cells;let⟨D,n,o,E,hs,y⟩:=m.Cg;have r:=keyOf_int_mk underlying24 (DZ j);have q:Maps.has D (.U id)=B:=(hs.has id).Z u;go_in;go_wp2_with(first
  |(at_lookup;refine wpList_lookup_own_unit _ rfl _ _ 139 rfl 24 _ mT underlying139 aU hh n D rfl o _ _ rfl r ?_;rw[q])
  |go_in)
 go_ret;exact⟨rfl,aH.alloc az _⟩
theorem ed2(nd:au)(id:Int):xZ nd id=(dD (nd.M=0)||(dD (J nd.y=1)&&nd.y.contains id)):=by
 unfold xZ
 match nd.y with
 |[]=>simp
 |[y]=>
  congr 1;simp only[List.length_singleton,decide_true,xm,List.headD_cons];rw[PQ];simp;exact⟨λe=>(XC e).C,λe=>Df e.C⟩
 |y::z::r=>simp
theorem ed4(r:O (PN w0 w g hh uu nd)){id:Int}(q:0<=id/\id<2^64){B:Bool}(M:O (xZ nd id=B)):dQ dG 290 #[Pz g,.U id] w (Rb (jO B) w):=by
 obtain⟨V,-,-,-,-,n2,Z,-⟩:=r.cells;let⟨D,n,o,hn,hs,E⟩:=r.Cg;have e:=aa M;rw[ed2]at e;have j:=o.len underlying139 3;rw[E]at j;by_cases hm:nd.M=0;{
 have R:(nd.M==0):=by simp[hm]
 obtain rfl:B:=by rw[<-e];simp[hm]
 go_in;go_wp2;go_ret;exact⟨rfl,aR _ _⟩};{
 have R:(nd.M==0)=dF:=by simp[hm]
 by_cases m:J nd.y=1;{
 rw[m]at j;have u:nd.y.contains id=B:=by rw[<-e];simp[hm,m]
 have S:=af u;go_in
 go_wp21
 refine cK (KI r q S) λW N=>?_;go_wp2;go_ret;exact⟨rfl,N⟩};{
 let⟨y,x⟩:=aZ (J nd.y);rw[x]at j m;obtain rfl:B=dF:=by rw[<-e,x];simp[hm,m]
 have X:((y:Int)==1)=dF:=by simp;omega
 go_in;go_wp2;go_ret;exact⟨rfl,aR _ _⟩}}
def KD(ns:List au):Prop:=∀(i j:Nat)(a c:au),ns[i]?=a->ns[j]?=c->dr a.A=dr c.A->i=j
theorem KD.set(h:KD ns){nd':au}(q:ns[k]?=nd)(s:nd'.A=nd.A):KD (ns.set k nd'):=λi j a c m hc e=>by
 have key:∀(i:Nat)(a:au),(ns.set k nd')[i]?=Y a->∃o,ns[i]?=Y o/\o.A=a.A:=λi a m=>by rw[vJ]at m;by_cases r:k=i;{subst r;rw[aK rfl,aK (bu.1 q).1]at m;cases m;exact⟨nd,q,s.C⟩};{rw[aJ r]at m;exact⟨a,m,rfl⟩}
 let⟨o,x,B⟩:=key i a m;let⟨D,u,y⟩:=key j c hc;exact h i j o D x u (by rw[B,y,e])
variable {D:SD}
theorem bS2{SB NB HB UB:iN}(h:O (PS w0 w b bs bn D SB NB HB UB))(x:O (D.N[k]?=nd))(hS:O (sS D.E))(R:O (NT D.E nd))(hD:O (KD D.N)):dQ dG 301 #[Pz b,jJ (bf nd.A)] w λr w'=>PS w0 w' b bs bn (wY (kr D k 2) k) SB (NB.eraseIdx k) (HB.eraseIdx k) (UB.eraseIdx k)/\(Fr T3 w w'/\Kb (PL b bs bn SB NB HB UB) w w')/\∃v,r=dR v:=by
 go_in
 go_wp21
 refine(aJ4 h nd x 2 hS R).h ?_;rintro r w1⟨E,hF,v,rfl⟩;replace hF:=af hF;have X:(kr D k 2).N=D.N.set k {nd with X:=[]}:=by unfold kr;rw[aa x]
 have iV:(kr D k 2).N[k]?=Y {nd with X:=[]}:=X▸uM x _;have Ni:KD (kr D k 2).N:=X▸hD.set x rfl;obtain⟨-,-,-,-,-,h5,-⟩:=E.nM;obtain⟨M,n,o,-,-,-⟩:=E.qH;have S:keyOf dG 9 (jJ (bf nd.A))=(dr nd.A):=by rw[WideMaps.keyOf_string_mk underlying9 (by rw[DM];have:=R.pl;unfold maxLen;omega),VH]
 have s:=dy E iV Ni;let⟨w',fW,ho,Kq⟩:=o.drop sG underlying133 S 0;have HT:=br ho Kq;have iO:=af o;go_wp2;go_end0;have N:=One.Ec s.1.be HT.2.grown s.1.lo.2.2 (ownsMap_at iO);refine⟨?_,⟨hF.1.Z N.T,hF.2.Z (N.kb (by simp[PL])) hF.1.1⟩,_,rfl⟩;refine s.1.es6 s.2.1 N (λj z hz e=>s.2.2 j k z _ hz s.2.1 e) (λM' n' Z=>?_);obtain⟨w2,W,km,-⟩:=Z.drop sG underlying133 S 0;rw[fW]at W;cases W;exact km
theorem dn4{SB NB HB UB:iN}(h:O (PS w0 w b bs bn D SB NB HB UB))(i:O (D.N[k]?=nd))(m:O (sS D.E))(j:O (NT D.E nd))(o:O (KD D.N)):Cp 301 #[Pz b,jJ (bf nd.A)] w λr w'=>PS w0 w' b bs bn (wY (kr D k 2) k) SB (jX NB k) (jX HB k) (jX UB k)/\Fr T3 w w'/\∃v,r=dR v:=(bS2 h i m j o).h λr w'⟨u,s,q⟩=>⟨u,s.1,q⟩
theorem PS.Xn{SB NB HB UB:iN}(h:PS w0 w b bs bn D SB NB HB UB)(hi:D.N[i]?=nd)(hg:NB[i]?=g)(jd:HB[i]?=hh)(iK:UB[i]?=uu)(iO:One w0 w w' g)(V:dV)(vl:LI)(ow mo ep ge:Int)(hc:w'.heap[g]?=dO #[V,.U ow,.I mo,.map hh,.U ep,.U ge,.map uu] 142)(hV:AB w0 w' V vl):PS w0 w' b bs bn {D with N:=D.N.set i {nd with V:=vl,D:=ow,M:=mo,P:=ep,F:=ge}} SB NB HB UB:=by
 obtain⟨lo,⟨V0,q1,-⟩,q3,q4⟩:=h.rE i nd g hh uu hi hg jd iK;let⟨es,c,m3⟩:=q3.at;let⟨Jj,c',m4⟩:=q4.at;refine h.aI9 hi hg jd iK (.L rfl) iO rfl ⟨lo,⟨V,hc,hV⟩,q3.W iO (λe=>?_),q4.W iO (λe=>?_)⟩;{rw[e,q1]at m3;cases m3};{rw[e,q1]at m4;cases m4}
theorem One.FB(u:Bw w0 w)(r:Below g w w')(q:w.heap[g]?=dO cs ty)(i:U (Q w0)<=g)(j:ty∈[65,142,135])(o:∀z,z<U (Q w)->z≠g->w'.heap[z]?=w.heap[z]?):One w0 w w' g:=by
 refine⟨r.h i,o,λs x m hc=>?_⟩;rw[q]at hc;simp at hc;rw[<-hc.2.1];exact j
theorem aw8{α:Type}(l:List α)(k:Nat)(a c:α):(l.set k a).set k c=l.set k c:=by simp
theorem bS4{SB NB HB UB:iN}(h:O (PS w0 w b bs bn D SB NB HB UB))(q:O (D.N[k]?=nd))(hS:O (sS D.E))(u:O (NT D.E nd)){id:Int}(hid:0<=id/\id<2^64)(MT:O (nd.y.Pairwise (·<·)))(QE:J nd.y<=2^20)(MU:O (nd.y.contains id)):dQ dG 300 #[Pz b,jJ (bf nd.A),.U id] w λr w'=>PS w0 w' b bs bn (ko D k id) SB NB HB UB/\(Fr T3 w w'/\Kb (PL b bs bn SB NB HB UB) w w')/\∃v,r=dR v:=by
 let⟨g,hh,uu,hg,jd,iK,N,hlk⟩:=h.XP q u.pl;obtain⟨V,hV,gc,-,n1,n2,n3,n4,n5,n6,nf⟩:=N.cells;obtain⟨-,-,-,-,-,h5,-⟩:=h.nM;let⟨M,nn,oM,hnn,sM,zM⟩:=N.Cg;have fe:=keyOf_int_mk underlying24 (DZ hid);let⟨x,fW,ho,Kq⟩:=oM.drop mT underlying139 fe 0;have O1:=One.Ec h.be Kq.grown N.lo.2.1 (ownsMap_at oM);have S1:=SM.del (w:=w) sM MT hnn ho;have P1:=h.Cg q hg jd iK O1 S1;have iV:=uM q {nd with y:=kG nd.y id}
 let⟨V1,ud,gc1,m0,m1,m2,m3,m4,m5,m6,mf⟩:=(P1.rE k _ g hh uu iV hg jd iK).cells;obtain⟨M1,nn1,X,-,-,W⟩:=S1;have m:=X.len underlying139 3;rw[W]at m;let⟨nl,gM⟩:=bL (J (kG nd.y id));rw[aa gM]at m;have S:=br P1 iV;have F1:=af O1.T;have K1:=af (O1.kb (L:=PL b bs bn SB NB HB UB) (by simp[PL,bq jd]));have y:=dy hg jd iK;have o:=br gc1 ud;have glo:=N.lo.1;go_in;by_cases h0:nl=0;{
 subst h0;have iT:kG nd.y id=[]:=vI.1 gM;let⟨Z,E⟩:=aF (jS (jS (jS x (Ad g 2) (.I 0)) (Ad g 4) (.U 0)) (Ad g 5) (.U 0));have uE:Z.heap[g]?=dO #[V1,.U nd.D,.I 0,.map hh,.U 0,.U 0,.map uu] 142:=by rw[E];simp[World.setCell,yD,o.1]
 have bZ:Below g x Z:=by rw[E];exact((aH.setCell (p:=(Ad g 2)) az _).setCell (p:=(Ad g 4)) az _).setCell (p:=(Ad g 5)) az _
 have kZ:∀z,z<U (Q x)->z≠g->Z.heap[z]?=x.heap[z]?:=λz _ aN=>by rw[E];iterate 3 rw[fN _ _ _ _ (show z≠_ from aN)]
 have R:=One.FB S.1.be bZ o.1 glo ai kZ;have PZ:=S.1.Xn S.2 y.1 y.2.1 y.2.2 R V1 nd.V nd.D 0 0 0 uE (o.2.T R.T);simp only[aw8,iT]at PZ;have HPZ:=af PZ;have FZ:=af (F1.Z R.T);have KZ:=af (K1.Z (R.kb (by simp[PL,bq y.1])) F1.1);have Gp:=af (uM q {nd with y:=[],M:=0,P:=0,F:=0});have fz2:=mf 2;have Rj:=mf 4;have fz5:=mf 5
 go_wp21
 rw[<-E];refine(aJ4 HPZ (k:=k) {nd with y:=[],M:=0,P:=0,F:=0} Gp 3 hS (af ⟨u.VE,u.pl,u.ON,u.O0,u.Tr⟩)).h ?_;rintro r w5⟨QU,j,v5,rfl⟩;replace j:=af j;go_wp2;go_end0;refine⟨?_,⟨FZ.Z j.1,KZ.Z j.2 FZ.1⟩,_,rfl⟩;unfold ko;rw[aa q];simp only[aa MU,pQ,iT];exact QU};{have Rh:=rr 0 nl;go_wp2;refine bO (xK aP _ _ _) rfl ⟨?_,⟨F1,K1⟩,_,rfl⟩;have aN:kG nd.y id≠[]:=λe=>h0 (by rw[<-aa gM,e];rfl);unfold ko;rw[aa q];simp only[aa MU,pQ,aJ aN];exact S.1}
theorem dn5{SB NB HB UB:iN}(h:O (PS w0 w b bs bn D SB NB HB UB))(j:O (D.N[k]?=nd))(o:O (sS D.E))(m:O (NT D.E nd)){id:Int}(i:0<=id/\id<2^64)(B:O (nd.y.Pairwise (·<·)))(x:J nd.y<=2^20)(y:O (nd.y.contains id)):Cp 300 #[Pz b,jJ (bf nd.A),.U id] w λr w'=>PS w0 w' b bs bn (ko D k id) SB NB HB UB/\Fr T3 w w'/\∃v,r=dR v:=(bS4 h j o m i B x y).h λr w'⟨u,s,q⟩=>⟨u,s.1,q⟩
theorem Tryz.infoStr:(Tryz.prog.info? 9).map (λi=>(i.zero,i.size,i.bytes))=Y (Y (jJ ByteArray.empty),1,16):=by kernel_rfl
def As(ns:List au)(P:LI):List LI:=(ns.filter λi=>dD (im i.A=P)).map (·.A)
theorem dF1(ns:List au)(P:LI):tS ns P=(As ns P).map En:=by
 unfold tS As;rw[sA];rfl
theorem dE9(h:ns[k]?=nd):As (jT (k+1) ns) P=if im nd.A=P then As (jT k ns) P++[nd.A]else As (jT k ns) P:=by
 rw[sE,h,As,an6,rI];by_cases e:im nd.A=P<;>simp[As,e]
theorem dF0:J (As ns P)<=J ns:=by
 rw[As,iH];exact Ul _ _
def Ro(_:G)(l:LI)(c:List dV):Prop:=c=[jJ (bf l)]
variable {ls:List LI}
theorem cW5{iZ:iE}(iq:o.guard=dN){s x:Operand}(ho:o.op=.call {callee:=.builtin .append,args:=#[s,x],argTypes:=#[145,145]})(ek:Le ls k)(hs:a.eval s=v)(du:RT Ro 9 1 B w v ls)(hx:a.eval x=.T g 1 1)(tv:I w (Ad g 0)=Y (jJ (bf l)))(hk:k<2^22)(hB:B<=U (Q w))(h:∀p' c' w',RT Ro 9 1 B w' (.S p' (k+1) c') (ls++[l])->jG w w' (jB v)->wpList dG ops iZ rest (a.put o.dst (.S p' (k+1) c')) w'):wpList dG ops iZ (o::rest) a w:=by
 let⟨i,hi,ki,fy,gJ⟩:=og Tryz.infoStr;obtain⟨rs,h1,h2,h3,h4⟩:=du;rw[aa ek]at h3;refine Fu iq 145 ho i 1 Tryz.underlying145 hi ki fy gJ rfl aX v hs h3 g 1 1 [jJ (bf l)] hx rfl (λj u hu=>by
  have e:j=0:=by have:=(bu.1 hu).1;simpa using this
  subst e;simp at hu;subst hu;exact tv) (λu hu=>by simp at hu;rw[hu];rfl) kL ae hB ?_
 intro v' w' gC hg _;have sn:RT Ro 9 1 B w' v' (ls++[l]):=RT.snoc h1 h2 h4 (λ_ _ h=>h) rfl rfl (aa ek▸gC);obtain⟨p',c',rfl,-⟩:=RT.form sn;rw[eG,aa ek]at sn⊢;exact h p' c' w' sn hg
theorem RT.eC6(h:RT Ro 9 1 B w v ls)(i:Bw w w'):RT Ro 9 1 B w' v ls:=h.W (λ_ _ h=>h) (λb j=>i.block b (h.lt b j).2)
variable {L:List LI}
theorem ex1{SB NB HB UB:iN}(h:O (PS w0 w b bs bn D SB NB HB UB))(tj:O ((D.N.map λnd=>jv nd.A).Pairwise (·<·)))(cW:O (∀nd∈D.N,aA nd.A/\J nd.A<=2^20))(bP:O (aA P))(eL:O (As D.N P=L)):dQ dG 310 #[Pz b,jJ (bf P)] w λr w'=>∃p c,r=dR (.S p (J L) c)/\RT Ro 9 1 (U (Q w)) w' (.S p (J L) c) L/\Bw w w':=by
 obtain⟨-,-,-,-,-,h5,-⟩:=h.nM;let⟨M,nn,oM,hnn,mM,zM⟩:=h.qH;have Vg:=h.WQ.kc;go_enter Tryz.func310,Tryz.ntmps310
 go_wp21
 refine(T.WS bn nn M w oM (aM oM.size_le)).h ?_;rintro r w1⟨kv,ks,rfl,zh,xg,X⟩;obtain rfl:=aQ5 Vg tj mM zh;obtain⟨p,c,rfl,Qz⟩:=aO4 xg;let⟨m,W⟩:=bL (J D.N);have hm:m<=2^20:=by have:=oM.size_le;rw[zM,aa W]at this;omega
 rw[aa W];have HK:=af Qz;have B1:=af X;go_wp2
 go_loopw[5,14](λov iv wr=>∃(j:Nat)(N:List LI),j<=m/\iv=.I j/\O (As (jT j D.N) P=N)/\O (RT Ro 9 1 (U (Q w1)) wr ov N)/\O (Bw w1 wr)) (λ_ iv _=>m-(jN (intOf iv)))
 exact⟨0,[],cT _,rfl,(by show _=_;simp[As]),RT.nil _ _ _ _ _,aR _ _⟩;{
 obtain⟨j,N,hj,rfl,V,E,R⟩:=hrel;obtain⟨po,co,rfl,-⟩:=RT.form E;have zr:=R.size;have Kv:J N<=j:=by have h1:=dF0 (ns:=jT j D.N) (P:=P);have h2:=PK j D.N;rw[aa V]at h1;omega
 by_cases aL:j<m;{
 have cM:=bR j m;obtain⟨nd,hx⟩:∃nd,D.N[j]?=Y nd:=⟨_,bN (aa W▸aL)⟩;obtain⟨gk,rfl,KM⟩:∃gk,p=(Ad gk 0)/\I wr (Ad gk j)=Y (jJ (bf nd.A)):=by obtain h0|⟨gk,rfl,h1,h2,h3⟩:=aa HK;{rw[h0]at hx;simp at hx};{exact⟨gk,rfl,aj (by have:=h3 j nd hx;rwa [l9]at this) R⟩}
 let⟨X,ay⟩:=aa cW nd (bq hx);have il:=af (dE9 (P:=P) hx);let⟨nP,eN⟩:=bL (J nd.A);rw[aa eN]at ay;have jy:=af X;have y:=NU (Ud X) bP
 go_wp21
 refine(aP5 eN jy ay).h ?_;rintro r Z⟨rfl,rfl⟩;by_cases hq:im nd.A=P;{
 have lG:dD (im nd.A=P):=by simp[hq]
 rw[lG]at y;have E1:=af (by have:=aa il;rwa [aK hq,aa V]at this:As (jT (j+1) D.N) P=N++[nd.A]);go_wp2_with(at_builtin;refine cW5 rfl rfl (v:=.S po (J N) co) (l:=nd.A) rfl rfl (RT.eC6 E (aH.alloc az _)) (g:=U (Q Z)) rfl ai ae cg ?_);intro p' c' w5 T5 nj;have bA:Bw Z (jA Z (dO #[jJ (bf nd.A)] 9)):=aH.alloc az _;have B5:=af ((ah (aa R) bA).grown nj cg (λb' e=>(E.lt b' e).1));have T5':=af T5;go_wp2;go_roundw;exact⟨j+1,_,ae,by go_num,E1,T5',B5⟩;exact dh};{
 have lG:dD (im nd.A=P)=dF:=by simp[hq]
 rw[lG]at y;have E1:=af (by have:=aa il;rwa [aJ hq,aa V]at this:As (jT (j+1) D.N) P=N);go_wp2;go_roundw;exact⟨j+1,N,ae,by go_num,E1,E,R⟩;exact dh}};{have cM:=fG j m;have e1:=aa V;rw[od (by rw[aa W];omega),aa eL]at e1;subst e1;go_wp2;go_ret;exact⟨_,_,rfl,RT.h E B1.size,ah B1 R⟩}}
theorem du4{g:Int}{q:OA}{m d:Nat}(W:Le ss n)(em:Le ns m)(hS:O (ew B w (.S p n c) ss Qs))(hN:O (kF B w (.S q m d) ns))(hB:B<=U w.heap)(hn:Mg n)(hx:0<=x/\x<=2^62)(ht:0<=t/\t<=1000000):dQ dG 106 #[bS e g x t (.S p n c) (.S q m d)] w λr w'=>QR B w w' r (xJ ⟨e,g,x,t,ss,ns⟩).1 (xJ ⟨e,g,x,t,ss,ns⟩).2:=by
 let⟨W0,bG,b0,z0,C0⟩:=sQ w (.U e) (.U g) (.U x) (.I t) (.S p n c) (.S q m d);let⟨W1,fo,b1,z1,C1⟩:=yY W0;let⟨W2,fM,b2,z2,C2⟩:=DO W1 (.I 0) (.U 0) (.U 0) (.U 0) (.I 0) aV aV aV;rw[z0]at C1 z1;rw[z1]at C2 z2;have E:=dy ((C0.H b1).H b2) (C1.H b2) C2;have y:=af (ah (ah b0 b1) b2);have V:=br (hS.T (bH y)) (hN.T (bH y));go_in;by_cases Li:50<=n;{
 have bl7:dD ((50:Int)<=(n:Int)):=by simp;omega
 have hI:xJ ⟨e,g,x,t,ss,ns⟩=(⟨e,g,x,t,ss,ns⟩,kP 11):=by unfold xJ;rw[aK (by simpa[aa W]using Li)]
 rw[hI]
 go_wp21
 rw[<-bG,<-fo,<-fM];refine aN6 1 (U w.heap) aU rfl (λ_ _=>rfl) (λ_ _=>rfl) (λ_ _=>rfl) (λ_ _=>rfl) E.1 E.2.1 E.2.2 ae (B:=U w.heap) ae ae ?_;intro w' ao pR f1 Jp;have HQ:=af (QR.num (e:=e) (g:=g) (x:=x) (t:=t) W em V.1 V.2 (Fr.H y) (y.h hB) f1 Jp hB 11 0 0 0 0);let⟨q0,q1,q2,q3,q4,q5,qf⟩:=ao.cells;let⟨r0,r1,r2,r3,r4,r5,r6,r7,rf⟩:=pR.cells;simp only[Act.put,xa,xb,xc];go_wp2;exact bO (v:=dT #[bS e g x t (.S p n c) (.S q m d),mB 11 0 0 0 0 aV aV aV]) (by simp[results,results106,go_sem,q0,q1,q2,q3,q4,q5,r0,r1,r2,r3,r4,r5,r6,r7]) rfl HQ};{
 have bl7:dD ((50:Int)<=(n:Int))=dF:=by simp;omega
 by_cases hx2:4611686018427387904<=x;{
 have dL2:dD (4611686018427387904<=x):=by simp;omega
 have hI:xJ ⟨e,g,x,t,ss,ns⟩=(⟨e,g,x,t,ss,ns⟩,kP 12):=by unfold xJ;rw[aJ (by simpa[aa W]using Li),aK hx2]
 rw[hI]
 go_wp21
 rw[<-bG,<-fo,<-fM];refine aN6 1 (U w.heap) aU rfl (λ_ _=>rfl) (λ_ _=>rfl) (λ_ _=>rfl) (λ_ _=>rfl) E.1 E.2.1 E.2.2 ae (B:=U w.heap) ae ae ?_;intro w' ao pR f1 Jp;have HQ:=af (QR.num (e:=e) (g:=g) (x:=x) (t:=t) W em V.1 V.2 (Fr.H y) (y.h hB) f1 Jp hB 12 0 0 0 0);let⟨q0,q1,q2,q3,q4,q5,qf⟩:=ao.cells;let⟨r0,r1,r2,r3,r4,r5,r6,r7,rf⟩:=pR.cells;simp only[Act.put,xa,xb,xc];go_wp2;exact bO (v:=dT #[bS e g x t (.S p n c) (.S q m d),mB 12 0 0 0 0 aV aV aV]) (by simp[results,results106,go_sem,q0,q1,q2,q3,q4,q5,r0,r1,r2,r3,r4,r5,r6,r7]) rfl HQ};{
 have dL2:dD (4611686018427387904<=x)=dF:=by simp;omega
 have hI:xJ ⟨e,g,x,t,ss,ns⟩=(⟨e,g,x+1,t,ss++[(x+1,t+10,[])],ns⟩,⟨0,x+1,0,0,t+10,[],[],[]⟩):=by unfold xJ;rw[aJ (by simpa[aa W]using Li),aJ hx2];rfl
 rw[hI];have wx:jY jU (x+1)=x+1:=IntWalk.u64_in _ ae;have wt:jY jV (t+10)=t+10:=l8 _ ae;let⟨V0,Vc,b0,z0,C0⟩:=sQ w (.U e) (.U g) (.U (x+1)) (.I t) (.S p n c) (.S q m d);let⟨V1,ud,b1,z1,C1⟩:=yY V0;let⟨V2,Va,b2,z2,C2⟩:=DO V1 (.I 0) (.U 0) (.U 0) (.U 0) (.I 0) aV aV aV;obtain⟨V3,KQ,b3,z3,C3,-⟩:=bM V2 #[.U (x+1),.I (t+10),aq] 65;rw[z0]at C1 z1;rw[z1]at C2 z2;rw[z2]at C3 z3;have E:=dy (((C0.H b1).H b2).H b3) ((C1.H b2).H b3) (C2.H b3);have y:=af (ah (ah (ah b0 b1) b2) b3);have V:=br (hS.T (bH y)) (hN.T (bH y));have zG:=af C3;have lz:O (J (ss.zip Qs)=n):=by show _=_;rw[Uk,hS.len,aa W];simp
 have vR:O (∀b,jB (Value.slice p n c)=Y b->B<=b/\b<U w.heap):=λb hb=>hS.row.lt b hb;go_wp2_with(at_builtin;rw[<-Vc,<-ud,<-Va,<-KQ];refine bI7 rfl rfl (v:=.S p n c) (z:=((x+1,t+10,[]),aV)) lz rfl V.1.row (U w.heap+1+1+1) rfl rfl zG.1 ae ae ?_);intro p' c' w9 hr9 qA R;rw[<-Vc,<-ud,<-Va,<-KQ]at qA R;have S9:=V.1.df5 R _ _ hr9;have N9:=di.T V.2 R;have B9:Below B w w9:=(y.h hB).grown qA ae (λb hb=>(aa vR b hb).1);have F9:Fr [114,65,69] w w9:=(Fr.H y).Z (R.sub ai);have X0:=E.1.T R;have X1:=E.2.1.T R;have X2:=E.2.2.T R;let⟨k0,k1,k2,k3,k4,k5,kf⟩:=X0.cells;let⟨fA,bA,gA⟩:=X0.cw2 (j:=4) F9 B9 az hB (.S p' (n+1) c');let⟨Z,hZ⟩:=aF (jS w9 (Aw w 4) (.S p' (n+1) c'));have CZ:aO Z (U w.heap) [.U e,.U g,.U (x+1),.I t,.S p' (n+1) c',.S q m d]:=hZ▸X0.1.dt 4 ai _;have X1':=X1.WU (b:=U w.heap) (j:=4) (u:=.S p' (n+1) c') ae;rw[<-hZ]at fA bA gA X1';have X2':=X2.T gA;have HZ:=dy CZ X1' X2';have M:=jq (S9.T gA) (di.T N9 gA) fA bA;have zZ:U w.heap+3<U Z.heap+1:=by have:=X2'.1;have:=fA.1;have h9:=R.1;have:=gA.1;omega
 go_wp21
 rw[<-hZ];let⟨vA,de⟩:=aF Z.drew;have cQ:=mW de;have D:=dy (HZ.1.H ae cQ) (HZ.2.1.H cQ) (HZ.2.2.H cQ);have BA:=af cQ;refine fK (λw'=>I w' (Aw w 0)=dU e/\I w' (Aw w 1)=dU g/\I w' (Aw w 2)=dU (x+1)/\I w' (Aw w 3)=dI t/\I w' (Aw w 4)=dS p' (n+1) c'/\I w' (Aw w 5)=dS q m d) (by rw[<-de];exact⟨D.1.1 0 _ rfl,D.1.1 1 _ rfl,D.1.1 2 _ rfl,D.1.1 3 _ rfl,D.1.1 4 _ rfl,D.1.1 5 _ rfl⟩) λhS=>?_;rw[<-de]at hS⊢;clear de cQ;refine iL 0 1 2 3 hS ?_;refine tn 4 hS ?_;refine ft 5 λKK hK=>?_;let⟨k0,k1,k2,k3,k4,k5,kf⟩:=D.2.1.cells;go_simp;let⟨X,hX⟩:=aF (fv vA (U w.heap+1) (.U e) (.U g) (.U (x+1)) (.I t) (.S p' (n+1) c') (.S q m d));have bX:Below (U w.heap+1) vA X:=hX▸sY _ _ _ _ _ _ _;have nY:=D.2.1.put (.U e) (.U g) (.U (x+1)) (.I t) (.S p' (n+1) c') (.S q m d);have N:=ak7 D.1 (b:=U w.heap+1) ae (v0:=.U e) (v1:=.U g) (v2:=.U (x+1)) (v3:=.I t) (v4:=.S p' (n+1) c') (v5:=.S q m d);have fX:Fr [34] vA X:=by obtain⟨-,cur,ht⟩:=D.2.1;rw[hX];exact vu ht
 rw[<-hX]at nY N;have Hk:=D.2.2.T fX;unfold fv at hX;rw[<-hX];have HX:=nF nY N Hk fX bX;refine bQ hK (by exact⟨N.1 0 _ rfl,N.1 1 _ rfl,N.1 2 _ rfl,N.1 3 _ rfl,N.1 4 _ rfl,N.1 5 _ rfl⟩) λhS=>?_;clear hK KK hX k0 k1 k2 k3 k4 k5 kf nY N Hk fX bX;refine ft 6 λKK hK=>?_;let⟨k0,k1,k2,k3,k4,k5,k6,k7,kf⟩:=HX.2.2.1.cells;go_simp;let⟨Fh,fY⟩:=HX.2.2.1.put (.I 0) (.U (x+1)) (.U 0) (.U 0) (.I (t+10)) aV aV aV;have bY:=uV (w:=X) (b:=U w.heap+1+1) (v0:=.I 0) (v1:=.U (x+1)) (v2:=.U 0) (v3:=.U 0) (v4:=.I (t+10)) (v5:=aV) (v6:=aV) (v7:=aV);let⟨iY,hY⟩:=aF (oR X (U w.heap+1+1) (.I 0) (.U (x+1)) (.U 0) (.U 0) (.I (t+10)) aV aV aV);rw[<-hY]at Fh fY bY;unfold oR fv at hY;rw[<-hY];have CY:=HX.2.1.eh (bY.block _ ae);have BY:=jq (HX.1.T fY) Fh ((Fr.H (T:=[34,43]) BA).Z ((HX.2.2.2.1.sub ai).Z (fY.sub ai))) ((BA.h ae).Z ((HX.2.2.2.2.h (an4 _)).Z (bY.h ae)));refine bQ hK (by exact⟨CY.1 0 _ rfl,CY.1 1 _ rfl,CY.1 2 _ rfl,CY.1 3 _ rfl,CY.1 4 _ rfl,CY.1 5 _ rfl⟩) λhS=>?_;clear hK KK hY k0 k1 k2 k3 k4 k5 k6 k7 kf Fh fY bY CY;refine ga ?_;clear hS;let⟨ao,pR,f1,Jp⟩:=aa BY;have HQ:=af (QR.num (e:=e) (g:=g) (x:=x+1) (t:=t) (af (by rw[eG,aa W];rfl)) em M.1 M.2.1 M.2.2.1 M.2.2.2 f1 Jp hB 0 (x+1) 0 0 (t+10));clear f1 Jp;let⟨q0,q1,q2,q3,q4,q5,qf⟩:=ao.cells;let⟨r0,r1,r2,r3,r4,r5,r6,r7,rf⟩:=pR.cells;go_wp2;exact bO (v:=dT #[bS e g (x+1) t (.S p' (n+1) c') (.S q m d),mB 0 (x+1) 0 0 (t+10) aV aV aV]) (by simp[results,results106,go_sem,q0,q1,q2,q3,q4,q5,r0,r1,r2,r3,r4,r5,r6,r7]) rfl HQ}}
end Go.Proofs.YtpkakgkipopiaaaGreatDoor
